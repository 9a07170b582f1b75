import Derived.Deep.AppendLies
import Derived.Deep.DeepCutAuto
import Derived.Deep.DrawnRows
import Derived.Test.YtjdjonekoodalaaGreatDoorGaA
set_option maxHeartbeats 2000000
set_option linter.unusedVariables false
set_option maxRecDepth 100000
namespace Go.Proofs.YtjdjonekoodalaaGreatDoor
def D32 (d : Int) : Prop := 0 ≤ d ∧ d < 4294967296
def num : List Int → Int
  | [] => 0
  | d :: r => d + 4294967296 * num r
def Digs (ds : List Int) : Prop := ∀ d ∈ ds, D32 d
def Norm (ds : List Int) : Prop := ∀ d, ds.getLast? = some d → d ≠ 0
def bp (k : Nat) : Int := 4294967296 ^ k
theorem digs_nil : Digs [] := fun _ h => by cases h
theorem digs_take {ds : List Int} (h : Digs ds) (k : Nat) : Digs (ds.take k) := fun x hx => h x (List.mem_of_mem_take hx)
theorem digs_set {ds : List Int} (h : Digs ds) (k : Nat) {d : Int} (hd : D32 d) : Digs (ds.set k d) := by
  intro x hx
  rcases List.mem_or_eq_of_mem_set hx with h1 | h1
  · exact h x h1
  · subst h1; exact hd
end Go.Proofs.YtjdjonekoodalaaGreatDoor
namespace Go.Proofs.YtjdjonekoodalaaGreatDoor
open Go.RowKit
def Dig (w : World) (ao : Option Addr) (n cap : Nat) (ds : List Int) : Prop :=
  n = ds.length ∧ n ≤ cap ∧ n ≤ 1000000 ∧ Digs ds ∧ (0 < n → ∃ g, ao = some ⟨g, 0, none⟩ ∧ g < w.heap.size ∧ ∀ k, k < n → w.cell? ⟨g, k, none⟩ = some (.int .u32 (ds.getD k 0)))
theorem Dig.later {W w1 : World} {ao : Option Addr} {n cap : Nat} {ds : List Int} (x : Dig W ao n cap ds) (hb : Below W.heap.size W w1) : Dig w1 ao n cap ds := by
  obtain ⟨h1, h2, h3, h4, h5⟩ := x
  refine ⟨h1, h2, h3, h4, fun hn => ?_⟩
  obtain ⟨g, e, hg, hc⟩ := h5 hn
  exact ⟨g, e, lY hg hb.size, fun k hk => cL hb (hc k hk)⟩
theorem Dig.take {W : World} {ao : Option Addr} {n cap : Nat} {ds : List Int} (x : Dig W ao n cap ds) {k : Nat} (hk : k ≤ n) : Dig W ao k cap (ds.take k) := by
  obtain ⟨h1, h2, h3, h4, h5⟩ := x
  refine ⟨by rw [List.length_take]; omega, by omega, by omega, digs_take h4 k, fun hn => ?_⟩
  obtain ⟨g, e, hg, hc⟩ := h5 (by omega)
  refine ⟨g, e, hg, fun j hj => ?_⟩
  rw [hc j (by omega)]
  simp only [List.getD_eq_getElem?_getD, List.getElem?_take, if_pos hj]
end Go.Proofs.YtjdjonekoodalaaGreatDoor
namespace Go.Proofs.YtjdjonekoodalaaGreatDoor
open Go.RowKit
def Own (w : World) (base : Nat) (v : Value) (os : List Int) : Prop :=
  w.ownsRow base 130 1 v os.length (os.map (Value.int .u32)) ∧ Digs os
theorem Own.nil (w : World) (base : Nat) : Own w base (.slice none 0 0) [] := ⟨World.ownsRow_nil w base _ 1, digs_nil⟩
theorem Own.later {W w1 : World} {base : Nat} {v : Value} {os : List Int} (x : Own W base v os) (hb : Below W.heap.size W w1) : Own w1 base v os := by
  refine ⟨⟨x.1.1, ?_⟩, x.2⟩
  rcases x.1.2 with h | ⟨g, cap, cur, rfl, hg, hh, r⟩
  · exact .inl h
  · refine .inr ⟨g, cap, cur, rfl, hg, ?_, r⟩
    have hlt := (x.1.lt g rfl).2
    exact (hb.block g hlt).trans hh
end Go.Proofs.YtjdjonekoodalaaGreatDoor
namespace Go.Proofs.YtjdjonekoodalaaGreatDoor
open Go.RowKit
def IsNum (w : World) (v : Value) (n : Int) : Prop :=
  ∃ (ao : Option Addr) (k cap : Nat) (ds : List Int), v = .slice ao k cap ∧ Dig w ao k cap ds ∧ num ds = n ∧ Norm ds
theorem IsNum.later {W w1 : World} {v : Value} {n : Int} (x : IsNum W v n) (hb : Below W.heap.size W w1) : IsNum w1 v n := by
  obtain ⟨ao, k, cap, ds, e, h1, h2, h3⟩ := x
  exact ⟨ao, k, cap, ds, e, h1.later hb, h2, h3⟩
end Go.Proofs.YtjdjonekoodalaaGreatDoor
namespace Go.Proofs.YtjdjonekoodalaaGreatDoor
open Go.RowKit
theorem Own.store {w : World} {base g L cap : Nat} {os : List Int} (h : Own w base (.slice (some ⟨g, 0, none⟩) L cap) os) (hL : os.length = L) (j : Nat) {d : Int} (hd : D32 d) : Own (w.setCell ⟨g, j, none⟩ (.int .u32 d)) base (.slice (some ⟨g, 0, none⟩) L cap) (os.set j d) := by
  obtain ⟨h1, h2⟩ := h
  subst hL
  refine ⟨?_, digs_set h2 j hd⟩
  have h3 := (h1.stored j (.int .u32 d)).1
  rw [List.length_set, List.map_set]
  exact h3
theorem Own.cell {w : World} {base g L cap : Nat} {os : List Int} (h : Own w base (.slice (some ⟨g, 0, none⟩) L cap) os) (hL : os.length = L) (j : Nat) (hj : j < L) : w.cell? ⟨g, j, none⟩ = some (.int .u32 (os.getD j 0)) := by
  subst hL
  rw [h.1.cellAt j (by omega), List.getElem?_map, List.getElem?_eq_getElem hj, List.getD_eq_getElem?_getD, List.getElem?_eq_getElem hj]
  rfl
end Go.Proofs.YtjdjonekoodalaaGreatDoor
namespace Go.Proofs.YtjdjonekoodalaaGreatDoor
open Go.RowKit
def blen (n : Int) : Nat := if n ≤ 0 then 0 else n.toNat.log2 + 1
theorem blen_of {n : Int} {j : Nat} (h0 : 2 ^ j ≤ n) (h1 : n < 2 ^ (j + 1)) : blen n = j + 1 := by
  have hp := two_pow_pos j
  obtain ⟨N, rfl⟩ := Int.eq_ofNat_of_zero_le (show 0 ≤ n by omega)
  unfold blen
  rw [if_neg (by omega), Int.toNat_natCast]
  have e0 : ((2 ^ j : Nat) : Int) = 2 ^ j := by simp
  have e1 : ((2 ^ (j + 1) : Nat) : Int) = 2 ^ (j + 1) := by simp
  have hN : N ≠ 0 := by omega
  have a1 : j ≤ N.log2 := (Nat.le_log2 hN).2 (by omega)
  have a2 : N.log2 < j + 1 := (Nat.log2_lt hN).2 (by omega)
  omega
theorem blen_zero : blen 0 = 0 := rfl
theorem blen_bounds {n : Int} (h : 0 < n) : ∃ j, blen n = j + 1 ∧ 2 ^ j ≤ n ∧ n < 2 ^ (j + 1) := by
  obtain ⟨N, rfl⟩ := Int.eq_ofNat_of_zero_le (show 0 ≤ n by omega)
  have hN : N ≠ 0 := by omega
  refine ⟨N.log2, ?_, ?_, ?_⟩
  · unfold blen; rw [if_neg (by omega), Int.toNat_natCast]
  · have e0 : ((2 ^ N.log2 : Nat) : Int) = 2 ^ N.log2 := by simp
    have := (Nat.le_log2 hN).1 (Nat.le_refl _)
    omega
  · have e1 : ((2 ^ (N.log2 + 1) : Nat) : Int) = 2 ^ (N.log2 + 1) := by simp
    have := (Nat.log2_lt hN).1 (Nat.lt_succ_self _)
    omega
theorem lt_blen (n : Int) (h : 0 ≤ n) : n < 2 ^ blen n := by
  by_cases h0 : n = 0
  · subst h0; decide
  · obtain ⟨j, e, _, h2⟩ := blen_bounds (show 0 < n by omega)
    rw [e]; exact h2
end Go.Proofs.YtjdjonekoodalaaGreatDoor
