/-
  Contracts of the document's own numbers: a slice that reads as digits; digit, Trim.
-/
import Derived.Test.YtkhcbioohoeegaaDoorRows
import Derived.Test.YtkhcbioohoeegaaDoorBoxes
import Derived.Test.YtkhcbioohoeegaaDoorNumM
import Derived.Maps.AppendAt
import Derived.Deep.AppendLies
import Derived.Deep.RegionHeld3
import Derived.Deep.DeepCutAuto
import Derived.Deep.DrawnRows
set_option linter.unusedVariables false
set_option maxRecDepth 100000
namespace Go.Proofs.YtkhcbioohoeegaaDoor
open Go.RowKit

/-- The slice '(ao, n, cap)' reads as the digits ds. -/
def Dig (w : World) (ao : Option Addr) (n cap : Nat) (ds : List Int) : Prop :=
  n = ds.length ∧ n ≤ cap ∧ n ≤ 1000000 ∧ Digs ds ∧ (0 < n → ∃ g, ao = some ⟨g, 0, none⟩ ∧ g < w.heap.size ∧ ∀ k, k < n → w.cell? ⟨g, k, none⟩ = some (.int .u32 (ds.getD k 0)))
theorem Dig.later {W w1 : World} {ao : Option Addr} {n cap : Nat} {ds : List Int} (x : Dig W ao n cap ds) (hb : Below W.heap.size W w1) : Dig w1 ao n cap ds := by
  obtain ⟨h1, h2, h3, h4, h5⟩ := x
  refine ⟨h1, h2, h3, h4, fun hn => ?_⟩
  obtain ⟨g, e, hg, hc⟩ := h5 hn
  exact ⟨g, e, Nat.lt_of_lt_of_le hg hb.size, fun k hk => cell_later hb (hc k hk)⟩
theorem Dig.take {W : World} {ao : Option Addr} {n cap : Nat} {ds : List Int} (x : Dig W ao n cap ds) {k : Nat} (hk : k ≤ n) : Dig W ao k cap (ds.take k) := by
  obtain ⟨h1, h2, h3, h4, h5⟩ := x
  refine ⟨by rw [List.length_take]; omega, by omega, by omega, digs_take h4 k, fun hn => ?_⟩
  obtain ⟨g, e, hg, hc⟩ := h5 (by omega)
  refine ⟨g, e, hg, fun j hj => ?_⟩
  rw [hc j (by omega)]
  simp only [List.getD_eq_getElem?_getD, List.getElem?_take, if_pos hj]

theorem dig_new2 (w : World) (a b : Int) (t : TypeId) (ha : D32 a) (hb : D32 b) : Dig (w.alloc (.cells #[.int .u32 a, .int .u32 b] t)) (some ⟨w.heap.size, 0, none⟩) 2 2 [a, b] := by
  refine ⟨rfl, by omega, by omega, fun d hd => ?_, fun _ => ⟨w.heap.size, rfl, by simp, fun k hk => ?_⟩⟩
  · simp at hd; rcases hd with rfl | rfl <;> assumption
  · obtain rfl | rfl : k = 0 ∨ k = 1 := by omega
    · go_simp
    · go_simp
theorem dig_new4 (w : World) (a b c d : Int) (t : TypeId) (ha : D32 a) (hb : D32 b) (hc : D32 c) (hd : D32 d) : Dig (w.alloc (.cells #[.int .u32 a, .int .u32 b, .int .u32 c, .int .u32 d] t)) (some ⟨w.heap.size, 0, none⟩) 4 4 [a, b, c, d] := by
  refine ⟨rfl, by omega, by omega, fun d hd => ?_, fun _ => ⟨w.heap.size, rfl, by simp, fun k hk => ?_⟩⟩
  · simp at hd; rcases hd with rfl | rfl | rfl | rfl <;> assumption
  · obtain rfl | rfl | rfl | rfl : k = 0 ∨ k = 1 ∨ k = 2 ∨ k = 3 := by omega
    · go_simp
    · go_simp
    · go_simp
    · go_simp

set_option maxHeartbeats 400000 in
theorem digit_in (g n cap : Nat) (d : Int) (k : Nat) (w : World) (hk : k < n) (hn : n ≤ 1000000) (hc : w.cell? ⟨g, k, none⟩ = some (.int .u32 d)) :
    Calls Tryd.prog 41 #[.slice (some ⟨g, 0, none⟩) n cap, .int .i64 k] w fun e w' => e = .returned (.int .u32 d) ∧ w = w' := by
  go_enter Tryd.func41, Tryd.ntmps41
  go_wp2
  go_ret
  exact ⟨rfl, rfl⟩
set_option maxHeartbeats 400000 in
theorem digit_out (ao : Option Addr) (n cap : Nat) (i : Int) (w : World) (hk : (n : Int) ≤ i) (hn : n ≤ 1000000) :
    Calls Tryd.prog 41 #[.slice ao n cap, .int .i64 i] w fun e w' => e = .returned (.int .u32 0) ∧ w = w' := by
  go_enter Tryd.func41, Tryd.ntmps41
  go_wp2
  go_ret
  exact ⟨rfl, rfl⟩
theorem digit_any {ao : Option Addr} {n cap : Nat} {ds : List Int} {w : World} (x : Dig w ao n cap ds) (i : Int) (k : Nat) (hi : i = k) :
    Calls Tryd.prog 41 #[.slice ao n cap, .int .i64 i] w fun e w' => e = .returned (.int .u32 (ds.getD k 0)) ∧ w = w' := by
  obtain ⟨h1, h2, h3, h4, h5⟩ := x
  subst hi
  by_cases hk : k < n
  · obtain ⟨g, rfl, hg, hc⟩ := h5 (by omega)
    exact digit_in g n cap _ k w hk h3 (hc k hk)
  · have e : ds.getD k 0 = 0 := by rw [List.getD_eq_getElem?_getD, List.getElem?_eq_none (by omega)]; rfl
    rw [e]
    exact digit_out ao n cap k w (by omega) h3

def lenOf : Value → Nat | .slice _ k _ => k | _ => 0
/-- What a call leaves that returns digits: some slice in the world as it is behind the call. -/
def RetDig (w : World) (n : Int) (e : Ending) (w' : World) : Prop :=
  ∃ (ao : Option Addr) (k cap : Nat) (ds : List Int), e = .returned (.slice ao k cap) ∧ Dig w' ao k cap ds ∧ num ds = n ∧ Norm ds ∧ Below w.heap.size w w'

/-- What Trim leaves: a part of the same slice. -/
def RetTrim (w : World) (ao : Option Addr) (cap : Nat) (n : Int) (e : Ending) (w' : World) : Prop :=
  ∃ (k : Nat) (ds : List Int), e = .returned (.slice ao k cap) ∧ Dig w' ao k cap ds ∧ num ds = n ∧ Norm ds ∧ w = w'
set_option maxHeartbeats 1000000 in
theorem trim_same {ao : Option Addr} {n cap : Nat} {ds : List Int} {w : World} (x : Dig w ao n cap ds) :
    Calls Tryd.prog 34 #[.slice ao n cap] w (RetTrim w ao cap (num ds)) := by
  have hN := x.2.2.1
  have X := Lib.hid x
  have hcap := x.2.1
  clear x
  go_enter Tryd.func34, Tryd.ntmps34
  go_wp2
  go_loop [0] (fun v => ∃ k : Nat, k ≤ n ∧ v = .slice ao k cap ∧ num (ds.take k) = num ds) (fun v => lenOf v)
  case atStart =>
    refine ⟨n, Nat.le_refl _, rfl, num_take_all (by have := X.out.1; omega)⟩
  case round =>
    obtain ⟨k, hk, rfl, hnum⟩ := hrel
    have Hnum := Lib.hid hnum
    clear hnum
    by_cases h0 : k = 0
    · subst h0
      go_wp2
      go_ret
      exact ⟨0, ds.take 0, rfl, X.out.take (by omega), Hnum.out, norm_nil, rfl⟩
    · obtain ⟨j, rfl⟩ : ∃ j, k = j + 1 := ⟨k - 1, by omega⟩
      obtain ⟨g, hao, hg, hc⟩ := X.out.2.2.2.2 (by omega)
      subst hao
      have hcj := hc j (by omega)
      have hjn : j < ds.length := by have := X.out.1; omega
      have Hc := Lib.hid hc
      clear hc hg h0
      by_cases hd : ds.getD j 0 = 0
      · rw [hd] at hcj
        have Hd := Lib.hid hd
        clear hd
        go_wp2
        go_round
        case rel => exact ⟨j, by omega, rfl, by rw [← Hnum.out, num_zero_snoc Hd.out]⟩
        case measure => simp [lenOf]
      · have nt := norm_take hjn hd
        have NT := Lib.hid nt
        clear nt
        have Hd := Lib.hid hd
        have hdb : (ds.getD j 0 == 0) = false := by simpa using hd
        clear hd
        generalize ds.getD j 0 = d at *
        go_wp2
        go_ret
        exact ⟨j + 1, ds.take (j + 1), rfl, X.out.take (by omega), Hnum.out, NT.out, rfl⟩
theorem trim_any {ao : Option Addr} {n cap : Nat} {ds : List Int} {w : World} (x : Dig w ao n cap ds) :
    Calls Tryd.prog 34 #[.slice ao n cap] w (RetDig w (num ds)) :=
  (trim_same x).mono fun e w' ⟨k, es, h1, h2, h3, h4, h5⟩ => ⟨ao, k, cap, es, h1, h2, h3, h4, h5 ▸ Below.refl _ _⟩

end Go.Proofs.YtkhcbioohoeegaaDoor
