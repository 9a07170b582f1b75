/-
  Contracts of the document's own numbers: Mul.
-/
import Derived.Test.YtkhcbioohoeegaaDoorNumE
import Derived.IntWalk
set_option linter.unusedVariables false
set_option maxRecDepth 100000
namespace Go.Proofs.YtkhcbioohoeegaaDoor
open Go.RowKit

theorem Own.store {w : World} {base g L cap : Nat} {os : List Int} (h : Own w base (.slice (some ⟨g, 0, none⟩) L cap) os) (hL : os.length = L) (j : Nat) {d : Int} (hd : D32 d) : Own (w.setCell ⟨g, j, none⟩ (.int .u32 d)) base (.slice (some ⟨g, 0, none⟩) L cap) (os.set j d) := by
  obtain ⟨h1, h2⟩ := h
  subst hL
  refine ⟨?_, digs_set h2 j hd⟩
  have h3 := (h1.stored j (.int .u32 d)).1
  rw [List.length_set, List.map_set]
  exact h3

theorem Own.free {w : World} {base g L cap : Nat} {os : List Int} (h : Own w base (.slice (some ⟨g, 0, none⟩) L cap) os) (hL : os.length = L) (j : Nat) : w.frozen? ⟨g, j, none⟩ = false := by
  subst hL; exact h.1.frozenAt j
theorem Own.cell {w : World} {base g L cap : Nat} {os : List Int} (h : Own w base (.slice (some ⟨g, 0, none⟩) L cap) os) (hL : os.length = L) (j : Nat) (hj : j < L) : w.cell? ⟨g, j, none⟩ = some (.int .u32 (os.getD j 0)) := by
  subst hL
  rw [h.1.cellAt j (by omega), List.getElem?_map, List.getElem?_eq_getElem hj, List.getD_eq_getElem?_getD, List.getElem?_eq_getElem hj]
  rfl
theorem Own.base_le {w : World} {base g L cap : Nat} {os : List Int} (h : Own w base (.slice (some ⟨g, 0, none⟩) L cap) os) : base ≤ g ∧ g < w.heap.size := h.1.lt g rfl

theorem digit_quiet {ao : Option Addr} {n cap : Nat} {ds : List Int} {w : World} (x : Dig w ao n cap ds) (i : Int) (k : Nat) (hi : i = k) (q : Nat) :
    Calls Tryd.prog 41 #[.slice ao n cap, .int .i64 i] (w.drewN q) fun e w'' => e = .returned (.int .u32 (ds.getD k 0)) ∧ ∃ m, w'' = w.drewN m :=
  (digit_any (x.later (bN (Below.refl _ _) q)) i k hi).mono fun e w' ⟨he, hw⟩ => ⟨he, q, hw.symm⟩

theorem high_zero {os : List Int} (h : Digs os) {m j : Nat} (hlt : num os < bp m) (hj : m ≤ j) : os.getD j 0 = 0 := by
  by_cases hl : j < os.length
  · have hd := getD_d32 h j
    have e := num_take os j
    have h1 := num_nonneg (digs_take h j)
    have h2 : num (os.take (j + 1)) ≤ num os := by
      have e2 : num os = num (os.take (j + 1)) + bp (j + 1) * num (os.drop (j + 1)) := by
        conv => lhs; rw [← List.take_append_drop (j + 1) os, num_append, List.length_take, Nat.min_eq_left (by omega)]
      have h3 : 0 ≤ num (os.drop (j + 1)) := num_nonneg fun d hd => h d (List.mem_of_mem_drop hd)
      have h4 := Int.mul_nonneg (show 0 ≤ bp (j + 1) by have := bp_pos (j + 1); omega) h3
      omega
    have h5 := bp_le hj
    have hp := bp_pos j
    rcases Int.lt_or_le 0 (os.getD j 0) with h6 | h6
    · have h7 : bp j * 1 ≤ bp j * os.getD j 0 := Int.mul_le_mul_of_nonneg_left (by omega) (by omega)
      omega
    · unfold D32 at hd; omega
  · rw [List.getD_eq_getElem?_getD, List.getElem?_eq_none (by omega)]; rfl

/-- At the head of an outer round of Mul. -/
def MulOut (w : World) (a b : List Int) (g L i : Nat) (wr : World) : Prop :=
  ∃ os : List Int, os.length = L ∧ Own wr w.heap.size (.slice (some ⟨g, 0, none⟩) L L) os ∧ num os = num (a.take i) * num b ∧ Below w.heap.size w wr
/-- At the head of an inner round of Mul. -/
def MulIn (w : World) (a b : List Int) (g L i k : Nat) (cy : Int) (wr : World) : Prop :=
  0 ≤ cy ∧ cy ≤ 4294967295 ∧ ∃ os : List Int, os.length = L ∧ Own wr w.heap.size (.slice (some ⟨g, 0, none⟩) L L) os ∧ num os + bp (i + k) * cy = num (a.take i) * num b + bp i * a.getD i 0 * num (b.take k) ∧ Below w.heap.size w wr

theorem mul_step {os a b : List Int} {i k : Nat} {cy P : Int} (hk : i + k < os.length) (h : num os + bp (i + k) * cy = P + bp i * a.getD i 0 * num (b.take k)) :
    num (os.set (i + k) ((cy + a.getD i 0 * b.getD k 0 + os.getD (i + k) 0) % 4294967296)) + bp (i + (k + 1)) * ((cy + a.getD i 0 * b.getD k 0 + os.getD (i + k) 0) / 4294967296) = P + bp i * a.getD i 0 * num (b.take (k + 1)) := by
  rw [num_set hk, num_take, ← Nat.add_assoc, bp_succ]
  have e := split32 (bp (i + k)) (cy + a.getD i 0 * b.getD k 0 + os.getD (i + k) 0)
  rw [Int.mul_add, Int.mul_add] at e
  rw [Int.mul_sub, Int.mul_add]
  have e2 : bp (i + k) * (a.getD i 0 * b.getD k 0) = bp i * a.getD i 0 * (bp k * b.getD k 0) := by
    rw [bp_add]; simp only [Int.mul_assoc, Int.mul_comm, Int.mul_left_comm]
  omega
theorem mul_room {os a b : List Int} {i k : Nat} {cy : Int} (ha : Digs a) (hb : Digs b) (ho : Digs os) (hc : 0 < cy) (hkb : b.length ≤ k) (h : num os + bp (i + k) * cy = num (a.take i) * num b + bp i * a.getD i 0 * num (b.take k)) : k ≤ b.length := by
  rw [num_take_all hkb] at h
  have e : num (a.take i) * num b + bp i * a.getD i 0 * num b = num (a.take (i + 1)) * num b := by rw [num_take, Int.add_mul]
  rw [e] at h
  have h1 := num_lt (digs_take ha (i + 1))
  have h2 := bp_le (show (a.take (i + 1)).length ≤ i + 1 from List.length_take_le ..)
  have h3 := num_lt hb
  have h4 := num_nonneg (digs_take ha (i + 1))
  have h5 := num_nonneg hb
  have h6 := num_nonneg ho
  have h7 : num (a.take (i + 1)) * num b ≤ bp (i + 1) * num b := Int.mul_le_mul_of_nonneg_right (by omega) h5
  have h8 : bp (i + 1) * num b < bp (i + 1) * bp b.length := Int.mul_lt_mul_of_pos_left h3 (bp_pos _)
  rw [← bp_add] at h8
  have h9 : bp (i + k) * 1 ≤ bp (i + k) * cy := Int.mul_le_mul_of_nonneg_left (by omega) (by have := bp_pos (i + k); omega)
  rcases Nat.lt_or_ge b.length k with hlt | hge
  · have := bp_le (show i + 1 + b.length ≤ i + k by omega)
    omega
  · exact hge
theorem mul_cy {cy x y z : Int} (c0 : 0 ≤ cy) (c1 : cy ≤ 4294967295) (hx : D32 x) (hy : D32 y) (hz : D32 z) :
    0 ≤ x * y ∧ x * y < 18446744073709551616 ∧ cy + x * y < 18446744073709551616 ∧ cy + x * y + z < 18446744073709551616 ∧ 0 ≤ (cy + x * y + z) / 4294967296 ∧ (cy + x * y + z) / 4294967296 ≤ 4294967295 := by
  unfold D32 at hx hy hz
  have h0 : 0 ≤ x * y := Int.mul_nonneg hx.1 hy.1
  have h1 : x * y ≤ 4294967295 * y := Int.mul_le_mul_of_nonneg_right (by omega) hy.1
  generalize x * y = p at *
  omega


end Go.Proofs.YtkhcbioohoeegaaDoor
