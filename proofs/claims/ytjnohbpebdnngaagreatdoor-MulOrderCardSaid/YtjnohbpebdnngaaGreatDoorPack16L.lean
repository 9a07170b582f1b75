/-
  Numbers rounded to a format: neighbours, tininess, the other sign, what is jammed, what a format has; plain arithmetic.
-/
import Derived.Test.YtjnohbpebdnngaaGreatDoorPack16M
set_option linter.unusedVariables false
set_option linter.unusedSimpArgs false
set_option maxRecDepth 100000
namespace Go.Proofs.YtjnohbpebdnngaaGreatDoor
open Go.RowKit

theorem pk_num {f m exp x : Int} {ng : Bool} (hf : f < 4) (hm : m < 5) (hx : x ≠ 0) : pkB f m ng exp x = numB f m ng (pkE exp x) (pkS x) ∧ ∀ t, pkFl f m t ng exp x = numFl f m t ng (pkE exp x) (pkS x) := by
  unfold pkB pkFl
  rw [if_pos ⟨hf, hm⟩, if_neg hx]
  exact ⟨rfl, fun t => if_pos ⟨⟨hf, hm⟩, hx⟩⟩
theorem pk_zero {f m exp : Int} {ng : Bool} (hf : f < 4) (hm : m < 5) : pkB f m ng exp 0 = makeF f ng 0 0 ∧ ∀ t, pkFl f m t ng exp 0 = 0 := by
  unfold pkB pkFl
  rw [if_pos ⟨hf, hm⟩, if_pos rfl]
  exact ⟨rfl, fun t => if_neg (fun h => h.2 rfl)⟩
theorem inf_lt {f : Int} (f0 : 0 ≤ f) (hf : f < 4) : infF f false < 2 ^ (fW f - 1) := by
  obtain ⟨p0, p1, p2, p3, p4, p5, p6, p7, p8⟩ := f_nums f0 hf
  obtain ⟨q1, q2, q3, q4, q5, q6⟩ := make_parts f0 hf false (2 * fE f + 1) 0
  unfold infF makeF
  rw [if_pos hf, if_neg (by decide), Int.add_zero]; exact q4
/-- How great what is rounded may be. -/
theorem num_range {f m e s : Int} (f0 : 0 ≤ f) (hf : f < 4) (hm : m < 5) (s0 : 2 ^ 255 ≤ s) (s1 : s < 2 ^ 256) : 0 ≤ numB f m false e s ∧ numB f m false e s ≤ infF f false := by
  have mi := max_inf f0 hf false
  have m0 := (make_full f0 (f := f) false (2 * fE f) (2 ^ (fP f - 1) - 1)).1
  have m1 : 0 ≤ maxF f false := m0
  unfold numB
  split
  · rcases over_ge (m := m) f0 hf hm with h | h <;> rw [h] <;> omega
  · rename_i h
    obtain ⟨x, k, e1, x0, x1⟩ := num_make f0 hf s0 s1 h
    rw [e1]
    have := make_le_max (k := k) f0 hf x0 x1
    have := (make_full f0 (f := f) false x k).1
    omega
/-! ### neighbours -/
/-! ### tininess -/
/-! ### the other sign -/
theorem cut_mir (s n m : Int) : cutQ s n false (mirM m) true = cutQ s n false m false := by
  have h : ∀ od r, nextM (mirM m) true od r = nextM m false od r := fun od r => by
    have := next_mirror (mirM m) od r; rw [mir_mir] at this; exact this.symm
  unfold cutQ; rw [h]
theorem make_sign {f : Int} (hf : f < 4) (e k : Int) : makeF f true e k = makeF f false e k + 2 ^ (fW f - 1) := by
  unfold makeF; rw [if_pos hf, if_pos hf, if_pos rfl, if_neg (by decide), Int.add_zero]
theorem num_mir {f m e s : Int} (f0 : 0 ≤ f) (hf : f < 4) (hm : m < 5) : numB f (mirM m) true e s = numB f m false e s + 2 ^ (fW f - 1) ∧ ∀ t, numFl f (mirM m) t true e s = numFl f m t false e s := by
  have m5 : mirM m < 5 := by have := mir_known m; rw [decide_eq_decide] at this; exact this.2 hm
  have a : pkA f (mirM m) true e s = pkA f m false e s := by unfold pkA; rw [cut_mir]
  have n : pkN f (mirM m) true e s = pkN f m false e s := by unfold pkN; rw [cut_mir]
  have im := inf_mirror (mirM m)
  rw [mir_mir] at im
  have ob : overB f (mirM m) true = overB f m false + 2 ^ (fW f - 1) := by
    unfold overB
    rw [if_pos (show f < 4 ∧ mirM m < 5 from ⟨hf, m5⟩), if_pos (show f < 4 ∧ m < 5 from ⟨hf, hm⟩), ← im]
    split
    · exact make_sign hf ..
    · exact make_sign hf ..
  have ofl : overFl f (mirM m) = overFl f m := by unfold overFl; rw [if_pos ⟨hf, m5⟩, if_pos ⟨hf, hm⟩]
  unfold numB numFl
  rw [a, n, ob]
  constructor
  · split
    · rfl
    · unfold ptF; rw [if_pos rfl, if_neg (by decide)]; omega
  · intro t; rw [ofl]
theorem pk_mir {f m exp x : Int} (f0 : 0 ≤ f) (hf : f < 4) (hm : m < 5) : pkB f (mirM m) true exp x = pkB f m false exp x + 2 ^ (fW f - 1) ∧ ∀ t, pkFl f (mirM m) t true exp x = pkFl f m t false exp x := by
  have m5 : mirM m < 5 := by have := mir_known m; rw [decide_eq_decide] at this; exact this.2 hm
  by_cases z : x = 0
  · subst z
    rw [(pk_zero hf m5).1, (pk_zero hf hm).1]
    exact ⟨make_sign hf 0 0, fun t => by rw [(pk_zero hf m5).2, (pk_zero hf hm).2]⟩
  · rw [(pk_num hf m5 z).1, (pk_num hf hm z).1]
    refine ⟨(num_mir f0 hf hm).1, fun t => ?_⟩
    rw [(pk_num hf m5 z).2, (pk_num hf hm z).2, (num_mir f0 hf hm).2]

/-! ### what is jammed -/
/-! ### order -/
end Go.Proofs.YtjnohbpebdnngaaGreatDoor
