import Derived.Test.YtdcdbcccchadfaaGreatDoorFma20L
import Derived.Test.YtdcdbcccchadfaaGreatDoorRest0
set_option linter.unusedVariables false
set_option linter.unusedSimpArgs false
set_option maxRecDepth 100000
namespace Go.Proofs.YtdcdbcccchadfaaGreatDoor
open Go.RowKit
theorem pick_full {f : Int} (f0 : 0 ≤ f) (i : Bool) (xs : List Int) : 0 ≤ pickV f i xs ∧ pickV f i xs < full := by
  unfold pickV; split
  · exact first_full f0 xs
  · exact ⟨by decide, by decide⟩
theorem ml_fullA {f m a b : Int} (f0 : 0 ≤ f) (hf : f < 4) (hm : m < 5) (a0 : 0 ≤ a) (a1 : a < full) (b0 : 0 ≤ b) (b1 : b < full) : 0 ≤ mlB f m a b ∧ mlB f m a b < full := by
  unfold mlB
  rw [if_pos ⟨hf, hm⟩]
  split
  · exact pick_full f0 _ _
  · split
    · exact make_full f0 (f := f) _ (2 * fE f + 1) 0
    · obtain ⟨_, _, s0, s1⟩ := ml_range (f := f) f0 a0 b0
      have := pk_class (m := m) (ex := mlE f a b) (ng := mlN f a b) f0 hf hm s0 s1
      exact ⟨this.1, this.2.1⟩
theorem fm_bad {f m a b c : Int} (hf : f < 4) (hm : m < 5) (i : mlI f a b = true) : fmB f m a b c = firstV f [a, b, c] ∧ ∀ t, fmFl f m t a b c = 1 := by
  obtain ⟨k1, k2, k3⟩ := pick_inv hf [a, b, c]
  unfold fmB fmFl
  simp only [if_pos (show f < 4 ∧ m < 5 from ⟨hf, hm⟩), i, k1, k2, k3, if_true]
  exact ⟨trivial, fun _ => trivial⟩
theorem fm_any {f m a b c : Int} (hf : f < 4) (hm : m < 5) (i : mlI f a b = false) (an : anyN f [a, b, c] = true) : fmB f m a b c = firstV f [a, b, c] ∧ ∀ t, fmFl f m t a b c = if anyS f [a, b, c] then 1 else 0 := by
  obtain ⟨k1, k2, k3⟩ := pick_nan hf [a, b, c] an
  unfold fmB fmFl
  simp only [if_pos (show f < 4 ∧ m < 5 from ⟨hf, hm⟩), i, k1, k2, k3, if_true]
  exact ⟨trivial, fun _ => trivial⟩
theorem fm_nan {f m a b c : Int} (f0 : 0 ≤ f) (hf : f < 4) (hm : m < 5) (a0 : 0 ≤ a) (a1 : a < full) (b0 : 0 ≤ b) (b1 : b < full) (c0 : 0 ≤ c) (c1 : c < full) (h : (clsF f a = 0 ∧ clsF f b = 3) ∨ (clsF f a = 3 ∧ clsF f b = 0)) :
    (∀ t, fmFl f m t a b c = 1) ∧ nanF f (fmB f m a b c) = true ∧ 0 ≤ fmB f m a b c ∧ fmB f m a b c < full ∧
    (nanF f c = true → fmB f m c a b = fmB f m a b c ∧ fmB f m a a c = fmB f m a b c ∧ ∀ t, fmFl f m t a a c = if sigF f c then 1 else 0) := by
  have na : nanF f a = false := by unfold nanF; rw [decide_eq_false]; omega
  have nb : nanF f b = false := by unfold nanF; rw [decide_eq_false]; omega
  have i : mlI f a b = true := by unfold mlI badC; rw [decide_eq_true]; omega
  obtain ⟨e1, e2⟩ := fm_bad (m := m) (c := c) hf hm i
  have fv : firstV f [a, b, c] = if nanF f c then quietF f c else defF f := by
    unfold firstV
    cases hc : nanF f c <;> simp [List.find?, Int.emod_eq_of_lt a0 a1, Int.emod_eq_of_lt b0 b1, Int.emod_eq_of_lt c0 c1, na, nb, hc]
  have nv : nanF f (firstV f [a, b, c]) = true ∧ 0 ≤ firstV f [a, b, c] ∧ firstV f [a, b, c] < full := by
    rw [fv]
    cases hc : nanF f c with
    | true =>
      have q := quiet_nan f0 c0
      have r := quiet_full f0 c0 c1
      rw [if_pos rfl]; exact ⟨q.1.trans hc, r.1, r.2⟩
    | false =>
      have d := def_full f0 (f := f)
      rw [if_neg (by decide)]
      exact ⟨by unfold nanF; rw [(def_cls f0 hf).1]; rfl, d.1, d.2⟩
  rw [e1]
  refine ⟨e2, nv.1, nv.2.1, nv.2.2, fun hc => ?_⟩
  rw [fv, hc, if_pos rfl]
  have c4 : 4 ≤ clsF f c := by unfold nanF at hc; exact of_decide_eq_true hc
  have sa : sigF f a = false := by
    cases k : sigF f a with
    | false => rfl
    | true => rw [sig_nan k] at na; cases na
  have j1 : mlI f c a = false := by unfold mlI badC; rw [decide_eq_false]; omega
  have j2 : mlI f a a = false := by unfold mlI badC; rw [decide_eq_false]; omega
  obtain ⟨p1, p2⟩ := fm_any (m := m) (a := c) (b := a) (c := b) hf hm j1 (by unfold anyN; simp [Int.emod_eq_of_lt c0 c1, hc])
  obtain ⟨q1, q2⟩ := fm_any (m := m) (a := a) (b := a) (c := c) hf hm j2 (by unfold anyN; simp [Int.emod_eq_of_lt c0 c1, hc])
  refine ⟨?_, ?_, fun t => ?_⟩
  · rw [p1]; unfold firstV; simp [List.find?, Int.emod_eq_of_lt c0 c1, hc]
  · rw [q1]; unfold firstV; simp [List.find?, Int.emod_eq_of_lt a0 a1, Int.emod_eq_of_lt c0 c1, na, hc]
  · rw [q2]; unfold anyS; simp [Int.emod_eq_of_lt a0 a1, Int.emod_eq_of_lt c0 c1, sa]
end Go.Proofs.YtdcdbcccchadfaaGreatDoor
