/-
  What the document asks of package fields; numbers put together and taken apart.
-/
import Derived.Test.YtfcffmihhpcjjaaDoorMath9
import Derived.Test.YtfcffmihhpcjjaaDoorRef9P
set_option linter.unusedVariables false
set_option linter.unusedSimpArgs false
set_option maxRecDepth 100000
namespace Go.Proofs.YtfcffmihhpcjjaaDoor
open Go.RowKit
attribute [local go_sem ↓] Go.wp_at_zero Go.wp_at_succ

/-- What the document asks of package fields. -/
structure FldOK : Prop where

/-- At a number of 128 bits. -/
theorem packK_no {f c e s : Int} (h : ¬ (f < 4 ∧ (c = 0 ∨ c = 3 ∨ ((c = 1 ∨ c = 2) ∧ fitK f e s)))) : packK f c e s = false := by
  unfold packK
  rw [Bool.eq_false_iff]
  intro x
  apply h
  simpa [and_assoc, or_assoc] using x
theorem packK_yes {f c e s : Int} (h : f < 4 ∧ (c = 0 ∨ c = 3 ∨ ((c = 1 ∨ c = 2) ∧ fitK f e s))) : packK f c e s = true := by
  unfold packK
  simpa [and_assoc, or_assoc] using h
theorem packK_iff {f c e s : Int} : packK f c e s = true ↔ (f < 4 ∧ (c = 0 ∨ c = 3 ∨ ((c = 1 ∨ c = 2) ∧ fitK f e s))) := by
  by_cases h : f < 4 ∧ (c = 0 ∨ c = 3 ∨ ((c = 1 ∨ c = 2) ∧ fitK f e s))
  · exact ⟨fun _ => h, fun _ => packK_yes h⟩
  · exact ⟨fun x => (by rw [packK_no h] at x; cases x), fun x => absurd x h⟩
theorem packV_no {f : Int} {g : Bool} {c e s : Int} (h : packK f c e s = false) : packV f g c e s = 0 := by unfold packV; rw [h, if_neg (by decide)]
theorem packV_full {f : Int} (f0 : 0 ≤ f) (g : Bool) (c e s : Int) : 0 ≤ packV f g c e s ∧ packV f g c e s < full := by
  unfold packV
  split
  · split
    · exact make_full f0 ..
    · split
      · exact make_full f0 ..
      · exact make_full f0 ..
  · exact ⟨Int.le_refl _, by decide⟩
theorem cls_cut (f b : Int) (f0 : 0 ≤ f) : clsF f (cutF f b) = clsF f b := by
  by_cases h : f < 4
  · exact cls_congr (exp_cut f0 h b) (frac_cut f0 h b)
  · rw [cls_no h, cls_no h]
/-- What is taken apart of a number that is none is put together to nothing; of any other to what it was. -/
theorem pack_unpack {f b : Int} (f0 : 0 ≤ f) (b0 : 0 ≤ b) (b1 : b < full) :
    (f < 4 ∧ clsF f b ≤ 3 → packK f (clsF f b) (uE f b) (uS f b) = true ∧ packV f (negF f b) (clsF f b) (uE f b) (uS f b) = cutF f b) ∧
    (¬ (f < 4 ∧ clsF f b ≤ 3) → packK f (clsF f b) (uE f b) (uS f b) = false) := by
  have cr := cls_range f b
  constructor
  · rintro ⟨h, c⟩
    have ms := make_split f0 h b0
    by_cases k : clsF f b = 1 ∨ clsF f b = 2
    · obtain ⟨p1, p2⟩ := pack_un f0 h b0 k
      have kk := packK_yes (f := f) (c := clsF f b) (e := uE f b) (s := uS f b) ⟨h, .inr (.inr ⟨k, p1⟩)⟩
      refine ⟨kk, ?_⟩
      unfold packV; rw [kk, if_pos rfl, if_neg (by omega), if_neg (by omega)]; exact p2
    · have kk := packK_yes (f := f) (c := clsF f b) (e := uE f b) (s := uS f b) ⟨h, by omega⟩
      refine ⟨kk, ?_⟩
      unfold packV; rw [kk, if_pos rfl]
      by_cases z : clsF f b = 0
      · obtain ⟨x, y⟩ := (cls_0 h).1 z
        rw [if_pos z, ← ms, x, y]
      · have c3 : clsF f b = 3 := by omega
        rw [if_neg z, if_pos c3, ← ms]
        have : expF f b = 2 * fE f + 1 ∧ fracF f b = 0 := by
          unfold clsF at c3; rw [if_pos h] at c3
          split at c3
          · split at c3 <;> omega
          · split at c3
            · split at c3
              · rename_i a b' c'; exact ⟨b', c'⟩
              · split at c3 <;> omega
            · omega
        rw [this.1, this.2]; rfl
  · intro h
    refine packK_no ?_
    rintro ⟨h1, h2⟩
    exact h ⟨h1, by omega⟩
theorem inf_cls {f : Int} (f0 : 0 ≤ f) (h : f < 4) (g : Bool) : clsF f (infF f g) = 3 ∧ negF f (infF f g) = g := by
  obtain ⟨p0, p1, p2, p3, p4, p5, p6, p7, p8⟩ := f_nums f0 h
  obtain ⟨m1, m2, m3⟩ := make_fields f0 h g (2 * fE f + 1) 0
  rw [expOf_id f0 h (by omega) (by omega)] at m1
  rw [Int.zero_emod] at m2
  refine ⟨?_, m3⟩
  unfold clsF; rw [if_pos h]
  rw [show infF f g = makeF f g (2 * fE f + 1) 0 from rfl, m1, m2, if_neg (by omega), if_pos rfl, if_pos rfl]
theorem nought_cls {f : Int} (f0 : 0 ≤ f) (h : f < 4) (g : Bool) : clsF f (makeF f g 0 0) = 0 ∧ negF f (makeF f g 0 0) = g := by
  obtain ⟨p0, p1, p2, p3, p4, p5, p6, p7, p8⟩ := f_nums f0 h
  obtain ⟨m1, m2, m3⟩ := make_fields f0 h g 0 0
  rw [expOf_id f0 h (by omega) (by omega)] at m1
  rw [Int.zero_emod] at m2
  exact ⟨(cls_0 h).2 ⟨m1, m2⟩, m3⟩
theorem u_none {f b : Int} (h : ¬ (clsF f b = 1 ∨ clsF f b = 2)) : uE f b = 0 ∧ uS f b = 0 := ⟨by unfold uE; rw [if_neg h], by unfold uS; rw [if_neg h]⟩


end Go.Proofs.YtfcffmihhpcjjaaDoor
