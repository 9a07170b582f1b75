/-
  FieldsWide over digits.
-/
import Derived.Test.YtelfjbdpmiopdaaDoorWide9
import Derived.Test.YtelfjbdpmiopdaaDoorGoes9L
set_option linter.unusedVariables false
set_option linter.unusedSimpArgs false
set_option maxRecDepth 100000
namespace Go.Proofs.YtelfjbdpmiopdaaDoor
open Go.RowKit
attribute [local go_sem ↓] Go.wp_at_zero Go.wp_at_succ

theorem wide9_law_n (C : FldOK) (D : ClassOK) (f b : Int) (f0 : 0 ≤ f) (f1 : f ≤ 255) (w : World) (ft : FTab w) : Calls Tryd.prog 8 #[.int .u8 f, .agg #[.int .u64 (hiOf (b)), .int .u64 (loOf (b))]] w fun e w' => e = .returned (.bool true) ∧ Below w.heap.size w w' := by
  have G := Lib.hid (goes9_any C)
  obtain ⟨m0, m1⟩ := mod_f b
  obtain ⟨z1, z2⟩ := hl_zero
  have cr := cls_range f (b % full)
  by_cases h2 : 2 < f
  · exact wide9_great f _ _ G (by simp [h2]) w ft
  · have g : decide (2 < f) = false := by simp [h2]
    have h : f < 4 := by omega
    have hF := D.fin f b f0 f1
    by_cases c : clsF f (b % full) ≤ 2
    · rw [show finF f (b % full) = true by unfold finF; simp; omega] at hF
      have w1 : IntKind.u8.wrap (f + 1) = f + 1 := by
        obtain rfl | rfl | rfl : f = 0 ∨ f = 1 ∨ f = 2 := by omega
        all_goals rfl
      have hU := C.unpack f b f0 f1
      have er := uE_range (f := f) (b := b % full) f0 m0
      have sr := uS_range (f := f) (b := b % full) f0 m0
      have hP := C.packAt (f + 1) (negF f (b % full)) (clsF f (b % full)) (uE f (b % full)) (uS f (b % full)) (by omega) (by omega) (by omega) (by omega) (by omega) (by omega) sr.1 sr.2
      have pf := packV_full (f := f + 1) (by omega) (negF f (b % full)) (clsF f (b % full)) (uE f (b % full)) (uS f (b % full))
      have hV := C.unpackAt (f + 1) _ (by omega) (by omega) pf.1 pf.2
      by_cases z : clsF f (b % full) = 0
      · obtain ⟨a3, a4⟩ := u_none (f := f) (b := b % full) (by omega)
        have k := packK_yes (f := f + 1) (c := 0) (e := 0) (s := 0) ⟨by omega, .inl rfl⟩
        have v : packV (f + 1) (negF f (b % full)) 0 0 0 = makeF (f + 1) (negF f (b % full)) 0 0 := by unfold packV; rw [k, if_pos rfl, if_pos rfl]
        rw [z, a3, a4] at hU hP hV
        rw [k, v] at hP
        rw [v] at hV
        obtain ⟨b1, b2⟩ := nought_cls (f := f + 1) (by omega) (by omega) (negF f (b % full))
        obtain ⟨b3, b4⟩ := u_none (f := f + 1) (b := makeF (f + 1) (negF f (b % full)) 0 0) (by omega)
        rw [b1, b2, b3, b4] at hV
        exact wide9_zero f (f + 1) _ _ _ _ _ _ _ _ (Lib.hid hF) (Lib.hid hU) (Lib.hid hP) (Lib.hid hV) G g w1 w ft
      · have cc : clsF f (b % full) = 1 ∨ clsF f (b % full) = 2 := by omega
        obtain ⟨fit, hi⟩ := fit_wider f0 (by omega) m0 cc
        have k := packK_yes (f := f + 1) (c := clsF f (b % full)) ⟨by omega, .inr (.inr ⟨cc, fit⟩)⟩
        have v : packV (f + 1) (negF f (b % full)) (clsF f (b % full)) (uE f (b % full)) (uS f (b % full)) = makeF (f + 1) (negF f (b % full)) (fieldF (f + 1) (uE f (b % full))) (uS f (b % full) / 2 ^ offF (f + 1) (uE f (b % full))) := by unfold packV; rw [k, if_pos rfl, if_neg z, if_neg (by omega)]
        obtain ⟨a1, a2, a3, a4, a5⟩ := un_pack (f := f + 1) (by omega) (by omega) (negF f (b % full)) fit sr.2 _ v.symm
        have a6 : clsF (f + 1) (packV (f + 1) (negF f (b % full)) (clsF f (b % full)) (uE f (b % full)) (uS f (b % full))) = 2 := by
          rcases a1 with x | x
          · exact absurd (a5.1 x) hi
          · exact x
        rw [k] at hP
        rw [a2, a3, a4, a6] at hV
        exact wide9_num f (f + 1) _ _ _ _ _ _ _ _ _ (Lib.hid hF) (Lib.hid hU) (Lib.hid hP) (Lib.hid hV) G g w1 (by simp [z]) w ft
    · rw [show finF f (b % full) = false by unfold finF; simp; omega] at hF
      exact wide9_not f _ _ (Lib.hid hF) G g w ft
theorem wide9_law (C : FldOK) (D : ClassOK) (f bh bl : Int) (uf : 0 ≤ f ∧ f ≤ 255) (ubh : U64 bh) (ubl : U64 bl) (w : World) (ft : FTab w) : Calls Tryd.prog 8 #[.int .u8 f, .agg #[.int .u64 bh, .int .u64 bl]] w fun e w' => e = .returned (.bool true) ∧ Below w.heap.size w w' := by
  have h := wide9_law_n C D f (val bh bl) uf.1 uf.2 w ft
  rw [(hl_val ubh ubl).1, (hl_val ubh ubl).2] at h
  exact h


end Go.Proofs.YtelfjbdpmiopdaaDoor
