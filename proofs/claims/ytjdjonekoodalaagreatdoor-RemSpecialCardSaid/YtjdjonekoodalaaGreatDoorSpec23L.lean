import Derived.Test.YtjdjonekoodalaaGreatDoorSpec23
set_option maxHeartbeats 1000000
set_option linter.unusedVariables false
set_option linter.unusedSimpArgs false
set_option maxRecDepth 100000
namespace Go.Proofs.YtjdjonekoodalaaGreatDoor
open Go.RowKit
attribute [local go_sem ↓] Go.wp_at_zero Go.wp_at_succ
theorem spec23_law_n (C : FormOK) (D : ClassOK) (A : RemOK) (f : Int) (a : Int) (ng : Bool) (a0 : 0 ≤ a) (a1 : a < full) (uf : 0 ≤ f ∧ f ≤ 255) (w : World) (ft : FTab w) : Calls Tryz.prog 8 #[.int .u8 f, .agg #[.int .u64 (hiOf (a)), .int .u64 (loOf (a))], .bool ng] w fun e w' => e = .returned (.bool true) ∧ Below w.heap.size w w' := by
  have G := lH (goes23_any A)
  have K := C.known f uf.1 uf.2
  by_cases hf : f < 4
  · rw [decide_eq_true hf] at K
    have OA := D.of f a uf.1 uf.2
    rw [Int.emod_eq_of_lt a0 a1] at OA
    obtain ⟨z0, z1⟩ := make_full uf.1 (f := f) ng 0 0
    obtain ⟨i0, i1⟩ : 0 ≤ infF f ng ∧ infF f ng < full := make_full uf.1 (f := f) ng (2 * fE f + 1) 0
    have nz := nought_cls uf.1 hf ng
    have ni := inf_cls uf.1 hf ng
    have X := A.rem f a (makeF f ng 0 0) uf.1 uf.2 a0 a1 z0 z1
    have Y := A.rem f (infF f ng) a uf.1 uf.2 i0 i1 a0 a1
    have Z := A.rem f a (infF f ng) uf.1 uf.2 a0 a1 i0 i1
    have W := A.rem f (makeF f ng 0 0) a uf.1 uf.2 z0 z1 a0 a1
    have NO := lH (C.nought f ng uf.1 uf.2)
    have IN := lH (C.inf f ng uf.1 uf.2)
    have DF := D.nan f (defF f) uf.1 uf.2
    obtain ⟨d0, d1⟩ := def_full (f := f) uf.1
    have dn : nanF f (defF f) = true := by have := def_cls uf.1 hf; unfold nanF; exact decide_eq_true (by omega)
    rw [Int.emod_eq_of_lt d0 d1, dn] at DF
    by_cases c4 : 4 ≤ clsF f a
    · obtain ⟨e1, e2, f1, f2⟩ := rm_nan uf.1 hf a0 a1 z0 z1 c4 (by omega)
      obtain ⟨e3, e4, f3, f4⟩ := rm_nan uf.1 hf a0 a1 i0 i1 c4 (by omega)
      rw [e1, f1] at X
      rw [e2, f2] at W
      rw [e3, f3] at Z
      rw [e4, f4] at Y
      obtain ⟨q0, q1⟩ := quiet_full (f := f) uf.1 a0 a1
      have qn : nanF f (quietF f a) = true := by rw [(quiet_nan uf.1 a0).1]; unfold nanF; exact decide_eq_true c4
      have NQ := D.nan f (quietF f a) uf.1 uf.2
      rw [Int.emod_eq_of_lt q0 q1, qn] at NQ
      have rc := cls_range f a
      have g2 : ((if clsF f a = 5 then (1 : Int) else 0) == 1) = (clsF f a == 5) := by
        rw [Bool.eq_iff_iff, beq_iff_eq, beq_iff_eq]; split <;> omega
      exact spec23_main f _ _ _ _ _ _ _ _ _ _ _ _ _ _ _ _ _ _ _ 0 0 ng _ (lH K) (lH OA) NO (lH X) IN (lH Y) (lH Z) (lH W) (.inl ⟨decide_eq_true c4, g2, eqr23 _ _ _, eqr23 _ _ _, eqr23 _ _ _, lH NQ, G⟩) w ft
    · have d4 : decide (4 ≤ clsF f a) = false := decide_eq_false c4
      obtain ⟨⟨x1, x2⟩, ⟨y1, y2⟩, z3, zz, w0, ww⟩ := rm_special uf.1 hf a0 a1 (by omega) _ _ ng rfl rfl
      rw [x1, x2] at X
      rw [y1, y2] at Y
      by_cases c3 : clsF f a = 3
      · rw [z3 c3] at Z
        obtain ⟨w1, w2⟩ := ww (by omega)
        rw [w1, w2] at W
        exact spec23_main f _ _ _ _ _ _ _ _ _ _ _ _ _ _ _ _ _ _ _ 0 0 ng _ (lH K) (lH OA) NO (lH X) IN (lH Y) (lH Z) (lH W) (.inr (.inl ⟨d4, rfl, rfl, beq_iff_eq.2 c3, eqr23 _ _ _, lH DF, lH DF, lH DF, G⟩)) w ft
      · obtain ⟨z1', z2⟩ := zz (by omega)
        rw [z1', z2] at Z
        have CU := C.cut f a uf.1 uf.2
        rw [Int.emod_eq_of_lt a0 a1] at CU
        have d3 : (clsF f a == 3) = false := beq_eq_false_iff_ne.2 c3
        by_cases c0 : clsF f a = 0
        · rw [w0 c0] at W
          exact spec23_main f _ _ _ _ _ _ _ _ _ _ _ _ _ _ _ _ _ _ _ _ _ ng _ (lH K) (lH OA) NO (lH X) IN (lH Y) (lH Z) (lH W) (.inr (.inr (.inl ⟨d4, rfl, rfl, d3, beq_iff_eq.2 c0, rfl, eqr23 _ _ _, lH DF, lH DF, lH CU, G⟩))) w ft
        · obtain ⟨w1, w2⟩ := ww c0
          rw [w1, w2] at W
          exact spec23_main f _ _ _ _ _ _ _ _ _ _ _ _ _ _ _ _ _ _ _ _ _ ng _ (lH K) (lH OA) NO (lH X) IN (lH Y) (lH Z) (lH W) (.inr (.inr (.inr ⟨d4, rfl, rfl, d3, beq_eq_false_iff_ne.2 c0, bne_iff_ne.2 c0, eqr23 _ _ _, eqr23 _ _ _, lH DF, lH DF, lH CU, G⟩))) w ft
  · rw [decide_eq_false hf] at K
    have X := A.rem f a a uf.1 uf.2 a0 a1 a0 a1
    have e1 : rmB f a a = 0 := by unfold rmB; rw [if_neg hf]
    have e2 : rmFl f a a = 0 := by unfold rmFl; rw [if_neg (fun k => hf k.1)]
    rw [e1, e2] at X
    exact spec23_no f _ _ ng (lH K) (lH X) G w ft
theorem spec23_law (C : FormOK) (D : ClassOK) (A : RemOK) (f : Int) (ah al : Int) (ng : Bool) (uf : 0 ≤ f ∧ f ≤ 255) (uah : U64 ah) (ual : U64 al) (w : World) (ft : FTab w) : Calls Tryz.prog 8 #[.int .u8 f, .agg #[.int .u64 ah, .int .u64 al], .bool ng] w fun e w' => e = .returned (.bool true) ∧ Below w.heap.size w w' := by
  have hva := val_range uah ual
  have h := spec23_law_n C D A f (val ah al) ng hva.1 hva.2 uf w ft
  rw [(hl_val uah ual).1, (hl_val uah ual).2] at h
  exact h
end Go.Proofs.YtjdjonekoodalaaGreatDoor
