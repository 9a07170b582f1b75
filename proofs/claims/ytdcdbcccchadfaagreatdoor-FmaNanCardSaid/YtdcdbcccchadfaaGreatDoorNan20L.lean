import Derived.Test.YtdcdbcccchadfaaGreatDoorNan20
import Derived.Test.YtdcdbcccchadfaaGreatDoorGuA
import Derived.Test.YtdcdbcccchadfaaGreatDoorFma20N
import Derived.Test.YtdcdbcccchadfaaGreatDoorRest0
set_option maxHeartbeats 1000000
set_option linter.unusedVariables false
set_option linter.unusedSimpArgs false
set_option maxRecDepth 100000
namespace Go.Proofs.YtdcdbcccchadfaaGreatDoor
open Go.RowKit
attribute [local go_sem ↓] Go.wp_at_zero Go.wp_at_succ
theorem nan20_law_n (C : FormOK) (D : ClassOK) (M : ModeOK) (A : FmaOK) (f m : Int) (t : Bool) (c : Int) (ng sw : Bool) (c0 : 0 ≤ c) (c1 : c < full) (uf : 0 ≤ f ∧ f ≤ 255) (um : 0 ≤ m ∧ m ≤ 255) (w : World) (ft : FTab w) : Calls Tryz.prog 8 #[.int .u8 f, .agg #[.int .u8 m, .bool t], .agg #[.int .u64 (hiOf (c)), .int .u64 (loOf (c))], .bool ng, .bool sw] w fun e w' => e = .returned (.bool true) ∧ Below w.heap.size w w' := by
  have G := lH (goes20_any A)
  have K := C.known f uf.1 uf.2
  have MK := M.known m um.1 um.2
  by_cases hf : f < 4
  · rw [decide_eq_true hf] at K
    by_cases hm : m < 5
    · rw [decide_eq_true hm] at MK
      have N1 := lH (C.nought f ng uf.1 uf.2)
      have I1 := lH (C.inf f (!ng) uf.1 uf.2)
      obtain ⟨z0, z1⟩ := make_full uf.1 (f := f) ng 0 0
      obtain ⟨i0, i1⟩ : 0 ≤ infF f (!ng) ∧ infF f (!ng) < full := make_full uf.1 (f := f) (!ng) (2 * fE f + 1) 0
      have zc := (nought_cls uf.1 hf ng).1
      have ic := (inf_cls uf.1 hf (!ng)).1
      have NC := D.nan f c uf.1 uf.2
      have SC := D.sig f c uf.1 uf.2
      rw [Int.emod_eq_of_lt c0 c1] at NC SC
      cases sw with
      | false =>
        obtain ⟨e1, e2, e3, e4, e5⟩ := fm_nan (m := m) (c := c) uf.1 hf hm z0 z1 i0 i1 c0 c1 (.inl ⟨zc, ic⟩)
        have X := A.fma f m t (makeF f ng 0 0) (infF f (!ng)) c uf.1 uf.2 um.1 um.2 z0 z1 i0 i1 c0 c1
        rw [e1] at X
        have NR := D.nan f (fmB f m (makeF f ng 0 0) (infF f (!ng)) c) uf.1 uf.2
        rw [Int.emod_eq_of_lt e3 e4, e2] at NR
        cases hc : nanF f c with
        | false =>
          rw [hc] at NC
          exact nan20_sw0 f m _ _ 0 0 _ _ _ _ _ _ 0 0 0 0 t ng false (lH K) (lH MK) N1 I1 (lH X) (lH NR) (.inl ⟨lH NC, G⟩) w ft
        | true =>
          rw [hc] at NC
          obtain ⟨x1, y1, y2⟩ := e5 hc
          have XX := A.fma f m t c (makeF f ng 0 0) (infF f (!ng)) uf.1 uf.2 um.1 um.2 c0 c1 z0 z1 i0 i1
          have YY := A.fma f m t (makeF f ng 0 0) (makeF f ng 0 0) c uf.1 uf.2 um.1 um.2 z0 z1 z0 z1 c0 c1
          rw [x1] at XX
          rw [y1, y2] at YY
          exact nan20_sw0 f m _ _ _ _ _ _ _ _ _ _ _ _ _ _ t ng _ (lH K) (lH MK) N1 I1 (lH X) (lH NR) (.inr ⟨by cases sigF f c <;> rfl, eqb20 _ _, eqb20 _ _, lH NC, lH XX, lH YY, lH NR, lH SC, G⟩) w ft
      | true =>
        obtain ⟨e1, e2, e3, e4, e5⟩ := fm_nan (m := m) (c := c) uf.1 hf hm i0 i1 z0 z1 c0 c1 (.inr ⟨ic, zc⟩)
        have X := A.fma f m t (infF f (!ng)) (makeF f ng 0 0) c uf.1 uf.2 um.1 um.2 i0 i1 z0 z1 c0 c1
        rw [e1] at X
        have NR := D.nan f (fmB f m (infF f (!ng)) (makeF f ng 0 0) c) uf.1 uf.2
        rw [Int.emod_eq_of_lt e3 e4, e2] at NR
        cases hc : nanF f c with
        | false =>
          rw [hc] at NC
          exact nan20_sw1 f m _ _ 0 0 _ _ _ _ _ _ 0 0 0 0 t ng false (lH K) (lH MK) N1 I1 (lH X) (lH NR) (.inl ⟨lH NC, G⟩) w ft
        | true =>
          rw [hc] at NC
          obtain ⟨x1, y1, y2⟩ := e5 hc
          have XX := A.fma f m t c (infF f (!ng)) (makeF f ng 0 0) uf.1 uf.2 um.1 um.2 c0 c1 i0 i1 z0 z1
          have YY := A.fma f m t (infF f (!ng)) (infF f (!ng)) c uf.1 uf.2 um.1 um.2 i0 i1 i0 i1 c0 c1
          rw [x1] at XX
          rw [y1, y2] at YY
          exact nan20_sw1 f m _ _ _ _ _ _ _ _ _ _ _ _ _ _ t ng _ (lH K) (lH MK) N1 I1 (lH X) (lH NR) (.inr ⟨by cases sigF f c <;> rfl, eqb20 _ _, eqb20 _ _, lH NC, lH XX, lH YY, lH NR, lH SC, G⟩) w ft
    · rw [decide_eq_false hm] at MK
      exact nan20_no2 f m _ _ t ng sw (lH K) (lH MK) G w ft
  · rw [decide_eq_false hf] at K
    exact nan20_no1 f m _ _ t ng sw (lH K) G w ft
theorem nan20_law (C : FormOK) (D : ClassOK) (M : ModeOK) (A : FmaOK) (f m : Int) (t : Bool) (ch cl : Int) (ng sw : Bool) (uf : 0 ≤ f ∧ f ≤ 255) (um : 0 ≤ m ∧ m ≤ 255) (uch : U64 ch) (ucl : U64 cl) (w : World) (ft : FTab w) : Calls Tryz.prog 8 #[.int .u8 f, .agg #[.int .u8 m, .bool t], .agg #[.int .u64 ch, .int .u64 cl], .bool ng, .bool sw] w fun e w' => e = .returned (.bool true) ∧ Below w.heap.size w w' := by
  have hvc := val_range uch ucl
  have h := nan20_law_n C D M A f m t (val ch cl) ng sw hvc.1 hvc.2 uf um w ft
  rw [(hl_val uch ucl).1, (hl_val uch ucl).2] at h
  exact h
end Go.Proofs.YtdcdbcccchadfaaGreatDoor
