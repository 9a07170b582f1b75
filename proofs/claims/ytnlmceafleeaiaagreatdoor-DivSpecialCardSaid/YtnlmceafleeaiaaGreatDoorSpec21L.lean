import Derived.Test.YtnlmceafleeaiaaGreatDoorSpec21
import Derived.Test.YtnlmceafleeaiaaGreatDoorGoes21L
import Derived.Test.YtnlmceafleeaiaaGreatDoorDiv21L
import Derived.Test.YtnlmceafleeaiaaGreatDoorRest0
set_option maxHeartbeats 1000000
set_option linter.unusedVariables false
set_option linter.unusedSimpArgs false
set_option maxRecDepth 100000
namespace Go.Proofs.YtnlmceafleeaiaaGreatDoor
open Go.RowKit
attribute [local go_sem ↓] Go.wp_at_zero Go.wp_at_succ
theorem spec21_law_n (C : FormOK) (D : ClassOK) (M : ModeOK) (A : DivOK) (f m : Int) (t : Bool) (a : Int) (ng : Bool) (a0 : 0 ≤ a) (a1 : a < full) (uf : 0 ≤ f ∧ f ≤ 255) (um : 0 ≤ m ∧ m ≤ 255) (w : World) (ft : FTab w) : Calls Tryz.prog 8 #[.int .u8 f, .agg #[.int .u8 m, .bool t], .agg #[.int .u64 (hiOf (a)), .int .u64 (loOf (a))], .bool ng] w fun e w' => e = .returned (.bool true) ∧ Below w.heap.size w w' := by
  have G := lH (goes21_any A)
  have MK := M.known m um.1 um.2
  have PL := plain21N C D f a uf a0 a1
  by_cases ca : clsF f a = 1 ∨ clsF f a = 2
  · rw [decide_eq_true ca] at PL
    have hf : f < 4 := by apply Classical.byContradiction; intro k; unfold clsF at ca; rw [if_neg k] at ca; omega
    by_cases hm : m < 5
    · rw [decide_eq_true hm] at MK
      have OA := D.of f a uf.1 uf.2
      rw [Int.emod_eq_of_lt a0 a1] at OA
      obtain ⟨z0, z1⟩ := make_full uf.1 (f := f) ng 0 0
      obtain ⟨i0, i1⟩ : 0 ≤ infF f ng ∧ infF f ng < full := make_full uf.1 (f := f) ng (2 * fE f + 1) 0
      have nz := nought_cls uf.1 hf ng
      have ni := inf_cls uf.1 hf ng
      obtain ⟨⟨e1, f1⟩, ⟨e2, f2⟩, ⟨e3, f3⟩, ⟨e4, f4⟩, f5, f6, ⟨e7, f7⟩, ⟨e8, f8⟩⟩ := dv_special (m := m) uf.1 hf hm a0 a1 ca z0 z1 nz.1 nz.2 i0 i1 ni.1 ni.2 _ rfl
      have X1 := A.div f m t a (makeF f ng 0 0) uf.1 uf.2 um.1 um.2 a0 a1 z0 z1
      have X2 := A.div f m t (makeF f ng 0 0) a uf.1 uf.2 um.1 um.2 z0 z1 a0 a1
      have X3 := A.div f m t a (infF f ng) uf.1 uf.2 um.1 um.2 a0 a1 i0 i1
      have X4 := A.div f m t (infF f ng) a uf.1 uf.2 um.1 um.2 i0 i1 a0 a1
      have X5 := A.div f m t (makeF f ng 0 0) (makeF f ng 0 0) uf.1 uf.2 um.1 um.2 z0 z1 z0 z1
      have X6 := A.div f m t (infF f ng) (infF f ng) uf.1 uf.2 um.1 um.2 i0 i1 i0 i1
      have X7 := A.div f m t (infF f ng) (makeF f ng 0 0) uf.1 uf.2 um.1 um.2 i0 i1 z0 z1
      have X8 := A.div f m t (makeF f ng 0 0) (infF f ng) uf.1 uf.2 um.1 um.2 z0 z1 i0 i1
      rw [e1, f1 t] at X1
      rw [e2, f2 t] at X2
      rw [e3, f3 t] at X3
      rw [e4, f4 t] at X4
      rw [f5 t] at X5
      rw [f6 t] at X6
      rw [e7, f7 t] at X7
      rw [e8, f8 t] at X8
      exact spec21_main f m _ _ _ _ _ _ _ _ _ _ _ _ _ _ _ _ _ _ _ t ng _ (lH PL) (lH MK) (lH OA) (lH (C.nought f ng uf.1 uf.2)) (lH (C.inf f ng uf.1 uf.2)) (lH (C.nought f (ng != negF f a) uf.1 uf.2)) (lH (C.inf f (ng != negF f a) uf.1 uf.2)) (lH X1) (lH X2) (lH X3) (lH X4) (lH X5) (lH X6) (lH X7) (lH (C.inf f false uf.1 uf.2)) (lH X8) (lH (C.nought f false uf.1 uf.2)) G w ft
    · rw [decide_eq_false hm] at MK
      exact spec21_no2 f m _ _ t ng (lH PL) (lH MK) G w ft
  · rw [decide_eq_false ca] at PL
    exact spec21_no1 f m _ _ t ng (lH PL) G w ft
theorem spec21_law (C : FormOK) (D : ClassOK) (M : ModeOK) (A : DivOK) (f m : Int) (t : Bool) (ah al : Int) (ng : Bool) (uf : 0 ≤ f ∧ f ≤ 255) (um : 0 ≤ m ∧ m ≤ 255) (uah : U64 ah) (ual : U64 al) (w : World) (ft : FTab w) : Calls Tryz.prog 8 #[.int .u8 f, .agg #[.int .u8 m, .bool t], .agg #[.int .u64 ah, .int .u64 al], .bool ng] w fun e w' => e = .returned (.bool true) ∧ Below w.heap.size w w' := by
  have hva := val_range uah ual
  have h := spec21_law_n C D M A f m t (val ah al) ng hva.1 hva.2 uf um w ft
  rw [(hl_val uah ual).1, (hl_val uah ual).2] at h
  exact h
end Go.Proofs.YtnlmceafleeaiaaGreatDoor
