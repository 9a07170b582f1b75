/-
  MulSpecial.
-/
import Derived.Test.YtjnohbpebdnngaaGreatDoorSpecial19
import Derived.Test.YtjnohbpebdnngaaGreatDoorGoes19L
import Derived.Test.YtjnohbpebdnngaaGreatDoorMul19W
set_option linter.unusedVariables false
set_option linter.unusedSimpArgs false
set_option maxRecDepth 100000
namespace Go.Proofs.YtjnohbpebdnngaaGreatDoor
open Go.RowKit
attribute [local go_sem ↓] Go.wp_at_zero Go.wp_at_succ

theorem neqr19x (h l c : Int) : ∀ w, (binOp .neq 31 (.agg #[.int .u64 h, .int .u64 l, .int .u8 c]) (.agg #[.int .u64 h, .int .u64 l, .int .u8 c])).run Tryz.prog w = .ok (.bool false) w := neqr19 h l c
set_option maxHeartbeats 1000000 in
theorem special19_law_n (C : FormOK) (D : ClassOK) (M : ModeOK) (A : MulOK) (f m : Int) (t : Bool) (a : Int) (ng : Bool) (a0 : 0 ≤ a) (a1 : a < full) (uf : 0 ≤ f ∧ f ≤ 255) (um : 0 ≤ m ∧ m ≤ 255) (w : World) (ft : FTab w) : Calls Tryz.prog 9 #[.int .u8 f, .agg #[.int .u8 m, .bool t], .agg #[.int .u64 (hiOf (a)), .int .u64 (loOf (a))], .bool ng] w fun e w' => e = .returned (.bool true) ∧ Below w.heap.size w w' := by
  have G := Lib.hid (goes19_any A)
  have K := C.known f uf.1 uf.2
  have MK := M.known m um.1 um.2
  have NA := D.nan f a uf.1 uf.2
  rw [Int.emod_eq_of_lt a0 a1] at NA
  by_cases hf : f < 4
  · rw [decide_eq_true hf] at K
    by_cases hm : m < 5
    · rw [decide_eq_true hm] at MK
      cases hn : nanF f a with
      | true =>
        rw [hn] at NA
        exact special19_no3 f m _ _ t ng (Lib.hid K) (Lib.hid MK) (Lib.hid NA) G w ft
      | false =>
        rw [hn] at NA
        have OA := D.of f a uf.1 uf.2
        rw [Int.emod_eq_of_lt a0 a1] at OA
        have NZ := Lib.hid (C.nought f ng uf.1 uf.2)
        have NI := Lib.hid (C.inf f ng uf.1 uf.2)
        obtain ⟨z0, z1⟩ := make_full uf.1 (f := f) ng 0 0
        obtain ⟨i0, i1⟩ : 0 ≤ infF f ng ∧ infF f ng < full := make_full uf.1 (f := f) ng (2 * fE f + 1) 0
        obtain ⟨zc, zn⟩ := nought_cls uf.1 hf ng
        obtain ⟨ic, iN⟩ := inf_cls uf.1 hf ng
        have MZ := A.mul f m t a (makeF f ng 0 0) uf.1 uf.2 um.1 um.2 a0 a1 z0 z1
        have MI := A.mul f m t a (infF f ng) uf.1 uf.2 um.1 um.2 a0 a1 i0 i1
        obtain ⟨p1, p2⟩ := ml_nought (m := m) uf.1 hf hm a0 a1 z0 z1 zc hn
        obtain ⟨q1, q2⟩ := ml_by_inf (m := m) uf.1 hf hm a0 a1 i0 i1 ic hn
        have nx : ∀ x, negF f x = ng → mlN f a x = !(ng == negF f a) := fun x h => by unfold mlN; rw [h]; cases negF f a <;> cases ng <;> rfl
        rw [nx _ zn] at p2
        rw [nx _ iN] at q2
        have ND : nanF f (defF f) = true := by unfold nanF; rw [(def_cls uf.1 hf).1]; rfl
        have DN := D.nan f (defF f) uf.1 uf.2
        obtain ⟨d0, d1⟩ := def_full uf.1 (f := f)
        rw [Int.emod_eq_of_lt d0 d1, ND] at DN
        have NJ := Lib.hid (C.inf f (!(ng == negF f a)) uf.1 uf.2)
        have NN := Lib.hid (C.nought f (!(ng == negF f a)) uf.1 uf.2)
        by_cases c3 : clsF f a = 3
        · have g3 : (clsF f a == 3) = true := beq_iff_eq.2 c3
          rw [(p1 c3).1, (p1 c3).2] at MZ
          rw [(q2 (by omega)).1, (q2 (by omega)).2] at MI
          exact special19_main f m _ _ _ _ _ _ _ _ _ _ _ _ _ 0 0 _ _ t ng _ (Lib.hid K) (Lib.hid MK) (Lib.hid NA) (Lib.hid OA) NZ (Lib.hid MZ) NI (Lib.hid MI) (.inl ⟨g3, rfl, eqr19 _ _ _, Lib.hid DN, NJ, G⟩) w ft
        · have g3 : (clsF f a == 3) = false := beq_eq_false_iff_ne.2 c3
          rw [(p2 c3).1, (p2 c3).2] at MZ
          by_cases c0 : clsF f a = 0
          · have g0 : (clsF f a == 0) = true := beq_iff_eq.2 c0
            rw [(q1 c0).1, (q1 c0).2] at MI
            exact special19_main f m _ _ _ _ _ _ _ _ _ _ _ _ _ _ _ 0 0 t ng _ (Lib.hid K) (Lib.hid MK) (Lib.hid NA) (Lib.hid OA) NZ (Lib.hid MZ) NI (Lib.hid MI) (.inr (.inl ⟨g3, g0, rfl, neqr19x _ _ _, NN, Lib.hid DN, G⟩)) w ft
          · have g0 : (clsF f a == 0) = false := beq_eq_false_iff_ne.2 c0
            rw [(q2 c0).1, (q2 c0).2] at MI
            exact special19_main f m _ _ _ _ _ _ _ _ _ _ _ _ _ _ _ _ _ t ng _ (Lib.hid K) (Lib.hid MK) (Lib.hid NA) (Lib.hid OA) NZ (Lib.hid MZ) NI (Lib.hid MI) (.inr (.inr ⟨g3, g0, neqr19x _ _ _, eqr19 _ _ _, NN, NJ, G⟩)) w ft
    · rw [decide_eq_false hm] at MK
      exact special19_no2 f m _ _ t ng (Lib.hid K) (Lib.hid MK) G w ft
  · rw [decide_eq_false hf] at K
    exact special19_no1 f m _ _ t ng (Lib.hid K) G w ft
theorem special19_law (C : FormOK) (D : ClassOK) (M : ModeOK) (A : MulOK) (f m : Int) (t : Bool) (ah al : Int) (ng : Bool) (uf : 0 ≤ f ∧ f ≤ 255) (um : 0 ≤ m ∧ m ≤ 255) (uah : U64 ah) (ual : U64 al) (w : World) (ft : FTab w) : Calls Tryz.prog 9 #[.int .u8 f, .agg #[.int .u8 m, .bool t], .agg #[.int .u64 ah, .int .u64 al], .bool ng] w fun e w' => e = .returned (.bool true) ∧ Below w.heap.size w w' := by
  have hva := val_range uah ual
  have h := special19_law_n C D M A f m t (val ah al) ng hva.1 hva.2 uf um w ft
  rw [(hl_val uah ual).1, (hl_val uah ual).2] at h
  exact h


end Go.Proofs.YtjnohbpebdnngaaGreatDoor
