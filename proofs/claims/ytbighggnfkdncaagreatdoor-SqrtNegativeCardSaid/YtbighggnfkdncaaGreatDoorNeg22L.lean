import Derived.Test.YtbighggnfkdncaaGreatDoorNeg22
import Derived.Test.YtbighggnfkdncaaGreatDoorGxC
set_option maxHeartbeats 1000000
set_option linter.unusedVariables false
set_option linter.unusedSimpArgs false
set_option maxRecDepth 100000
namespace Go.Proofs.YtbighggnfkdncaaGreatDoor
open Go.RowKit
attribute [local go_sem ↓] Go.wp_at_zero Go.wp_at_succ
theorem neg22_law_n (C : FormOK) (D : ClassOK) (M : ModeOK) (A : SqrtOK) (f m : Int) (t : Bool) (a : Int) (a0 : 0 ≤ a) (a1 : a < full) (uf : 0 ≤ f ∧ f ≤ 255) (um : 0 ≤ m ∧ m ≤ 255) (w : World) (ft : FTab w) : Calls Tryz.prog 8 #[.int .u8 f, .agg #[.int .u8 m, .bool t], .agg #[.int .u64 (hiOf (a)), .int .u64 (loOf (a))]] w fun e w' => e = .returned (.bool true) ∧ Below w.heap.size w w' := by
  have G := lH (goes22_any A)
  have K := C.known f uf.1 uf.2
  have MK := M.known m um.1 um.2
  have X := A.sqrt f m t a uf.1 uf.2 um.1 um.2 a0 a1
  have zz : ¬ (f < 4 ∧ m < 5) → sqB f m a = 0 ∧ sqFl f m t a = 0 := fun k => by
    unfold sqB sqFl; rw [if_neg k, if_neg k]; exact ⟨rfl, rfl⟩
  by_cases hf : f < 4
  · rw [decide_eq_true hf] at K
    by_cases h5 : m < 5
    · rw [decide_eq_true h5] at MK
      have OA := D.of f a uf.1 uf.2
      rw [Int.emod_eq_of_lt a0 a1] at OA
      have rc := cls_range f a
      by_cases c4 : 4 ≤ clsF f a
      · obtain ⟨b0, b1, n1, n2, fl⟩ := sq_nanV (m := m) uf.1 hf h5 a0 a1 c4 _ rfl
        have N1 := D.nan f (sqB f m a) uf.1 uf.2
        have N2 := D.sig f (sqB f m a) uf.1 uf.2
        rw [Int.emod_eq_of_lt b0 b1, n1] at N1
        rw [Int.emod_eq_of_lt b0 b1, n2] at N2
        have g2 : (sqFl f m t a == 1) = (clsF f a == 5) := by
          rw [fl t, Bool.eq_iff_iff, beq_iff_eq, beq_iff_eq]
          split <;> omega
        exact neg22_nan f m _ _ _ _ _ _ t _ (lH X) (lH K) (lH MK) (lH OA) (lH N1) (lH N2) G (decide_eq_true c4) g2 w ft
      · have d4 : decide (4 ≤ clsF f a) = false := decide_eq_false c4
        by_cases z : clsF f a = 0
        · obtain ⟨e1, e2⟩ := sq_zeroV (m := m) hf h5 a0 a1 z
          rw [e1, e2 t] at X
          have CU := C.cut f a uf.1 uf.2
          rw [Int.emod_eq_of_lt a0 a1] at CU
          exact neg22_zero f m _ _ _ _ _ 0 t _ (lH X) (lH K) (lH MK) (lH OA) (lH CU) G d4 (beq_iff_eq.2 z) w ft
        · have dz : (clsF f a == 0) = false := beq_eq_false_iff_ne.2 z
          cases ng : negF f a with
          | true =>
            obtain ⟨b0, b1, n1, fl⟩ := sq_negV (m := m) uf.1 hf h5 a0 a1 ng (by omega) (by omega) _ rfl
            have N1 := D.nan f (sqB f m a) uf.1 uf.2
            rw [Int.emod_eq_of_lt b0 b1, n1] at N1
            rw [fl t] at X
            rw [ng] at OA
            exact neg22_neg f m _ _ _ _ _ 1 t _ (lH X) (lH K) (lH MK) (lH OA) (lH N1) G d4 dz rfl w ft
          | false =>
            obtain ⟨b0, b1, n1, fl⟩ := sq_posV (m := m) uf.1 hf h5 a0 a1 ng (by omega) (by omega) _ rfl
            have N1 := D.nan f (sqB f m a) uf.1 uf.2
            rw [Int.emod_eq_of_lt b0 b1, n1] at N1
            rw [ng] at OA
            exact neg22_pos f m _ _ _ _ _ _ t _ (lH X) (lH K) (lH MK) (lH OA) (lH N1) G d4 dz rfl (fl_and1 (fl t)).1 w ft
    · rw [decide_eq_false h5] at MK
      obtain ⟨z1, z2⟩ := zz (fun k => h5 k.2)
      rw [z1, z2] at X
      exact neg22_no2 f m _ _ t (lH X) (lH K) (lH MK) G w ft
  · rw [decide_eq_false hf] at K
    obtain ⟨z1, z2⟩ := zz (fun k => hf k.1)
    rw [z1, z2] at X
    exact neg22_no1 f m _ _ t (lH X) (lH K) G w ft
theorem neg22_law (C : FormOK) (D : ClassOK) (M : ModeOK) (A : SqrtOK) (f m : Int) (t : Bool) (ah al : Int) (uf : 0 ≤ f ∧ f ≤ 255) (um : 0 ≤ m ∧ m ≤ 255) (uah : U64 ah) (ual : U64 al) (w : World) (ft : FTab w) : Calls Tryz.prog 8 #[.int .u8 f, .agg #[.int .u8 m, .bool t], .agg #[.int .u64 ah, .int .u64 al]] w fun e w' => e = .returned (.bool true) ∧ Below w.heap.size w w' := by
  have hva := val_range uah ual
  have h := neg22_law_n C D M A f m t (val ah al) hva.1 hva.2 uf um w ft
  rw [(hl_val uah ual).1, (hl_val uah ual).2] at h
  exact h
end Go.Proofs.YtbighggnfkdncaaGreatDoor
