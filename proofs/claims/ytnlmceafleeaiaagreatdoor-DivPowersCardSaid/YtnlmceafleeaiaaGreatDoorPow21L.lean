import Derived.Test.YtnlmceafleeaiaaGreatDoorPow21
import Derived.Test.YtnlmceafleeaiaaGreatDoorGoes21L
import Derived.Test.YtnlmceafleeaiaaGreatDoorDiv21L
import Derived.Test.YtnlmceafleeaiaaGreatDoorRest0
set_option maxHeartbeats 1000000
set_option linter.unusedVariables false
set_option linter.unusedSimpArgs false
set_option maxRecDepth 100000
namespace Go.Proofs.YtnlmceafleeaiaaGreatDoor
open Go.RowKit
attribute [local go_sem ↓] Go.wp_at_zero Go.wp_at_succ
theorem pow21_law_n (C : FormOK) (D : ClassOK) (M : ModeOK) (P : MulOK) (A : DivOK) (f m : Int) (t : Bool) (a b : Int) (a0 : 0 ≤ a) (a1 : a < full) (uf : 0 ≤ f ∧ f ≤ 255) (um : 0 ≤ m ∧ m ≤ 255) (ub : -32768 ≤ b ∧ b ≤ 32767) (w : World) (ft : FTab w) : Calls Tryz.prog 6 #[.int .u8 f, .agg #[.int .u8 m, .bool t], .agg #[.int .u64 (hiOf (a)), .int .u64 (loOf (a))], .int .i16 b] w fun e w' => e = .returned (.bool true) ∧ Below w.heap.size w w' := by
  have G := lH (goes21_any A)
  have K := C.known f uf.1 uf.2
  have MK := M.known m um.1 um.2
  by_cases hf : f < 4
  · rw [decide_eq_true hf] at K
    by_cases hm : m < 5
    · rw [decide_eq_true hm] at MK
      obtain ⟨p0, p1, p2, p3, p4, p5, p6, p7, p8⟩ := f_nums uf.1 hf
      have NC := D.nan f a uf.1 uf.2
      rw [Int.emod_eq_of_lt a0 a1] at NC
      cases hn : nanF f a with
      | true =>
        rw [hn] at NC
        exact pow21_no3 f m _ _ b t (lH K) (lH MK) (lH NC) G w ft
      | false =>
      rw [hn] at NC
      have EM := C.emax f uf.1 uf.2
      have k0 := Int.lt_tmod_of_pos b (show 0 < (fE f : Int) by omega)
      have k1 := Int.tmod_lt_of_pos b (show 0 < (fE f : Int) by omega)
      obtain ⟨k, hk⟩ : ∃ k, b.tmod (fE f) = k := ⟨_, rfl⟩
      rw [hk] at k0 k1
      have MX := C.make f false (fE f + k) 0 uf.1 uf.2 (by omega) (by omega)
      rw [show (0 : Int) % full = 0 by decide, show hiOf 0 = 0 by decide, show loOf 0 = 0 by decide] at MX
      have MY := C.make f false (fE f - k) 0 uf.1 uf.2 (by omega) (by omega)
      rw [show (0 : Int) % full = 0 by decide, show hiOf 0 = 0 by decide, show loOf 0 = 0 by decide] at MY
      obtain ⟨x0, x1, y0, y1, e1, e2⟩ := dv_powers (m := m) uf.1 hf hm a0 a1 hn k0 k1 _ _ rfl rfl
      have X := A.div f m t a (makeF f false (fE f + k) 0) uf.1 uf.2 um.1 um.2 a0 a1 x0 x1
      have Y := P.mul f m t a (makeF f false (fE f - k) 0) uf.1 uf.2 um.1 um.2 a0 a1 y0 y1
      rw [e1, e2 t] at X
      exact pow21_main f m _ _ b _ _ _ _ _ _ _ _ _ _ _ t (lH K) (lH MK) (lH NC) (lH EM) (lH MX) (lH MY) (lH X) (lH Y) G (IntWalk.i64_in _ (by omega)) hk (beq_eq_false_iff_ne.2 (by omega)) (by omega) (IntWalk.i64_in _ (by omega)) (by unfold wrap64; omega) (IntWalk.i64_in _ (by omega)) (by unfold wrap64; omega) (IntWalk.i64_in _ (by omega)) (by unfold wrap64; omega) w ft
    · rw [decide_eq_false hm] at MK
      exact pow21_no2 f m _ _ b t (lH K) (lH MK) G w ft
  · rw [decide_eq_false hf] at K
    exact pow21_no1 f m _ _ b t (lH K) G w ft
theorem pow21_law (C : FormOK) (D : ClassOK) (M : ModeOK) (P : MulOK) (A : DivOK) (f m : Int) (t : Bool) (ah al : Int) (b : Int) (uf : 0 ≤ f ∧ f ≤ 255) (um : 0 ≤ m ∧ m ≤ 255) (uah : U64 ah) (ual : U64 al) (ub : -32768 ≤ b ∧ b ≤ 32767) (w : World) (ft : FTab w) : Calls Tryz.prog 6 #[.int .u8 f, .agg #[.int .u8 m, .bool t], .agg #[.int .u64 ah, .int .u64 al], .int .i16 b] w fun e w' => e = .returned (.bool true) ∧ Below w.heap.size w w' := by
  have hva := val_range uah ual
  have h := pow21_law_n C D M P A f m t (val ah al) b hva.1 hva.2 uf um ub w ft
  rw [(hl_val uah ual).1, (hl_val uah ual).2] at h
  exact h
end Go.Proofs.YtnlmceafleeaiaaGreatDoor
