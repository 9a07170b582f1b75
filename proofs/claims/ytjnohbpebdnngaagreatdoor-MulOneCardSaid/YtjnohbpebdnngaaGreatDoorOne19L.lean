/-
  MulOne.
-/
import Derived.Test.YtjnohbpebdnngaaGreatDoorOne19
import Derived.Test.YtjnohbpebdnngaaGreatDoorGoes19L
import Derived.Test.YtjnohbpebdnngaaGreatDoorMul19L
set_option linter.unusedVariables false
set_option linter.unusedSimpArgs false
set_option maxRecDepth 100000
namespace Go.Proofs.YtjnohbpebdnngaaGreatDoor
open Go.RowKit
attribute [local go_sem ↓] Go.wp_at_zero Go.wp_at_succ

set_option maxHeartbeats 1000000 in
theorem one19_law_n (C : FormOK) (D : ClassOK) (M : ModeOK) (S : AddOK) (A : MulOK) (f m : Int) (t : Bool) (a : Int) (a0 : 0 ≤ a) (a1 : a < full) (uf : 0 ≤ f ∧ f ≤ 255) (um : 0 ≤ m ∧ m ≤ 255) (w : World) (ft : FTab w) : Calls Tryz.prog 7 #[.int .u8 f, .agg #[.int .u8 m, .bool t], .agg #[.int .u64 (hiOf (a)), .int .u64 (loOf (a))]] w fun e w' => e = .returned (.bool true) ∧ Below w.heap.size w w' := by
  have G := Lib.hid (goes19_any A)
  have K := C.known f uf.1 uf.2
  have MK := M.known m um.1 um.2
  have NA := D.nan f a uf.1 uf.2
  rw [Int.emod_eq_of_lt a0 a1] at NA
  by_cases hf : f < 4
  · rw [decide_eq_true hf] at K
    by_cases hm : m < 5
    · rw [decide_eq_true hm] at MK
      cases hn : nanF f a with
      | true =>
        rw [hn] at NA
        exact one19_no3 f m _ _ t (Lib.hid K) (Lib.hid MK) (Lib.hid NA) G w ft
      | false =>
        rw [hn] at NA
        obtain ⟨p0, p1, p2, p3, p4, p5, p6, p7, p8⟩ := f_nums uf.1 hf
        have EM := C.emax f uf.1 uf.2
        have MP := C.make f false (fE f) 0 uf.1 uf.2 (by omega) (by omega)
        have MQ := C.make f false (fE f + 1) 0 uf.1 uf.2 (by omega) (by omega)
        rw [show (0 : Int) % full = 0 by decide, show hiOf 0 = 0 by decide, show loOf 0 = 0 by decide] at MP MQ
        obtain ⟨o0, o1, oB, oF⟩ := ml_one (m := m) uf.1 hf hm a0 a1 hn _ rfl
        obtain ⟨t0, t1, tB, tF⟩ := ml_two (m := m) uf.1 hf hm a0 a1 hn _ rfl
        have X1 := A.mul f m t a (makeF f false (fE f) 0) uf.1 uf.2 um.1 um.2 a0 a1 o0 o1
        have X2 := A.mul f m t a (makeF f false (fE f + 1) 0) uf.1 uf.2 um.1 um.2 a0 a1 t0 t1
        have X3 := S.add f m t a a uf.1 uf.2 um.1 um.2 a0 a1 a0 a1
        have CA := C.cut f a uf.1 uf.2
        rw [Int.emod_eq_of_lt a0 a1] at CA
        rw [oB, oF] at X1
        rw [tB, tF] at X2
        exact one19_main f m _ _ _ _ _ _ _ _ _ _ _ _ _ t (Lib.hid K) (Lib.hid MK) (Lib.hid NA) (Lib.hid EM) (Lib.hid MP) (Lib.hid MQ) (Lib.hid X1) (Lib.hid CA) (Lib.hid X2) (Lib.hid X3) G (IntWalk.i64_in _ (by omega)) (by unfold wrap64; omega) w ft
    · rw [decide_eq_false hm] at MK
      exact one19_no2 f m _ _ t (Lib.hid K) (Lib.hid MK) G w ft
  · rw [decide_eq_false hf] at K
    exact one19_no1 f m _ _ t (Lib.hid K) G w ft
theorem one19_law (C : FormOK) (D : ClassOK) (M : ModeOK) (S : AddOK) (A : MulOK) (f m : Int) (t : Bool) (ah al : Int) (uf : 0 ≤ f ∧ f ≤ 255) (um : 0 ≤ m ∧ m ≤ 255) (uah : U64 ah) (ual : U64 al) (w : World) (ft : FTab w) : Calls Tryz.prog 7 #[.int .u8 f, .agg #[.int .u8 m, .bool t], .agg #[.int .u64 ah, .int .u64 al]] w fun e w' => e = .returned (.bool true) ∧ Below w.heap.size w w' := by
  have hva := val_range uah ual
  have h := one19_law_n C D M S A f m t (val ah al) hva.1 hva.2 uf um w ft
  rw [(hl_val uah ual).1, (hl_val uah ual).2] at h
  exact h


end Go.Proofs.YtjnohbpebdnngaaGreatDoor
