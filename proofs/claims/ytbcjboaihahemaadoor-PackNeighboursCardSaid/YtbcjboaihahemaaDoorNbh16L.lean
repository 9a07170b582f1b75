/-
  PackNeighbours.
-/
import Derived.Test.YtbcjboaihahemaaDoorNbh16
import Derived.Test.YtbcjboaihahemaaDoorGoes16L
set_option linter.unusedVariables false
set_option linter.unusedSimpArgs false
set_option maxRecDepth 100000
namespace Go.Proofs.YtbcjboaihahemaaDoor
open Go.RowKit
attribute [local go_sem ↓] Go.wp_at_zero Go.wp_at_succ

theorem nbh16_law_n (C : FormOK) (O : PackOK) (f m ex x : Int) (x0 : 0 ≤ x) (x1 : x < wfull) (uf : 0 ≤ f ∧ f ≤ 255) (um : 0 ≤ m ∧ m ≤ 255) (ue : -9223372036854775808 ≤ ex ∧ ex ≤ 9223372036854775807) (w : World) (ft : FTab w) : Calls Tryd.prog 3 #[.int .u8 f, .int .u8 m, .int .i64 ex, .agg #[.int .u64 (wd0 (x)), .int .u64 (wd1 (x)), .int .u64 (wd2 (x)), .int .u64 (wd3 (x))]] w fun e w' => e = .returned (.bool true) ∧ Below w.heap.size w w' := by
  have G := Lib.hid (goes16_any O)
  have K := C.known f uf.1 uf.2
  have Z := zeroW x
  rw [Int.emod_eq_of_lt x0 x1] at Z
  by_cases hf : f < 4
  · rw [show decide (f < 4) = true from decide_eq_true hf] at K
    by_cases z : x = 0
    · rw [show (x == 0) = true by simp [z]] at Z
      exact nbh16_nz f m ex _ _ _ _ (Lib.hid K) (Lib.hid Z) G w ft
    · rw [show (x == 0) = false by simp [z]] at Z
      obtain ⟨mm, hm⟩ : ∃ mm, m % 5 = mm := ⟨_, rfl⟩
      have mt : m.tmod 5 = mm := by rw [Int.tmod_eq_emod_of_nonneg um.1, hm]
      have m5 : 0 ≤ mm ∧ mm < 5 := by omega
      have R2 := O.round f 2 false false ex x uf.1 uf.2 (by decide) (by decide) ue.1 ue.2 x0 x1
      have R3 := O.round f 3 false false ex x uf.1 uf.2 (by decide) (by decide) ue.1 ue.2 x0 x1
      have RM := O.round f mm false false ex x uf.1 uf.2 m5.1 (by omega) ue.1 ue.2 x0 x1
      rw [(pk_num hf (by decide) z).1, (pk_num hf (by decide) z).2] at R2 R3
      rw [(pk_num hf m5.2 z).1, (pk_num hf m5.2 z).2] at RM
      obtain ⟨s0, s1⟩ := pkS_range (show 0 < x by omega) x1
      generalize pkE ex x = e at *
      generalize pkS x = s at *
      have dr := num_range (f := f) (m := 3) (e := e) uf.1 hf (by decide) s0 s1
      have il := inf_full uf.1 hf
      have p127 : (2 : Int) ^ 127 + 1 < full := by decide +kernel
      have N := neigh16 (f := f) (m := mm) (e := e) uf.1 hf m5.1 m5.2 s0 s1 _ _ _ _ _ _ rfl rfl rfl rfl rfl rfl
      generalize numB f 2 false e s = u at *
      generalize numB f 3 false e s = d at *
      generalize numB f mm false e s = r at *
      generalize numFl f 2 false false e s = fu at *
      generalize numFl f 3 false false e s = fd at *
      generalize numFl f mm false false e s = fr at *
      have A := addB d 1
      rw [show hiOf 1 = 0 from rfl, show loOf 1 = 1 from rfl] at A
      rcases N with ⟨rfl, rfl, rfl, rfl, rfl⟩ | ⟨rfl, N⟩
      · exact nbh16_0_0_0_u f m mm ex _ _ _ _ _ _ _ _ _ (Lib.hid K) (Lib.hid Z) (Lib.hid R2) (Lib.hid R3) (Lib.hid RM) (Lib.hid A) G mt hm w ft
      · have nq : ∀ w, (binOp .neq 31 (.agg #[.int .u64 (hiOf (d)), .int .u64 (loOf (d))]) (.agg #[.int .u64 (hiOf (d + 1)), .int .u64 (loOf (d + 1))])).run Tryd.prog w = .ok (.bool true) w := nb16 _ _ _ _ (fun h => by
          have := (hl_inj (x := d) (y := d + 1) (by omega) (by omega) (by omega) (by omega)).1 ⟨h.2, h.1⟩
          omega)
        rcases N with ⟨c, hc, rfl, rfl, rfl, hr⟩ | ⟨rfl, rfl, ⟨rfl, rfl⟩ | ⟨rfl, rfl⟩⟩
        · rcases hc with rfl | rfl | rfl <;> rcases hr with rfl | rfl
          · exact nbh16_16_16_16_u f m mm ex _ _ _ _ _ _ _ _ _ (Lib.hid K) (Lib.hid Z) (Lib.hid R2) (Lib.hid R3) (Lib.hid RM) (Lib.hid A) G mt hm w ft
          · exact nbh16_16_16_16_d f m mm ex _ _ _ _ _ _ _ _ _ (Lib.hid K) (Lib.hid Z) (Lib.hid R2) (Lib.hid R3) (Lib.hid RM) (Lib.hid A) G mt hm nq w ft
          · exact nbh16_24_24_24_u f m mm ex _ _ _ _ _ _ _ _ _ (Lib.hid K) (Lib.hid Z) (Lib.hid R2) (Lib.hid R3) (Lib.hid RM) (Lib.hid A) G mt hm w ft
          · exact nbh16_24_24_24_d f m mm ex _ _ _ _ _ _ _ _ _ (Lib.hid K) (Lib.hid Z) (Lib.hid R2) (Lib.hid R3) (Lib.hid RM) (Lib.hid A) G mt hm nq w ft
          · exact nbh16_20_20_20_u f m mm ex _ _ _ _ _ _ _ _ _ (Lib.hid K) (Lib.hid Z) (Lib.hid R2) (Lib.hid R3) (Lib.hid RM) (Lib.hid A) G mt hm w ft
          · exact nbh16_20_20_20_d f m mm ex _ _ _ _ _ _ _ _ _ (Lib.hid K) (Lib.hid Z) (Lib.hid R2) (Lib.hid R3) (Lib.hid RM) (Lib.hid A) G mt hm nq w ft
        · exact nbh16_20_16_20_u f m mm ex _ _ _ _ _ _ _ _ _ (Lib.hid K) (Lib.hid Z) (Lib.hid R2) (Lib.hid R3) (Lib.hid RM) (Lib.hid A) G mt hm w ft
        · exact nbh16_20_16_16_d f m mm ex _ _ _ _ _ _ _ _ _ (Lib.hid K) (Lib.hid Z) (Lib.hid R2) (Lib.hid R3) (Lib.hid RM) (Lib.hid A) G mt hm nq w ft
  · rw [show decide (f < 4) = false from decide_eq_false hf] at K
    exact nbh16_nf f m ex _ _ _ _ (Lib.hid K) G w ft
theorem nbh16_law (C : FormOK) (O : PackOK) (f m ex x0 x1 x2 x3 : Int) (uf : 0 ≤ f ∧ f ≤ 255) (um : 0 ≤ m ∧ m ≤ 255) (ue : -9223372036854775808 ≤ ex ∧ ex ≤ 9223372036854775807) (ux0 : U64 x0) (ux1 : U64 x1) (ux2 : U64 x2) (ux3 : U64 x3) (w : World) (ft : FTab w) : Calls Tryd.prog 3 #[.int .u8 f, .int .u8 m, .int .i64 ex, .agg #[.int .u64 x0, .int .u64 x1, .int .u64 x2, .int .u64 x3]] w fun e w' => e = .returned (.bool true) ∧ Below w.heap.size w w' := by
  obtain ⟨h0, h1⟩ := wval_range ux0 ux1 ux2 ux3
  obtain ⟨e0, e1, e2, e3⟩ := wd_wval ux0 ux1 ux2 ux3
  have h := nbh16_law_n C O f m ex (wval x0 x1 x2 x3) h0 h1 uf um ue w ft
  rw [e0, e1, e2, e3] at h
  exact h


end Go.Proofs.YtbcjboaihahemaaDoor
