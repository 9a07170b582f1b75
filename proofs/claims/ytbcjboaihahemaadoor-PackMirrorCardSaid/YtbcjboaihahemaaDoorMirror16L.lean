/-
  PackMirror.
-/
import Derived.Test.YtbcjboaihahemaaDoorMirror16
import Derived.Test.YtbcjboaihahemaaDoorGoes16L
set_option linter.unusedVariables false
set_option linter.unusedSimpArgs false
set_option maxRecDepth 100000
namespace Go.Proofs.YtbcjboaihahemaaDoor
open Go.RowKit
attribute [local go_sem ↓] Go.wp_at_zero Go.wp_at_succ

theorem mirror16_law_n (C : FormOK) (M : ModeOK) (O : PackOK) (f m : Int) (t : Bool) (ex x : Int) (x0 : 0 ≤ x) (x1 : x < wfull) (uf : 0 ≤ f ∧ f ≤ 255) (um : 0 ≤ m ∧ m ≤ 255) (ue : -9223372036854775808 ≤ ex ∧ ex ≤ 9223372036854775807) (w : World) (ft : FTab w) : Calls Tryd.prog 5 #[.int .u8 f, .agg #[.int .u8 m, .bool t], .int .i64 ex, .agg #[.int .u64 (wd0 (x)), .int .u64 (wd1 (x)), .int .u64 (wd2 (x)), .int .u64 (wd3 (x))]] w fun e w' => e = .returned (.bool true) ∧ Below w.heap.size w w' := by
  have G := Lib.hid (goes16_any O)
  have K := C.known f uf.1 uf.2
  obtain ⟨v0, v1⟩ := mir_range um.1 um.2
  have mk : mirM m < 5 ↔ m < 5 := by have := mir_known m; rwa [decide_eq_decide] at this
  have R1 := O.round f m t false ex x uf.1 uf.2 um.1 um.2 ue.1 ue.2 x0 x1
  have R2 := O.round f (mirM m) t true ex x uf.1 uf.2 v0 v1 ue.1 ue.2 x0 x1
  have MM := Lib.hid (M.mirror m um.1 um.2)
  have MK := M.known (mirM m) v0 v1
  by_cases hf : f < 4
  · rw [show decide (f < 4) = true from decide_eq_true hf] at K
    by_cases hm : m < 5
    · rw [show decide (mirM m < 5) = true from decide_eq_true (mk.2 hm)] at MK
      obtain ⟨b1, b2⟩ := pk_mir (f := f) (m := m) (exp := ex) (x := x) uf.1 hf hm
      have N := C.nought f true uf.1 uf.2
      rw [nought_val uf.1 hf, if_pos rfl] at N
      have A := addB (pkB f m false ex x) (2 ^ (fW f - 1))
      rw [← b1] at A
      rw [b2] at R2
      exact mirror16_yes f m _ ex _ _ _ _ _ _ _ _ _ _ _ t _ (Lib.hid R1) MM (Lib.hid R2) (Lib.hid K) (Lib.hid MK) (Lib.hid N) (Lib.hid A) G w ft
    · rw [show decide (mirM m < 5) = false from decide_eq_false (fun h => hm (mk.1 h))] at MK
      rw [(pk_none (fun h => hm h.2) _ _ _).1, (pk_none (fun h => hm h.2) _ _ _).2, hl_zero.1, hl_zero.2] at R1
      rw [(pk_none (fun h => hm (mk.1 h.2)) _ _ _).1, (pk_none (fun h => hm (mk.1 h.2)) _ _ _).2, hl_zero.1, hl_zero.2] at R2
      exact mirror16_nm f m _ ex _ _ _ _ t (Lib.hid R1) MM (Lib.hid R2) (Lib.hid K) (Lib.hid MK) G w ft
  · rw [show decide (f < 4) = false from decide_eq_false hf] at K
    rw [(pk_none (fun h => hf h.1) _ _ _).1, (pk_none (fun h => hf h.1) _ _ _).2, hl_zero.1, hl_zero.2] at R1 R2
    exact mirror16_nf f m _ ex _ _ _ _ t (Lib.hid R1) MM (Lib.hid R2) (Lib.hid K) G w ft
theorem mirror16_law (C : FormOK) (M : ModeOK) (O : PackOK) (f m : Int) (t : Bool) (ex x0 x1 x2 x3 : Int) (uf : 0 ≤ f ∧ f ≤ 255) (um : 0 ≤ m ∧ m ≤ 255) (ue : -9223372036854775808 ≤ ex ∧ ex ≤ 9223372036854775807) (ux0 : U64 x0) (ux1 : U64 x1) (ux2 : U64 x2) (ux3 : U64 x3) (w : World) (ft : FTab w) : Calls Tryd.prog 5 #[.int .u8 f, .agg #[.int .u8 m, .bool t], .int .i64 ex, .agg #[.int .u64 x0, .int .u64 x1, .int .u64 x2, .int .u64 x3]] w fun e w' => e = .returned (.bool true) ∧ Below w.heap.size w w' := by
  obtain ⟨h0, h1⟩ := wval_range ux0 ux1 ux2 ux3
  obtain ⟨e0, e1, e2, e3⟩ := wd_wval ux0 ux1 ux2 ux3
  have h := mirror16_law_n C M O f m t ex (wval x0 x1 x2 x3) h0 h1 uf um ue w ft
  rw [e0, e1, e2, e3] at h
  exact h


end Go.Proofs.YtbcjboaihahemaaDoor
