/-
  The document's number, and its rounding.
-/
import Derived.Test.YtbcjboaihahemaaGreatDoorValue16
import Derived.Test.YtbcjboaihahemaaGreatDoorRef16
set_option linter.unusedVariables false
set_option linter.unusedSimpArgs false
set_option maxRecDepth 100000
namespace Go.Proofs.YtbcjboaihahemaaGreatDoor
open Go.RowKit
attribute [local go_sem ↓] Go.wp_at_zero Go.wp_at_succ

theorem value16 (ex x : Int) (ng : Bool) (x0 : 0 ≤ x) (x1 : x < wfull) (w : World) : Calls Tryz.prog 8 #[.bool ng, .int .i64 ex, .agg #[.int .u64 (wd0 (x)), .int .u64 (wd1 (x)), .int .u64 (wd2 (x)), .int .u64 (wd3 (x))]] w fun e w' => ∃ v, e = .returned (.agg #[.bool ng, v, .int .i64 (clipE ex - 255), .bool false]) ∧ IsNum w' v x ∧ Below w.heap.size w w' := by
  have WN := wideN x
  rw [Int.emod_eq_of_lt x0 x1] at WN
  have cr := clip_range ex
  have c1 : (if (if (1099511627776 : Int) < ex then 1099511627776 else ex) > (-1099511627776) then (if (1099511627776 : Int) < ex then 1099511627776 else ex) else (-1099511627776)) = clipE ex := by
    unfold clipE; repeat' split
    all_goals omega
  exact value16_core ex _ (clipE ex) (clipE ex - 255) x _ _ _ _ ng (Lib.hid WN) rfl rfl c1 c1 (IntWalk.i64_in _ (by omega)) w
theorem blen16 {x : Int} (h0 : 0 ≤ x) (h1 : x < wfull) : blen x ≤ 100000 := by have := blen_w h0 h1; omega
/-- The document's Round of a number of 256 bits. -/
theorem ref16_pk (f m ex x : Int) (t ng : Bool) (f0 : 0 ≤ f) (f1 : f ≤ 255) (m0 : 0 ≤ m) (m1 : m ≤ 255) (x0 : 0 ≤ x) (x1 : x < wfull) (w : World) (v : Value) (nv : IsNum w v x) : Calls Tryz.prog 7 #[.int .u8 f, .agg #[.int .u8 m, .bool t], .agg #[.bool ng, v, .int .i64 (clipE ex - 255), .bool false]] w fun e w' => e = .returned (.agg #[.int .u64 (hiOf (pkB f m ng ex x)), .int .u64 (loOf (pkB f m ng ex x)), .int .u8 (pkFl f m t ng ex x)]) ∧ Below w.heap.size w w' := by
  have cr := clip_range ex
  have h := ref16_round f m t ng x (clipE ex - 255) false v f0 f1 m0 m1 (.inr rfl) (blen16 x0 x1) (by omega) (by omega) w nv
  obtain ⟨b1, b2⟩ := dc_pk (f := f) (m := m) (exp := ex) (ng := ng) f0 x0 x1
  rw [b1, b2] at h
  exact h


end Go.Proofs.YtbcjboaihahemaaGreatDoor
