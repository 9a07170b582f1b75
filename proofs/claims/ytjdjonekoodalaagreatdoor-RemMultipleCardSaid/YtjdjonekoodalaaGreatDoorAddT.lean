import Derived.Test.YtjdjonekoodalaaGreatDoorGtE
set_option maxHeartbeats 4000000
set_option linter.unusedVariables false
set_option linter.unusedSimpArgs false
set_option maxRecDepth 100000
namespace Go.Proofs.YtjdjonekoodalaaGreatDoor
open Go.RowKit
attribute [local go_sem ↓] Go.wp_at_zero Go.wp_at_succ
theorem ad_nought_same (m : Int) (t a b : Bool)
     (g1 : (a == b) = true) (w : World) :
    Ca 52 #[.agg #[.int .u8 m, .bool t], .bool a, .bool b] w (.bool a) := by
  simp only [Ca] at *
  go_enter Tryz.func52, Tryz.ntmps52
  go_wp2_with fail
  go_ret
  exact ⟨rfl, (bA bR _)⟩
theorem ad_nought_diff (m : Int) (t a b : Bool)
     (g1 : (a == b) = false) (w : World) :
    Ca 52 #[.agg #[.int .u8 m, .bool t], .bool a, .bool b] w (.bool ((m == 3))) := by
  simp only [Ca] at *
  go_enter Tryz.func52, Tryz.ntmps52
  go_wp2_with fail
  go_ret
  exact ⟨rfl, (bA bR _)⟩
theorem ad_turn (f ex bh bl qh ql rh rl : Int) (ng : Bool)
    (h0 : Hid (∀ w, FTab w → Ca 45 #[.int .u8 f, U2 bh bl] w (.tuple #[.bool ng, .int .i64 ex, U2 qh ql])))
    (h1 : Hid (∀ w, FTab w → Ca 25 #[.int .u8 f, .bool (!ng), .int .i64 ex, U2 qh ql] w (U2 rh rl))) (w : World) (ft : FTab w) :
    Ca 23 #[.int .u8 f, U2 bh bl] w (U2 rh rl) := by
  simp only [Ca, U2] at *
  go_enter Tryz.func23, Tryz.ntmps23
  go_wp2_with fail
  refine vM (h0.out _ (ft.later (bA (bA bR _) _))) fun w1 b1 => ?_
  have gX1 : w.heap.size ≤ w.heap.size + 1 := by omega
  have X1 := (HB.newAt (b := w.heap.size + 1) (by simp) _ _).later b1
  go_wp2_with fail
  refine vM (h1.out _ (ft.later (bA (bC (bA (bA bR _) _) b1) _))) fun w2 b2 => ?_
  replace X1 := X1.later (bC (bA bR _) b2)
  have oX1 := X1.o
  go_wp2_with fail
  refine bodyPost_ret (v := .agg #[.int .u64 rh, .int .u64 rl]) ?_ rfl ⟨rfl, (((bC (bC (bA (bA bR _) _) b1) (bC (bA bR _) b2)).setCell (p := ⟨w.heap.size + 1, 0, none⟩) gX1 _).setCell (p := ⟨w.heap.size + 1, 1, none⟩) gX1 _)⟩
  simp [results, Tryz.results23, go_sem, oX1]
theorem noM_any (m : Int) (t a b : Bool) (w : World) : Calls Tryz.prog 52 #[.agg #[.int .u8 m, .bool t], .bool a, .bool b] w fun e w' => e = .returned (.bool (noM m a b)) ∧ Below w.heap.size w w' := by
  unfold noM
  by_cases h : a = b
  · rw [if_pos h]; exact ad_nought_same m t a b (by simp [h]) w
  · rw [if_neg h]; exact ad_nought_diff m t a b (by simp [h]) w
theorem wd_up128 {s : Int} (h0 : 0 ≤ s) (h1 : s < full) : wd0 (s * full) = 0 ∧ wd1 (s * full) = 0 ∧ wd2 (s * full) = loOf s ∧ wd3 (s * full) = hiOf s := by
  unfold wd0 wd1 wd2 wd3 loOf hiOf full at *; omega
theorem turnN (f b : Int) (f0 : 0 ≤ f) (f1 : f ≤ 255) (b0 : 0 ≤ b) (b1 : b < full) (w : World) (ft : FTab w) : Calls Tryz.prog 23 #[.int .u8 f, .agg #[.int .u64 (hiOf (b)), .int .u64 (loOf (b))]] w fun e w' => e = .returned (.agg #[.int .u64 (hiOf (turnF f b)), .int .u64 (loOf (turnF f b))]) ∧ Below w.heap.size w w' := by
  have S := formOK.split f b f0 f1
  rw [Int.emod_eq_of_lt b0 b1] at S
  have er := exp_i64 (f := f) (b := b) f0 b0
  have fr := frac_low (f := f) (b := b) f0
  have Mk := formOK.make f (!negF f b) (expF f b) (fracF f b) f0 f1 er.1 er.2
  rw [Int.emod_eq_of_lt fr.1 fr.2] at Mk
  exact ad_turn f _ _ _ _ _ _ _ _ (lH S) (lH Mk) w ft
structure TurnOK : Prop where
  turn : ∀ f b, 0 ≤ f → f ≤ 255 → 0 ≤ b → b < full → ∀ w, FTab w → Calls Tryz.prog 23 #[.int .u8 f, .agg #[.int .u64 (hiOf (b)), .int .u64 (loOf (b))]] w fun e w' => e = .returned (.agg #[.int .u64 (hiOf (turnF f b)), .int .u64 (loOf (turnF f b))]) ∧ Below w.heap.size w w'
theorem turnOK : TurnOK where
  turn := fun f b f0 f1 b0 b1 w ft => turnN f b f0 f1 b0 b1 w ft
end Go.Proofs.YtjdjonekoodalaaGreatDoor
