/-
  What package mag's functions answer, over numbers.
-/
import Derived.Test.YtjnohbpebdnngaaGreatDoorMagC
import Derived.Test.YtjnohbpebdnngaaGreatDoorGsB
set_option linter.unusedVariables false
set_option linter.unusedSimpArgs false
set_option maxRecDepth 100000
namespace Go.Proofs.YtjnohbpebdnngaaGreatDoor
open Go.RowKit
attribute [local go_sem ↓] Go.wp_at_zero Go.wp_at_succ

theorem clT_two (e : Int) : (if (1099511627776 : Int) < (if e < -1099511627776 then -1099511627776 else e) then 1099511627776 else (if e < -1099511627776 then -1099511627776 else e)) = clT e := by
  unfold clT; repeat' split
  all_goals omega
theorem mag_exp (e a b c d : Int) (w : World) : Calls Tryz.prog 209 #[.agg #[.int .i64 e, .int .u64 a, .int .u64 b, .int .u64 c, .int .u64 d]] w fun r w' => r = .returned (.int .i64 (clT e)) ∧ Below w.heap.size w w' :=
  mag_exponent e _ (clT e) a b c d rfl rfl (clT_two e) (clT_two e) w
theorem mag_al (e x l : Int) (x0 : 0 ≤ x) (x1 : x < wfull) (l0 : -1099511627776 ≤ l) (l1 : l ≤ 1099511627777) (w : World) : Calls Tryz.prog 198 #[.agg #[.int .i64 e, .int .u64 (wd0 (x)), .int .u64 (wd1 (x)), .int .u64 (wd2 (x)), .int .u64 (wd3 (x))], .int .i64 l] w fun r w' => r = .returned (.agg #[.int .u64 (wd0 (alT e x l)), .int .u64 (wd1 (alT e x l)), .int .u64 (wd2 (alT e x l)), .int .u64 (wd3 (alT e x l))]) ∧ Below w.heap.size w w' := by
  have h := clT_range e
  have J := wjamW x (l - clT e) (by omega) (by omega)
  rw [Int.emod_eq_of_lt x0 x1] at J
  exact mag_aligned e l (clT e) (l - clT e) _ _ _ _ _ _ _ _ (Lib.hid (mag_exp e _ _ _ _)) (Lib.hid J) (IntWalk.i64_in _ (by omega)) w
theorem mag_cmp_ge (e x g y : Int) (x0 : 0 ≤ x) (x1 : x < wfull) (y0 : 0 ≤ y) (y1 : y < wfull) (h : clT g ≤ clT e) (w : World) : Calls Tryz.prog 208 #[.agg #[.int .i64 e, .int .u64 (wd0 (x)), .int .u64 (wd1 (x)), .int .u64 (wd2 (x)), .int .u64 (wd3 (x))], .agg #[.int .i64 g, .int .u64 (wd0 (y)), .int .u64 (wd1 (y)), .int .u64 (wd2 (y)), .int .u64 (wd3 (y))]] w fun r w' => r = .returned (.int .i64 (cmpT e x g y)) ∧ Below w.heap.size w w' := by
  have h1 := clT_range e; have h2 := clT_range g
  have E1 := Lib.hid (mag_exp e (wd0 x) (wd1 x) (wd2 x) (wd3 x))
  have E2 := Lib.hid (mag_exp g (wd0 y) (wd1 y) (wd2 y) (wd3 y))
  have W1 : Hid (IntKind.i64.wrap (clT e - clT g) = clT e - clT g) := Lib.hid (IntWalk.i64_in _ (by omega))
  have D1 : decide (clT e - clT g < 0) = false := decide_eq_false (by omega)
  have WR := wrightW y (clT e - clT g) (by omega) (by omega)
  have LS := lostW y (clT e - clT g) (by omega) (by omega)
  rw [Int.emod_eq_of_lt y0 y1] at WR LS
  obtain ⟨q0, q1, _⟩ := div_back y (clT e - clT g).toNat y0
  have CM := cmpW x (y / 2 ^ (clT e - clT g).toNat)
  rw [Int.emod_eq_of_lt x0 x1, Int.emod_eq_of_lt q0 (by omega)] at CM
  rw [cmpT_down h]
  by_cases c : cmpI x (y / 2 ^ (clT e - clT g).toNat) = 0
  · rw [c] at CM
    by_cases z : y % 2 ^ (clT e - clT g).toNat = 0
    · rw [if_neg (fun k => k.2 z), c]
      rw [show (y % 2 ^ (clT e - clT g).toNat != 0) = false by simp [z]] at LS
      exact mag_cmp_eq0 e g _ _ _ _ _ _ _ _ _ _ _ _ _ _ _ E1 E2 (Lib.hid WR) (Lib.hid CM) (Lib.hid LS) W1.out D1 w
    · rw [if_pos ⟨c, z⟩]
      rw [show (y % 2 ^ (clT e - clT g).toNat != 0) = true by simp [z]] at LS
      exact mag_cmp_eq1 e g _ _ _ _ _ _ _ _ _ _ _ _ _ _ _ E1 E2 (Lib.hid WR) (Lib.hid CM) (Lib.hid LS) W1.out D1 w
  · rw [if_neg (fun k => c k.1)]
    exact mag_cmp_ne e g _ _ _ _ _ _ _ _ _ _ _ _ _ _ _ _ E1 E2 (Lib.hid WR) (Lib.hid CM) W1.out D1 (by simp [c]) w
theorem mag_cmp (e x g y : Int) (x0 : 0 ≤ x) (x1 : x < wfull) (y0 : 0 ≤ y) (y1 : y < wfull) (w : World) : Calls Tryz.prog 208 #[.agg #[.int .i64 e, .int .u64 (wd0 (x)), .int .u64 (wd1 (x)), .int .u64 (wd2 (x)), .int .u64 (wd3 (x))], .agg #[.int .i64 g, .int .u64 (wd0 (y)), .int .u64 (wd1 (y)), .int .u64 (wd2 (y)), .int .u64 (wd3 (y))]] w fun r w' => r = .returned (.int .i64 (cmpT e x g y)) ∧ Below w.heap.size w w' := by
  have h1 := clT_range e; have h2 := clT_range g
  by_cases h : clT g ≤ clT e
  · exact mag_cmp_ge e x g y x0 x1 y0 y1 h w
  · have R := mag_cmp_ge g y e x y0 y1 x0 x1 (by omega)
    have cr := cmpT_range e x g y
    have ct := cmpT_turn e x g y
    exact mag_cmp_lt e g (clT e) (clT g) (clT e - clT g) (cmpT g y e x) (cmpT e x g y) _ _ _ _ _ _ _ _ (Lib.hid (mag_exp e _ _ _ _)) (Lib.hid (mag_exp g _ _ _ _)) (Lib.hid R) (IntWalk.i64_in _ (by omega)) (decide_eq_true (by omega)) (by rw [ct, Int.neg_neg]; exact IntWalk.i64_in _ (by omega)) (by rw [ct, Int.neg_neg]; unfold wrap64; omega) w
theorem mag_lev (e x g y : Int) (x0 : 0 ≤ x) (x1 : x < wfull) (y0 : 0 ≤ y) (y1 : y < wfull) (w : World) : Calls Tryz.prog 197 #[.agg #[.int .i64 e, .int .u64 (wd0 (x)), .int .u64 (wd1 (x)), .int .u64 (wd2 (x)), .int .u64 (wd3 (x)), .int .i64 g, .int .u64 (wd0 (y)), .int .u64 (wd1 (y)), .int .u64 (wd2 (y)), .int .u64 (wd3 (y))]] w fun r w' => r = .returned (.int .i64 (if y = 0 ∧ x ≠ 0 then clT e else if clT e < clT g then clT g else clT e)) ∧ Below w.heap.size w w' := by
  have h1 := clT_range e; have h2 := clT_range g
  have E1 := Lib.hid (mag_exp e (wd0 x) (wd1 x) (wd2 x) (wd3 x))
  have E2 := Lib.hid (mag_exp g (wd0 y) (wd1 y) (wd2 y) (wd3 y))
  have ZX := zeroW x
  have ZY := zeroW y
  rw [Int.emod_eq_of_lt x0 x1] at ZX
  rw [Int.emod_eq_of_lt y0 y1] at ZY
  by_cases hy : y = 0
  · rw [show (y == 0) = true by simp [hy]] at ZY
    by_cases hx : x = 0
    · rw [show (x == 0) = true by simp [hx]] at ZX
      rw [if_neg (fun k => k.2 hx)]
      exact mag_level_none e g (clT e) (clT g) _ _ _ _ _ _ _ _ _ (Lib.hid ZY) (Lib.hid ZX) E1 E2 rfl rfl w
    · rw [show (x == 0) = false by simp [hx]] at ZX
      rw [if_pos ⟨hy, hx⟩]
      exact mag_level_one e g (clT e) _ _ _ _ _ _ _ _ (Lib.hid ZY) (Lib.hid ZX) E1 w
  · rw [show (y == 0) = false by simp [hy]] at ZY
    rw [if_neg (fun k => hy k.1)]
    exact mag_level_two e g (clT e) (clT g) _ _ _ _ _ _ _ _ _ (Lib.hid ZY) E1 E2 rfl rfl w
theorem mag_comb (fv : Value) (bk : Nat) (e x g y rs z : Int) (x0 : 0 ≤ x) (x1 : x < wfull) (y0 : 0 ≤ y) (y1 : y < wfull) (r0 : 0 ≤ rs) (r1 : rs ≤ 1)
    (OP : ∀ p q, ((cmpT e x g y < 0 ∧ p = alT g y (levT e x g y + rs) ∧ q = alT e x (levT e x g y + rs)) ∨ (¬ cmpT e x g y < 0 ∧ p = alT e x (levT e x g y + rs) ∧ q = alT g y (levT e x g y + rs))) → ∀ w, FitIn w fv bk → Calls Tryz.prog 199 #[.agg #[.int .u64 (wd0 (p)), .int .u64 (wd1 (p)), .int .u64 (wd2 (p)), .int .u64 (wd3 (p))], .agg #[.int .u64 (wd0 (q)), .int .u64 (wd1 (q)), .int .u64 (wd2 (q)), .int .u64 (wd3 (q))], .pointer (some ⟨bk, 0, none⟩)] w fun r w' => r = .returned (.agg #[.int .u64 (wd0 (z)), .int .u64 (wd1 (z)), .int .u64 (wd2 (z)), .int .u64 (wd3 (z))]) ∧ Below w.heap.size w w')
    (w : World) (hf : FitIn w fv bk) : Calls Tryz.prog 175 #[.agg #[.int .i64 e, .int .u64 (wd0 (x)), .int .u64 (wd1 (x)), .int .u64 (wd2 (x)), .int .u64 (wd3 (x))], .agg #[.int .i64 g, .int .u64 (wd0 (y)), .int .u64 (wd1 (y)), .int .u64 (wd2 (y)), .int .u64 (wd3 (y))], .int .i64 rs, .func (.func 199) #[] #[.pointer (some ⟨bk, 0, none⟩)]] w fun r w' => r = .returned (.tuple #[.agg #[.int .i64 ((levT e x g y + rs)), .int .u64 (wd0 (z)), .int .u64 (wd1 (z)), .int .u64 (wd2 (z)), .int .u64 (wd3 (z))], .bool (decide (cmpT e x g y < 0))]) ∧ Below w.heap.size w w' := by
  have lr := lev_range e x g y
  have CM := mag_cmp e x g y x0 x1 y0 y1
  have W1 : Hid (IntKind.i64.wrap (levT e x g y + rs) = levT e x g y + rs) := Lib.hid (IntWalk.i64_in _ (by omega))
  have W2 : Hid (wrap64 (levT e x g y + rs) = levT e x g y + rs) := Lib.hid (by unfold wrap64; omega)
  have A1 := Lib.hid (mag_al e x (levT e x g y + rs) x0 x1 (by omega) (by omega))
  have A2 := Lib.hid (mag_al g y (levT e x g y + rs) y0 y1 (by omega) (by omega))
  by_cases hc : cmpT e x g y < 0
  · have ct := cmpT_turn e x g y
    have LV := mag_lev g y e x y0 y1 x0 x1
    rw [← lev_down x0 (by omega), lev_turn e x g y] at LV
    have D1 : decide (cmpT e x g y < 0) = true := decide_eq_true hc
    have DS := mag_desc_1 e g _ _ _ _ _ _ _ _ _ (Lib.hid CM) D1
    rw [D1]
    exact mag_combine_core fv bk e g g e rs _ _ _ _ _ _ _ _ _ _ _ _ _ _ _ _ _ _ _ _ _ _ _ _ _ _ _ _ _ _ true (Lib.hid DS) (Lib.hid LV) A2 A1 (Lib.hid (OP _ _ (.inl ⟨hc, rfl, rfl⟩))) W1.out W2.out w hf
  · have LV := mag_lev e x g y x0 x1 y0 y1
    rw [← lev_down y0 hc] at LV
    have D1 : decide (cmpT e x g y < 0) = false := decide_eq_false hc
    have DS := mag_desc_0 e g _ _ _ _ _ _ _ _ _ (Lib.hid CM) D1
    rw [D1]
    exact mag_combine_core fv bk e g e g rs _ _ _ _ _ _ _ _ _ _ _ _ _ _ _ _ _ _ _ _ _ _ _ _ _ _ _ _ _ _ false (Lib.hid DS) (Lib.hid LV) A1 A2 (Lib.hid (OP _ _ (.inr ⟨hc, rfl, rfl⟩))) W1.out W2.out w hf
theorem mag_sum (e x g y : Int) (x0 : 0 ≤ x) (x1 : x < wfull) (y0 : 0 ≤ y) (y1 : y < wfull) (w : World) : Calls Tryz.prog 174 #[.agg #[.int .i64 e, .int .u64 (wd0 (x)), .int .u64 (wd1 (x)), .int .u64 (wd2 (x)), .int .u64 (wd3 (x))], .agg #[.int .i64 g, .int .u64 (wd0 (y)), .int .u64 (wd1 (y)), .int .u64 (wd2 (y)), .int .u64 (wd3 (y))]] w fun r w' => r = .returned (.agg #[.int .i64 ((levT e x g y + 1)), .int .u64 (wd0 (sumT e x g y)), .int .u64 (wd1 (sumT e x g y)), .int .u64 (wd2 (sumT e x g y)), .int .u64 (wd3 (sumT e x g y))]) ∧ Below w.heap.size w w' :=
  mag_sum_core e g (levT e x g y + 1) _ _ _ _ _ _ _ _ _ _ _ _ (decide (cmpT e x g y < 0)) (Lib.hid mag_fit_Add)
    (Lib.hid fun bk w hf => mag_comb _ bk e x g y 1 (sumT e x g y) x0 x1 y0 y1 (by decide) (by decide) (fun p q h w hf => by
      have z : p + q = sumT e x g y := by
        unfold sumT
        rcases h with ⟨_, rfl, rfl⟩ | ⟨_, rfl, rfl⟩
        · exact Int.add_comm _ _
        · rfl
      rw [← z]
      exact mag_op_Add bk _ _ _ _ _ _ _ _ _ _ _ _ _ (Lib.hid (addW p q)) w hf) w hf) w
theorem mag_diff (e x g y : Int) (x0 : 0 ≤ x) (x1 : x < wfull) (y0 : 0 ≤ y) (y1 : y < wfull) (w : World) : Calls Tryz.prog 131 #[.agg #[.int .i64 e, .int .u64 (wd0 (x)), .int .u64 (wd1 (x)), .int .u64 (wd2 (x)), .int .u64 (wd3 (x))], .agg #[.int .i64 g, .int .u64 (wd0 (y)), .int .u64 (wd1 (y)), .int .u64 (wd2 (y)), .int .u64 (wd3 (y))]] w fun r w' => r = .returned (.tuple #[.agg #[.int .i64 ((levT e x g y)), .int .u64 (wd0 (diffT e x g y)), .int .u64 (wd1 (diffT e x g y)), .int .u64 (wd2 (diffT e x g y)), .int .u64 (wd3 (diffT e x g y))], .bool (decide (cmpT e x g y < 0))]) ∧ Below w.heap.size w w' := by
  have h := mag_diff_core e g (levT e x g y + 0) _ _ _ _ _ _ _ _ _ _ _ _ (decide (cmpT e x g y < 0)) (Lib.hid mag_fit_Sub)
    (Lib.hid fun bk w hf => mag_comb _ bk e x g y 0 (diffT e x g y) x0 x1 y0 y1 (by decide) (by decide) (fun p q h w hf => by
      have z : p - q = diffT e x g y := by
        unfold diffT
        simp only [Int.add_zero] at h
        rcases h with ⟨k, rfl, rfl⟩ | ⟨k, rfl, rfl⟩
        · rw [if_pos k]
        · rw [if_neg k]
      rw [← z]
      exact mag_op_Sub bk _ _ _ _ _ _ _ _ _ _ _ _ _ (Lib.hid (subW p q)) w hf) w hf) w
  rw [Int.add_zero] at h
  exact h
theorem magOK : MagOK where
  of_ := fun g c e h l uh ul w => mag_of c e h l 0 0 l h g (Lib.hid (join_any h l 0 0)) w
  cmp := fun e x g y _ _ x0 x1 _ _ y0 y1 w => mag_cmp e x g y x0 x1 y0 y1 w
  sum := fun e x g y _ _ x0 x1 _ _ y0 y1 w => mag_sum e x g y x0 x1 y0 y1 w
  diff := fun e x g y _ _ x0 x1 _ _ y0 y1 w => mag_diff e x g y x0 x1 y0 y1 w


end Go.Proofs.YtjnohbpebdnngaaGreatDoor
