/-
  The document's answers of stage 17.
-/
import Derived.Test.YtamigjdankkmjaaRef17W
import Derived.Test.YtamigjdankkmjaaGnB
set_option linter.unusedVariables false
set_option linter.unusedSimpArgs false
set_option maxRecDepth 100000
namespace Go.Proofs.Ytamigjdankkmjaa
open Go.RowKit
attribute [local go_sem ↓] Go.wp_at_zero Go.wp_at_succ

/-! ### by their lengths -/
theorem cmpT_zero {e x g y : Int} (x0 : 0 ≤ x) (y0 : 0 ≤ y) (h : x = 0 ∨ y = 0) : cmpT e x g y = cmpI x y := by
  have hx := base_nonneg (e := e) x0; have hy := base_nonneg (e := g) y0
  have zx := base_zero (e := e) (x := x); have zy := base_zero (e := g) (x := y)
  rw [cmpT_base]
  generalize baseT e x = a at *
  generalize baseT g y = b at *
  unfold cmpI
  rcases h with h | h <;> repeat' split
  all_goals omega
theorem low_blen {x : Int} (h : 0 < x) : ∃ j : Nat, blen x = j + 1 ∧ 2 ^ j ≤ x ∧ x < 2 ^ (j + 1) := blen_bounds h
theorem base_len {e x : Int} (h : 0 < x) : ∃ M : Nat, ((M : Int) = clT e + 1099511627776 + blen x) ∧ baseT e x < 2 ^ M ∧ ∀ k : Nat, k + 1 ≤ M → 2 ^ k ≤ baseT e x := by
  have cr := clT_range e
  obtain ⟨j, hj, h1, h2⟩ := blen_bounds h
  have hp := two_pow_pos (clT e + 1099511627776).toNat
  refine ⟨(clT e + 1099511627776).toNat + (j + 1), by omega, ?_, fun k hk => ?_⟩
  · unfold baseT
    rw [Int.add_comm (clT e), Nat.add_comm, Int.pow_add, Int.add_comm 1099511627776]
    exact Int.mul_lt_mul_of_pos_right h2 hp
  · have a := two_pow_le (show k ≤ (clT e + 1099511627776).toNat + j by omega)
    have b := Int.mul_le_mul_of_nonneg_right h1 (show (0 : Int) ≤ 2 ^ (clT e + 1099511627776).toNat by omega)
    rw [← Int.pow_add, Nat.add_comm] at b
    unfold baseT; omega
theorem cmpT_len {e x g y : Int} (x0 : 0 < x) (y0 : 0 < y) (h : clT e + (blen x : Int) < clT g + (blen y : Int)) : cmpT e x g y = -1 := by
  obtain ⟨M, m1, m2, _⟩ := base_len (e := e) x0
  obtain ⟨N, n1, _, n3⟩ := base_len (e := g) y0
  have a := n3 M (by omega)
  rw [cmpT_base]; unfold cmpI; rw [if_pos (by omega)]
theorem cmpT_len' {e x g y : Int} (x0 : 0 < x) (y0 : 0 < y) (h : clT g + (blen y : Int) < clT e + (blen x : Int)) : cmpT e x g y = 1 := by
  rw [cmpT_turn, cmpT_len y0 x0 h]; rfl
theorem cmpT_same {e x g y : Int} (x0 : 0 < x) (y0 : 0 < y) (hx : blen x ≤ 256) (hy : blen y ≤ 256) (h : clT e + (blen x : Int) = clT g + (blen y : Int)) : cmpT e x g y = cmpI (x * 2 ^ (256 - blen x)) (y * 2 ^ (256 - blen y)) := by
  have c1 := clT_range e; have c2 := clT_range g
  obtain ⟨M, hM⟩ : ∃ M : Nat, (M : Int) = clT e + 1099511627776 + (blen x : Int) := ⟨(clT e + 1099511627776).toNat + blen x, by omega⟩
  rw [cmpT_base, ← cmpI_mul _ _ 256, ← cmpI_mul (x * 2 ^ (256 - blen x)) _ M]
  unfold baseT
  rw [Int.mul_assoc, Int.mul_assoc, Int.mul_assoc, Int.mul_assoc, ← Int.pow_add, ← Int.pow_add, ← Int.pow_add, ← Int.pow_add,
    show (clT e + 1099511627776).toNat + 256 = 256 - blen x + M by omega, show (clT g + 1099511627776).toNat + 256 = 256 - blen y + M by omega]
/-! ### the document's answers -/
theorem clT_three (e : Int) : (if -1099511627776 < (if (1099511627776 : Int) < e then 1099511627776 else e) then (if (1099511627776 : Int) < e then 1099511627776 else e) else -1099511627776) = clT e := by
  unfold clT; repeat' split
  all_goals omega
theorem ref17_exp (e : Int) (w : World) : Calls Try.prog 39 #[.int .i64 e] w fun r w' => r = .returned (.int .i64 (clT e)) ∧ Below w.heap.size w w' := by
  exact ref17_exp_core e _ (clT e) rfl rfl (clT_three e) (clT_three e) w
theorem blen17 {x : Int} (h0 : 0 ≤ x) (h1 : x < wfull) : blen x ≤ 256 := by
  by_cases z : x = 0
  · subst z; rw [blen_zero]; omega
  · obtain ⟨j, e, a, b⟩ := blen_bounds (show 0 < x by omega)
    rw [← wfull_pow] at h1
    apply Classical.byContradiction; intro h
    have := two_pow_le (show 256 ≤ j by omega)
    omega
theorem small17 {x : Int} (h1 : x < wfull) : Small x := small_wide (by
  have : wfull ≤ wfull * wfull := by decide +kernel
  omega)
theorem ref17_at (e x l : Int) (x0 : 0 ≤ x) (x1 : x < wfull) (l0 : -1099511627776 ≤ l) (l1 : l ≤ 1099511627777) (w : World) : Calls Try.prog 29 #[.int .i64 e, .agg #[.int .u64 (wd0 (x)), .int .u64 (wd1 (x)), .int .u64 (wd2 (x)), .int .u64 (wd3 (x))], .int .i64 l] w (RetNum w (alT e x l)) := by
  have h := clT_range e
  have WN := wideN x
  rw [Int.emod_eq_of_lt x0 x1] at WN
  have JM := Lib.hid fun w v (nx : IsNum w v x) => ref3_jam nx (small17 x1) (l - clT e)
  rw [jam_near x0 x1] at JM
  exact ref17_at_core e l (clT e) (l - clT e) x _ _ _ _ _ (Lib.hid WN) (Lib.hid (ref17_exp e)) (IntWalk.i64_in _ (by omega)) JM w
theorem ref17_level (e x g y : Int) (x0 : 0 ≤ x) (x1 : x < wfull) (y0 : 0 ≤ y) (y1 : y < wfull) (w : World) : Calls Try.prog 27 #[.int .i64 e, .agg #[.int .u64 (wd0 (x)), .int .u64 (wd1 (x)), .int .u64 (wd2 (x)), .int .u64 (wd3 (x))], .int .i64 g, .agg #[.int .u64 (wd0 (y)), .int .u64 (wd1 (y)), .int .u64 (wd2 (y)), .int .u64 (wd3 (y))]] w fun r w' => r = .returned (.int .i64 (levT e x g y)) ∧ Below w.heap.size w w' := by
  have WX := Lib.hid (wideS x x0 x1)
  have WY := Lib.hid (wideS y y0 y1)
  have E1 := Lib.hid (ref17_exp e)
  have E2 := Lib.hid (ref17_exp g)
  unfold levT
  by_cases hx : x = 0
  · have zx : (x == 0) = true := by simp [hx]
    rw [if_neg (fun k => k.2 hx)]
    by_cases hy : y = 0
    · rw [if_neg (fun k => k.2 hy)]
      exact ref17_level_11 e g _ _ _ x y _ _ _ _ _ _ _ _ E1 E2 zx (by simp [hy]) WX WY rfl rfl w
    · rw [if_pos ⟨hx, hy⟩]
      exact ref17_level_10 e g _ x y _ _ _ _ _ _ _ _ E2 zx (by simp [hy]) WX WY w
  · have zx : (x == 0) = false := by simp [hx]
    by_cases hy : y = 0
    · rw [if_pos ⟨hy, hx⟩]
      exact ref17_level_01 e g _ x y _ _ _ _ _ _ _ _ E1 zx (by simp [hy]) WX WY w
    · rw [if_neg (fun k => hy k.1), if_neg (fun k => hx k.1)]
      exact ref17_level_00 e g _ _ _ x y _ _ _ _ _ _ _ _ E1 E2 zx (by simp [hy]) WX WY rfl rfl w
theorem ref17_cmp (e x g y : Int) (x0 : 0 ≤ x) (x1 : x < wfull) (y0 : 0 ≤ y) (y1 : y < wfull) (w : World) : Calls Try.prog 14 #[.int .i64 e, .agg #[.int .u64 (wd0 (x)), .int .u64 (wd1 (x)), .int .u64 (wd2 (x)), .int .u64 (wd3 (x))], .int .i64 g, .agg #[.int .u64 (wd0 (y)), .int .u64 (wd1 (y)), .int .u64 (wd2 (y)), .int .u64 (wd3 (y))]] w fun r w' => r = .returned (.int .i64 (cmpT e x g y)) ∧ Below w.heap.size w w' := by
  have WX := Lib.hid (wideS x x0 x1)
  have WY := Lib.hid (wideS y y0 y1)
  by_cases hz : x = 0 ∨ y = 0
  · have CM := Lib.hid fun w u v (h : IsNum w u x) (k : IsNum w v y) => cmp_num h k
    rw [cmpT_zero x0 y0 hz]
    by_cases hx : x = 0
    · by_cases hy : y = 0
      · exact ref17_cmp_z11 e g _ x y _ _ _ _ _ _ _ _ (by simp [hx]) (by simp [hy]) WX WY CM w
      · exact ref17_cmp_z10 e g _ x y _ _ _ _ _ _ _ _ (by simp [hx]) (by simp [hy]) WX WY CM w
    · exact ref17_cmp_z01 e g _ x y _ _ _ _ _ _ _ _ (by simp [hx]) (by simp; omega) WX WY CM w
  · have px : 0 < x := by omega
    have py : 0 < y := by omega
    have zx : (x == 0) = false := by simp; omega
    have zy : (y == 0) = false := by simp; omega
    have c1 := clT_range e; have c2 := clT_range g
    have b1 := blen17 x0 x1; have b2 := blen17 y0 y1
    have E1 := Lib.hid (ref17_exp e)
    have E2 := Lib.hid (ref17_exp g)
    have LX := Lib.hid fun w v (h : IsNum w v x) => lenN h
    have LY := Lib.hid fun w v (h : IsNum w v y) => lenN h
    have W1 : Hid (IntKind.i64.wrap (clT e + blen x) = clT e + blen x ∧ IntKind.i64.wrap (clT g + blen y) = clT g + blen y) := Lib.hid ⟨IntWalk.i64_in _ (by omega), IntWalk.i64_in _ (by omega)⟩
    have W2 : Hid (wrap64 (clT e + blen x) = clT e + blen x ∧ wrap64 (clT g + blen y) = clT g + blen y) := Lib.hid ⟨by unfold wrap64; omega, by unfold wrap64; omega⟩
    rcases Int.lt_trichotomy (clT e + (blen x : Int)) (clT g + (blen y : Int)) with h | h | h
    · rw [cmpT_len px py h]
      exact ref17_cmp_lt e g _ _ _ _ _ _ x y _ _ _ _ _ _ _ _ E1 E2 zx zy WX WY LX LY W1.out.1 W2.out.1 W1.out.2 W2.out.2 (decide_eq_true h) w
    · rw [cmpT_same px py b1 b2 h]
      have W3 : Hid (IntKind.i64.wrap (256 - blen x) = ((256 - blen x : Nat) : Int) ∧ IntKind.i64.wrap (256 - blen y) = ((256 - blen y : Nat) : Int)) := Lib.hid ⟨by rw [IntWalk.i64_in _ (by omega)]; omega, by rw [IntWalk.i64_in _ (by omega)]; omega⟩
      have W4 : Hid (wrap64 (256 - blen x) = ((256 - blen x : Nat) : Int) ∧ wrap64 (256 - blen y) = ((256 - blen y : Nat) : Int)) := Lib.hid ⟨by unfold wrap64; omega, by unfold wrap64; omega⟩
      have SX := Lib.hid fun w v (h : IsNum w v x) => shl_num h (small17 x1) (256 - blen x) (by omega)
      have SY := Lib.hid fun w v (h : IsNum w v y) => shl_num h (small17 y1) (256 - blen y) (by omega)
      have CM := Lib.hid fun w u v (h : IsNum w u (x * 2 ^ (256 - blen x))) (k : IsNum w v (y * 2 ^ (256 - blen y))) => cmp_num h k
      exact ref17_cmp_eq e g _ _ _ _ _ _ x y _ _ _ _ _ _ _ _ _ _ _ _ _ E1 E2 zx zy WX WY LX LY W1.out.1 W2.out.1 W1.out.2 W2.out.2 (decide_eq_false (by omega)) (decide_eq_false (by omega)) W3.out.1 W4.out.1 W3.out.2 W4.out.2 SX SY CM w
    · rw [cmpT_len' px py h]
      exact ref17_cmp_gt e g _ _ _ _ _ _ x y _ _ _ _ _ _ _ _ E1 E2 zx zy WX WY LX LY W1.out.1 W2.out.1 W1.out.2 W2.out.2 (decide_eq_false (by omega)) (decide_eq_true h) w
theorem ref17_sum (e x g y : Int) (x0 : 0 ≤ x) (x1 : x < wfull) (y0 : 0 ≤ y) (y1 : y < wfull) (w : World) : Calls Try.prog 9 #[.int .i64 e, .agg #[.int .u64 (wd0 (x)), .int .u64 (wd1 (x)), .int .u64 (wd2 (x)), .int .u64 (wd3 (x))], .int .i64 g, .agg #[.int .u64 (wd0 (y)), .int .u64 (wd1 (y)), .int .u64 (wd2 (y)), .int .u64 (wd3 (y))]] w fun r w' => r = .returned (.tuple #[.int .i64 (levT e x g y + 1), .agg #[.int .u64 (wd0 (sumT e x g y)), .int .u64 (wd1 (sumT e x g y)), .int .u64 (wd2 (sumT e x g y)), .int .u64 (wd3 (sumT e x g y))]]) ∧ Below w.heap.size w w' := by
  have lr := lev_range e x g y
  have a1 := al_range e (levT e x g y + 1) x0 x1
  have a2 := al_range g (levT e x g y + 1) y0 y1
  have AX := Lib.hid (ref17_at e x (levT e x g y + 1) x0 x1 (by omega) (by omega))
  have AY := Lib.hid (ref17_at g y (levT e x g y + 1) y0 y1 (by omega) (by omega))
  have AD := Lib.hid fun w u v (h : IsNum w u (alT e x (levT e x g y + 1))) (k : IsNum w v (alT g y (levT e x g y + 1))) => add_num h k (small17 a1.2) (small17 a2.2)
  have LW := Lib.hid fun w v (h : IsNum w v (sumT e x g y)) => low_num h
  exact ref17_sum_core e g _ _ _ _ _ _ _ _ _ _ _ _ _ _ _ _ _ (Lib.hid (ref17_level e x g y x0 x1 y0 y1)) (IntWalk.i64_in _ (by omega)) (by unfold wrap64; omega) AX AY AD LW w
theorem ref17_diff (e x g y : Int) (x0 : 0 ≤ x) (x1 : x < wfull) (y0 : 0 ≤ y) (y1 : y < wfull) (w : World) : Calls Try.prog 10 #[.int .i64 e, .agg #[.int .u64 (wd0 (x)), .int .u64 (wd1 (x)), .int .u64 (wd2 (x)), .int .u64 (wd3 (x))], .int .i64 g, .agg #[.int .u64 (wd0 (y)), .int .u64 (wd1 (y)), .int .u64 (wd2 (y)), .int .u64 (wd3 (y))]] w fun r w' => r = .returned (.tuple #[.int .i64 (levT e x g y), .agg #[.int .u64 (wd0 (diffT e x g y)), .int .u64 (wd1 (diffT e x g y)), .int .u64 (wd2 (diffT e x g y)), .int .u64 (wd3 (diffT e x g y))], .bool (decide (cmpT e x g y < 0))]) ∧ Below w.heap.size w w' := by
  have lr := lev_range e x g y
  obtain ⟨l1, l2⟩ := lev_ge e x g y
  have a1 := al_range e (levT e x g y) x0 x1
  have a2 := al_range g (levT e x g y) y0 y1
  have AX := Lib.hid (ref17_at e x (levT e x g y) x0 x1 (by omega) (by omega))
  have AY := Lib.hid (ref17_at g y (levT e x g y) y0 y1 (by omega) (by omega))
  have LV := Lib.hid (ref17_level e x g y x0 x1 y0 y1)
  have CM := Lib.hid (ref17_cmp e x g y x0 x1 y0 y1)
  have LW := Lib.hid fun w v (h : IsNum w v (diffT e x g y)) => low_num h
  by_cases hc : cmpT e x g y < 0
  · have le := al_mono l1 l2 (by omega)
    have D1 : decide (cmpT e x g y < 0) = true := decide_eq_true hc
    have CN := Lib.hid fun w u v (h : IsNum w u (alT g y (levT e x g y))) (k : IsNum w v (alT e x (levT e x g y))) => cmp_num h k
    have SB := Lib.hid fun w u v (h : IsNum w u (alT g y (levT e x g y))) (k : IsNum w v (alT e x (levT e x g y))) => sub_num h k (small17 a2.2) le
    rw [show alT g y (levT e x g y) - alT e x (levT e x g y) = diffT e x g y by unfold diffT; rw [if_pos hc]] at SB
    rw [D1]
    exact ref17_diff_1 e g _ _ _ _ _ _ _ _ _ _ _ _ _ _ _ _ _ _ LV CM D1 (decide_eq_false (fun k => by rw [cmpI_lti] at k; omega)) AX AY CN SB LW w
  · have le := al_mono l2 l1 (by rw [cmpT_turn]; omega)
    have D1 : decide (cmpT e x g y < 0) = false := decide_eq_false hc
    have CN := Lib.hid fun w u v (h : IsNum w u (alT e x (levT e x g y))) (k : IsNum w v (alT g y (levT e x g y))) => cmp_num h k
    have SB := Lib.hid fun w u v (h : IsNum w u (alT e x (levT e x g y))) (k : IsNum w v (alT g y (levT e x g y))) => sub_num h k (small17 a1.2) le
    rw [show alT e x (levT e x g y) - alT g y (levT e x g y) = diffT e x g y by unfold diffT; rw [if_neg hc]] at SB
    rw [D1]
    exact ref17_diff_0 e g _ _ _ _ _ _ _ _ _ _ _ _ _ _ _ _ _ _ LV CM D1 (decide_eq_false (fun k => by rw [cmpI_lti] at k; omega)) AX AY CN SB LW w


end Go.Proofs.Ytamigjdankkmjaa
