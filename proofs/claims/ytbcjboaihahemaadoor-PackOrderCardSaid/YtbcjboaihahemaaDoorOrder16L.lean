/-
  PackOrder.
-/
import Derived.Test.YtbcjboaihahemaaDoorOrder16
import Derived.Test.YtbcjboaihahemaaDoorGoes16L
set_option linter.unusedVariables false
set_option linter.unusedSimpArgs false
set_option maxRecDepth 100000
namespace Go.Proofs.YtbcjboaihahemaaDoor
open Go.RowKit
attribute [local go_sem ↓] Go.wp_at_zero Go.wp_at_succ

theorem cmp_le16 {a b : Int} (h : a ≤ b) : decide (cmpI a b ≤ 0) = true := decide_eq_true (by unfold cmpI; split; decide; rw [if_neg (by omega)]; decide)
theorem cmp_gt16 (a b : Int) : decide (0 < cmpI a b) = decide (b < a) := by
  rw [decide_eq_decide]; unfold cmpI; split
  · omega
  · split <;> omega
theorem order16_law_n (O : PackOK) (f m : Int) (t : Bool) (ex a b y8 : Int) (a0 : 0 ≤ a) (a1 : a < wfull) (b0 : 0 ≤ b) (b1 : b < wfull) (uf : 0 ≤ f ∧ f ≤ 255) (um : 0 ≤ m ∧ m ≤ 255) (ue : -9223372036854775808 ≤ ex ∧ ex ≤ 9223372036854775807) (uy : 0 ≤ y8 ∧ y8 ≤ 255) (w : World) (ft : FTab w) : Calls Tryd.prog 6 #[.int .u8 f, .agg #[.int .u8 m, .bool t], .int .i64 ex, .agg #[.int .u64 (wd0 (a)), .int .u64 (wd1 (a)), .int .u64 (wd2 (a)), .int .u64 (wd3 (a))], .agg #[.int .u64 (wd0 (b)), .int .u64 (wd1 (b)), .int .u64 (wd2 (b)), .int .u64 (wd3 (b))], .int .u8 y8] w fun e w' => e = .returned (.bool true) ∧ Below w.heap.size w w' := by
  have G := Lib.hid (goes16_any O)
  obtain ⟨mm, hm⟩ : ∃ mm, m % 5 = mm := ⟨_, rfl⟩
  have mt : m.tmod 5 = mm := by rw [Int.tmod_eq_emod_of_nonneg um.1, hm]
  have m5 : 0 ≤ mm ∧ mm < 5 := by omega
  obtain ⟨c0, hc0⟩ : ∃ c0, (if (1073741824 : Int) < ex then 1073741824 else ex) = c0 := ⟨_, rfl⟩
  obtain ⟨c1, hc1⟩ : ∃ c1, (if c0 > (-1073741824 : Int) then c0 else (-1073741824)) = c1 := ⟨_, rfl⟩
  have ar : -1073741824 ≤ c1 ∧ c1 ≤ 1073741824 := by
    subst hc1; subst hc0; repeat' split
    all_goals omega
  have CW := cmpW a b
  rw [Int.emod_eq_of_lt a0 a1, Int.emod_eq_of_lt b0 b1] at CW
  have p127 : (2 : Int) ^ 127 < full := by decide +kernel
  have main : ∀ p q : Int, 0 ≤ p → p ≤ q → q < wfull → ∃ k1 k2, decide (k1 ≤ 0) = true ∧ decide (k2 ≤ 0) = true ∧ (∀ w, Calls Tryd.prog 19 #[.agg #[.int .u64 (hiOf (pkB f mm false c1 p)), .int .u64 (loOf (pkB f mm false c1 p))], .agg #[.int .u64 (hiOf (pkB f mm false c1 q)), .int .u64 (loOf (pkB f mm false c1 q))]] w fun e w' => e = .returned (.int .i64 k1) ∧ Below w.heap.size w w') ∧ (∀ w, Calls Tryd.prog 19 #[.agg #[.int .u64 (hiOf (pkB f mm false c1 q)), .int .u64 (loOf (pkB f mm false c1 q))], .agg #[.int .u64 (hiOf (pkB f mm false (c1 + y8) q)), .int .u64 (loOf (pkB f mm false (c1 + y8) q))]] w fun e w' => e = .returned (.int .i64 k2) ∧ Below w.heap.size w w') := fun p q p0 pq q1 => by
    have o1 := pk_mono (f := f) (m := mm) (exp := c1) (exp' := c1) uf.1 m5.2 p0 pq q1 (Int.le_refl _)
    have o2 := pk_mono (f := f) (m := mm) (exp := c1) (exp' := c1 + y8) uf.1 m5.2 (show 0 ≤ q by omega) (Int.le_refl q) q1 (by omega)
    have r1 := pk_full (f := f) (m := mm) (exp := c1) uf.1 p0 (show p < wfull by omega)
    have r2 := pk_full (f := f) (m := mm) (exp := c1) uf.1 (show 0 ≤ q by omega) q1
    have r3 := pk_full (f := f) (m := mm) (exp := c1 + y8) uf.1 (show 0 ≤ q by omega) q1
    have b1 := cmpB (pkB f mm false c1 p) (pkB f mm false c1 q)
    have b2 := cmpB (pkB f mm false c1 q) (pkB f mm false (c1 + y8) q)
    rw [Int.emod_eq_of_lt r1.1 (by omega), Int.emod_eq_of_lt r2.1 (by omega)] at b1
    rw [Int.emod_eq_of_lt r2.1 (by omega), Int.emod_eq_of_lt r3.1 (by omega)] at b2
    exact ⟨_, _, cmp_le16 o1, cmp_le16 o2, b1, b2⟩
  by_cases c : b < a
  · obtain ⟨k1, k2, g1, g2, B1, B2⟩ := main b a b0 (by omega) a1
    have RP := O.round f mm t false c1 b uf.1 uf.2 m5.1 (by omega) (by omega) (by omega) b0 b1
    have RQ := O.round f mm t false c1 a uf.1 uf.2 m5.1 (by omega) (by omega) (by omega) a0 a1
    have RR := O.round f mm t false (c1 + y8) a uf.1 uf.2 m5.1 (by omega) (by omega) (by omega) a0 a1
    exact order16_swap f m mm ex y8 c0 c1 (c1 + y8) _ k1 k2 _ _ _ _ _ _ _ _ _ _ _ _ _ _ _ _ _ t (Lib.hid CW) (Lib.hid RP) (Lib.hid RQ) (Lib.hid RR) (Lib.hid B1) (Lib.hid B2) G mt hm hc0 hc0 hc1 hc1 (IntWalk.i64_in _ (by omega)) (IntWalk.i64_in _ (by omega)) (by unfold wrap64; omega) (by rw [cmp_gt16]; simp [c]) g1 g2 w ft
  · obtain ⟨k1, k2, g1, g2, B1, B2⟩ := main a b a0 (by omega) b1
    have RP := O.round f mm t false c1 a uf.1 uf.2 m5.1 (by omega) (by omega) (by omega) a0 a1
    have RQ := O.round f mm t false c1 b uf.1 uf.2 m5.1 (by omega) (by omega) (by omega) b0 b1
    have RR := O.round f mm t false (c1 + y8) b uf.1 uf.2 m5.1 (by omega) (by omega) (by omega) b0 b1
    exact order16_same f m mm ex y8 c0 c1 (c1 + y8) _ k1 k2 _ _ _ _ _ _ _ _ _ _ _ _ _ _ _ _ _ t (Lib.hid CW) (Lib.hid RP) (Lib.hid RQ) (Lib.hid RR) (Lib.hid B1) (Lib.hid B2) G mt hm hc0 hc0 hc1 hc1 (IntWalk.i64_in _ (by omega)) (IntWalk.i64_in _ (by omega)) (by unfold wrap64; omega) (by rw [cmp_gt16]; simp [c]) g1 g2 w ft
theorem order16_law (O : PackOK) (f m : Int) (t : Bool) (ex a0 a1 a2 a3 b0 b1 b2 b3 y8 : Int) (uf : 0 ≤ f ∧ f ≤ 255) (um : 0 ≤ m ∧ m ≤ 255) (ue : -9223372036854775808 ≤ ex ∧ ex ≤ 9223372036854775807) (ua0 : U64 a0) (ua1 : U64 a1) (ua2 : U64 a2) (ua3 : U64 a3) (ub0 : U64 b0) (ub1 : U64 b1) (ub2 : U64 b2) (ub3 : U64 b3) (uy : 0 ≤ y8 ∧ y8 ≤ 255) (w : World) (ft : FTab w) : Calls Tryd.prog 6 #[.int .u8 f, .agg #[.int .u8 m, .bool t], .int .i64 ex, .agg #[.int .u64 a0, .int .u64 a1, .int .u64 a2, .int .u64 a3], .agg #[.int .u64 b0, .int .u64 b1, .int .u64 b2, .int .u64 b3], .int .u8 y8] w fun e w' => e = .returned (.bool true) ∧ Below w.heap.size w w' := by
  obtain ⟨h0, h1⟩ := wval_range ua0 ua1 ua2 ua3
  obtain ⟨e0, e1, e2, e3⟩ := wd_wval ua0 ua1 ua2 ua3
  obtain ⟨g0, g1⟩ := wval_range ub0 ub1 ub2 ub3
  obtain ⟨d0, d1, d2, d3⟩ := wd_wval ub0 ub1 ub2 ub3
  have h := order16_law_n O f m t ex (wval a0 a1 a2 a3) (wval b0 b1 b2 b3) y8 h0 h1 g0 g1 uf um ue uy w ft
  rw [e0, e1, e2, e3, d0, d1, d2, d3] at h
  exact h


end Go.Proofs.YtbcjboaihahemaaDoor
