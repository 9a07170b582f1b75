/-
  RoundNear.
-/
import Derived.Test.YtmlobelcoggncaaNear15
import Derived.Test.YtmlobelcoggncaaGoes15L
set_option linter.unusedVariables false
set_option linter.unusedSimpArgs false
set_option maxRecDepth 100000
namespace Go.Proofs.Ytmlobelcoggncaa
open Go.RowKit
attribute [local go_sem ↓] Go.wp_at_zero Go.wp_at_succ

theorem hl_sub15 (x d : Int) : hiOf (x - d % full) = hiOf (x - d) ∧ loOf (x - d % full) = loOf (x - d) := hl_congr (by unfold full; omega)
theorem sub15 (n m : Int) (w : World) : Calls Try.prog 17 #[.agg #[.int .u64 (hiOf n), .int .u64 (loOf n)], .agg #[.int .u64 (hiOf m), .int .u64 (loOf m)]] w fun e w' =>
    e = .returned (.tuple #[.agg #[.int .u64 (hiOf (n - m)), .int .u64 (loOf (n - m))], .bool (decide (n % full < m % full))]) ∧ Below w.heap.size w w' := by
  have h := sub_any (hiOf n) (loOf n) (hiOf m) (loOf m) (hiOf_u _) (loOf_u _) (hiOf_u _) (loOf_u _) w
  rw [val_hiLo_mod, val_hiLo_mod, (hl_sub15 (n % full) m).1, (hl_sub15 (n % full) m).2, (hl_congr (show (n % full - m) % full = (n - m) % full by unfold full; omega)).1, (hl_congr (show (n % full - m) % full = (n - m) % full by unfold full; omega)).2] at h
  exact h
theorem half_w : (57896044618658097711785492504343953926634992332820282019728792003956564819968 : Int) = 2 ^ 255 := by decide +kernel
/-- What is shifted up to the top. -/
theorem up_rest {x k : Int} (k0 : 0 ≤ k) (k1 : k ≤ 127) : x * 2 ^ k.toNat % wfull = 2 ^ k.toNat * (x % 2 ^ (256 - k).toNat) ∧ (2 : Int) ^ 255 = 2 ^ k.toNat * 2 ^ ((256 - k).toNat - 1) := by
  constructor
  · rw [← wfull_pow, show 256 = k.toNat + (256 - k).toNat by omega, Int.pow_add, Int.mul_comm x, Int.mul_emod_mul_of_pos _ _ (two_pow_pos _)]
  · rw [← Int.pow_add]; congr 1; omega
theorem next_low {m : Int} {ng od : Bool} {r : Int} (m0 : 0 ≤ m) (m1 : m ≤ 1) (r0 : 0 ≤ r) (r1 : r ≤ 3) : (nextM m ng od r = true → 2 ≤ r) ∧ (nextM m ng od r = false → r ≤ 2) := by
  rcases (show m = 0 ∨ m = 1 by omega) with rfl | rfl <;> rcases (show r = 0 ∨ r = 1 ∨ r = 2 ∨ r = 3 by omega) with rfl | rfl | rfl | rfl <;> cases od <;> simp [nextM]
theorem rest_high {q n : Int} (h : 0 < n) : (2 ≤ restQ q n false → 2 ^ (n.toNat - 1) ≤ q % 2 ^ n.toNat) ∧ (restQ q n false ≤ 2 → q % 2 ^ n.toNat ≤ 2 ^ (n.toNat - 1)) := by
  have hp := two_pow_pos (n.toNat - 1)
  unfold restQ
  rw [if_neg (by omega)]
  generalize q % 2 ^ n.toNat = r at *
  generalize (2 : Int) ^ (n.toNat - 1) = H at *
  by_cases z : r = 0
  · rw [if_pos ⟨z, rfl⟩]; omega
  · rw [if_neg (by simp [z])]
    by_cases l : r < H
    · rw [if_pos l]; omega
    · rw [if_neg l]
      by_cases e : r = H
      · rw [if_pos ⟨rfl, e⟩]; omega
      · rw [if_neg (by simp [e])]; omega
theorem cmp_ge {a b : Int} (h : b ≤ a) : decide (0 ≤ cmpI a b) = true := decide_eq_true (by unfold cmpI; rw [if_neg (by omega)]; split <;> decide)
theorem cmp_le {a b : Int} (h : a ≤ b) : decide (cmpI a b ≤ 0) = true := decide_eq_true (by unfold cmpI; split; decide; rw [if_neg (by omega)]; decide)
theorem near15_law_n (O : RoundOK) (x k8 m : Int) (ng : Bool) (h0 : 0 ≤ x) (h1 : x < wfull) (uk : 0 ≤ k8 ∧ k8 ≤ 255) (um : 0 ≤ m ∧ m ≤ 255) (w : World) : Calls Try.prog 4 #[.agg #[.int .u64 (wd0 (x)), .int .u64 (wd1 (x)), .int .u64 (wd2 (x)), .int .u64 (wd3 (x))], .int .u8 k8, .int .u8 m, .bool ng] w fun e w' => e = .returned (.bool true) ∧ Below w.heap.size w w' := by
  have G := Lib.hid (goes15_any O)
  obtain ⟨k, hk⟩ : ∃ k, k8 % 128 = k := ⟨_, rfl⟩
  obtain ⟨mm, hm⟩ : ∃ mm, m % 5 = mm := ⟨_, rfl⟩
  have kt : k8.tmod 128 = k := by rw [Int.tmod_eq_emod_of_nonneg uk.1, hk]
  have mt : m.tmod 5 = mm := by rw [Int.tmod_eq_emod_of_nonneg um.1, hm]
  have K8 : IntKind.i64.wrap k8 = k8 := IntWalk.i64_in _ (by omega)
  have k0 : 0 ≤ k ∧ k ≤ 127 := by omega
  have m5 : 0 ≤ mm ∧ mm < 5 := by omega
  have hC := O.cut x k mm ng h0 h1 (by omega) (by omega) (by omega) (by omega)
  rw [(cut_yes ⟨k0, m5.2⟩ x ng).1, (cut_yes ⟨k0, m5.2⟩ x ng).2] at hC
  obtain ⟨f0, f1, f2⟩ := floor_lt h0 h1 k0.1 k0.2
  rw [p127] at f2
  have WR := wrightW x (256 - k) (by omega) (by omega)
  rw [Int.emod_eq_of_lt h0 h1, ← floor_pos (by omega)] at WR
  have LS := lostW x (256 - k) (by omega) (by omega)
  rw [Int.emod_eq_of_lt h0 h1] at LS
  have rz := rest_zero (q := x) (n := 256 - k) (by omega)
  have lost : (x % 2 ^ (256 - k).toNat != 0) = (restQ x (256 - k) false != 0) := by
    rw [Bool.eq_iff_iff]; simp only [bne_iff_ne, ne_eq, rz]
  rw [lost] at LS
  have W1 : IntKind.i64.wrap (256 - k) = 256 - k := IntWalk.i64_in _ (by omega)
  have W2 : wrap64 (256 - k) = 256 - k := by unfold wrap64; omega
  have WL := wleftW x k (by omega) (by omega)
  obtain ⟨ur1, ur2⟩ := up_rest (x := x) k0.1 k0.2
  have CM := cmpW (x * 2 ^ k.toNat) 57896044618658097711785492504343953926634992332820282019728792003956564819968
  rw [show (57896044618658097711785492504343953926634992332820282019728792003956564819968 : Int) % wfull = 57896044618658097711785492504343953926634992332820282019728792003956564819968 from by decide +kernel, ur1, show wd0 57896044618658097711785492504343953926634992332820282019728792003956564819968 = 0 from by decide +kernel, show wd1 57896044618658097711785492504343953926634992332820282019728792003956564819968 = 0 from by decide +kernel, show wd2 57896044618658097711785492504343953926634992332820282019728792003956564819968 = 0 from by decide +kernel, show wd3 57896044618658097711785492504343953926634992332820282019728792003956564819968 = 9223372036854775808 from by decide +kernel, half_w, ur2] at CM
  have pk := two_pow_pos k.toNat
  obtain ⟨rr0, rr1⟩ := rest_range x (256 - k) false
  obtain ⟨q1, q2⟩ := rest_high (q := x) (n := 256 - k) (by omega)
  obtain ⟨od, hod⟩ : ∃ od, decide (floorQ x (256 - k) % 2 = 1) = od := ⟨_, rfl⟩
  have hcut : cutQ x (256 - k) false mm ng = if nextM mm ng od (restQ x (256 - k) false) then floorQ x (256 - k) + 1 else floorQ x (256 - k) := by unfold cutQ; rw [hod]
  rw [hcut] at hC
  have SB := fun a => sub15 a (floorQ x (256 - k))
  have FV : full = 340282366920938463463374607431768211456 := rfl
  by_cases c : nextM mm ng od (restQ x (256 - k) false) = true
  · rw [if_pos c] at hC
    have S1 := SB (floorQ x (256 - k) + 1)
    rw [show floorQ x (256 - k) + 1 - floorQ x (256 - k) = 1 by omega, show hiOf 1 = 0 from rfl, show loOf 1 = 1 from rfl, show decide ((floorQ x (256 - k) + 1) % full < floorQ x (256 - k) % full) = false from decide_eq_false (by rw [Int.emod_eq_of_lt (by omega) (by omega), Int.emod_eq_of_lt (by omega) (by omega)]; omega)] at S1
    have z : restQ x (256 - k) false ≠ 0 := by
      intro z; rw [z, next_none] at c; cases c
    have zb : (restQ x (256 - k) false != 0) = true := by simp [z]
    rw [zb] at hC LS
    have m4 : mm ≠ 4 := by intro e; rw [e, next_zero] at c; cases c
    by_cases ml : mm ≤ 1
    · have r2 := (next_low (ng := ng) (od := od) m5.1 ml rr0 rr1).1 c
      have hj := q1 r2
      exact near15_11_low k8 k m mm (256 - k) _ _ _ _ _ _ _ _ _ _ _ _ _ _ _ _ _ ng (Lib.hid hC) (Lib.hid WR) (Lib.hid (lowW _)) (Lib.hid S1) (Lib.hid LS) (Lib.hid WL) (Lib.hid CM) G uk.1 uk.2 K8 hk kt mt hm W1 W2 (by simp [m4]) (by simp; omega) (cmp_ge (Int.mul_le_mul_of_nonneg_left hj (by omega))) w
    · exact near15_11_mid k8 k m mm (256 - k) _ _ _ _ _ _ _ _ _ _ _ _ ng (Lib.hid hC) (Lib.hid WR) (Lib.hid (lowW _)) (Lib.hid S1) (Lib.hid LS) G uk.1 uk.2 K8 hk kt mt hm W1 W2 (by simp [m4]) (by simp; omega) w
  · rw [if_neg c] at hC
    have c' := Bool.eq_false_iff.2 c
    have S1 := SB (floorQ x (256 - k))
    rw [show floorQ x (256 - k) - floorQ x (256 - k) = 0 by omega, show hiOf 0 = 0 from rfl, show loOf 0 = 0 from rfl, show decide (floorQ x (256 - k) % full < floorQ x (256 - k) % full) = false from decide_eq_false (by omega)] at S1
    obtain ⟨ix, hix⟩ : ∃ ix, (restQ x (256 - k) false != 0) = ix := ⟨_, rfl⟩
    rw [hix] at hC LS
    by_cases ml : mm ≤ 1
    · have r2 := (next_low (ng := ng) (od := od) m5.1 ml rr0 rr1).2 c'
      have hj := q2 r2
      cases ix
      · exact near15_00_low k8 k m mm (256 - k) _ _ _ _ _ _ _ _ _ _ _ _ _ _ _ _ _ ng (Lib.hid hC) (Lib.hid WR) (Lib.hid (lowW _)) (Lib.hid S1) (Lib.hid LS) (Lib.hid WL) (Lib.hid CM) G uk.1 uk.2 K8 hk kt mt hm W1 W2 (by simp; omega) (by simp; omega) (cmp_le (Int.mul_le_mul_of_nonneg_left hj (by omega))) w
      · exact near15_01_low k8 k m mm (256 - k) _ _ _ _ _ _ _ _ _ _ _ _ _ _ _ _ _ ng (Lib.hid hC) (Lib.hid WR) (Lib.hid (lowW _)) (Lib.hid S1) (Lib.hid LS) (Lib.hid WL) (Lib.hid CM) G uk.1 uk.2 K8 hk kt mt hm W1 W2 (by simp; omega) (by simp; omega) (cmp_le (Int.mul_le_mul_of_nonneg_left hj (by omega))) w
    · by_cases m4 : mm = 4
      · cases ix
        · exact near15_00_four k8 k m mm (256 - k) _ _ _ _ _ _ _ _ _ _ _ _ ng (Lib.hid hC) (Lib.hid WR) (Lib.hid (lowW _)) (Lib.hid S1) (Lib.hid LS) G uk.1 uk.2 K8 hk kt mt hm W1 W2 (by simp [m4]) (by simp; omega) w
        · exact near15_01_four k8 k m mm (256 - k) _ _ _ _ _ _ _ _ _ _ _ _ ng (Lib.hid hC) (Lib.hid WR) (Lib.hid (lowW _)) (Lib.hid S1) (Lib.hid LS) G uk.1 uk.2 K8 hk kt mt hm W1 W2 (by simp [m4]) (by simp; omega) w
      · cases ix
        · exact near15_00_mid k8 k m mm (256 - k) _ _ _ _ _ _ _ _ _ _ _ _ ng (Lib.hid hC) (Lib.hid WR) (Lib.hid (lowW _)) (Lib.hid S1) (Lib.hid LS) G uk.1 uk.2 K8 hk kt mt hm W1 W2 (by simp [m4]) (by simp; omega) w
        · exact near15_01_mid k8 k m mm (256 - k) _ _ _ _ _ _ _ _ _ _ _ _ ng (Lib.hid hC) (Lib.hid WR) (Lib.hid (lowW _)) (Lib.hid S1) (Lib.hid LS) G uk.1 uk.2 K8 hk kt mt hm W1 W2 (by simp [m4]) (by simp; omega) w
theorem near15_law (O : RoundOK) (x0 x1 x2 x3 k8 m : Int) (ng : Bool) (ux0 : U64 x0) (ux1 : U64 x1) (ux2 : U64 x2) (ux3 : U64 x3) (uk : 0 ≤ k8 ∧ k8 ≤ 255) (um : 0 ≤ m ∧ m ≤ 255) (w : World) : Calls Try.prog 4 #[.agg #[.int .u64 x0, .int .u64 x1, .int .u64 x2, .int .u64 x3], .int .u8 k8, .int .u8 m, .bool ng] w fun e w' => e = .returned (.bool true) ∧ Below w.heap.size w w' := by
  obtain ⟨h0, h1⟩ := wval_range ux0 ux1 ux2 ux3
  obtain ⟨e0, e1, e2, e3⟩ := wd_wval ux0 ux1 ux2 ux3
  have h := near15_law_n O (wval x0 x1 x2 x3) k8 m ng h0 h1 uk um w
  rw [e0, e1, e2, e3] at h
  exact h


end Go.Proofs.Ytmlobelcoggncaa
