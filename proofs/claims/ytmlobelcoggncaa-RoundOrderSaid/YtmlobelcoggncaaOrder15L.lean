/-
  RoundOrder.
-/
import Derived.Test.YtmlobelcoggncaaOrder15
import Derived.Test.YtmlobelcoggncaaGoes15L
set_option linter.unusedVariables false
set_option linter.unusedSimpArgs false
set_option maxRecDepth 100000
namespace Go.Proofs.Ytmlobelcoggncaa
open Go.RowKit
attribute [local go_sem ↓] Go.wp_at_zero Go.wp_at_succ

theorem next_mono (m : Int) (ng od : Bool) {r s : Int} (r0 : 0 ≤ r) (h : r ≤ s) (s3 : s ≤ 3) (hn : nextM m ng od r = true) : nextM m ng od s = true := by
  obtain ⟨d, rfl⟩ : ∃ d : Nat, s = r + d := ⟨(s - r).toNat, by omega⟩
  induction d with
  | zero => simpa using hn
  | succ d ih =>
    have h2 := ih (by omega) (by omega)
    have h3 := next_more m ng od (r := r + (d : Int)) (by omega) (by omega) h2
    rw [show r + ((d + 1 : Nat) : Int) = r + (d : Int) + 1 by omega]; exact h3
theorem rest_mono {p q n : Int} (h : 0 < n) (hp : p % 2 ^ n.toNat ≤ q % 2 ^ n.toNat) : restQ p n false ≤ restQ q n false := by
  have p0 := Int.emod_nonneg p (pow_pos' n.toNat)
  unfold restQ
  rw [if_neg (show ¬ n ≤ 0 by omega), if_neg (show ¬ n ≤ 0 by omega)]
  generalize p % 2 ^ n.toNat = r at *
  generalize q % 2 ^ n.toNat = s at *
  generalize (2 : Int) ^ (n.toNat - 1) = H at *
  by_cases z : r = 0
  · rw [if_pos ⟨z, rfl⟩]; repeat' split
    all_goals omega
  · rw [if_neg (by simp [z]), if_neg (show ¬ (s = 0 ∧ false = false) by simp; omega)]
    by_cases l : r < H
    · rw [if_pos l]; repeat' split <;> omega
    · rw [if_neg l, if_neg (show ¬ s < H by omega)]
      by_cases e : r = H
      · rw [if_pos (show false = false ∧ r = H from ⟨rfl, e⟩)]; repeat' split
        all_goals omega
      · rw [if_neg (show ¬ (false = false ∧ r = H) by simp [e]), if_neg (show ¬ (false = false ∧ s = H) by simp; omega)]; omega
theorem cut_mono {p q n : Int} (h : 0 < n) (hp : p ≤ q) (m : Int) (ng : Bool) : cutQ p n false m ng ≤ cutQ q n false m ng := by
  have f : floorQ p n ≤ floorQ q n := by rw [floor_pos h, floor_pos h]; exact div_mono hp _
  rcases Int.lt_or_eq_of_le f with f | f
  · rcases cut_floor p n false m ng with a | a <;> rcases cut_floor q n false m ng with b | b <;> omega
  · have e1 := Int.emod_add_mul_ediv p (2 ^ n.toNat); have e2 := Int.emod_add_mul_ediv q (2 ^ n.toNat)
    rw [← floor_pos h] at e1 e2
    rw [f] at e1
    have hr := rest_mono (p := p) (q := q) h (by omega)
    obtain ⟨r0, r1⟩ := rest_range p n false
    obtain ⟨s0, s1⟩ := rest_range q n false
    unfold cutQ
    rw [f]
    by_cases c : nextM m ng (decide (floorQ q n % 2 = 1)) (restQ p n false) = true
    · rw [if_pos c, if_pos (next_mono m ng _ r0 hr s1 c)]; omega
    · rw [if_neg c]; split <;> omega
theorem cmp_le15 {a b : Int} (h : a ≤ b) : decide (cmpI a b ≤ 0) = true := decide_eq_true (by unfold cmpI; split; decide; rw [if_neg (by omega)]; decide)
theorem cmp_gt15 (a b : Int) : decide (0 < cmpI a b) = decide (b < a) := by
  rw [decide_eq_decide]; unfold cmpI; split
  · omega
  · split <;> omega
theorem order15_law_n (O : RoundOK) (v x k8 m : Int) (ng : Bool) (v0 : 0 ≤ v) (v1 : v < wfull) (h0 : 0 ≤ x) (h1 : x < wfull) (uk : 0 ≤ k8 ∧ k8 ≤ 255) (um : 0 ≤ m ∧ m ≤ 255) (w : World) : Calls Try.prog 6 #[.agg #[.int .u64 (wd0 (v)), .int .u64 (wd1 (v)), .int .u64 (wd2 (v)), .int .u64 (wd3 (v))], .agg #[.int .u64 (wd0 (x)), .int .u64 (wd1 (x)), .int .u64 (wd2 (x)), .int .u64 (wd3 (x))], .int .u8 k8, .int .u8 m, .bool ng] w fun e w' => e = .returned (.bool true) ∧ Below w.heap.size w w' := by
  have G := Lib.hid (goes15_any O)
  obtain ⟨k, hk⟩ : ∃ k, k8 % 128 = k := ⟨_, rfl⟩
  obtain ⟨mm, hm⟩ : ∃ mm, m % 5 = mm := ⟨_, rfl⟩
  have kt : k8.tmod 128 = k := by rw [Int.tmod_eq_emod_of_nonneg uk.1, hk]
  have mt : m.tmod 5 = mm := by rw [Int.tmod_eq_emod_of_nonneg um.1, hm]
  have K8 : IntKind.i64.wrap k8 = k8 := IntWalk.i64_in _ (by omega)
  have k0 : 0 ≤ k ∧ k ≤ 127 := by omega
  have m5 : 0 ≤ mm ∧ mm < 5 := by omega
  have CW := cmpW v x
  rw [Int.emod_eq_of_lt v0 v1, Int.emod_eq_of_lt h0 h1] at CW
  have C1 := O.cut v k mm ng v0 v1 (by omega) (by omega) (by omega) (by omega)
  have C2 := O.cut x k mm ng h0 h1 (by omega) (by omega) (by omega) (by omega)
  rw [(cut_yes ⟨k0, m5.2⟩ _ ng).1, (cut_yes ⟨k0, m5.2⟩ _ ng).2] at C1 C2
  obtain ⟨a0, a1⟩ := cut_full v0 v1 k0.1 k0.2 mm ng
  obtain ⟨b0, b1⟩ := cut_full h0 h1 k0.1 k0.2 mm ng
  by_cases c : x < v
  · have B := cmpB (cutQ x (256 - k) false mm ng) (cutQ v (256 - k) false mm ng)
    rw [Int.emod_eq_of_lt a0 a1, Int.emod_eq_of_lt b0 b1] at B
    exact order15_swap k8 k m mm _ _ _ _ _ _ _ _ _ _ _ _ _ _ ng _ _ (Lib.hid CW) (Lib.hid C2) (Lib.hid C1) (Lib.hid B) G uk.1 uk.2 K8 hk kt mt hm (by rw [cmp_gt15]; simp [c]) (cmp_le15 (cut_mono (by omega) (by omega) mm ng)) w
  · have B := cmpB (cutQ v (256 - k) false mm ng) (cutQ x (256 - k) false mm ng)
    rw [Int.emod_eq_of_lt a0 a1, Int.emod_eq_of_lt b0 b1] at B
    exact order15_same k8 k m mm _ _ _ _ _ _ _ _ _ _ _ _ _ _ ng _ _ (Lib.hid CW) (Lib.hid C1) (Lib.hid C2) (Lib.hid B) G uk.1 uk.2 K8 hk kt mt hm (by rw [cmp_gt15]; simp [c]) (cmp_le15 (cut_mono (by omega) (by omega) mm ng)) w
theorem order15_law (O : RoundOK) (v0 v1 v2 v3 x0 x1 x2 x3 k8 m : Int) (ng : Bool) (uv0 : U64 v0) (uv1 : U64 v1) (uv2 : U64 v2) (uv3 : U64 v3) (ux0 : U64 x0) (ux1 : U64 x1) (ux2 : U64 x2) (ux3 : U64 x3) (uk : 0 ≤ k8 ∧ k8 ≤ 255) (um : 0 ≤ m ∧ m ≤ 255) (w : World) : Calls Try.prog 6 #[.agg #[.int .u64 v0, .int .u64 v1, .int .u64 v2, .int .u64 v3], .agg #[.int .u64 x0, .int .u64 x1, .int .u64 x2, .int .u64 x3], .int .u8 k8, .int .u8 m, .bool ng] w fun e w' => e = .returned (.bool true) ∧ Below w.heap.size w w' := by
  obtain ⟨h0, h1⟩ := wval_range ux0 ux1 ux2 ux3
  obtain ⟨e0, e1, e2, e3⟩ := wd_wval ux0 ux1 ux2 ux3
  obtain ⟨g0, g1⟩ := wval_range uv0 uv1 uv2 uv3
  obtain ⟨f0, f1, f2, f3⟩ := wd_wval uv0 uv1 uv2 uv3
  have h := order15_law_n O (wval v0 v1 v2 v3) (wval x0 x1 x2 x3) k8 m ng g0 g1 h0 h1 uk um w
  rw [e0, e1, e2, e3, f0, f1, f2, f3] at h
  exact h


end Go.Proofs.Ytmlobelcoggncaa
