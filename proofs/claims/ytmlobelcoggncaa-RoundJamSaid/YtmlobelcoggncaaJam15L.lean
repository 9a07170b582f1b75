/-
  RoundJam.
-/
import Derived.Test.YtmlobelcoggncaaJam15
import Derived.Test.YtmlobelcoggncaaGoes15L
set_option linter.unusedVariables false
set_option linter.unusedSimpArgs false
set_option maxRecDepth 100000
namespace Go.Proofs.Ytmlobelcoggncaa
open Go.RowKit
attribute [local go_sem ↓] Go.wp_at_zero Go.wp_at_succ

theorem jam_div15 (x : Int) (n j : Nat) (hj : 1 ≤ j) : jamN x n / 2 ^ j = x / 2 ^ (j + n) := by
  obtain ⟨i, rfl⟩ : ∃ i, j = 1 + i := ⟨j - 1, by omega⟩
  have h := (jam_low x n).1
  have p1 : (2 : Int) ^ 1 = 2 := rfl
  have h2 : x / 2 ^ n / 2 = x / 2 ^ n / 2 ^ 1 := by rw [p1]
  rw [← jam_div (jamN x n) 1 i, p1, h, h2, jam_div, jam_div]
  congr 2; omega
theorem jam_mod15 (x : Int) (n j : Nat) (hj : 1 ≤ j) : jamN x n % 2 ^ j = 0 ↔ x % 2 ^ (j + n) = 0 := by
  have h := lost_split x n j
  rw [Nat.add_comm j n, h]
  unfold jamN
  by_cases z : x % 2 ^ n = 0
  · rw [if_pos z]; simp [z]
  · rw [if_neg z]
    constructor
    · intro e
      have d : (2 : Int) ∣ 2 ^ j := by
        obtain ⟨i, rfl⟩ : ∃ i, j = i + 1 := ⟨j - 1, by omega⟩
        exact ⟨2 ^ i, pow_succ2 i⟩
      have := Int.emod_emod_of_dvd (x / 2 ^ n / 2 * 2 + 1) d
      rw [e] at this
      omega
    · intro e; exact absurd e.1 z
theorem jam_cut (x : Int) (k n : Int) (k0 : 0 ≤ k) (n0 : 0 ≤ n) (kn : k + n ≤ 127) (m : Int) (ng : Bool) : cutQ (jamN x n.toNat) (256 - (k + n)) false m ng = cutQ x (256 - k) false m ng ∧ restQ (jamN x n.toNat) (256 - (k + n)) false = restQ x (256 - k) false := by
  obtain ⟨j, hj⟩ : ∃ j : Nat, 255 - (k + n) = j := ⟨(255 - (k + n)).toNat, by omega⟩
  have a1 := rest_of (jamN x n.toNat) j
  have a2 := rest_of x (j + n.toNat)
  rw [jam_div15 x _ _ (by omega)] at a1
  have e : (jamN x n.toNat % 2 ^ j != 0) = (x % 2 ^ (j + n.toNat) != 0) := by
    rw [Bool.eq_iff_iff]; simp only [bne_iff_ne, ne_eq, jam_mod15 x n.toNat j (by omega)]
  rw [e, ← a2] at a1
  rw [show ((j : Nat) : Int) + 1 = 256 - (k + n) by omega, show ((j + n.toNat : Nat) : Int) + 1 = 256 - k by omega] at a1
  have f : floorQ (jamN x n.toNat) (256 - (k + n)) = floorQ x (256 - k) := by
    rw [floor_pos (by omega), floor_pos (by omega), jam_div15 x _ _ (by omega)]
    congr 2; omega
  unfold cutQ
  rw [f, a1]
  exact ⟨rfl, rfl⟩
theorem jam_cutB (x : Int) (k n : Int) (k0 : 0 ≤ k) (n0 : 0 ≤ n) (kn : k + n ≤ 127) (m : Int) (ng : Bool) : cutB (jamN x n.toNat) (k + n) m ng = cutB x k m ng ∧ cutX (jamN x n.toNat) (k + n) m = cutX x k m := by
  obtain ⟨a, b⟩ := jam_cut x k n k0 n0 kn m ng
  unfold cutB cutX
  rw [a, b]
  by_cases hm : m < 5
  · rw [if_pos ⟨⟨by omega, kn⟩, hm⟩, if_pos ⟨⟨k0, by omega⟩, hm⟩, show decide ((0 ≤ k + n ∧ k + n ≤ 127) ∧ m < 5) = true from decide_eq_true ⟨⟨by omega, kn⟩, hm⟩, show decide ((0 ≤ k ∧ k ≤ 127) ∧ m < 5) = true from decide_eq_true ⟨⟨k0, by omega⟩, hm⟩]
    exact ⟨rfl, rfl⟩
  · rw [if_neg (fun z => hm z.2), if_neg (fun z => hm z.2), show decide ((0 ≤ k + n ∧ k + n ≤ 127) ∧ m < 5) = false from decide_eq_false (fun z => hm z.2), show decide ((0 ≤ k ∧ k ≤ 127) ∧ m < 5) = false from decide_eq_false (fun z => hm z.2)]
    exact ⟨rfl, rfl⟩
theorem jam15_law_n (O : RoundOK) (x k8 n8 m : Int) (ng : Bool) (h0 : 0 ≤ x) (h1 : x < wfull) (uk : 0 ≤ k8 ∧ k8 ≤ 255) (un : 0 ≤ n8 ∧ n8 ≤ 255) (um : 0 ≤ m ∧ m ≤ 255) (w : World) : Calls Try.prog 5 #[.agg #[.int .u64 (wd0 (x)), .int .u64 (wd1 (x)), .int .u64 (wd2 (x)), .int .u64 (wd3 (x))], .int .u8 k8, .int .u8 n8, .int .u8 m, .bool ng] w fun e w' => e = .returned (.bool true) ∧ Below w.heap.size w w' := by
  have G := Lib.hid (goes15_any O)
  obtain ⟨k, hk⟩ : ∃ k, k8 % 100 = k := ⟨_, rfl⟩
  obtain ⟨n, hn⟩ : ∃ n, n8 % 100 = n := ⟨_, rfl⟩
  have kt : k8.tmod 100 = k := by rw [Int.tmod_eq_emod_of_nonneg uk.1, hk]
  have nt : n8.tmod 100 = n := by rw [Int.tmod_eq_emod_of_nonneg un.1, hn]
  have K8 : IntKind.i64.wrap k8 = k8 := IntWalk.i64_in _ (by omega)
  have N8 : IntKind.i64.wrap n8 = n8 := IntWalk.i64_in _ (by omega)
  have S1 : IntKind.i64.wrap (k + n) = k + n := IntWalk.i64_in _ (by omega)
  have S2 : wrap64 (k + n) = k + n := by unfold wrap64; omega
  have WR := wrightW x n (by omega) (by omega)
  have WJ := wjamW x n (by omega) (by omega)
  have LS := lostW x n (by omega) (by omega)
  rw [Int.emod_eq_of_lt h0 h1] at WR WJ LS
  obtain ⟨j0, j1⟩ := jam_lt h0 h1 wfull_even n.toNat
  obtain ⟨d0, d1, _⟩ := div_back x n.toNat h0
  have C1 := O.cut (x / 2 ^ n.toNat) (k + n) m ng d0 (by omega) (by omega) (by omega) um.1 um.2
  have C2 := O.cut x k m ng h0 h1 (by omega) (by omega) um.1 um.2
  by_cases far : 127 < k + n
  · have C3 := O.cut (jamN x n.toNat) 127 m ng j0 j1 (by decide) (by decide) um.1 um.2
    rw [(cut_no (fun z => by omega) _ ng).1, (cut_no (fun z => by omega) _ ng).2] at C1
    exact jam15_far k8 n8 k n (k + n) m _ _ _ _ _ _ _ _ _ _ _ _ _ _ _ _ ng _ _ (Lib.hid WR) (Lib.hid C1) (Lib.hid C2) (Lib.hid WJ) (Lib.hid C3) G uk.1 uk.2 K8 hk kt un.1 un.2 N8 hn nt S1 S2 (by simp [far]) far w
  · have C3 := O.cut (jamN x n.toNat) (k + n) m ng j0 j1 (by omega) (by omega) um.1 um.2
    obtain ⟨e1, e2⟩ := jam_cutB x k n (by omega) (by omega) (by omega) m ng
    rw [e1, e2] at C3
    by_cases z : x % 2 ^ n.toNat = 0
    · have e : jamN x n.toNat = x / 2 ^ n.toNat := by unfold jamN; rw [if_pos z]
      rw [e] at e1 e2
      rw [e1, e2] at C1
      rw [show (x % 2 ^ n.toNat != 0) = false by simp [z]] at LS
      exact jam15_kept k8 n8 k n (k + n) m _ _ _ _ _ _ _ _ _ _ _ _ _ _ ng _ (Lib.hid WR) (Lib.hid C1) (Lib.hid C2) (Lib.hid WJ) (Lib.hid C3) (Lib.hid LS) G uk.1 uk.2 K8 hk kt un.1 un.2 N8 hn nt S1 S2 (by simp; omega) far w
    · rw [show (x % 2 ^ n.toNat != 0) = true by simp [z]] at LS
      exact jam15_lost k8 n8 k n (k + n) m _ _ _ _ _ _ _ _ _ _ _ _ _ _ _ _ ng _ _ (Lib.hid WR) (Lib.hid C1) (Lib.hid C2) (Lib.hid WJ) (Lib.hid C3) (Lib.hid LS) G uk.1 uk.2 K8 hk kt un.1 un.2 N8 hn nt S1 S2 (by simp; omega) far w
theorem jam15_law (O : RoundOK) (x0 x1 x2 x3 k8 n8 m : Int) (ng : Bool) (ux0 : U64 x0) (ux1 : U64 x1) (ux2 : U64 x2) (ux3 : U64 x3) (uk : 0 ≤ k8 ∧ k8 ≤ 255) (un : 0 ≤ n8 ∧ n8 ≤ 255) (um : 0 ≤ m ∧ m ≤ 255) (w : World) : Calls Try.prog 5 #[.agg #[.int .u64 x0, .int .u64 x1, .int .u64 x2, .int .u64 x3], .int .u8 k8, .int .u8 n8, .int .u8 m, .bool ng] w fun e w' => e = .returned (.bool true) ∧ Below w.heap.size w w' := by
  obtain ⟨h0, h1⟩ := wval_range ux0 ux1 ux2 ux3
  obtain ⟨e0, e1, e2, e3⟩ := wd_wval ux0 ux1 ux2 ux3
  have h := jam15_law_n O (wval x0 x1 x2 x3) k8 n8 m ng h0 h1 uk un um w
  rw [e0, e1, e2, e3] at h
  exact h


end Go.Proofs.Ytmlobelcoggncaa
