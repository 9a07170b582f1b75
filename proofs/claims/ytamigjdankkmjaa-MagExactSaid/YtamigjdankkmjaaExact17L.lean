/-
  MagExact.
-/
import Derived.Laws.BitsAllLaws
import Derived.Test.YtamigjdankkmjaaExact17
import Derived.Test.YtamigjdankkmjaaGoes17L
import Derived.Test.YtamigjdankkmjaaRef17
set_option linter.unusedVariables false
set_option linter.unusedSimpArgs false
set_option maxRecDepth 100000
namespace Go.Proofs.Ytamigjdankkmjaa
open Go.RowKit
attribute [local go_sem ↓] Go.wp_at_zero Go.wp_at_succ

/-- The two lowest bits made 0. -/
theorem andNot3 {v : Int} (h : U64 v) : bits .andNot .u64 v 3 = v / 4 * 4 := by
  rw [u64_andNot _ _ h.1 h.2 (by decide) (by decide)]
  have h0 := h.1; have h1 := h.2
  obtain ⟨V, rfl⟩ := Int.eq_ofNat_of_zero_le h0
  rw [Int.toNat_natCast]
  have hV : V < 2 ^ 64 := by omega
  have e : V &&& (18446744073709551615 - (3 : Int).toNat) = V / 4 * 4 := by
    show V &&& 18446744073709551612 = V / 4 * 4
    apply Nat.eq_of_testBit_eq
    intro i
    rw [Nat.testBit_and, show (4 : Nat) = 2 ^ 2 from rfl, Nat.testBit_mul_two_pow, Nat.testBit_div_two_pow]
    by_cases hi : 2 ≤ i
    · by_cases h64 : i < 64
      · have : (18446744073709551612 : Nat).testBit i = true := by
          have : ∀ j : Fin 64, 2 ≤ j.val → (18446744073709551612 : Nat).testBit j.val = true := by decide +kernel
          exact this ⟨i, h64⟩ hi
        rw [this]; simp [hi]
      · have a : V.testBit i = false := Nat.testBit_lt_two_pow (Nat.lt_of_lt_of_le hV (Nat.pow_le_pow_right (by decide) (by omega)))
        rw [show i - 2 + 2 = i by omega, a]; simp
    · have : (18446744073709551612 : Nat).testBit i = false := by
        rcases (show i = 0 ∨ i = 1 by omega) with rfl | rfl <;> decide +kernel
      rw [this]; simp [hi]
  rw [e]; push_cast; omega
/-- The highest bit made 1. -/
theorem or_top17 {a : Int} (h : U64 a) : 9223372036854775808 ≤ bits .or .u64 a 9223372036854775808 ∧ U64 (bits .or .u64 a 9223372036854775808) := by
  rw [u64_or _ _ h.1 h.2 (by decide) (by decide)]
  have e : (9223372036854775808 : Int).toNat = 9223372036854775808 := rfl
  rw [e]
  have h1 : 9223372036854775808 ≤ a.toNat ||| 9223372036854775808 := Nat.right_le_or
  have h2 : a.toNat ||| 9223372036854775808 < 2 ^ 64 := Nat.or_lt_two_pow (by have := h.1; have := h.2; omega) (by decide)
  unfold U64
  omega
theorem room_any (x0 x1 x2 x3 : Int) (ux0 : U64 x0) (ux1 : U64 x1) (ux2 : U64 x2) (ux3 : U64 x3) : ∃ A : Int, (A % 4 = 0 ∧ 57896044618658097711785492504343953926634992332820282019728792003956564819968 ≤ A ∧ A < wfull) ∧ ∀ w, Calls Try.prog 18 #[.agg #[.int .u64 x0, .int .u64 x1, .int .u64 x2, .int .u64 x3]] w fun e w' => e = .returned (.agg #[.int .u64 (wd0 (A)), .int .u64 (wd1 (A)), .int .u64 (wd2 (A)), .int .u64 (wd3 (A))]) ∧ Below w.heap.size w w' := by
  obtain ⟨t1, t2⟩ := or_top17 ux3
  have R := room17 _ _ x0 x1 x2 x3 (andNot3 ux0) rfl
  generalize bits .or .u64 x3 9223372036854775808 = p3 at *
  have u0 : U64 (x0 / 4 * 4) := by unfold U64 at *; omega
  obtain ⟨h0, h1⟩ := wval_range u0 ux1 ux2 t2
  obtain ⟨e0, e1, e2, e3⟩ := wd_wval u0 ux1 ux2 t2
  refine ⟨wval (x0 / 4 * 4) x1 x2 p3, ⟨?_, ?_, h1⟩, ?_⟩
  · unfold wval; omega
  · unfold wval U64 at *; omega
  · rw [e0, e1, e2, e3]; exact R
theorem small_far {A B : Int} {k : Int} (A1 : A < wfull) (A0 : 0 ≤ A) (B1 : B < wfull) (k1 : k < 300) : Small (A * 2 ^ k.toNat + B) := by
  have h := two_pow_le (show k.toNat ≤ 300 by omega)
  have a := Int.mul_le_mul (show A ≤ wfull by omega) h (by have := two_pow_pos k.toNat; omega) (by decide +kernel)
  have b : wfull * 2 ^ 300 + wfull < bp 20 := by decide +kernel
  exact small_of (k := 20) (by omega) (by decide)
theorem exact17_law_n (O : MagOK) (A B b x0 x1 x2 x3 y0 y1 y2 y3 : Int) (hA : A % 4 = 0 ∧ 57896044618658097711785492504343953926634992332820282019728792003956564819968 ≤ A ∧ A < wfull) (hB : B % 4 = 0 ∧ 57896044618658097711785492504343953926634992332820282019728792003956564819968 ≤ B ∧ B < wfull) (ub : 0 ≤ b ∧ b ≤ 65535) (RX : Hid (∀ w, Calls Try.prog 18 #[.agg #[.int .u64 x0, .int .u64 x1, .int .u64 x2, .int .u64 x3]] w fun e w' => e = .returned (.agg #[.int .u64 (wd0 (A)), .int .u64 (wd1 (A)), .int .u64 (wd2 (A)), .int .u64 (wd3 (A))]) ∧ Below w.heap.size w w')) (RY : Hid (∀ w, Calls Try.prog 18 #[.agg #[.int .u64 y0, .int .u64 y1, .int .u64 y2, .int .u64 y3]] w fun e w' => e = .returned (.agg #[.int .u64 (wd0 (B)), .int .u64 (wd1 (B)), .int .u64 (wd2 (B)), .int .u64 (wd3 (B))]) ∧ Below w.heap.size w w')) (w : World) : Calls Try.prog 4 #[.agg #[.int .u64 x0, .int .u64 x1, .int .u64 x2, .int .u64 x3], .agg #[.int .u64 y0, .int .u64 y1, .int .u64 y2, .int .u64 y3], .int .u16 b] w fun e w' => e = .returned (.bool true) ∧ Below w.heap.size w w' := by
  have G := Lib.hid (goes17_any O)
  obtain ⟨A4, A0, A1⟩ := hA
  obtain ⟨B4, B0, B1⟩ := hB
  obtain ⟨k, hk⟩ : ∃ k, b % 300 = k := ⟨_, rfl⟩
  have kt : b.tmod 300 = k := by rw [Int.tmod_eq_emod_of_nonneg ub.1, hk]
  have kr : 0 ≤ k ∧ k < 300 := by omega
  have W0 : Hid (IntKind.i64.wrap b = b ∧ IntKind.i64.wrap (k + 1) = k + 1 ∧ wrap64 (k + 1) = k + 1) := Lib.hid ⟨IntWalk.i64_in _ (by omega), IntWalk.i64_in _ (by omega), by unfold wrap64; omega⟩
  obtain ⟨l, es⟩ := exact_sum (k := k) kr.1 (by omega) A4 (show A ≠ 0 by omega) (show B ≠ 0 by omega)
  obtain ⟨ec, ed, ed0⟩ := exact_diff (k := k) kr.1 (by omega) A4 (show A ≠ 0 by omega) (show B ≠ 0 by omega)
  have SM := O.sum k A 0 B (by omega) (by omega) (by omega) A1 (by omega) (by omega) (by omega) B1
  have DF := O.diff k A 0 B (by omega) (by omega) (by omega) A1 (by omega) (by omega) (by omega) B1
  obtain ⟨s0, s1⟩ := sum_range (e := k) (g := 0) (show 0 ≤ A by omega) A1 (show 0 ≤ B by omega) B1
  obtain ⟨d0, d1⟩ := diff_range (e := k) (g := 0) (show 0 ≤ A by omega) A1 (show 0 ≤ B by omega) B1
  rw [l] at SM DF
  have WP := wideN A
  have WQ := wideN B
  have WS := wideN (sumT k A 0 B)
  have WX := wideN (diffT k A 0 B)
  rw [Int.emod_eq_of_lt (by omega) A1] at WP
  rw [Int.emod_eq_of_lt (by omega) B1] at WQ
  rw [Int.emod_eq_of_lt s0 s1] at WS
  rw [Int.emod_eq_of_lt d0 d1] at WX
  have sf := small_far (k := k) A1 (by omega) B1 kr.2
  have hp := two_pow_pos k.toNat
  have bg0 : 0 ≤ A * 2 ^ k.toNat := Int.mul_nonneg (by omega) (by omega)
  have SH := Lib.hid fun w v (h : IsNum w v A) => shl_num h (small17 A1) k.toNat (by omega)
  rw [show ((k.toNat : Nat) : Int) = k by omega] at SH
  have sb : Small (A * 2 ^ k.toNat) := by unfold Small at *; omega
  have AD := Lib.hid fun w u v (h : IsNum w u (A * 2 ^ k.toNat)) (h2 : IsNum w v B) => add_num h h2 sb (small17 B1)
  have JS := Lib.hid fun w v (h : IsNum w v (A * 2 ^ k.toNat + B)) => ref3_jam h sf (k + 1)
  rw [show min (k + 1).toNat 300 = k.toNat + 1 by omega, ← es] at JS
  have C1 := Lib.hid fun w u v (h : IsNum w u (sumT k A 0 B)) (h2 : IsNum w v (sumT k A 0 B)) => cmp_num h h2
  rw [cmpI_eqi.2 rfl] at C1
  have C2 := Lib.hid fun w u v (h : IsNum w u (A * 2 ^ k.toNat)) (h2 : IsNum w v B) => cmp_num h h2
  have C3 := Lib.hid fun w u v (h : IsNum w u (diffT k A 0 B)) (h2 : IsNum w v (diffT k A 0 B)) => cmp_num h h2
  rw [cmpI_eqi.2 rfl] at C3
  rw [ec] at DF
  by_cases c : A * 2 ^ k.toNat < B
  · have kz : k = 0 := by
      apply Classical.byContradiction; intro kn
      have h2 := two_pow_le (show 1 ≤ k.toNat by omega)
      have := Int.mul_le_mul_of_nonneg_left h2 (show 0 ≤ A by omega)
      rw [Int.pow_one] at this
      have w2 : wfull = 115792089237316195423570985008687907853269984665640564039457584007913129639936 := rfl
      omega
    have D1 : decide (cmpI (A * 2 ^ k.toNat) B < 0) = true := decide_eq_true (cmpI_lti.2 c)
    rw [D1] at DF
    have eb : A * 2 ^ k.toNat = A := by rw [kz]; simp
    have SB := Lib.hid fun w u v (h : IsNum w u B) (h2 : IsNum w v (A * 2 ^ k.toNat)) => sub_num h h2 (small17 B1) (by omega)
    have JD := Lib.hid fun w v (h : IsNum w v (B - A * 2 ^ k.toNat)) => ref3_jam h (by unfold Small at *; omega) k
    rw [show jamN (B - A * 2 ^ k.toNat) (min k.toNat 300) = diffT k A 0 B by rw [ed0 kz (by omega), eb, show min k.toNat 300 = 0 by omega, jam_self]] at JD
    exact exact17_1 b k (k + 1) _ A B (A * 2 ^ k.toNat) (A * 2 ^ k.toNat + B) _ _ _ (B - A * 2 ^ k.toNat) _ x0 x1 x2 x3 y0 y1 y2 y3 _ _ _ _ _ _ _ _ _ _ _ _ _ _ _ _ RX RY (Lib.hid SM) (Lib.hid DF) G W0.out.1 hk kt W0.out.2.1 W0.out.2.2 D1 (Lib.hid WP) SH (Lib.hid WQ) AD (Lib.hid WS) JS C1 C2 (Lib.hid WX) SB JD C3 w
  · have D1 : decide (cmpI (A * 2 ^ k.toNat) B < 0) = false := decide_eq_false (fun h => c (cmpI_lti.1 h))
    rw [D1] at DF
    have SB := Lib.hid fun w u v (h : IsNum w u (A * 2 ^ k.toNat)) (h2 : IsNum w v B) => sub_num h h2 sb (by omega)
    have JD := Lib.hid fun w v (h : IsNum w v (A * 2 ^ k.toNat - B)) => ref3_jam h (by unfold Small at *; omega) k
    rw [show jamN (A * 2 ^ k.toNat - B) (min k.toNat 300) = diffT k A 0 B by rw [ed (by omega), show min k.toNat 300 = k.toNat by omega]] at JD
    exact exact17_0 b k (k + 1) _ A B (A * 2 ^ k.toNat) (A * 2 ^ k.toNat + B) _ _ _ (A * 2 ^ k.toNat - B) _ x0 x1 x2 x3 y0 y1 y2 y3 _ _ _ _ _ _ _ _ _ _ _ _ _ _ _ _ RX RY (Lib.hid SM) (Lib.hid DF) G W0.out.1 hk kt W0.out.2.1 W0.out.2.2 D1 (Lib.hid WP) SH (Lib.hid WQ) AD (Lib.hid WS) JS C1 C2 (Lib.hid WX) SB JD C3 w
theorem exact17_law (O : MagOK) (x0 x1 x2 x3 y0 y1 y2 y3 b : Int) (ux0 : U64 x0) (ux1 : U64 x1) (ux2 : U64 x2) (ux3 : U64 x3) (uy0 : U64 y0) (uy1 : U64 y1) (uy2 : U64 y2) (uy3 : U64 y3) (ub : 0 ≤ b ∧ b ≤ 65535) (w : World) : Calls Try.prog 4 #[.agg #[.int .u64 x0, .int .u64 x1, .int .u64 x2, .int .u64 x3], .agg #[.int .u64 y0, .int .u64 y1, .int .u64 y2, .int .u64 y3], .int .u16 b] w fun e w' => e = .returned (.bool true) ∧ Below w.heap.size w w' := by
  obtain ⟨A, hA, RX⟩ := room_any x0 x1 x2 x3 ux0 ux1 ux2 ux3
  obtain ⟨B, hB, RY⟩ := room_any y0 y1 y2 y3 uy0 uy1 uy2 uy3
  exact exact17_law_n O A B b x0 x1 x2 x3 y0 y1 y2 y3 hA hB ub (Lib.hid RX) (Lib.hid RY) w


end Go.Proofs.Ytamigjdankkmjaa
