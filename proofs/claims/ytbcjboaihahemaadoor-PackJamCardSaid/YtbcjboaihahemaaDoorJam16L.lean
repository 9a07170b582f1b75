/-
  PackJam.
-/
import Derived.Test.YtbcjboaihahemaaDoorJam16
import Derived.Test.YtbcjboaihahemaaDoorGoes16L
set_option linter.unusedVariables false
set_option linter.unusedSimpArgs false
set_option maxRecDepth 100000
namespace Go.Proofs.YtbcjboaihahemaaDoor
open Go.RowKit
attribute [local go_sem ↓] Go.wp_at_zero Go.wp_at_succ

/-- The highest bit made 1. -/
theorem or_top {a : Int} (h : U64 a) : 9223372036854775808 ≤ bits .or .u64 a 9223372036854775808 ∧ U64 (bits .or .u64 a 9223372036854775808) := by
  rw [u64_or _ _ h.1 h.2 (by decide) (by decide)]
  have e : (9223372036854775808 : Int).toNat = 9223372036854775808 := rfl
  rw [e]
  have h1 : 9223372036854775808 ≤ a.toNat ||| 9223372036854775808 := Nat.right_le_or
  have h2 : a.toNat ||| 9223372036854775808 < 2 ^ 64 := Nat.or_lt_two_pow (by have := h.1; have := h.2; omega) (by decide)
  unfold U64
  omega
theorem jam16_law (O : PackOK) (f m : Int) (t ng : Bool) (ex x0 x1 x2 x3 b8 : Int) (uf : 0 ≤ f ∧ f ≤ 255) (um : 0 ≤ m ∧ m ≤ 255) (ue : -9223372036854775808 ≤ ex ∧ ex ≤ 9223372036854775807) (ux0 : U64 x0) (ux1 : U64 x1) (ux2 : U64 x2) (ux3 : U64 x3) (ub : 0 ≤ b8 ∧ b8 ≤ 255) (w : World) (ft : FTab w) : Calls Tryd.prog 4 #[.int .u8 f, .agg #[.int .u8 m, .bool t], .bool ng, .int .i64 ex, .agg #[.int .u64 x0, .int .u64 x1, .int .u64 x2, .int .u64 x3], .int .u8 b8] w fun e w' => e = .returned (.bool true) ∧ Below w.heap.size w w' := by
  have G := Lib.hid (goes16_any O)
  obtain ⟨o1, o2⟩ := or_top ux3
  obtain ⟨y3, hy⟩ : ∃ y3, bits .or .u64 x3 9223372036854775808 = y3 := ⟨_, rfl⟩
  rw [hy] at o1 o2
  obtain ⟨n, hn⟩ : ∃ n : Nat, b8 % 140 = n := ⟨(b8 % 140).toNat, by omega⟩
  have nt : b8.tmod 140 = n := by rw [Int.tmod_eq_emod_of_nonneg ub.1, hn]
  obtain ⟨h0, h1⟩ := wval_range ux0 ux1 ux2 o2
  obtain ⟨e0, e1, e2, e3⟩ := wd_wval ux0 ux1 ux2 o2
  have lo : 2 ^ 255 ≤ wval x0 x1 x2 y3 := by
    have := ux0.1; have := ux1.1; have := ux2.1
    unfold wval; omega
  have hi : wval x0 x1 x2 y3 < 2 ^ 256 := by rw [wfull_pow]; exact h1
  obtain ⟨a0, ha0⟩ : ∃ a0, (if (1073741824 : Int) < ex then 1073741824 else ex) = a0 := ⟨_, rfl⟩
  obtain ⟨a1, ha1⟩ : ∃ a1, (if a0 > (-1073741824 : Int) then a0 else (-1073741824)) = a1 := ⟨_, rfl⟩
  have ar : -1073741824 ≤ a1 ∧ a1 ≤ 1073741824 := by
    subst ha1; subst ha0; repeat' split
    all_goals omega
  have WJ := wjamW (wval x0 x1 x2 y3) n (by omega) (by omega)
  rw [Int.emod_eq_of_lt h0 h1, Int.toNat_natCast, e0, e1, e2, e3] at WJ
  obtain ⟨j0, j1⟩ := jam_lt h0 h1 wfull_even n
  have R1 := O.round f m t ng (a1 + n) (jamN (wval x0 x1 x2 y3) n) uf.1 uf.2 um.1 um.2 (by omega) (by omega) j0 j1
  have R2 := O.round f m t ng a1 (wval x0 x1 x2 y3) uf.1 uf.2 um.1 um.2 (by omega) (by omega) h0 h1
  obtain ⟨b1, b2⟩ := pk_jam (f := f) (m := m) (exp := a1) (ng := ng) n uf.1 lo hi (by omega) (by omega) (by omega)
  rw [b1, b2] at R1
  rw [e0, e1, e2, e3] at R2
  exact jam16_core f m ex b8 n a0 a1 (a1 + n) y3 _ _ _ x0 x1 x2 x3 _ _ _ _ t ng (Lib.hid WJ) (Lib.hid R1) (Lib.hid R2) G ub.1 ub.2 (IntWalk.i64_in _ (by omega)) hn nt ha0 ha0 ha1 ha1 hy (IntWalk.i64_in _ (by omega)) (by unfold wrap64; omega) w ft


end Go.Proofs.YtbcjboaihahemaaDoor
