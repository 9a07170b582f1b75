/-
  ShiftTwice over digits.
-/
import Derived.Test.YtidppeaianpojaaTwice3
import Derived.Test.YtidppeaianpojaaMath3
set_option linter.unusedVariables false
set_option linter.unusedSimpArgs false
namespace Go.Proofs.Ytidppeaianpojaa
open Go.RowKit
attribute [local go_sem ↓] Go.wp_at_zero Go.wp_at_succ

theorem twice3_walk (A n m : Int) (hn : 0 ≤ n ∧ n ≤ 65535) (hm : 0 ≤ m ∧ m ≤ 65535) (w : World) :
    Calls Try.prog 5 #[.agg #[.int .u64 (wd0 (A)), .int .u64 (wd1 (A)), .int .u64 (wd2 (A)), .int .u64 (wd3 (A))], .int .u16 n, .int .u16 m] w fun e w' => e = .returned (.bool true) ∧ Below w.heap.size w w' := by
  obtain ⟨r0, r1⟩ := mod_w A
  have U0 : 0 ≤ n % 300 ∧ n % 300 < 300 := by omega
  have V0 : 0 ≤ m % 300 ∧ m % 300 < 300 := by omega
  have es : (n % 300 + m % 300).toNat = (n % 300).toNat + (m % 300).toNat := by omega
  have ws : IntKind.i64.wrap (n % 300 + m % 300) = n % 300 + m % 300 := IntWalk.i64_in _ (by omega)
  have h1 := wrightW A (n % 300) (by omega) (by omega)
  have h2 := wrightW (A % wfull / 2 ^ (n % 300).toNat) (m % 300) (by omega) (by omega)
  have d := div_back (A % wfull) (n % 300).toNat r0
  rw [Int.emod_eq_of_lt d.1 (show A % wfull / 2 ^ (n % 300).toNat < wfull by omega), jam_div] at h2
  have h3 := wrightW A (n % 300 + m % 300) (by omega) (by omega)
  rw [es] at h3
  have h4 := wleftW A (n % 300) (by omega) (by omega)
  have h5 := wleftW (A * 2 ^ (n % 300).toNat) (m % 300) (by omega) (by omega)
  rw [Int.mul_assoc, ← Int.pow_add] at h5
  have h6 := wleftW A (n % 300 + m % 300) (by omega) (by omega)
  rw [es] at h6
  have h7 := wjamW A (n % 300) (by omega) (by omega)
  have h8 := wjamW (jamN (A % wfull) (n % 300).toNat) (m % 300) (by omega) (by omega)
  have j := jam_lt r0 r1 wfull_even (n % 300).toNat
  rw [Int.emod_eq_of_lt j.1 j.2, jam_jam] at h8
  have h9 := wjamW A (n % 300 + m % 300) (by omega) (by omega)
  rw [es] at h9
  exact twice3_core _ _ _ _ _ _ _ _ _ _ _ _ _ _ _ _ _ _ _ _ _ _ _ _ _ _ _ _ n m (n % 300) (m % 300) (n % 300 + m % 300) (Lib.hid h1) (Lib.hid h2) (Lib.hid h3) (Lib.hid h4) (Lib.hid h5) (Lib.hid h6) (Lib.hid h7) (Lib.hid h8) (Lib.hid h9) hn.1 hn.2 hm.1 hm.2 rfl rfl ws w
theorem twice3_law (a0 a1 a2 a3 n m : Int) (ua0 : U64 a0) (ua1 : U64 a1) (ua2 : U64 a2) (ua3 : U64 a3) (hn : 0 ≤ n ∧ n ≤ 65535) (hm : 0 ≤ m ∧ m ≤ 65535) (w : World) :
    Calls Try.prog 5 #[.agg #[.int .u64 a0, .int .u64 a1, .int .u64 a2, .int .u64 a3], .int .u16 n, .int .u16 m] w fun e w' => e = .returned (.bool true) ∧ Below w.heap.size w w' := by
  have h := twice3_walk (wval a0 a1 a2 a3) n m hn hm w
  obtain ⟨e0, e1, e2, e3⟩ := wd_wval ua0 ua1 ua2 ua3
  rw [e0, e1, e2, e3] at h
  exact h


end Go.Proofs.Ytidppeaianpojaa
