/-
  QuotDivs over digits.
-/
import Derived.Test.YtlmgebanfjclcaaDivs5
import Derived.Test.YtlmgebanfjclcaaGoes5L
import Derived.Test.YtlmgebanfjclcaaRef5N
set_option linter.unusedVariables false
set_option linter.unusedSimpArgs false
set_option maxRecDepth 100000
namespace Go.Proofs.Ytlmgebanfjclcaa
open Go.RowKit
attribute [local go_sem ↓] Go.wp_at_zero Go.wp_at_succ

theorem small_wd {x : Int} (h0 : 0 ≤ x) (h1 : x < 18446744073709551616) : wd0 x = x ∧ wd1 x = 0 ∧ wd2 x = 0 ∧ wd3 x = 0 := by unfold wd0 wd1 wd2 wd3; omega
theorem small_hl {x : Int} (h0 : 0 ≤ x) (h1 : x < 18446744073709551616) : hiOf x = 0 ∧ loOf x = x := by unfold hiOf loOf; omega
theorem val_wd {h l : Int} (uh : U64 h) (ul : U64 l) : wd0 (val h l) = l ∧ wd1 (val h l) = h ∧ wd2 (val h l) = 0 ∧ wd3 (val h l) = 0 := by unfold U64 at *; unfold wd0 wd1 wd2 wd3 val; omega
theorem divs5_law (n0 n1 n2 n3 dh dl : Int) (un0 : U64 n0) (un1 : U64 n1) (un2 : U64 n2) (un3 : U64 n3) (udh : U64 dh) (udl : U64 dl) (w : World) :
    Calls Try.prog 3 #[.agg #[.int .u64 n0, .int .u64 n1, .int .u64 n2, .int .u64 n3], .agg #[.int .u64 dh, .int .u64 dl]] w fun e w' => e = .returned (.bool true) ∧ Below w.heap.size w w' := by
  have G := Lib.hid goes5_any
  obtain ⟨e0, e1, e2, e3⟩ := wd_wval un0 un1 un2 un3
  obtain ⟨f0, f1⟩ := hl_val udh udl
  have vd := val_range udh udl
  have md : val dh dl % full = val dh dl := Int.emod_eq_of_lt vd.1 vd.2
  by_cases hz : val dh dl % full = 0
  · have h1 : dh = 0 := by rw [md] at hz; unfold val U64 at *; omega
    have h2 : dl = 0 := by rw [md] at hz; unfold val U64 at *; omega
    subst h1 h2
    exact divs5_ge _ _ _ _ _ _ _ _ _ _ _ _ _ (Lib.hid (divQ_no n0 n1 n2 n3)) (Lib.hid (ref5_div_no n0 n1 n2 n3)) (Lib.hid (qstep_no n1 n0 0 (by simp; exact un1.1))) G (by simp; exact un1.1) w
  · have hD := divQ (wval n0 n1 n2 n3) (val dh dl) hz
    have hR := ref5_div (wval n0 n1 n2 n3) (val dh dl) hz
    rw [e0, e1, e2, e3, f0, f1] at hD hR
    by_cases g : dl ≤ n1
    · exact divs5_ge _ _ _ _ _ _ _ _ _ _ _ _ _ (Lib.hid hD) (Lib.hid hR) (Lib.hid (qstep_no n1 n0 dl (by simp [g]))) G (by simp [g]) w
    · have dp : 0 < dl := by have := un1.1; omega
      have hS := stepQ_ok n1 n0 dl un1 un0 udl (by omega)
      have vn := val_range un1 un0
      have dw : dl % full = dl := Int.emod_eq_of_lt udl.1 (by have := udl.2; unfold full; omega)
      have nw : val n1 n0 % wfull = val n1 n0 := Int.emod_eq_of_lt vn.1 (by have := vn.2; unfold full wfull at *; omega)
      have hT := ref5_div (val n1 n0) dl (by rw [dw]; omega)
      obtain ⟨a0, a1, a2, a3⟩ := val_wd un1 un0
      obtain ⟨b0, b1⟩ := small_hl udl.1 udl.2
      have q0 : 0 ≤ val n1 n0 / dl := Int.ediv_nonneg vn.1 udl.1
      have q1 : val n1 n0 / dl < 18446744073709551616 := by
        refine Int.ediv_lt_of_lt_mul dp ?_
        have := un0.2
        have : (n1 + 1) * 18446744073709551616 ≤ dl * 18446744073709551616 := mul_le_of (by decide) (by omega)
        rw [Int.mul_comm 18446744073709551616 dl]
        unfold val; omega
      have r0 := Int.emod_nonneg (val n1 n0) (show dl ≠ 0 by omega)
      have r1 := Int.emod_lt_of_pos (val n1 n0) dp
      obtain ⟨c0, c1, c2, c3⟩ := small_wd q0 q1
      obtain ⟨d0, d1⟩ := small_hl r0 (by have := udl.2; omega)
      rw [a0, a1, a2, a3, b0, b1, nw, dw, c0, c1, c2, c3, d0, d1] at hT
      exact divs5_lt _ _ _ _ _ _ _ _ _ _ _ _ _ _ _ _ (Lib.hid hD) (Lib.hid hR) (Lib.hid hS) (Lib.hid hT) G (by simp; omega) w


end Go.Proofs.Ytlmgebanfjclcaa
