/-
  RoundCuts.
-/
import Derived.Test.YtmlobelcoggncaaCuts15
import Derived.Test.YtmlobelcoggncaaRef15
import Derived.Test.YtmlobelcoggncaaGoes15L
set_option linter.unusedVariables false
set_option linter.unusedSimpArgs false
set_option maxRecDepth 100000
namespace Go.Proofs.Ytmlobelcoggncaa
open Go.RowKit
attribute [local go_sem ↓] Go.wp_at_zero Go.wp_at_succ

theorem blen15 {x : Int} (h0 : 0 ≤ x) (h1 : x < wfull) : blen x ≤ 100000 := by
  by_cases z : x = 0
  · subst z; rw [blen_zero]; omega
  · obtain ⟨j, e, a, b⟩ := blen_bounds (show 0 < x by omega)
    rw [← wfull_pow] at h1
    apply Classical.byContradiction; intro h
    have := two_pow_le (show 256 ≤ j by omega)
    omega
theorem cuts15_law_n (O : RoundOK) (x k m : Int) (ng : Bool) (h0 : 0 ≤ x) (h1 : x < wfull) (uk : -9223372036854775808 ≤ k ∧ k ≤ 9223372036854775807) (um : 0 ≤ m ∧ m ≤ 255) (w : World) : Calls Try.prog 3 #[.agg #[.int .u64 (wd0 (x)), .int .u64 (wd1 (x)), .int .u64 (wd2 (x)), .int .u64 (wd3 (x))], .int .i64 k, .int .u8 m, .bool ng] w fun e w' => e = .returned (.bool true) ∧ Below w.heap.size w w' := by
  have G := Lib.hid (goes15_any O)
  have hC := O.cut x k m ng h0 h1 uk.1 uk.2 um.1 um.2
  have hR := O.rest x k h0 h1 uk.1 uk.2
  by_cases hk : 0 ≤ k ∧ k ≤ 127
  · rw [rest_yes hk] at hR
    have WN := wideN x
    rw [Int.emod_eq_of_lt h0 h1] at WN
    have RC := Lib.hid fun w v (h : IsNum w v x) => ref15_cut x (256 - k) false m ng v (blen15 h0 h1) (by omega) (by omega) w h
    obtain ⟨r0, r1⟩ := rest_range x (256 - k) false
    by_cases hm : m < 5
    · rw [(cut_yes ⟨hk, hm⟩ x ng).1, (cut_yes ⟨hk, hm⟩ x ng).2] at hC
      exact cuts15_yes k m _ (256 - k) x _ _ _ _ _ ng _ (Lib.hid hC) (Lib.hid hR) G (by simp; omega) (by simp; omega) (IntWalk.i64_in _ (by omega)) (by unfold wrap64; omega) (IntWalk.i64_in _ (by omega)) (Lib.hid WN) RC (by simp; omega) rfl w
    · rw [(cut_no (fun z => hm z.2) x ng).1, (cut_no (fun z => hm z.2) x ng).2] at hC
      exact cuts15_no k m _ (256 - k) x _ _ _ _ _ ng (Lib.hid hC) (Lib.hid hR) G (by simp; omega) (by simp; omega) (IntWalk.i64_in _ (by omega)) (by unfold wrap64; omega) (IntWalk.i64_in _ (by omega)) (Lib.hid WN) RC (by simp; omega) w
  · rw [(cut_no (fun z => hk z.1) x ng).1, (cut_no (fun z => hk z.1) x ng).2] at hC
    rw [rest_no hk] at hR
    by_cases hl : k < 0
    · exact cuts15_lo k m _ _ _ _ ng (Lib.hid hC) (Lib.hid hR) G (by simp [hl]) w
    · exact cuts15_hi k m _ _ _ _ ng (Lib.hid hC) (Lib.hid hR) G (by simp [hl]) (by simp; omega) w
theorem cuts15_law (O : RoundOK) (x0 x1 x2 x3 k m : Int) (ng : Bool) (ux0 : U64 x0) (ux1 : U64 x1) (ux2 : U64 x2) (ux3 : U64 x3) (uk : -9223372036854775808 ≤ k ∧ k ≤ 9223372036854775807) (um : 0 ≤ m ∧ m ≤ 255) (w : World) : Calls Try.prog 3 #[.agg #[.int .u64 x0, .int .u64 x1, .int .u64 x2, .int .u64 x3], .int .i64 k, .int .u8 m, .bool ng] w fun e w' => e = .returned (.bool true) ∧ Below w.heap.size w w' := by
  obtain ⟨h0, h1⟩ := wval_range ux0 ux1 ux2 ux3
  obtain ⟨e0, e1, e2, e3⟩ := wd_wval ux0 ux1 ux2 ux3
  have h := cuts15_law_n O (wval x0 x1 x2 x3) k m ng h0 h1 uk um w
  rw [e0, e1, e2, e3] at h
  exact h


end Go.Proofs.Ytmlobelcoggncaa
