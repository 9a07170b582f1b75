/-
  The example of stage 5.
-/
import Derived.Test.YtlmgebanfjclcaaGoes5
import Derived.Test.YtlmgebanfjclcaaQuotP
set_option linter.unusedVariables false
set_option linter.unusedSimpArgs false
set_option maxRecDepth 100000
namespace Go.Proofs.Ytlmgebanfjclcaa
open Go.RowKit
attribute [local go_sem ↓] Go.wp_at_zero Go.wp_at_succ

theorem ex5_div {n d Q R : Int} {n0 n1 n2 n3 dh dl q0 q1 q2 q3 rh rl : Int} (hd : d % full ≠ 0) (hn : wd0 n = n0 ∧ wd1 n = n1 ∧ wd2 n = n2 ∧ wd3 n = n3) (hdd : hiOf d = dh ∧ loOf d = dl) (hQ : n % wfull / (d % full) = Q) (hR : n % wfull % (d % full) = R)
    (hq : wd0 Q = q0 ∧ wd1 Q = q1 ∧ wd2 Q = q2 ∧ wd3 Q = q3) (hr : hiOf R = rh ∧ loOf R = rl) (w : World) : Calls Try.prog 10 #[.agg #[.int .u64 n0, .int .u64 n1, .int .u64 n2, .int .u64 n3], .agg #[.int .u64 dh, .int .u64 dl]] w fun e w' => e = .returned (.tuple #[.agg #[.int .u64 q0, .int .u64 q1, .int .u64 q2, .int .u64 q3], .agg #[.int .u64 rh, .int .u64 rl], .bool true]) ∧ Below w.heap.size w w' := by
  have h := divQ n d hd w
  rw [hQ, hR, hn.1, hn.2.1, hn.2.2.1, hn.2.2.2, hdd.1, hdd.2, hq.1, hq.2.1, hq.2.2.1, hq.2.2.2, hr.1, hr.2] at h
  exact h
theorem ex5_mod {r d R : Int} {k : Nat} {rh rl dh dl eh el : Int} {o : Bool} (hk : k ≤ 40000) (hlt : r % full < d % full) (hr : hiOf r = rh ∧ loOf r = rl) (hd : hiOf d = dh ∧ loOf d = dl) (hR : r % full * 2 ^ k % (d % full) = R) (he : hiOf R = eh ∧ loOf R = el) (ho : decide (r % full * 2 ^ k / (d % full) % 2 = 1) = o) (w : World) :
    Calls Try.prog 14 #[.agg #[.int .u64 rh, .int .u64 rl], .int .i64 ((k : Int)), .agg #[.int .u64 dh, .int .u64 dl]] w fun e w' => e = .returned (.tuple #[.agg #[.int .u64 eh, .int .u64 el], .bool o, .bool true]) ∧ Below w.heap.size w w' := by
  have h := modQ r d k hk hlt w
  rw [hR, ho, hr.1, hr.2, hd.1, hd.2, he.1, he.2] at h
  exact h
theorem ex5_step {h l d q r : Int} (hq : val h l / d = q) (hr : val h l % d = r) (uh : U64 h) (ul : U64 l) (ud : U64 d) (hd : h < d) (w : World) : Calls Try.prog 12 #[.int .u64 h, .int .u64 l, .int .u64 d] w fun e w' => e = .returned (.tuple #[.int .u64 q, .int .u64 r, .bool true]) ∧ Below w.heap.size w w' := by
  have h := stepQ_ok h l d uh ul ud hd w
  rw [hq, hr] at h
  exact h
theorem goes5_any (w : World) : Calls Try.prog 13 #[] w fun e w' => e = .returned (.bool true) ∧ Below w.heap.size w w' :=
  goes5_core (Lib.hid fun w => ex5_div (n := 7) (d := 2) (Q := 3) (R := 1) (by decide +kernel) (by decide +kernel) (by decide +kernel) (by decide +kernel) (by decide +kernel) (by decide +kernel) (by decide +kernel) w)
    (Lib.hid fun w => ex5_step (by decide +kernel) (by decide +kernel) (by unfold U64; decide) (by unfold U64; decide) (by unfold U64; decide) (by decide) w)
    (Lib.hid fun w => ex5_mod (r := 1) (d := 3) (k := 3) (R := 2) (by decide) (by decide +kernel) (by decide +kernel) (by decide +kernel) (by decide +kernel) (by decide +kernel) (by decide +kernel) w) w


end Go.Proofs.Ytlmgebanfjclcaa
