/-
  The numbers of the statements of stage 4 are small enough.
-/
import Derived.Test.YtkhcbioohoeegaaDoorCountP
import Derived.Test.YtkhcbioohoeegaaDoorRef4
set_option linter.unusedVariables false
set_option linter.unusedSimpArgs false
set_option maxRecDepth 100000
namespace Go.Proofs.YtkhcbioohoeegaaDoor
open Go.RowKit
attribute [local go_sem ↓] Go.wp_at_zero Go.wp_at_succ

theorem small_f4 (n : Int) : Small (n % full) := small_wide (by
  have h1 := (mod_f n).2
  have h : full ≤ wfull * wfull := by decide +kernel
  omega)
theorem small_w4 (n : Int) : Small (n % wfull) := small_wide (by
  have h1 := (mod_w n).2
  have h : wfull ≤ wfull * wfull := by decide +kernel
  omega)
theorem r4_128 {w : World} {v : Value} {A : Int} (nx : IsNum w v (A % full)) : Calls Tryd.prog 12 #[v, .int .i64 128] w fun e w' => ∃ v', e = .returned (.tuple #[v', .int .i64 ((upN 128 (A % full) : Nat) : Int)]) ∧ IsNum w' v' (A % full * 2 ^ upN 128 (A % full)) ∧ Below w.heap.size w w' :=
  ref4_raise nx (small_f4 A) 128 (blen_f (mod_f A).1 (mod_f A).2) (by decide)
theorem r4_256 {w : World} {v : Value} {A : Int} (nx : IsNum w v (A % wfull)) : Calls Tryd.prog 12 #[v, .int .i64 256] w fun e w' => ∃ v', e = .returned (.tuple #[v', .int .i64 ((upN 256 (A % wfull) : Nat) : Int)]) ∧ IsNum w' v' (A % wfull * 2 ^ upN 256 (A % wfull)) ∧ Below w.heap.size w w' :=
  ref4_raise nx (small_w4 A) 256 (blen_w (mod_w A).1 (mod_w A).2) (by decide)


end Go.Proofs.YtkhcbioohoeegaaDoor
