/-
  The walk of an encoding without its sign.
-/
import Derived.Test.YtnaamckhignjeaaGreatDoorAdd18M
import Derived.Test.YtnaamckhignjeaaGreatDoorW2
import Derived.Test.YtnaamckhignjeaaGreatDoorGfA
import Derived.Test.YtnaamckhignjeaaGreatDoorGhA
import Derived.Test.YtnaamckhignjeaaGreatDoorGaA
set_option linter.unusedVariables false
set_option linter.unusedSimpArgs false
set_option maxRecDepth 100000
namespace Go.Proofs.YtnaamckhignjeaaGreatDoor
open Go.RowKit
attribute [local go_sem ↓] Go.wp_at_zero Go.wp_at_succ

set_option maxHeartbeats 4000000 in
theorem size18 (f ex bh bl qh ql rh rl : Int) (ng : Bool)
    (h0 : Hid (∀ w, FTab w → Ca 54 #[.int .u8 f, U2 bh bl] w (.tuple #[.bool ng, .int .i64 ex, U2 qh ql])))
    (h1 : Hid (∀ w, FTab w → Ca 55 #[.int .u8 f, .bool false, .int .i64 ex, U2 qh ql] w (U2 rh rl))) (w : World) (ft : FTab w) :
    Ca 28 #[.int .u8 f, U2 bh bl] w (U2 rh rl) := by
  simp only [Ca, U2] at *
  go_enter Tryz.func28, Tryz.ntmps28
  go_wp2_with fail
  refine vM (h0.out _ (ft.later (bA (bA (Below.refl _ _) _) _))) fun w1 b1 => ?_
  have gX1 : w.heap.size ≤ w.heap.size + 1 := by omega
  have X1 := (HB.newAt (b := w.heap.size + 1) (by simp) _ _).later b1
  go_wp2_with fail
  refine vM (h1.out _ (ft.later (bA (bC (bA (bA (Below.refl _ _) _) _) b1) _))) fun w2 b2 => ?_
  replace X1 := X1.later (bC (bA (Below.refl _ _) _) b2)
  have oX1 := X1.o
  go_wp2_with fail
  refine bodyPost_ret (v := .agg #[.int .u64 rh, .int .u64 rl]) ?_ rfl ⟨rfl, (((bC (bC (bA (bA (Below.refl _ _) _) _) b1) (bC (bA (Below.refl _ _) _) b2)).setCell (p := ⟨w.heap.size + 1, 0, none⟩) gX1 _).setCell (p := ⟨w.heap.size + 1, 1, none⟩) gX1 _)⟩
  simp [results, Tryz.results28, go_sem, oX1]



end Go.Proofs.YtnaamckhignjeaaGreatDoor
