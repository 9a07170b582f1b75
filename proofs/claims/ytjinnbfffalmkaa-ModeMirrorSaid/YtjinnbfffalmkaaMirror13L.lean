/-
  ModeMirror.
-/
import Derived.Test.YtjinnbfffalmkaaMirror13
import Derived.Test.YtjinnbfffalmkaaGoes13L
set_option linter.unusedVariables false
set_option linter.unusedSimpArgs false
set_option maxRecDepth 100000
namespace Go.Proofs.Ytjinnbfffalmkaa
open Go.RowKit
attribute [local go_sem ↓] Go.wp_at_zero Go.wp_at_succ

theorem mirror13_law (M : ModeOK) (m : Int) (od : Bool) (r : Int) (um : 0 ≤ m ∧ m ≤ 255) (ur : 0 ≤ r ∧ r ≤ 255) (w : World) : Calls Try.prog 5 #[.int .u8 m, .bool od, .int .u8 r] w fun e w' => e = .returned (.bool true) ∧ Below w.heap.size w w' := by
  obtain ⟨v0, v1⟩ := mir_range um.1 um.2
  have h2 := M.next (mirM m) false od r v0 v1 ur.1 ur.2
  rw [next_mirror] at h2
  have h4 := M.mirror (mirM m) v0 v1
  rw [mir_mir] at h4
  have h6 := M.known (mirM m) v0 v1
  rw [mir_known] at h6
  have h10 := M.inf (mirM m) false v0 v1
  rw [inf_mirror] at h10
  exact mirror13_core m r _ od _ _ _ (Lib.hid (M.next m true od r um.1 um.2 ur.1 ur.2)) (Lib.hid (M.mirror m um.1 um.2)) (Lib.hid h2) (Lib.hid h4) (Lib.hid h6) (Lib.hid (M.known m um.1 um.2)) (Lib.hid (M.inf m true um.1 um.2)) (Lib.hid h10) (Lib.hid (goes13_any M)) w


end Go.Proofs.Ytjinnbfffalmkaa
