/-
  Contracts of the program's package wide.
-/
import Derived.Test.YtkhcbioohoeegaaDoorWideC
import Derived.Test.YtkhcbioohoeegaaDoorWideM
import Derived.Test.YtkhcbioohoeegaaDoorWordB
set_option linter.unusedVariables false
set_option maxRecDepth 100000
namespace Go.Proofs.YtkhcbioohoeegaaDoor
open Go.RowKit

theorem wstore {a w : World} {p : Nat} {x0 x1 x2 x3 : Int} (d0 d1 d2 d3 : Int) (x : WBox w p x0 x1 x2 x3) (f : WFree w p) (kb : Below a.heap.size a w) (hp : a.heap.size ≤ p) :
    WBox ((((w.setCell ⟨p, 0, none⟩ (.int .u64 d0)).setCell ⟨p, 1, none⟩ (.int .u64 d1)).setCell ⟨p, 2, none⟩ (.int .u64 d2)).setCell ⟨p, 3, none⟩ (.int .u64 d3)) p d0 d1 d2 d3 ∧
    Below a.heap.size a ((((w.setCell ⟨p, 0, none⟩ (.int .u64 d0)).setCell ⟨p, 1, none⟩ (.int .u64 d1)).setCell ⟨p, 2, none⟩ (.int .u64 d2)).setCell ⟨p, 3, none⟩ (.int .u64 d3)) :=
  ⟨(((x.set0 d0).set1 d1).set2 d2).set3 d3, (((kb.setCell (p := ⟨p, 0, none⟩) hp _).setCell (p := ⟨p, 1, none⟩) hp _).setCell (p := ⟨p, 2, none⟩) hp _).setCell (p := ⟨p, 3, none⟩) hp _⟩

set_option maxHeartbeats 1000000 in
theorem high_any (a0 a1 a2 a3 : Int) (w : World) :
    Calls Tryd.prog 30 #[.agg #[.int .u64 a0, .int .u64 a1, .int .u64 a2, .int .u64 a3]] w fun e w' => e = .returned (.agg #[.int .u64 a3, .int .u64 a2]) ∧ Below w.heap.size w w' := by
  go_enter Tryd.func30, Tryd.ntmps30
  go_wp2_with fail
  refine bodyPost_ret (v := .agg #[.int .u64 a3, .int .u64 a2]) (by simp [results, Tryd.results30, go_sem]) rfl ⟨rfl, ?_⟩
  first | exact (bA (bA (Below.refl _ _) _) _) | simp [go_sem]; fail

set_option maxHeartbeats 1000000 in
theorem low_any (a0 a1 a2 a3 : Int) (w : World) :
    Calls Tryd.prog 31 #[.agg #[.int .u64 a0, .int .u64 a1, .int .u64 a2, .int .u64 a3]] w fun e w' => e = .returned (.agg #[.int .u64 a1, .int .u64 a0]) ∧ Below w.heap.size w w' := by
  go_enter Tryd.func31, Tryd.ntmps31
  go_wp2_with fail
  refine bodyPost_ret (v := .agg #[.int .u64 a1, .int .u64 a0]) (by simp [results, Tryd.results31, go_sem]) rfl ⟨rfl, ?_⟩
  first | exact (bA (bA (Below.refl _ _) _) _) | simp [go_sem]; fail

set_option maxHeartbeats 1000000 in
theorem join_any (ah al bh bl : Int) (w : World) :
    Calls Tryd.prog 49 #[.agg #[.int .u64 ah, .int .u64 al], .agg #[.int .u64 bh, .int .u64 bl]] w fun e w' => e = .returned (.agg #[.int .u64 bl, .int .u64 bh, .int .u64 al, .int .u64 ah]) ∧ Below w.heap.size w w' := by
  go_enter Tryd.func49, Tryd.ntmps49
  go_wp2_with fail
  refine bodyPost_ret (v := .agg #[.int .u64 bl, .int .u64 bh, .int .u64 al, .int .u64 ah]) (by simp [results, Tryd.results49, go_sem]) rfl ⟨rfl, ?_⟩
  first | exact (bA (bA (bA (Below.refl _ _) _) _) _) | simp [go_sem]; fail

end Go.Proofs.YtkhcbioohoeegaaDoor
