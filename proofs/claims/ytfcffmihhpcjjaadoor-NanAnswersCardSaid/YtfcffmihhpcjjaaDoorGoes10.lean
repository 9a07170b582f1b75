/-
  The walk of the example that every statement of stage 10 asks.
-/
import Derived.Test.YtfcffmihhpcjjaaDoorForm7T
import Derived.Test.YtfcffmihhpcjjaaDoorGaA
import Derived.Test.YtfcffmihhpcjjaaDoorLater4
import Derived.Test.YtfcffmihhpcjjaaDoorBsA
import Derived.Test.YtfcffmihhpcjjaaDoorRef10P
set_option linter.unusedVariables false
set_option linter.unusedSimpArgs false
set_option maxRecDepth 100000
namespace Go.Proofs.YtfcffmihhpcjjaaDoor
open Go.RowKit
attribute [local go_sem ↓] Go.wp_at_zero Go.wp_at_succ

set_option maxHeartbeats 4000000 in
set_option maxRecDepth 100000 in
theorem goes10_core
    (p0 : Hid (∀ w ao, FTab w → Bs w ao 3 3 [15360, 64513, 32261] → Calls Tryd.prog 14 #[.int .u8 0, .bool false, .slice ao 3 3] w fun e w' => e = .returned (.tuple #[.agg #[.int .u64 0, .int .u64 65025, .int .u8 1], .bool true]) ∧ Below w.heap.size w w'))
    (p1 : Hid (∀ w ao, FTab w → Bs w ao 1 1 [0] → Calls Tryd.prog 14 #[.int .u8 0, .bool false, .slice ao 1 1] w fun e w' => e = .returned (.tuple #[.agg #[.int .u64 0, .int .u64 0, .int .u8 0], .bool false]) ∧ Below w.heap.size w w'))
    (q : Hid (∀ w, FTab w → Calls Tryd.prog 9 #[.int .u8 0, .agg #[.int .u64 0, .int .u64 31745]] w fun e w' => e = .returned (.agg #[.int .u64 0, .int .u64 32257]) ∧ Below w.heap.size w w'))
    (d : Hid (∀ w, FTab w → Calls Tryd.prog 11 #[.int .u8 0] w fun e w' => e = .returned (.agg #[.int .u64 0, .int .u64 32256]) ∧ Below w.heap.size w w')) (w : World) (ft : FTab w) :
    Calls Tryd.prog 13 #[] w fun e w' => e = .returned (.bool true) ∧ Below w.heap.size w w' := by
  go_enter Tryd.func13, Tryd.ntmps13
  have SB0 : Bs (w.alloc (.cells #[.int .u64 0, .int .u64 15360, .int .u64 0, .int .u64 64513, .int .u64 0, .int .u64 32261] 25)) (some ⟨w.heap.size, 0, none⟩) 3 3 [15360, 64513, 32261] := Bs.ofHB [15360, 64513, 32261] (HB.newAt (by first | rfl | simp) _ _) (by kernel_rfl) (by decide)
  go_wp2_with fail
  (with_reducible refine (p0.out _ _ (ft.later (bA (Below.refl _ _) _)) SB0).mono ?_); rintro e w1 ⟨rfl, hb⟩
  have kk := bC (bA (Below.refl _ _) _) hb
  clear hb
  clear SB0
  have SB1 : Bs ((w1.alloc (.cells #[.int .u64 0, .int .u64 65025, .int .u8 1] 33)).alloc (.cells #[.int .u64 0, .int .u64 0] 25)) (some ⟨w1.heap.size + 1, 0, none⟩) 1 1 [0] := Bs.ofHB [0] (HB.newAt (by first | rfl | simp) _ _) (by kernel_rfl) (by decide)
  go_wp2_with fail
  (with_reducible refine (p1.out _ _ (ft.later (bA (bA kk _) _)) SB1).mono ?_); rintro e w2 ⟨rfl, hb⟩
  have r0 : HB w2 (w1.heap.size) 33 #[.int .u64 0, .int .u64 65025, .int .u8 1] := ((HB.newAt (by simp) _ _).alloc _).later hb
  replace kk := bC (bA (bA kk _) _) hb
  clear hb
  clear SB1
  go_wp2_with fail
  (with_reducible refine (q.out _ (ft.later (bA kk _))).mono ?_); rintro e w3 ⟨rfl, hb⟩
  replace r0 := (r0.alloc _).later hb
  replace kk := bC (bA kk _) hb
  clear hb
  go_wp2_with fail
  (with_reducible refine (d.out _ (ft.later kk)).mono ?_); rintro e w4 ⟨rfl, hb⟩
  replace r0 := r0.later hb
  replace kk := bC kk hb
  clear hb
  have c0 := r0.cell 0; have c1 := r0.cell 1; have c2 := r0.cell 2; have cl := r0.lt; dsimp at c0 c1 c2
  go_wp2_with fail
  go_ret
  exact ⟨rfl, kk⟩


end Go.Proofs.YtfcffmihhpcjjaaDoor
