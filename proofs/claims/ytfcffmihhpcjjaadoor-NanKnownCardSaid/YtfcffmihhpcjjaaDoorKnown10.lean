/-
  The walk of the statement NanKnown.
-/
import Derived.Test.YtfcffmihhpcjjaaDoorForm7T
import Derived.Test.YtfcffmihhpcjjaaDoorGaA
import Derived.Test.YtfcffmihhpcjjaaDoorLater4
import Derived.Test.YtfcffmihhpcjjaaDoorBsA
import Derived.Test.YtfcffmihhpcjjaaDoorRef10P
set_option linter.unusedVariables false
set_option linter.unusedSimpArgs false
set_option maxRecDepth 100000
namespace Go.Proofs.YtfcffmihhpcjjaaDoor
open Go.RowKit
attribute [local go_sem ↓] Go.wp_at_zero Go.wp_at_succ

set_option maxHeartbeats 4000000 in
set_option maxRecDepth 100000 in
theorem known10_core
    (p0 : Hid (∀ w ao, FTab w → Bs w ao 2 2 [0, 31744] → Calls Tryd.prog 14 #[.int .u8 0, .bool true, .slice ao 2 2] w fun e w' => e = .returned (.tuple #[.agg #[.int .u64 0, .int .u64 32256, .int .u8 1], .bool true]) ∧ Below w.heap.size w w'))
    (p1 : Hid (∀ w, FTab w → Calls Tryd.prog 14 #[.int .u8 3, .bool true, .slice none 0 0] w fun e w' => e = .returned (.tuple #[.agg #[.int .u64 9223231299366420480, .int .u64 0, .int .u8 1], .bool true]) ∧ Below w.heap.size w w'))
    (p2 : Hid (∀ w, FTab w → Calls Tryd.prog 14 #[.int .u8 1, .bool false, .slice none 0 0] w fun e w' => e = .returned (.tuple #[.agg #[.int .u64 0, .int .u64 0, .int .u8 0], .bool false]) ∧ Below w.heap.size w w'))
    (p3 : Hid (∀ w ao, FTab w → Bs w ao 1 1 [4290772993] → Calls Tryd.prog 14 #[.int .u8 1, .bool false, .slice ao 1 1] w fun e w' => e = .returned (.tuple #[.agg #[.int .u64 0, .int .u64 4290772993, .int .u8 0], .bool true]) ∧ Below w.heap.size w w'))
    (p4 : Hid (∀ w ao, FTab w → Bs w ao 1 1 [0] → Calls Tryd.prog 14 #[.int .u8 4, .bool true, .slice ao 1 1] w fun e w' => e = .returned (.tuple #[.agg #[.int .u64 0, .int .u64 0, .int .u8 0], .bool false]) ∧ Below w.heap.size w w'))
    (d1 : Hid (∀ w, FTab w → Calls Tryd.prog 11 #[.int .u8 1] w fun e w' => e = .returned (.agg #[.int .u64 0, .int .u64 2143289344]) ∧ Below w.heap.size w w'))
    (d2 : Hid (∀ w, FTab w → Calls Tryd.prog 11 #[.int .u8 2] w fun e w' => e = .returned (.agg #[.int .u64 0, .int .u64 9221120237041090560]) ∧ Below w.heap.size w w'))
    (d4 : Hid (∀ w, FTab w → Calls Tryd.prog 11 #[.int .u8 4] w fun e w' => e = .returned (.agg #[.int .u64 0, .int .u64 0]) ∧ Below w.heap.size w w'))
    (q4 : Hid (∀ w, FTab w → Calls Tryd.prog 9 #[.int .u8 4, .agg #[.int .u64 0, .int .u64 9]] w fun e w' => e = .returned (.agg #[.int .u64 0, .int .u64 0]) ∧ Below w.heap.size w w'))
    (g : Hid (∀ w, FTab w → Calls Tryd.prog 13 #[] w fun e w' => e = .returned (.bool true) ∧ Below w.heap.size w w')) (w : World) (ft : FTab w) :
    Calls Tryd.prog 8 #[] w fun e w' => e = .returned (.bool true) ∧ Below w.heap.size w w' := by
  go_enter Tryd.func8, Tryd.ntmps8
  have SB0 : Bs (w.alloc (.cells #[.int .u64 0, .int .u64 0, .int .u64 0, .int .u64 31744] 25)) (some ⟨w.heap.size, 0, none⟩) 2 2 [0, 31744] := Bs.ofHB [0, 31744] (HB.newAt (by first | rfl | simp) _ _) (by kernel_rfl) (by decide)
  go_wp2_with fail
  (with_reducible refine (p0.out _ _ (ft.later (bA (Below.refl _ _) _)) SB0).mono ?_); rintro e w1 ⟨rfl, hb⟩
  have kk := bC (bA (Below.refl _ _) _) hb
  clear hb
  clear SB0
  go_wp2_with fail
  (with_reducible refine (p1.out _ (ft.later (bA kk _))).mono ?_); rintro e w2 ⟨rfl, hb⟩
  have r0 : HB w2 (w1.heap.size) 33 #[.int .u64 0, .int .u64 32256, .int .u8 1] := (HB.newAt (by simp) _ _).later hb
  replace kk := bC (bA kk _) hb
  clear hb
  go_wp2_with fail
  (with_reducible refine (p2.out _ (ft.later (bA kk _))).mono ?_); rintro e w3 ⟨rfl, hb⟩
  have r1 : HB w3 (w2.heap.size) 33 #[.int .u64 9223231299366420480, .int .u64 0, .int .u8 1] := (HB.newAt (by simp) _ _).later hb
  replace r0 := (r0.alloc _).later hb
  replace kk := bC (bA kk _) hb
  clear hb
  have SB3 : Bs ((w3.alloc (.cells #[.int .u64 0, .int .u64 0, .int .u8 0] 33)).alloc (.cells #[.int .u64 0, .int .u64 4290772993] 25)) (some ⟨w3.heap.size + 1, 0, none⟩) 1 1 [4290772993] := Bs.ofHB [4290772993] (HB.newAt (by first | rfl | simp) _ _) (by kernel_rfl) (by decide)
  go_wp2_with fail
  (with_reducible refine (p3.out _ _ (ft.later (bA (bA kk _) _)) SB3).mono ?_); rintro e w4 ⟨rfl, hb⟩
  replace r0 := ((r0.alloc _).alloc _).later hb
  replace r1 := ((r1.alloc _).alloc _).later hb
  replace kk := bC (bA (bA kk _) _) hb
  clear hb
  clear SB3
  have SB4 : Bs ((w4.alloc (.cells #[.int .u64 0, .int .u64 4290772993, .int .u8 0] 33)).alloc (.cells #[.int .u64 0, .int .u64 0] 25)) (some ⟨w4.heap.size + 1, 0, none⟩) 1 1 [0] := Bs.ofHB [0] (HB.newAt (by first | rfl | simp) _ _) (by kernel_rfl) (by decide)
  go_wp2_with fail
  (with_reducible refine (p4.out _ _ (ft.later (bA (bA kk _) _)) SB4).mono ?_); rintro e w5 ⟨rfl, hb⟩
  have r3 : HB w5 (w4.heap.size) 33 #[.int .u64 0, .int .u64 4290772993, .int .u8 0] := ((HB.newAt (by simp) _ _).alloc _).later hb
  replace r0 := ((r0.alloc _).alloc _).later hb
  replace r1 := ((r1.alloc _).alloc _).later hb
  replace kk := bC (bA (bA kk _) _) hb
  clear hb
  clear SB4
  have c0_0 := r0.cell 0; have c0_1 := r0.cell 1; have c0_2 := r0.cell 2; have c1_0 := r1.cell 0; have c1_1 := r1.cell 1; have c1_2 := r1.cell 2; have c3_0 := r3.cell 0; have c3_1 := r3.cell 1; have c3_2 := r3.cell 2; have l0 := r0.lt; have l1 := r1.lt; have l3 := r3.lt; dsimp at c0_0 c0_1 c0_2 c1_0 c1_1 c1_2 c3_0 c3_1 c3_2
  go_wp2_with fail
  (with_reducible refine (d1.out _ (ft.later (bA kk _))).mono ?_); rintro e w6 ⟨rfl, hb⟩
  replace r0 := (r0.alloc _).later hb
  replace r1 := (r1.alloc _).later hb
  replace r3 := (r3.alloc _).later hb
  replace kk := bC (bA kk _) hb
  clear hb
  go_wp2_with fail
  (with_reducible refine (d2.out _ (ft.later kk)).mono ?_); rintro e w7 ⟨rfl, hb⟩
  replace r0 := r0.later hb
  replace r1 := r1.later hb
  replace r3 := r3.later hb
  replace kk := bC kk hb
  clear hb
  go_wp2_with fail
  (with_reducible refine (d4.out _ (ft.later kk)).mono ?_); rintro e w8 ⟨rfl, hb⟩
  replace r0 := r0.later hb
  replace r1 := r1.later hb
  replace r3 := r3.later hb
  replace kk := bC kk hb
  clear hb
  go_wp2_with fail
  (with_reducible refine (q4.out _ (ft.later kk)).mono ?_); rintro e w9 ⟨rfl, hb⟩
  replace r0 := r0.later hb
  replace r1 := r1.later hb
  replace r3 := r3.later hb
  replace kk := bC kk hb
  clear hb
  go_wp2_with fail
  (with_reducible refine (g.out _ (ft.later kk)).mono ?_); rintro e w10 ⟨rfl, hb⟩
  replace r0 := r0.later hb
  replace r1 := r1.later hb
  replace r3 := r3.later hb
  replace kk := bC kk hb
  clear hb
  go_wp2_with fail
  go_ret
  exact ⟨rfl, kk⟩


end Go.Proofs.YtfcffmihhpcjjaaDoor
