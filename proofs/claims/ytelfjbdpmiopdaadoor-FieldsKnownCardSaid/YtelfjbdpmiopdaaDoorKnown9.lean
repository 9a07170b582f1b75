/-
  The walk of the statement FieldsKnown.
-/
import Derived.Test.YtelfjbdpmiopdaaDoorForm7T
import Derived.Test.YtelfjbdpmiopdaaDoorGaA
import Derived.Test.YtelfjbdpmiopdaaDoorLater4
import Derived.Test.YtelfjbdpmiopdaaDoorNum9
set_option linter.unusedVariables false
set_option linter.unusedSimpArgs false
set_option maxRecDepth 100000
namespace Go.Proofs.YtelfjbdpmiopdaaDoor
open Go.RowKit
attribute [local go_sem ↓] Go.wp_at_zero Go.wp_at_succ

set_option maxHeartbeats 8000000 in
set_option maxRecDepth 100000 in
theorem known9_core
    (b0_ : Hid (∀ w, FTab w → Calls Tryd.prog 13 #[.int .u8 0, .agg #[.bool false, .int .u8 4, .int .i64 0, .int .u64 0, .int .u64 0]] w fun e w' => e = .returned (.tuple #[.agg #[.int .u64 0, .int .u64 0], .bool false]) ∧ Below w.heap.size w w'))
    (b1_ : Hid (∀ w, FTab w → Calls Tryd.prog 13 #[.int .u8 0, .agg #[.bool false, .int .u8 5, .int .i64 0, .int .u64 9223372036854775808, .int .u64 0]] w fun e w' => e = .returned (.tuple #[.agg #[.int .u64 0, .int .u64 0], .bool false]) ∧ Below w.heap.size w w'))
    (b2_ : Hid (∀ w, FTab w → Calls Tryd.prog 13 #[.int .u8 0, .agg #[.bool false, .int .u8 2, .int .i64 0, .int .u64 0, .int .u64 0]] w fun e w' => e = .returned (.tuple #[.agg #[.int .u64 0, .int .u64 0], .bool false]) ∧ Below w.heap.size w w'))
    (b3_ : Hid (∀ w, FTab w → Calls Tryd.prog 13 #[.int .u8 0, .agg #[.bool false, .int .u8 2, .int .i64 16, .int .u64 9223372036854775808, .int .u64 0]] w fun e w' => e = .returned (.tuple #[.agg #[.int .u64 0, .int .u64 0], .bool false]) ∧ Below w.heap.size w w'))
    (b4_ : Hid (∀ w, FTab w → Calls Tryd.prog 13 #[.int .u8 0, .agg #[.bool false, .int .u8 1, .int .i64 (-25), .int .u64 9223372036854775808, .int .u64 0]] w fun e w' => e = .returned (.tuple #[.agg #[.int .u64 0, .int .u64 0], .bool false]) ∧ Below w.heap.size w w'))
    (b5_ : Hid (∀ w, FTab w → Calls Tryd.prog 13 #[.int .u8 0, .agg #[.bool false, .int .u8 1, .int .i64 (-24), .int .u64 13835058055282163712, .int .u64 0]] w fun e w' => e = .returned (.tuple #[.agg #[.int .u64 0, .int .u64 0], .bool false]) ∧ Below w.heap.size w w'))
    (b6_ : Hid (∀ w, FTab w → Calls Tryd.prog 13 #[.int .u8 0, .agg #[.bool false, .int .u8 2, .int .i64 1152921504606846976, .int .u64 9223372036854775808, .int .u64 0]] w fun e w' => e = .returned (.tuple #[.agg #[.int .u64 0, .int .u64 0], .bool false]) ∧ Below w.heap.size w w'))
    (b7_ : Hid (∀ w, FTab w → Calls Tryd.prog 13 #[.int .u8 0, .agg #[.bool false, .int .u8 2, .int .i64 (-1152921504606846976), .int .u64 9223372036854775808, .int .u64 0]] w fun e w' => e = .returned (.tuple #[.agg #[.int .u64 0, .int .u64 0], .bool false]) ∧ Below w.heap.size w w'))
    (P0 : Hid (∀ w, FTab w → Calls Tryd.prog 13 #[.int .u8 0, .agg #[.bool true, .int .u8 1, .int .i64 15, .int .u64 18437736874454810624, .int .u64 0]] w fun e w' => e = .returned (.tuple #[.agg #[.int .u64 0, .int .u64 64511], .bool true]) ∧ Below w.heap.size w w'))
    (P1 : Hid (∀ w, FTab w → Calls Tryd.prog 13 #[.int .u8 3, .agg #[.bool false, .int .u8 2, .int .i64 (-16494), .int .u64 9223372036854775808, .int .u64 0]] w fun e w' => e = .returned (.tuple #[.agg #[.int .u64 0, .int .u64 1], .bool true]) ∧ Below w.heap.size w w'))
    (P2 : Hid (∀ w, FTab w → Calls Tryd.prog 13 #[.int .u8 4, .agg #[.bool false, .int .u8 0, .int .i64 0, .int .u64 0, .int .u64 0]] w fun e w' => e = .returned (.tuple #[.agg #[.int .u64 0, .int .u64 0], .bool false]) ∧ Below w.heap.size w w'))
    (P3 : Hid (∀ w, FTab w → Calls Tryd.prog 13 #[.int .u8 1, .agg #[.bool true, .int .u8 0, .int .i64 5, .int .u64 0, .int .u64 0]] w fun e w' => e = .returned (.tuple #[.agg #[.int .u64 0, .int .u64 2147483648], .bool true]) ∧ Below w.heap.size w w'))
    (U : Hid (∀ w, FTab w → Calls Tryd.prog 10 #[.int .u8 4, .agg #[.int .u64 0, .int .u64 7]] w fun e w' => e = .returned (.agg #[.bool false, .int .u8 0, .int .i64 0, .int .u64 0, .int .u64 0]) ∧ Below w.heap.size w w'))
    (G : Hid (∀ w, FTab w → Calls Tryd.prog 12 #[] w fun e w' => e = .returned (.bool true) ∧ Below w.heap.size w w')) (w : World) (ft : FTab w) :
    Calls Tryd.prog 9 #[] w fun e w' => e = .returned (.bool true) ∧ Below w.heap.size w w' := by
  go_enter Tryd.func9, Tryd.ntmps9
  go_wp2_with fail
  go_loopw [3] (fun iv wi => (iv = .int .i64 0 ∨ iv = .int .i64 1 ∨ iv = .int .i64 2 ∨ iv = .int .i64 3 ∨ iv = .int .i64 4 ∨ iv = .int .i64 5 ∨ iv = .int .i64 6 ∨ iv = .int .i64 7 ∨ iv = .int .i64 8) ∧ HB wi w.heap.size 25 #[.int .u64 9223372036854775808, .int .u64 0] ∧ HB wi (w.heap.size + 1) 28 #[.bool false, .int .u8 4, .int .i64 0, .int .u64 0, .int .u64 0, .bool false, .int .u8 5, .int .i64 0, .int .u64 9223372036854775808, .int .u64 0, .bool false, .int .u8 2, .int .i64 0, .int .u64 0, .int .u64 0, .bool false, .int .u8 2, .int .i64 16, .int .u64 9223372036854775808, .int .u64 0, .bool false, .int .u8 1, .int .i64 (-25), .int .u64 9223372036854775808, .int .u64 0, .bool false, .int .u8 1, .int .i64 (-24), .int .u64 13835058055282163712, .int .u64 0, .bool false, .int .u8 2, .int .i64 1152921504606846976, .int .u64 9223372036854775808, .int .u64 0, .bool false, .int .u8 2, .int .i64 (-1152921504606846976), .int .u64 9223372036854775808, .int .u64 0] ∧ Below w.heap.size w wi) (fun iv _ => 9 - (intOf iv).toNat)
  case atStart => exact ⟨by simp, (HB.new _ _ _).alloc _, HB.newAt (by simp) _ _, bA (bA (Below.refl _ _) _) _⟩
  case round =>
    obtain ⟨hi, xt, ys, kk⟩ := hrel
    rcases hi with rfl | rfl | rfl | rfl | rfl | rfl | rfl | rfl | rfl
    · have c0 := ys.cell 0; have c1 := ys.cell 1; have c2 := ys.cell 2; have c3 := ys.cell 3; have c4 := ys.cell 4; dsimp at c0 c1 c2 c3 c4
      go_wp2_with fail
      (with_reducible refine (b0_.out _ (ft.later kk)).mono ?_); rintro e_ w4 ⟨rfl, hb⟩
      replace kk := bC kk hb; replace xt := xt.later hb; replace ys := ys.later hb
      clear c0 c1 c2 c3 c4 hb
      go_wp2_with fail
      go_roundw
      case rel => exact ⟨by simp, xt.alloc _, ys.alloc _, bA kk _⟩
      case measure => simp [intOf]
    · have c0 := ys.cell 5; have c1 := ys.cell 6; have c2 := ys.cell 7; have c3 := ys.cell 8; have c4 := ys.cell 9; dsimp at c0 c1 c2 c3 c4
      go_wp2_with fail
      (with_reducible refine (b1_.out _ (ft.later kk)).mono ?_); rintro e_ w4 ⟨rfl, hb⟩
      replace kk := bC kk hb; replace xt := xt.later hb; replace ys := ys.later hb
      clear c0 c1 c2 c3 c4 hb
      go_wp2_with fail
      go_roundw
      case rel => exact ⟨by simp, xt.alloc _, ys.alloc _, bA kk _⟩
      case measure => simp [intOf]
    · have c0 := ys.cell 10; have c1 := ys.cell 11; have c2 := ys.cell 12; have c3 := ys.cell 13; have c4 := ys.cell 14; dsimp at c0 c1 c2 c3 c4
      go_wp2_with fail
      (with_reducible refine (b2_.out _ (ft.later kk)).mono ?_); rintro e_ w4 ⟨rfl, hb⟩
      replace kk := bC kk hb; replace xt := xt.later hb; replace ys := ys.later hb
      clear c0 c1 c2 c3 c4 hb
      go_wp2_with fail
      go_roundw
      case rel => exact ⟨by simp, xt.alloc _, ys.alloc _, bA kk _⟩
      case measure => simp [intOf]
    · have c0 := ys.cell 15; have c1 := ys.cell 16; have c2 := ys.cell 17; have c3 := ys.cell 18; have c4 := ys.cell 19; dsimp at c0 c1 c2 c3 c4
      go_wp2_with fail
      (with_reducible refine (b3_.out _ (ft.later kk)).mono ?_); rintro e_ w4 ⟨rfl, hb⟩
      replace kk := bC kk hb; replace xt := xt.later hb; replace ys := ys.later hb
      clear c0 c1 c2 c3 c4 hb
      go_wp2_with fail
      go_roundw
      case rel => exact ⟨by simp, xt.alloc _, ys.alloc _, bA kk _⟩
      case measure => simp [intOf]
    · have c0 := ys.cell 20; have c1 := ys.cell 21; have c2 := ys.cell 22; have c3 := ys.cell 23; have c4 := ys.cell 24; dsimp at c0 c1 c2 c3 c4
      go_wp2_with fail
      (with_reducible refine (b4_.out _ (ft.later kk)).mono ?_); rintro e_ w4 ⟨rfl, hb⟩
      replace kk := bC kk hb; replace xt := xt.later hb; replace ys := ys.later hb
      clear c0 c1 c2 c3 c4 hb
      go_wp2_with fail
      go_roundw
      case rel => exact ⟨by simp, xt.alloc _, ys.alloc _, bA kk _⟩
      case measure => simp [intOf]
    · have c0 := ys.cell 25; have c1 := ys.cell 26; have c2 := ys.cell 27; have c3 := ys.cell 28; have c4 := ys.cell 29; dsimp at c0 c1 c2 c3 c4
      go_wp2_with fail
      (with_reducible refine (b5_.out _ (ft.later kk)).mono ?_); rintro e_ w4 ⟨rfl, hb⟩
      replace kk := bC kk hb; replace xt := xt.later hb; replace ys := ys.later hb
      clear c0 c1 c2 c3 c4 hb
      go_wp2_with fail
      go_roundw
      case rel => exact ⟨by simp, xt.alloc _, ys.alloc _, bA kk _⟩
      case measure => simp [intOf]
    · have c0 := ys.cell 30; have c1 := ys.cell 31; have c2 := ys.cell 32; have c3 := ys.cell 33; have c4 := ys.cell 34; dsimp at c0 c1 c2 c3 c4
      go_wp2_with fail
      (with_reducible refine (b6_.out _ (ft.later kk)).mono ?_); rintro e_ w4 ⟨rfl, hb⟩
      replace kk := bC kk hb; replace xt := xt.later hb; replace ys := ys.later hb
      clear c0 c1 c2 c3 c4 hb
      go_wp2_with fail
      go_roundw
      case rel => exact ⟨by simp, xt.alloc _, ys.alloc _, bA kk _⟩
      case measure => simp [intOf]
    · have c0 := ys.cell 35; have c1 := ys.cell 36; have c2 := ys.cell 37; have c3 := ys.cell 38; have c4 := ys.cell 39; dsimp at c0 c1 c2 c3 c4
      go_wp2_with fail
      (with_reducible refine (b7_.out _ (ft.later kk)).mono ?_); rintro e_ w4 ⟨rfl, hb⟩
      replace kk := bC kk hb; replace xt := xt.later hb; replace ys := ys.later hb
      clear c0 c1 c2 c3 c4 hb
      go_wp2_with fail
      go_roundw
      case rel => exact ⟨by simp, xt.alloc _, ys.alloc _, bA kk _⟩
      case measure => simp [intOf]
    · clear ys
      go_wp2_with fail
      (with_reducible refine (P0.out _ (ft.later kk)).mono ?_); rintro e w10 ⟨rfl, hb⟩
      replace xt := xt.later hb
      replace kk := bC kk hb
      clear hb
      have t0 := xt.cell 0; have t1 := xt.cell 1; have tl := xt.lt; dsimp at t0 t1
      go_wp2_with fail
      (with_reducible refine (P1.out _ (ft.later (bA kk _))).mono ?_); rintro e w11 ⟨rfl, hb⟩
      have x6 : HB w11 (w10.heap.size) 25 #[.int .u64 0, .int .u64 64511] := (HB.newAt (by simp) _ _).later hb
      replace xt := (xt.alloc _).later hb
      replace kk := bC (bA kk _) hb
      clear hb
      clear t0 t1 tl xt
      go_wp2_with fail
      (with_reducible refine (P2.out _ (ft.later (bA kk _))).mono ?_); rintro e w12 ⟨rfl, hb⟩
      have x8 : HB w12 (w11.heap.size) 25 #[.int .u64 0, .int .u64 1] := (HB.newAt (by simp) _ _).later hb
      replace x6 := (x6.alloc _).later hb
      replace kk := bC (bA kk _) hb
      clear hb
      go_wp2_with fail
      (with_reducible refine (P3.out _ (ft.later (bA kk _))).mono ?_); rintro e w13 ⟨rfl, hb⟩
      have x10 : HB w13 (w12.heap.size) 25 #[.int .u64 0, .int .u64 0] := (HB.newAt (by simp) _ _).later hb
      replace x6 := (x6.alloc _).later hb
      replace x8 := (x8.alloc _).later hb
      replace kk := bC (bA kk _) hb
      clear hb
      have x6_0 := x6.cell 0; have x6_1 := x6.cell 1; have x8_0 := x8.cell 0; have x8_1 := x8.cell 1; have x10_0 := x10.cell 0; have x10_1 := x10.cell 1; have l6 := x6.lt; have l8 := x8.lt; have l10 := x10.lt; dsimp at x6_0 x6_1 x8_0 x8_1 x10_0 x10_1
      clear x6 x8 x10
      go_wp2_with fail
      (with_reducible refine (U.out _ (ft.later (bA kk _))).mono ?_); rintro e w14 ⟨rfl, hb⟩
      replace kk := bC (bA kk _) hb
      clear hb
      clear x6_0 x6_1 x8_0 x8_1 x10_0 x10_1 l6 l8 l10
      go_wp2_with fail
      (with_reducible refine (G.out _ (ft.later kk)).mono ?_); rintro e w15 ⟨rfl, hb⟩
      replace kk := bC kk hb
      clear hb
      go_wp2_with fail
      go_ret
      exact ⟨rfl, kk⟩


end Go.Proofs.YtelfjbdpmiopdaaDoor
