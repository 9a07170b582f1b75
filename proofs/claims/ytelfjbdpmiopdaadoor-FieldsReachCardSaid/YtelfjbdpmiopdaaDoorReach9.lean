/-
  The walk of the statement FieldsReach.
-/
import Derived.Test.YtelfjbdpmiopdaaDoorForm7T
import Derived.Test.YtelfjbdpmiopdaaDoorGaA
import Derived.Test.YtelfjbdpmiopdaaDoorLater4
import Derived.Test.YtelfjbdpmiopdaaDoorNum9
set_option linter.unusedVariables false
set_option linter.unusedSimpArgs false
set_option maxRecDepth 100000
namespace Go.Proofs.YtelfjbdpmiopdaaDoor
open Go.RowKit
attribute [local go_sem ↓] Go.wp_at_zero Go.wp_at_succ

set_option maxHeartbeats 4000000 in
set_option maxRecDepth 100000 in
theorem reach9_not (f bh bl c : Int) (ug : Bool)
    (h0 : Hid (∀ w, FTab w → Calls Tryd.prog 10 #[.int .u8 f, .agg #[.int .u64 bh, .int .u64 bl]] w fun e w' => e = .returned (.agg #[.bool ug, .int .u8 c, .int .i64 0, .int .u64 0, .int .u64 0]) ∧ Below w.heap.size w w'))
    (h1 : Hid (∀ w, FTab w → Calls Tryd.prog 12 #[] w fun e w' => e = .returned (.bool true) ∧ Below w.heap.size w w')) (c1 : (c != 1) = true) (c2 : (c != 2) = true) (w : World) (ft : FTab w) :
    Calls Tryd.prog 7 #[.int .u8 f, .agg #[.int .u64 bh, .int .u64 bl]] w fun e w' => e = .returned (.bool true) ∧ Below w.heap.size w w' := by
  go_enter Tryd.func7, Tryd.ntmps7
  go_wp2_with fail
  (with_reducible refine (h0.out _ (ft.later (bA (Below.refl _ _) _))).mono ?_); rintro e w1 ⟨rfl, hb⟩
  have hz := bC (bA (Below.refl _ _) _) hb
  have kk := hz
  clear hb hz
  go_wp2_with fail
  (with_reducible refine (h1.out _ (ft.later (bC kk (bA (Below.refl _ _) _)))).mono ?_); rintro e w2 ⟨rfl, hb⟩
  have hz := bC (bA (Below.refl _ _) _) hb
  replace kk := bC kk hz
  clear hb hz
  go_wp2_with fail
  go_ret
  exact ⟨rfl, kk⟩

set_option maxHeartbeats 4000000 in
set_option maxRecDepth 100000 in
theorem reach9_1 (f bh bl ue sh sl p em n x1 x2 x3 : Int) (ug : Bool)
    (U : Hid (∀ w, FTab w → Calls Tryd.prog 10 #[.int .u8 f, .agg #[.int .u64 bh, .int .u64 bl]] w fun e w' => e = .returned (.agg #[.bool ug, .int .u8 1, .int .i64 ue, .int .u64 sh, .int .u64 sl]) ∧ Below w.heap.size w w'))
    (P : Hid (∀ w, FTab w → Calls Tryd.prog 20 #[.int .u8 f] w fun e w' => e = .returned (.int .i64 p) ∧ Below w.heap.size w w'))
    (E : Hid (∀ w, FTab w → Calls Tryd.prog 21 #[.int .u8 f] w fun e w' => e = .returned (.int .i64 em) ∧ Below w.heap.size w w'))
    (G : Hid (∀ w, FTab w → Calls Tryd.prog 12 #[] w fun e w' => e = .returned (.bool true) ∧ Below w.heap.size w w'))
    (BT : Hid (∀ i : Int, 0 ≤ i → i < n → ∀ w, Calls Tryd.prog 22 #[.agg #[.int .u64 sh, .int .u64 sl], .int .i64 i] w fun e w' => e = .returned (.bool false) ∧ Below w.heap.size w w'))
    (TP : Hid (∀ w, Calls Tryd.prog 22 #[.agg #[.int .u64 sh, .int .u64 sl], .int .i64 127] w fun e w' => e = .returned (.bool true) ∧ Below w.heap.size w w'))
    (hn0 : 0 ≤ n) (hn1 : Hid (n ≤ 128)) (w1_ : IntKind.i64.wrap (128 - p) = n) (g1 : decide (ue ≤ em) = true) (w2_ : IntKind.i64.wrap (2 - em) = x1) (w3_ : IntKind.i64.wrap (x1 - p) = x2) (g2 : decide (x2 ≤ ue) = true) (w4_ : IntKind.i64.wrap (1 - em) = x3) (g3 : decide (ue < x3) = true) (w : World) (ft : FTab w) :
    Calls Tryd.prog 7 #[.int .u8 f, .agg #[.int .u64 bh, .int .u64 bl]] w fun e w' => e = .returned (.bool true) ∧ Below w.heap.size w w' := by
  go_enter Tryd.func7, Tryd.ntmps7
  go_wp2_with fail
  (with_reducible refine (U.out _ (ft.later (bA (Below.refl _ _) _))).mono ?_); rintro e_ w1 ⟨rfl, hb⟩
  have kk := bC (bA (Below.refl _ _) _) hb
  clear hb
  go_wp2_with fail
  (with_reducible refine (P.out _ (ft.later (bA kk _))).mono ?_); rintro e_ w2 ⟨rfl, hb⟩
  have xu : HB w2 w1.heap.size 28 #[.bool ug, .int .u8 1, .int .i64 ue, .int .u64 sh, .int .u64 sl] := (HB.new w1 _ _).later hb
  replace kk := bC (bA kk _) hb
  clear hb
  go_wp2_with fail
  (with_reducible refine (E.out _ (ft.later kk)).mono ?_); rintro e_ w3 ⟨rfl, hb⟩
  replace xu := xu.later hb; replace kk := bC kk hb
  clear hb
  go_wp2_with fail
  go_loopw [8] (fun iv wr => ∃ j : Nat, (j : Int) ≤ n ∧ iv = .int .i64 j ∧ HB wr w1.heap.size 28 #[.bool ug, .int .u8 1, .int .i64 ue, .int .u64 sh, .int .u64 sl] ∧ Below w.heap.size w wr) (fun iv _ => (n - intOf iv).toNat)
  case atStart => exact ⟨0, hn0, rfl, xu, kk⟩
  case round =>
    obtain ⟨j, hj, rfl, ys, kr⟩ := hrel
    clear kk xu
    have c0 := ys.cell 0; have c1 := ys.cell 1; have c2 := ys.cell 2; have c3 := ys.cell 3; have c4 := ys.cell 4; dsimp at c0 c1 c2 c3 c4
    by_cases hlt : (j : Int) < n
    · have hd : decide ((j : Int) < n) = true := by simp [hlt]
      have hw : IntKind.i64.wrap ((j : Int) + 1) = ((j + 1 : Nat) : Int) := by rw [IntWalk.i64_in _ (by have := hn1.out; omega)]; rfl
      go_wp2_with fail
      (with_reducible refine (BT.out _ (by omega) hlt _).mono ?_); rintro e_ w4 ⟨rfl, hb⟩
      replace kr := bC kr hb; replace ys := ys.later hb
      clear c0 c1 c2 c3 c4 hb
      go_wp2_with fail
      go_roundw
      case rel => exact ⟨j + 1, by omega, (by simp), ys, kr⟩
      case measure => simp [intOf]; omega
    · have hd : decide ((j : Int) < n) = false := by simp [hlt]
      go_wp2_with fail
      (with_reducible refine (TP.out _).mono ?_); rintro e_ w4 ⟨rfl, hb⟩
      replace kr := bC kr hb
      clear c0 c1 c2 c3 c4 hb
      go_wp2_with fail
      (with_reducible refine (G.out _ (ft.later kr)).mono ?_); rintro e_ w5 ⟨rfl, hb⟩
      replace kr := bC kr hb
      clear hb
      go_wp2_with fail
      go_ret
      exact ⟨rfl, kr⟩

set_option maxHeartbeats 4000000 in
set_option maxRecDepth 100000 in
theorem reach9_2 (f bh bl ue sh sl p em n x1 x2 x3 : Int) (ug : Bool)
    (U : Hid (∀ w, FTab w → Calls Tryd.prog 10 #[.int .u8 f, .agg #[.int .u64 bh, .int .u64 bl]] w fun e w' => e = .returned (.agg #[.bool ug, .int .u8 2, .int .i64 ue, .int .u64 sh, .int .u64 sl]) ∧ Below w.heap.size w w'))
    (P : Hid (∀ w, FTab w → Calls Tryd.prog 20 #[.int .u8 f] w fun e w' => e = .returned (.int .i64 p) ∧ Below w.heap.size w w'))
    (E : Hid (∀ w, FTab w → Calls Tryd.prog 21 #[.int .u8 f] w fun e w' => e = .returned (.int .i64 em) ∧ Below w.heap.size w w'))
    (G : Hid (∀ w, FTab w → Calls Tryd.prog 12 #[] w fun e w' => e = .returned (.bool true) ∧ Below w.heap.size w w'))
    (BT : Hid (∀ i : Int, 0 ≤ i → i < n → ∀ w, Calls Tryd.prog 22 #[.agg #[.int .u64 sh, .int .u64 sl], .int .i64 i] w fun e w' => e = .returned (.bool false) ∧ Below w.heap.size w w'))
    (TP : Hid (∀ w, Calls Tryd.prog 22 #[.agg #[.int .u64 sh, .int .u64 sl], .int .i64 127] w fun e w' => e = .returned (.bool true) ∧ Below w.heap.size w w'))
    (hn0 : 0 ≤ n) (hn1 : Hid (n ≤ 128)) (w1_ : IntKind.i64.wrap (128 - p) = n) (g1 : decide (ue ≤ em) = true) (w2_ : IntKind.i64.wrap (2 - em) = x1) (w3_ : IntKind.i64.wrap (x1 - p) = x2) (g2 : decide (x2 ≤ ue) = true) (w4_ : IntKind.i64.wrap (1 - em) = x3) (g3 : decide (ue < x3) = false) (w : World) (ft : FTab w) :
    Calls Tryd.prog 7 #[.int .u8 f, .agg #[.int .u64 bh, .int .u64 bl]] w fun e w' => e = .returned (.bool true) ∧ Below w.heap.size w w' := by
  go_enter Tryd.func7, Tryd.ntmps7
  go_wp2_with fail
  (with_reducible refine (U.out _ (ft.later (bA (Below.refl _ _) _))).mono ?_); rintro e_ w1 ⟨rfl, hb⟩
  have kk := bC (bA (Below.refl _ _) _) hb
  clear hb
  go_wp2_with fail
  (with_reducible refine (P.out _ (ft.later (bA kk _))).mono ?_); rintro e_ w2 ⟨rfl, hb⟩
  have xu : HB w2 w1.heap.size 28 #[.bool ug, .int .u8 2, .int .i64 ue, .int .u64 sh, .int .u64 sl] := (HB.new w1 _ _).later hb
  replace kk := bC (bA kk _) hb
  clear hb
  go_wp2_with fail
  (with_reducible refine (E.out _ (ft.later kk)).mono ?_); rintro e_ w3 ⟨rfl, hb⟩
  replace xu := xu.later hb; replace kk := bC kk hb
  clear hb
  go_wp2_with fail
  go_loopw [8] (fun iv wr => ∃ j : Nat, (j : Int) ≤ n ∧ iv = .int .i64 j ∧ HB wr w1.heap.size 28 #[.bool ug, .int .u8 2, .int .i64 ue, .int .u64 sh, .int .u64 sl] ∧ Below w.heap.size w wr) (fun iv _ => (n - intOf iv).toNat)
  case atStart => exact ⟨0, hn0, rfl, xu, kk⟩
  case round =>
    obtain ⟨j, hj, rfl, ys, kr⟩ := hrel
    clear kk xu
    have c0 := ys.cell 0; have c1 := ys.cell 1; have c2 := ys.cell 2; have c3 := ys.cell 3; have c4 := ys.cell 4; dsimp at c0 c1 c2 c3 c4
    by_cases hlt : (j : Int) < n
    · have hd : decide ((j : Int) < n) = true := by simp [hlt]
      have hw : IntKind.i64.wrap ((j : Int) + 1) = ((j + 1 : Nat) : Int) := by rw [IntWalk.i64_in _ (by have := hn1.out; omega)]; rfl
      go_wp2_with fail
      (with_reducible refine (BT.out _ (by omega) hlt _).mono ?_); rintro e_ w4 ⟨rfl, hb⟩
      replace kr := bC kr hb; replace ys := ys.later hb
      clear c0 c1 c2 c3 c4 hb
      go_wp2_with fail
      go_roundw
      case rel => exact ⟨j + 1, by omega, (by simp), ys, kr⟩
      case measure => simp [intOf]; omega
    · have hd : decide ((j : Int) < n) = false := by simp [hlt]
      go_wp2_with fail
      (with_reducible refine (TP.out _).mono ?_); rintro e_ w4 ⟨rfl, hb⟩
      replace kr := bC kr hb
      clear c0 c1 c2 c3 c4 hb
      go_wp2_with fail
      (with_reducible refine (G.out _ (ft.later kr)).mono ?_); rintro e_ w5 ⟨rfl, hb⟩
      replace kr := bC kr hb
      clear hb
      go_wp2_with fail
      go_ret
      exact ⟨rfl, kr⟩



end Go.Proofs.YtelfjbdpmiopdaaDoor
