/-
  Walks through nan.Pick.
-/
import Derived.Test.YtfcffmihhpcjjaaDoorNanC
import Derived.Test.YtfcffmihhpcjjaaDoorAny8
set_option linter.unusedVariables false
set_option linter.unusedSimpArgs false
set_option maxRecDepth 100000
namespace Go.Proofs.YtfcffmihhpcjjaaDoor
open Go.RowKit
attribute [local go_sem ↓] Go.wp_at_zero Go.wp_at_succ

set_option maxHeartbeats 4000000 in
set_option maxRecDepth 100000 in
theorem nan_pick_no (f : Int) (ao : Option Addr) (n cap : Nat) (xs : List Int) (inv : Bool)
    (h0 : Hid (∀ w, FTab w → Calls Tryd.prog 16 #[.int .u8 f] w fun e w' => e = .returned (.bool false) ∧ Below w.heap.size w w')) (w : World) (ft : FTab w) :
    Calls Tryd.prog 14 #[.int .u8 f, .bool inv, .slice ao n cap] w fun e w' => e = .returned (.tuple #[.agg #[.int .u64 0, .int .u64 0, .int .u8 0], .bool false]) ∧ Below w.heap.size w w' := by
  have hmf : ∀ (fn : Fn) (first cap : Array Value) (w : World), (Instr.makeFunc fn first cap).run Tryd.prog w = .ok (.func fn first cap) w := fun _ _ _ _ => rfl
  go_enter Tryd.func14, Tryd.ntmps14
  go_wp2_with fail
  (with_reducible refine (h0.out _ (ft.later (bA (bA (Below.refl _ _) _) _))).mono ?_); rintro e w1 ⟨rfl, hb⟩
  have hz := bC (bA (bA (Below.refl _ _) _) _) hb
  have gX1 : w.heap.size ≤ w.heap.size + 1 := by omega
  have cX1_0 := cell_later hb (a := ⟨w.heap.size + 1, 0, none⟩) (v := .int .u64 0) (by go_simp)
  have cX1_1 := cell_later hb (a := ⟨w.heap.size + 1, 1, none⟩) (v := .int .u64 0) (by go_simp)
  have cX1_2 := cell_later hb (a := ⟨w.heap.size + 1, 2, none⟩) (v := .int .u8 0) (by go_simp)
  have sX1 : w.heap.size + 1 < w1.heap.size ∧ w.heap.size < w1.heap.size := by have h : w.heap.size + 1 < w1.heap.size := World.block_lt_of_cell? _ _ cX1_0; exact ⟨h, by omega⟩
  have fX1_0 := frozen_later hb (a := ⟨w.heap.size + 1, 0, none⟩) (v := .int .u64 0) (by go_simp) (by go_simp)
  have fX1_1 := frozen_later hb (a := ⟨w.heap.size + 1, 1, none⟩) (v := .int .u64 0) (by go_simp) (by go_simp)
  have fX1_2 := frozen_later hb (a := ⟨w.heap.size + 1, 2, none⟩) (v := .int .u8 0) (by go_simp) (by go_simp)
  have kk := hz
  clear hb hz
  have KEY : Hid ((((w1.setCell ⟨w.heap.size + 1, 0, none⟩ (.int .u64 0)).setCell ⟨w.heap.size + 1, 1, none⟩ (.int .u64 0)).setCell ⟨w.heap.size + 1, 2, none⟩ (.int .u8 0)).cell? ⟨w.heap.size + 1, 0, none⟩ = some (.int .u64 0) ∧ (((w1.setCell ⟨w.heap.size + 1, 0, none⟩ (.int .u64 0)).setCell ⟨w.heap.size + 1, 1, none⟩ (.int .u64 0)).setCell ⟨w.heap.size + 1, 2, none⟩ (.int .u8 0)).cell? ⟨w.heap.size + 1, 1, none⟩ = some (.int .u64 0) ∧ (((w1.setCell ⟨w.heap.size + 1, 0, none⟩ (.int .u64 0)).setCell ⟨w.heap.size + 1, 1, none⟩ (.int .u64 0)).setCell ⟨w.heap.size + 1, 2, none⟩ (.int .u8 0)).cell? ⟨w.heap.size + 1, 2, none⟩ = some (.int .u8 0) ∧ Below w.heap.size w (((w1.setCell ⟨w.heap.size + 1, 0, none⟩ (.int .u64 0)).setCell ⟨w.heap.size + 1, 1, none⟩ (.int .u64 0)).setCell ⟨w.heap.size + 1, 2, none⟩ (.int .u8 0))) := Lib.hid ⟨by go_simp, by go_simp, by go_simp, (((kk.setCell (p := ⟨w.heap.size + 1, 0, none⟩) gX1 _).setCell (p := ⟨w.heap.size + 1, 1, none⟩) gX1 _).setCell (p := ⟨w.heap.size + 1, 2, none⟩) gX1 _)⟩
  go_wp2_with fail
  obtain ⟨e0, e1, e2, kb⟩ := KEY.out
  clear KEY cX1_0 cX1_1 cX1_2 fX1_0 fX1_1 fX1_2
  refine bodyPost_ret (v := .tuple #[.agg #[.int .u64 0, .int .u64 0, .int .u8 0], .bool false]) ?_ rfl ⟨rfl, kb⟩
  simp [results, Tryd.results14, go_sem, e0, e1, e2]

set_option maxHeartbeats 4000000 in
set_option maxRecDepth 100000 in
theorem nan_pick_none (f : Int) (ao : Option Addr) (n cap : Nat) (xs : List Int)
    (h0 : Hid (∀ w, FTab w → Calls Tryd.prog 16 #[.int .u8 f] w fun e w' => e = .returned (.bool true) ∧ Below w.heap.size w w')) (ix : Hid (∀ bk w, FTab w → Bs w ao n cap xs → w.cell? ⟨bk, 0, none⟩ = some (.int .u8 f) → Calls Tryd.prog 37 #[.slice ao n cap, .func (.func 38) #[] #[.pointer (some ⟨bk, 0, none⟩)]] w fun e w' => e = .returned (.int .i64 (-1)) ∧ Below w.heap.size w w')) (g1 : decide ((-1 : Int) < 0) = true) (w : World) (ft : FTab w) (bs : Bs w ao n cap xs) :
    Calls Tryd.prog 14 #[.int .u8 f, .bool false, .slice ao n cap] w fun e w' => e = .returned (.tuple #[.agg #[.int .u64 0, .int .u64 0, .int .u8 0], .bool false]) ∧ Below w.heap.size w w' := by
  have hmf : ∀ (fn : Fn) (first cap : Array Value) (w : World), (Instr.makeFunc fn first cap).run Tryd.prog w = .ok (.func fn first cap) w := fun _ _ _ _ => rfl
  go_enter Tryd.func14, Tryd.ntmps14
  go_wp2_with fail
  (with_reducible refine (h0.out _ (ft.later (bA (bA (Below.refl _ _) _) _))).mono ?_); rintro e w1 ⟨rfl, hb⟩
  have hz := bC (bA (bA (Below.refl _ _) _) _) hb
  have gX1 : w.heap.size ≤ w.heap.size + 1 := by omega
  have cX0_0 := cell_later hb (a := ⟨w.heap.size, 0, none⟩) (v := .int .u8 f) (by go_simp)
  have sX0 : w.heap.size < w1.heap.size := World.block_lt_of_cell? _ _ cX0_0
  have cX1_0 := cell_later hb (a := ⟨w.heap.size + 1, 0, none⟩) (v := .int .u64 0) (by go_simp)
  have cX1_1 := cell_later hb (a := ⟨w.heap.size + 1, 1, none⟩) (v := .int .u64 0) (by go_simp)
  have cX1_2 := cell_later hb (a := ⟨w.heap.size + 1, 2, none⟩) (v := .int .u8 0) (by go_simp)
  have sX1 : w.heap.size + 1 < w1.heap.size ∧ w.heap.size < w1.heap.size := by have h : w.heap.size + 1 < w1.heap.size := World.block_lt_of_cell? _ _ cX1_0; exact ⟨h, by omega⟩
  have fX1_0 := frozen_later hb (a := ⟨w.heap.size + 1, 0, none⟩) (v := .int .u64 0) (by go_simp) (by go_simp)
  have fX1_1 := frozen_later hb (a := ⟨w.heap.size + 1, 1, none⟩) (v := .int .u64 0) (by go_simp) (by go_simp)
  have fX1_2 := frozen_later hb (a := ⟨w.heap.size + 1, 2, none⟩) (v := .int .u8 0) (by go_simp) (by go_simp)
  have kk := hz
  clear hb hz
  go_wp2_with fail
  (with_reducible refine (ix.out _ _ (ft.later kk) (bs.later kk) cX0_0).mono ?_); rintro e w2 ⟨rfl, hb⟩
  clear cX0_0 sX0
  replace fX1_0 := frozen_later hb cX1_0 fX1_0; replace fX1_1 := frozen_later hb cX1_1 fX1_1; replace fX1_2 := frozen_later hb cX1_2 fX1_2
  replace cX1_0 := cell_later hb cX1_0; replace cX1_1 := cell_later hb cX1_1; replace cX1_2 := cell_later hb cX1_2
  replace sX1 : w.heap.size + 1 < w2.heap.size ∧ w.heap.size < w2.heap.size := by have h : w.heap.size + 1 < w2.heap.size := World.block_lt_of_cell? _ _ cX1_0; exact ⟨h, by omega⟩
  replace kk := bC kk hb
  clear hb
  have KEY : Hid ((((w2.setCell ⟨w.heap.size + 1, 0, none⟩ (.int .u64 0)).setCell ⟨w.heap.size + 1, 1, none⟩ (.int .u64 0)).setCell ⟨w.heap.size + 1, 2, none⟩ (.int .u8 0)).cell? ⟨w.heap.size + 1, 0, none⟩ = some (.int .u64 0) ∧ (((w2.setCell ⟨w.heap.size + 1, 0, none⟩ (.int .u64 0)).setCell ⟨w.heap.size + 1, 1, none⟩ (.int .u64 0)).setCell ⟨w.heap.size + 1, 2, none⟩ (.int .u8 0)).cell? ⟨w.heap.size + 1, 1, none⟩ = some (.int .u64 0) ∧ (((w2.setCell ⟨w.heap.size + 1, 0, none⟩ (.int .u64 0)).setCell ⟨w.heap.size + 1, 1, none⟩ (.int .u64 0)).setCell ⟨w.heap.size + 1, 2, none⟩ (.int .u8 0)).cell? ⟨w.heap.size + 1, 2, none⟩ = some (.int .u8 0) ∧ Below w.heap.size w (((w2.setCell ⟨w.heap.size + 1, 0, none⟩ (.int .u64 0)).setCell ⟨w.heap.size + 1, 1, none⟩ (.int .u64 0)).setCell ⟨w.heap.size + 1, 2, none⟩ (.int .u8 0))) := Lib.hid ⟨by go_simp, by go_simp, by go_simp, (((kk.setCell (p := ⟨w.heap.size + 1, 0, none⟩) gX1 _).setCell (p := ⟨w.heap.size + 1, 1, none⟩) gX1 _).setCell (p := ⟨w.heap.size + 1, 2, none⟩) gX1 _)⟩
  go_wp2_with fail
  obtain ⟨e0, e1, e2, kb⟩ := KEY.out
  clear KEY cX1_0 cX1_1 cX1_2 fX1_0 fX1_1 fX1_2
  refine bodyPost_ret (v := .tuple #[.agg #[.int .u64 0, .int .u64 0, .int .u8 0], .bool false]) ?_ rfl ⟨rfl, kb⟩
  simp [results, Tryd.results14, go_sem, e0, e1, e2]

set_option maxHeartbeats 4000000 in
set_option maxRecDepth 100000 in
theorem nan_pick_inv (f dh dl : Int) (ao : Option Addr) (n cap : Nat) (xs : List Int)
    (h0 : Hid (∀ w, FTab w → Calls Tryd.prog 16 #[.int .u8 f] w fun e w' => e = .returned (.bool true) ∧ Below w.heap.size w w'))
    (h2 : Hid (∀ w, FTab w → Calls Tryd.prog 11 #[.int .u8 f] w fun e w' => e = .returned (.agg #[.int .u64 dh, .int .u64 dl]) ∧ Below w.heap.size w w')) (ix : Hid (∀ bk w, FTab w → Bs w ao n cap xs → w.cell? ⟨bk, 0, none⟩ = some (.int .u8 f) → Calls Tryd.prog 37 #[.slice ao n cap, .func (.func 38) #[] #[.pointer (some ⟨bk, 0, none⟩)]] w fun e w' => e = .returned (.int .i64 (-1)) ∧ Below w.heap.size w w')) (g1 : decide ((-1 : Int) < 0) = true) (g2 : decide (0 ≤ (-1 : Int)) = false) (w : World) (ft : FTab w) (bs : Bs w ao n cap xs) :
    Calls Tryd.prog 14 #[.int .u8 f, .bool true, .slice ao n cap] w fun e w' => e = .returned (.tuple #[.agg #[.int .u64 dh, .int .u64 dl, .int .u8 1], .bool true]) ∧ Below w.heap.size w w' := by
  have hmf : ∀ (fn : Fn) (first cap : Array Value) (w : World), (Instr.makeFunc fn first cap).run Tryd.prog w = .ok (.func fn first cap) w := fun _ _ _ _ => rfl
  go_enter Tryd.func14, Tryd.ntmps14
  go_wp2_with fail
  (with_reducible refine (h0.out _ (ft.later (bA (bA (Below.refl _ _) _) _))).mono ?_); rintro e w1 ⟨rfl, hb⟩
  have hz := bC (bA (bA (Below.refl _ _) _) _) hb
  have gX1 : w.heap.size ≤ w.heap.size + 1 := by omega
  have cX0_0 := cell_later hb (a := ⟨w.heap.size, 0, none⟩) (v := .int .u8 f) (by go_simp)
  have sX0 : w.heap.size < w1.heap.size := World.block_lt_of_cell? _ _ cX0_0
  have cX1_0 := cell_later hb (a := ⟨w.heap.size + 1, 0, none⟩) (v := .int .u64 0) (by go_simp)
  have cX1_1 := cell_later hb (a := ⟨w.heap.size + 1, 1, none⟩) (v := .int .u64 0) (by go_simp)
  have cX1_2 := cell_later hb (a := ⟨w.heap.size + 1, 2, none⟩) (v := .int .u8 0) (by go_simp)
  have sX1 : w.heap.size + 1 < w1.heap.size ∧ w.heap.size < w1.heap.size := by have h : w.heap.size + 1 < w1.heap.size := World.block_lt_of_cell? _ _ cX1_0; exact ⟨h, by omega⟩
  have fX1_0 := frozen_later hb (a := ⟨w.heap.size + 1, 0, none⟩) (v := .int .u64 0) (by go_simp) (by go_simp)
  have fX1_1 := frozen_later hb (a := ⟨w.heap.size + 1, 1, none⟩) (v := .int .u64 0) (by go_simp) (by go_simp)
  have fX1_2 := frozen_later hb (a := ⟨w.heap.size + 1, 2, none⟩) (v := .int .u8 0) (by go_simp) (by go_simp)
  have kk := hz
  clear hb hz
  go_wp2_with fail
  (with_reducible refine (ix.out _ _ (ft.later kk) (bs.later kk) cX0_0).mono ?_); rintro e w2 ⟨rfl, hb⟩
  replace cX0_0 := cell_later hb cX0_0
  replace sX0 : w.heap.size < w2.heap.size := World.block_lt_of_cell? _ _ cX0_0
  replace fX1_0 := frozen_later hb cX1_0 fX1_0; replace fX1_1 := frozen_later hb cX1_1 fX1_1; replace fX1_2 := frozen_later hb cX1_2 fX1_2
  replace cX1_0 := cell_later hb cX1_0; replace cX1_1 := cell_later hb cX1_1; replace cX1_2 := cell_later hb cX1_2
  replace sX1 : w.heap.size + 1 < w2.heap.size ∧ w.heap.size < w2.heap.size := by have h : w.heap.size + 1 < w2.heap.size := World.block_lt_of_cell? _ _ cX1_0; exact ⟨h, by omega⟩
  replace kk := bC kk hb
  clear hb
  go_wp2_with fail
  (with_reducible refine (h2.out _ (ft.later kk)).mono ?_); rintro e w3 ⟨rfl, hb⟩
  replace cX0_0 := cell_later hb cX0_0
  replace sX0 : w.heap.size < w3.heap.size := World.block_lt_of_cell? _ _ cX0_0
  replace fX1_0 := frozen_later hb cX1_0 fX1_0; replace fX1_1 := frozen_later hb cX1_1 fX1_1; replace fX1_2 := frozen_later hb cX1_2 fX1_2
  replace cX1_0 := cell_later hb cX1_0; replace cX1_1 := cell_later hb cX1_1; replace cX1_2 := cell_later hb cX1_2
  replace sX1 : w.heap.size + 1 < w3.heap.size ∧ w.heap.size < w3.heap.size := by have h : w.heap.size + 1 < w3.heap.size := World.block_lt_of_cell? _ _ cX1_0; exact ⟨h, by omega⟩
  replace kk := bC kk hb
  clear hb
  have KEY : Hid (((((w3.setCell ⟨w.heap.size + 1, 0, none⟩ (.int .u64 dh)).setCell ⟨w.heap.size + 1, 1, none⟩ (.int .u64 dl)).setCell ⟨w.heap.size + 1, 2, none⟩ (.int .u8 1)).alloc (.cells #[.int .u64 dh, .int .u64 dl, .int .u8 1] 33)).cell? ⟨w.heap.size + 1, 0, none⟩ = some (.int .u64 dh) ∧ ((((w3.setCell ⟨w.heap.size + 1, 0, none⟩ (.int .u64 dh)).setCell ⟨w.heap.size + 1, 1, none⟩ (.int .u64 dl)).setCell ⟨w.heap.size + 1, 2, none⟩ (.int .u8 1)).alloc (.cells #[.int .u64 dh, .int .u64 dl, .int .u8 1] 33)).cell? ⟨w.heap.size + 1, 1, none⟩ = some (.int .u64 dl) ∧ ((((w3.setCell ⟨w.heap.size + 1, 0, none⟩ (.int .u64 dh)).setCell ⟨w.heap.size + 1, 1, none⟩ (.int .u64 dl)).setCell ⟨w.heap.size + 1, 2, none⟩ (.int .u8 1)).alloc (.cells #[.int .u64 dh, .int .u64 dl, .int .u8 1] 33)).cell? ⟨w.heap.size + 1, 2, none⟩ = some (.int .u8 1) ∧ Below w.heap.size w ((((w3.setCell ⟨w.heap.size + 1, 0, none⟩ (.int .u64 dh)).setCell ⟨w.heap.size + 1, 1, none⟩ (.int .u64 dl)).setCell ⟨w.heap.size + 1, 2, none⟩ (.int .u8 1)).alloc (.cells #[.int .u64 dh, .int .u64 dl, .int .u8 1] 33))) := Lib.hid ⟨by go_simp, by go_simp, by go_simp, (bA (((kk.setCell (p := ⟨w.heap.size + 1, 0, none⟩) gX1 _).setCell (p := ⟨w.heap.size + 1, 1, none⟩) gX1 _).setCell (p := ⟨w.heap.size + 1, 2, none⟩) gX1 _) _)⟩
  go_wp2_with fail
  obtain ⟨e0, e1, e2, kb⟩ := KEY.out
  clear KEY cX1_0 cX1_1 cX1_2 fX1_0 fX1_1 fX1_2
  refine bodyPost_ret (v := .tuple #[.agg #[.int .u64 dh, .int .u64 dl, .int .u8 1], .bool true]) ?_ rfl ⟨rfl, kb⟩
  simp [results, Tryd.results14, go_sem, e0, e1, e2]

set_option maxHeartbeats 4000000 in
set_option maxRecDepth 100000 in
theorem nan_pick_t (f dh dl bh bl qh ql : Int) (a : Addr) (k : Nat) (ao : Option Addr) (n cap : Nat) (xs : List Int)
    (h0 : Hid (∀ w, FTab w → Calls Tryd.prog 16 #[.int .u8 f] w fun e w' => e = .returned (.bool true) ∧ Below w.heap.size w w'))
    (h2 : Hid (∀ w, FTab w → Calls Tryd.prog 11 #[.int .u8 f] w fun e w' => e = .returned (.agg #[.int .u64 dh, .int .u64 dl]) ∧ Below w.heap.size w w'))
    (h3 : Hid (∀ w, FTab w → Calls Tryd.prog 9 #[.int .u8 f, .agg #[.int .u64 bh, .int .u64 bl]] w fun e w' => e = .returned (.agg #[.int .u64 qh, .int .u64 ql]) ∧ Below w.heap.size w w')) (ix : Hid (∀ bk w, FTab w → Bs w ao n cap xs → w.cell? ⟨bk, 0, none⟩ = some (.int .u8 f) → Calls Tryd.prog 37 #[.slice ao n cap, .func (.func 38) #[] #[.pointer (some ⟨bk, 0, none⟩)]] w fun e w' => e = .returned (.int .i64 (k : Int)) ∧ Below w.heap.size w w')) (ha : ao = some a) (g1 : decide ((k : Int) < 0) = false) (g2 : decide (0 ≤ (k : Int)) = true) (gk : decide ((k : Int) < (n : Int)) = true) (gn : k < n) (w : World) (ft : FTab w) (bs : Bs w ao n cap xs) (c00 : w.cell? (a.add (k * 2)) = some (.int .u64 bh)) (c01 : w.cell? ⟨(a.add (k * 2)).block, (a.add (k * 2)).off + 1, none⟩ = some (.int .u64 bl)) :
    Calls Tryd.prog 14 #[.int .u8 f, .bool true, .slice ao n cap] w fun e w' => e = .returned (.tuple #[.agg #[.int .u64 qh, .int .u64 ql, .int .u8 1], .bool true]) ∧ Below w.heap.size w w' := by
  subst ha
  have hmf : ∀ (fn : Fn) (first cap : Array Value) (w : World), (Instr.makeFunc fn first cap).run Tryd.prog w = .ok (.func fn first cap) w := fun _ _ _ _ => rfl
  go_enter Tryd.func14, Tryd.ntmps14
  go_wp2_with fail
  (with_reducible refine (h0.out _ (ft.later (bA (bA (Below.refl _ _) _) _))).mono ?_); rintro e w1 ⟨rfl, hb⟩
  have hz := bC (bA (bA (Below.refl _ _) _) _) hb
  have gX1 : w.heap.size ≤ w.heap.size + 1 := by omega
  have cX0_0 := cell_later hb (a := ⟨w.heap.size, 0, none⟩) (v := .int .u8 f) (by go_simp)
  have sX0 : w.heap.size < w1.heap.size := World.block_lt_of_cell? _ _ cX0_0
  have cX1_0 := cell_later hb (a := ⟨w.heap.size + 1, 0, none⟩) (v := .int .u64 0) (by go_simp)
  have cX1_1 := cell_later hb (a := ⟨w.heap.size + 1, 1, none⟩) (v := .int .u64 0) (by go_simp)
  have cX1_2 := cell_later hb (a := ⟨w.heap.size + 1, 2, none⟩) (v := .int .u8 0) (by go_simp)
  have sX1 : w.heap.size + 1 < w1.heap.size ∧ w.heap.size < w1.heap.size := by have h : w.heap.size + 1 < w1.heap.size := World.block_lt_of_cell? _ _ cX1_0; exact ⟨h, by omega⟩
  have fX1_0 := frozen_later hb (a := ⟨w.heap.size + 1, 0, none⟩) (v := .int .u64 0) (by go_simp) (by go_simp)
  have fX1_1 := frozen_later hb (a := ⟨w.heap.size + 1, 1, none⟩) (v := .int .u64 0) (by go_simp) (by go_simp)
  have fX1_2 := frozen_later hb (a := ⟨w.heap.size + 1, 2, none⟩) (v := .int .u8 0) (by go_simp) (by go_simp)
  have kk := hz
  clear hb hz
  go_wp2_with fail
  (with_reducible refine (ix.out _ _ (ft.later kk) (bs.later kk) cX0_0).mono ?_); rintro e w2 ⟨rfl, hb⟩
  replace cX0_0 := cell_later hb cX0_0
  replace sX0 : w.heap.size < w2.heap.size := World.block_lt_of_cell? _ _ cX0_0
  replace fX1_0 := frozen_later hb cX1_0 fX1_0; replace fX1_1 := frozen_later hb cX1_1 fX1_1; replace fX1_2 := frozen_later hb cX1_2 fX1_2
  replace cX1_0 := cell_later hb cX1_0; replace cX1_1 := cell_later hb cX1_1; replace cX1_2 := cell_later hb cX1_2
  replace sX1 : w.heap.size + 1 < w2.heap.size ∧ w.heap.size < w2.heap.size := by have h : w.heap.size + 1 < w2.heap.size := World.block_lt_of_cell? _ _ cX1_0; exact ⟨h, by omega⟩
  replace kk := bC kk hb
  clear hb
  go_wp2_with fail
  (with_reducible refine (h2.out _ (ft.later kk)).mono ?_); rintro e w3 ⟨rfl, hb⟩
  replace cX0_0 := cell_later hb cX0_0
  replace sX0 : w.heap.size < w3.heap.size := World.block_lt_of_cell? _ _ cX0_0
  replace fX1_0 := frozen_later hb cX1_0 fX1_0; replace fX1_1 := frozen_later hb cX1_1 fX1_1; replace fX1_2 := frozen_later hb cX1_2 fX1_2
  replace cX1_0 := cell_later hb cX1_0; replace cX1_1 := cell_later hb cX1_1; replace cX1_2 := cell_later hb cX1_2
  replace sX1 : w.heap.size + 1 < w3.heap.size ∧ w.heap.size < w3.heap.size := by have h : w.heap.size + 1 < w3.heap.size := World.block_lt_of_cell? _ _ cX1_0; exact ⟨h, by omega⟩
  replace kk := bC kk hb
  clear hb
  go_wp2_with fail
  have nX0_X2 : w.heap.size < w3.heap.size := by omega
  have nX1_X2 : w.heap.size + 1 < w3.heap.size := by omega
  have gX2 : w.heap.size ≤ w3.heap.size := by have := kk.size; omega
  refine wp_forget (fun W => W.cell? ⟨w.heap.size, 0, none⟩ = some (.int .u8 f) ∧ W.cell? ⟨w.heap.size + 1, 0, none⟩ = some (.int .u64 0) ∧ W.cell? ⟨w.heap.size + 1, 1, none⟩ = some (.int .u64 0) ∧ W.cell? ⟨w.heap.size + 1, 2, none⟩ = some (.int .u8 0) ∧ W.cell? ⟨w3.heap.size, 0, none⟩ = some (.int .u64 dh) ∧ W.cell? ⟨w3.heap.size, 1, none⟩ = some (.int .u64 dl) ∧ W.cell? ⟨w3.heap.size, 2, none⟩ = some (.int .u8 0) ∧ W.frozen? ⟨w.heap.size + 1, 0, none⟩ = false ∧ W.frozen? ⟨w.heap.size + 1, 1, none⟩ = false ∧ W.frozen? ⟨w.heap.size + 1, 2, none⟩ = false ∧ W.frozen? ⟨w3.heap.size, 0, none⟩ = false ∧ W.frozen? ⟨w3.heap.size, 1, none⟩ = false ∧ W.frozen? ⟨w3.heap.size, 2, none⟩ = false ∧ Below w.heap.size w W) ⟨cell_later (bA (Below.refl _ _) _) cX0_0, cell_later (bA (Below.refl _ _) _) cX1_0, cell_later (bA (Below.refl _ _) _) cX1_1, cell_later (bA (Below.refl _ _) _) cX1_2, by go_simp, by go_simp, by go_simp, frozen_later (bA (Below.refl _ _) _) cX1_0 fX1_0, frozen_later (bA (Below.refl _ _) _) cX1_1 fX1_1, frozen_later (bA (Below.refl _ _) _) cX1_2 fX1_2, by go_simp, by go_simp, by go_simp, bC kk (bA (Below.refl _ _) _)⟩ (fun w4 hst => ?_)
  clear cX0_0 sX0 cX1_0 cX1_1 cX1_2 sX1 fX1_0 fX1_1 fX1_2 kk
  obtain ⟨cX0_0, cX1_0, cX1_1, cX1_2, cX2_0, cX2_1, cX2_2, fX1_0, fX1_1, fX1_2, fX2_0, fX2_1, fX2_2, kk⟩ := hst
  have sX0 : w.heap.size < w4.heap.size := World.block_lt_of_cell? _ _ cX0_0
  have sX1 : w.heap.size + 1 < w4.heap.size ∧ w.heap.size < w4.heap.size := by have h : w.heap.size + 1 < w4.heap.size := World.block_lt_of_cell? _ _ cX1_0; exact ⟨h, by omega⟩
  have sX2 : w3.heap.size < w4.heap.size := World.block_lt_of_cell? _ _ cX2_0
  have c0 := cell_later kk c00
  have c1 := cell_later kk c01
  refine wp_region_noPanic ?_
  refine wp_region_held_drew (S := fun w' => w'.cell? (a.add (k * 2)) = some (.int .u64 bh) ∧ w'.cell? ⟨(a.add (k * 2)).block, (a.add (k * 2)).off + 1, none⟩ = some (.int .u64 bl) ∧ w'.cell? ⟨w.heap.size, 0, none⟩ = some (.int .u8 f) ∧ True) (by kernel_rfl) ⟨cell_later (Below.refl _ _).drew c0, cell_later (Below.refl _ _).drew c1, cell_later (Below.refl _ _).drew cX0_0, trivial⟩ (fun hHeld => ?_)
  replace cX0_0 := cell_later (Below.refl _ _).drew cX0_0
  replace fX1_0 := frozen_later (Below.refl _ _).drew cX1_0 fX1_0; replace fX1_1 := frozen_later (Below.refl _ _).drew cX1_1 fX1_1; replace fX1_2 := frozen_later (Below.refl _ _).drew cX1_2 fX1_2
  replace cX1_0 := cell_later (Below.refl _ _).drew cX1_0; replace cX1_1 := cell_later (Below.refl _ _).drew cX1_1; replace cX1_2 := cell_later (Below.refl _ _).drew cX1_2
  replace fX2_0 := frozen_later (Below.refl _ _).drew cX2_0 fX2_0; replace fX2_1 := frozen_later (Below.refl _ _).drew cX2_1 fX2_1; replace fX2_2 := frozen_later (Below.refl _ _).drew cX2_2 fX2_2
  replace cX2_0 := cell_later (Below.refl _ _).drew cX2_0; replace cX2_1 := cell_later (Below.refl _ _).drew cX2_1; replace cX2_2 := cell_later (Below.refl _ _).drew cX2_2
  replace kk := bC kk (Below.refl _ _).drew
  replace c0 := cell_later kk c00; replace c1 := cell_later kk c01
  refine wpAnyH_take (i := 0) (v := ?vq1) rfl (by kernel_rfl) (by kernel_rfl) (by kernel_rfl) (fun _ _ _ h => h) (Or.inl ⟨by rfl, ?yq1⟩) hHeld ?rq1
  case yq1 => (intro wq hb; obtain ⟨lq0, lq1, lq2, _⟩ := hb; go_simp; try (with_reducible rfl))
  try simp only [List.getElem_toArray, List.getElem_cons_zero, List.getElem_cons_succ, Act.put, List.setIfInBounds_toArray, List.set_cons_zero, List.set_cons_succ]
  refine wpAnyH_take (i := 1) (v := ?vq2) rfl (by kernel_rfl) (by kernel_rfl) (by kernel_rfl) (fun _ _ _ h => h) (Or.inl ⟨by rfl, ?yq2⟩) hHeld ?rq2
  case yq2 => (intro wq hb; obtain ⟨lq0, lq1, lq2, _⟩ := hb; go_simp; try (with_reducible rfl))
  try simp only [List.getElem_toArray, List.getElem_cons_zero, List.getElem_cons_succ, Act.put, List.setIfInBounds_toArray, List.set_cons_zero, List.set_cons_succ]
  refine wpAnyH_take (i := 2) (v := ?vq3) rfl (by kernel_rfl) (by kernel_rfl) (by kernel_rfl) (fun _ _ _ h => h) (Or.inl ⟨by rfl, ?yq3⟩) hHeld ?rq3
  case yq3 => (intro wq hb; obtain ⟨lq0, lq1, lq2, _⟩ := hb; go_simp; try (with_reducible rfl))
  try simp only [List.getElem_toArray, List.getElem_cons_zero, List.getElem_cons_succ, Act.put, List.setIfInBounds_toArray, List.set_cons_zero, List.set_cons_succ]
  refine wpAnyH_take (i := 3) (v := ?vq4) rfl (by kernel_rfl) (by kernel_rfl) (by kernel_rfl) (fun _ _ _ h => h) (Or.inl ⟨by rfl, ?yq4⟩) hHeld ?rq4
  case yq4 => (intro wq hb; obtain ⟨lq0, lq1, lq2, _⟩ := hb; go_simp; try (with_reducible rfl))
  try simp only [List.getElem_toArray, List.getElem_cons_zero, List.getElem_cons_succ, Act.put, List.setIfInBounds_toArray, List.set_cons_zero, List.set_cons_succ]
  refine wpAnyH_take (i := 4) (v := ?vq5) rfl (by kernel_rfl) (by kernel_rfl) (by kernel_rfl) (fun _ _ _ h => h) (Or.inl ⟨by rfl, ?yq5⟩) hHeld ?rq5
  case yq5 => (intro wq hb; obtain ⟨lq0, lq1, lq2, _⟩ := hb; go_simp; try (with_reducible rfl))
  try simp only [List.getElem_toArray, List.getElem_cons_zero, List.getElem_cons_succ, Act.put, List.setIfInBounds_toArray, List.set_cons_zero, List.set_cons_succ]
  clear hHeld
  refine wpAnyH_ready (rs := [5]) (by kernel_rfl) (by simp) ?_
  refine AllReadyH.cons rfl (fun K hK => ?_) AllReadyH.nil
  go_simp
  (with_reducible refine (h3.out _ (ft.later kk)).mono ?_); rintro e w5 ⟨rfl, hb⟩
  replace cX0_0 := cell_later hb cX0_0
  replace fX1_0 := frozen_later hb cX1_0 fX1_0; replace fX1_1 := frozen_later hb cX1_1 fX1_1; replace fX1_2 := frozen_later hb cX1_2 fX1_2
  replace cX1_0 := cell_later hb cX1_0; replace cX1_1 := cell_later hb cX1_1; replace cX1_2 := cell_later hb cX1_2
  replace fX2_0 := frozen_later hb cX2_0 fX2_0; replace fX2_1 := frozen_later hb cX2_1 fX2_1; replace fX2_2 := frozen_later hb cX2_2 fX2_2
  replace cX2_0 := cell_later hb cX2_0; replace cX2_1 := cell_later hb cX2_1; replace cX2_2 := cell_later hb cX2_2
  replace kk := bC kk hb
  replace c0 := cell_later kk c00; replace c1 := cell_later kk c01
  clear hb
  refine hK.out _ _ ⟨c0, c1, cX0_0, trivial⟩ (fun hHeld => ?_)
  clear hK K
  try simp only [List.getElem_toArray, List.getElem_cons_zero, List.getElem_cons_succ, Act.put, List.setIfInBounds_toArray, List.set_cons_zero, List.set_cons_succ]
  refine wpAnyH_take (i := 6) (v := ?vq6) rfl (by kernel_rfl) (by kernel_rfl) (by kernel_rfl) (fun _ _ _ h => h) (Or.inl ⟨by rfl, ?yq6⟩) hHeld ?rq6
  case yq6 => (intro wq hb; obtain ⟨lq0, lq1, lq2, _⟩ := hb; go_simp; try (with_reducible rfl))
  try simp only [List.getElem_toArray, List.getElem_cons_zero, List.getElem_cons_succ, Act.put, List.setIfInBounds_toArray, List.set_cons_zero, List.set_cons_succ]
  clear hHeld
  refine wpAnyH_ready (rs := [7]) (by kernel_rfl) (by simp) ?_
  refine AllReadyH.cons rfl (fun K hK => ?_) AllReadyH.nil
  go_simp
  have neX0 : ¬ (w3.heap.size = w.heap.size) := by omega
  have nfX0 : ¬ (w.heap.size = w3.heap.size) := by omega
  have neX1 : ¬ (w3.heap.size = w.heap.size + 1) := by omega
  have nfX1 : ¬ (w.heap.size + 1 = w3.heap.size) := by omega
  have KEY := Lib.hid (show ((w5.setCell ⟨w3.heap.size, 0, none⟩ (.int .u64 qh)).setCell ⟨w3.heap.size, 1, none⟩ (.int .u64 ql)).cell? ⟨w.heap.size, 0, none⟩ = some (.int .u8 f) ∧ ((w5.setCell ⟨w3.heap.size, 0, none⟩ (.int .u64 qh)).setCell ⟨w3.heap.size, 1, none⟩ (.int .u64 ql)).cell? ⟨w.heap.size + 1, 0, none⟩ = some (.int .u64 0) ∧ ((w5.setCell ⟨w3.heap.size, 0, none⟩ (.int .u64 qh)).setCell ⟨w3.heap.size, 1, none⟩ (.int .u64 ql)).cell? ⟨w.heap.size + 1, 1, none⟩ = some (.int .u64 0) ∧ ((w5.setCell ⟨w3.heap.size, 0, none⟩ (.int .u64 qh)).setCell ⟨w3.heap.size, 1, none⟩ (.int .u64 ql)).cell? ⟨w.heap.size + 1, 2, none⟩ = some (.int .u8 0) ∧ ((w5.setCell ⟨w3.heap.size, 0, none⟩ (.int .u64 qh)).setCell ⟨w3.heap.size, 1, none⟩ (.int .u64 ql)).frozen? ⟨w.heap.size + 1, 0, none⟩ = false ∧ ((w5.setCell ⟨w3.heap.size, 0, none⟩ (.int .u64 qh)).setCell ⟨w3.heap.size, 1, none⟩ (.int .u64 ql)).frozen? ⟨w.heap.size + 1, 1, none⟩ = false ∧ ((w5.setCell ⟨w3.heap.size, 0, none⟩ (.int .u64 qh)).setCell ⟨w3.heap.size, 1, none⟩ (.int .u64 ql)).frozen? ⟨w.heap.size + 1, 2, none⟩ = false ∧ ((w5.setCell ⟨w3.heap.size, 0, none⟩ (.int .u64 qh)).setCell ⟨w3.heap.size, 1, none⟩ (.int .u64 ql)).cell? ⟨w3.heap.size, 0, none⟩ = some (.int .u64 qh) ∧ ((w5.setCell ⟨w3.heap.size, 0, none⟩ (.int .u64 qh)).setCell ⟨w3.heap.size, 1, none⟩ (.int .u64 ql)).cell? ⟨w3.heap.size, 1, none⟩ = some (.int .u64 ql) ∧ ((w5.setCell ⟨w3.heap.size, 0, none⟩ (.int .u64 qh)).setCell ⟨w3.heap.size, 1, none⟩ (.int .u64 ql)).cell? ⟨w3.heap.size, 2, none⟩ = some (.int .u8 0) ∧ ((w5.setCell ⟨w3.heap.size, 0, none⟩ (.int .u64 qh)).setCell ⟨w3.heap.size, 1, none⟩ (.int .u64 ql)).frozen? ⟨w3.heap.size, 0, none⟩ = false ∧ ((w5.setCell ⟨w3.heap.size, 0, none⟩ (.int .u64 qh)).setCell ⟨w3.heap.size, 1, none⟩ (.int .u64 ql)).frozen? ⟨w3.heap.size, 1, none⟩ = false ∧ ((w5.setCell ⟨w3.heap.size, 0, none⟩ (.int .u64 qh)).setCell ⟨w3.heap.size, 1, none⟩ (.int .u64 ql)).frozen? ⟨w3.heap.size, 2, none⟩ = false ∧ Below w.heap.size w ((w5.setCell ⟨w3.heap.size, 0, none⟩ (.int .u64 qh)).setCell ⟨w3.heap.size, 1, none⟩ (.int .u64 ql)) from ⟨by go_simp, by go_simp, by go_simp, by go_simp, by go_simp, by go_simp, by go_simp, by go_simp, by go_simp, by go_simp, by go_simp, by go_simp, by go_simp, ((kk.setCell (p := ⟨w3.heap.size, 0, none⟩) gX2 _).setCell (p := ⟨w3.heap.size, 1, none⟩) gX2 _)⟩)
  clear cX0_0 cX1_0 cX1_1 cX1_2 fX1_0 fX1_1 fX1_2 cX2_0 cX2_1 cX2_2 fX2_0 fX2_1 fX2_2 neX0 nfX0 neX1 nfX1 kk
  refine forget_at (fun W => W.cell? ⟨w.heap.size, 0, none⟩ = some (.int .u8 f) ∧ W.cell? ⟨w.heap.size + 1, 0, none⟩ = some (.int .u64 0) ∧ W.cell? ⟨w.heap.size + 1, 1, none⟩ = some (.int .u64 0) ∧ W.cell? ⟨w.heap.size + 1, 2, none⟩ = some (.int .u8 0) ∧ W.frozen? ⟨w.heap.size + 1, 0, none⟩ = false ∧ W.frozen? ⟨w.heap.size + 1, 1, none⟩ = false ∧ W.frozen? ⟨w.heap.size + 1, 2, none⟩ = false ∧ W.cell? ⟨w3.heap.size, 0, none⟩ = some (.int .u64 qh) ∧ W.cell? ⟨w3.heap.size, 1, none⟩ = some (.int .u64 ql) ∧ W.cell? ⟨w3.heap.size, 2, none⟩ = some (.int .u8 0) ∧ W.frozen? ⟨w3.heap.size, 0, none⟩ = false ∧ W.frozen? ⟨w3.heap.size, 1, none⟩ = false ∧ W.frozen? ⟨w3.heap.size, 2, none⟩ = false ∧ Below w.heap.size w W) KEY.out (fun w6 hz => ?_)
  obtain ⟨cX0_0, cX1_0, cX1_1, cX1_2, fX1_0, fX1_1, fX1_2, cX2_0, cX2_1, cX2_2, fX2_0, fX2_1, fX2_2, kk⟩ := hz
  clear KEY
  replace c0 := cell_later kk c00
  replace c1 := cell_later kk c01
  refine hK.out _ _ ⟨c0, c1, cX0_0, trivial⟩ (fun hHeld => ?_)
  clear hK K
  try simp only [List.getElem_toArray, List.getElem_cons_zero, List.getElem_cons_succ, Act.put, List.setIfInBounds_toArray, List.set_cons_zero, List.set_cons_succ]
  clear hHeld
  refine wpAnyH_done (by kernel_rfl) ?_ _
  refine NoPanic.normal ?_
  clear c0 c1
  replace sX0 : w.heap.size < w6.heap.size := World.block_lt_of_cell? _ _ cX0_0
  replace sX1 : w.heap.size + 1 < w6.heap.size ∧ w.heap.size < w6.heap.size := by have h : w.heap.size + 1 < w6.heap.size := World.block_lt_of_cell? _ _ cX1_0; exact ⟨h, by omega⟩
  replace sX2 : w3.heap.size < w6.heap.size := World.block_lt_of_cell? _ _ cX2_0
  have KEY : Hid (((((w6.setCell ⟨w3.heap.size, 2, none⟩ (.int .u8 1)).setCell ⟨w.heap.size + 1, 0, none⟩ (.int .u64 qh)).setCell ⟨w.heap.size + 1, 1, none⟩ (.int .u64 ql)).setCell ⟨w.heap.size + 1, 2, none⟩ (.int .u8 1)).cell? ⟨w.heap.size + 1, 0, none⟩ = some (.int .u64 qh) ∧ ((((w6.setCell ⟨w3.heap.size, 2, none⟩ (.int .u8 1)).setCell ⟨w.heap.size + 1, 0, none⟩ (.int .u64 qh)).setCell ⟨w.heap.size + 1, 1, none⟩ (.int .u64 ql)).setCell ⟨w.heap.size + 1, 2, none⟩ (.int .u8 1)).cell? ⟨w.heap.size + 1, 1, none⟩ = some (.int .u64 ql) ∧ ((((w6.setCell ⟨w3.heap.size, 2, none⟩ (.int .u8 1)).setCell ⟨w.heap.size + 1, 0, none⟩ (.int .u64 qh)).setCell ⟨w.heap.size + 1, 1, none⟩ (.int .u64 ql)).setCell ⟨w.heap.size + 1, 2, none⟩ (.int .u8 1)).cell? ⟨w.heap.size + 1, 2, none⟩ = some (.int .u8 1) ∧ Below w.heap.size w ((((w6.setCell ⟨w3.heap.size, 2, none⟩ (.int .u8 1)).setCell ⟨w.heap.size + 1, 0, none⟩ (.int .u64 qh)).setCell ⟨w.heap.size + 1, 1, none⟩ (.int .u64 ql)).setCell ⟨w.heap.size + 1, 2, none⟩ (.int .u8 1))) := Lib.hid ⟨by go_simp, by go_simp, by go_simp, ((((kk.setCell (p := ⟨w3.heap.size, 2, none⟩) gX2 _).setCell (p := ⟨w.heap.size + 1, 0, none⟩) gX1 _).setCell (p := ⟨w.heap.size + 1, 1, none⟩) gX1 _).setCell (p := ⟨w.heap.size + 1, 2, none⟩) gX1 _)⟩
  go_wp2_with fail
  obtain ⟨e0, e1, e2, kb⟩ := KEY.out
  clear KEY cX1_0 cX1_1 cX1_2 fX1_0 fX1_1 fX1_2
  refine bodyPost_ret (v := .tuple #[.agg #[.int .u64 qh, .int .u64 ql, .int .u8 1], .bool true]) ?_ rfl ⟨rfl, kb⟩
  simp [results, Tryd.results14, go_sem, e0, e1, e2]

set_option maxHeartbeats 4000000 in
set_option maxRecDepth 100000 in
theorem nan_pick_ff (f dh dl bh bl qh ql : Int) (a : Addr) (k : Nat) (ao : Option Addr) (n cap : Nat) (xs : List Int)
    (h0 : Hid (∀ w, FTab w → Calls Tryd.prog 16 #[.int .u8 f] w fun e w' => e = .returned (.bool true) ∧ Below w.heap.size w w'))
    (h2 : Hid (∀ w, FTab w → Calls Tryd.prog 11 #[.int .u8 f] w fun e w' => e = .returned (.agg #[.int .u64 dh, .int .u64 dl]) ∧ Below w.heap.size w w'))
    (h3 : Hid (∀ w, FTab w → Calls Tryd.prog 9 #[.int .u8 f, .agg #[.int .u64 bh, .int .u64 bl]] w fun e w' => e = .returned (.agg #[.int .u64 qh, .int .u64 ql]) ∧ Below w.heap.size w w'))
    (h4 : Hid (∀ w, FTab w → Bs w ao n cap xs → Calls Tryd.prog 17 #[.int .u8 f, .func (.func 21) #[] #[], .slice ao n cap] w fun e w' => e = .returned (.bool false) ∧ Below w.heap.size w w')) (ix : Hid (∀ bk w, FTab w → Bs w ao n cap xs → w.cell? ⟨bk, 0, none⟩ = some (.int .u8 f) → Calls Tryd.prog 37 #[.slice ao n cap, .func (.func 38) #[] #[.pointer (some ⟨bk, 0, none⟩)]] w fun e w' => e = .returned (.int .i64 (k : Int)) ∧ Below w.heap.size w w')) (ha : ao = some a) (g1 : decide ((k : Int) < 0) = false) (g2 : decide (0 ≤ (k : Int)) = true) (gk : decide ((k : Int) < (n : Int)) = true) (gn : k < n) (w : World) (ft : FTab w) (bs : Bs w ao n cap xs) (c00 : w.cell? (a.add (k * 2)) = some (.int .u64 bh)) (c01 : w.cell? ⟨(a.add (k * 2)).block, (a.add (k * 2)).off + 1, none⟩ = some (.int .u64 bl)) :
    Calls Tryd.prog 14 #[.int .u8 f, .bool false, .slice ao n cap] w fun e w' => e = .returned (.tuple #[.agg #[.int .u64 qh, .int .u64 ql, .int .u8 0], .bool true]) ∧ Below w.heap.size w w' := by
  subst ha
  have hmf : ∀ (fn : Fn) (first cap : Array Value) (w : World), (Instr.makeFunc fn first cap).run Tryd.prog w = .ok (.func fn first cap) w := fun _ _ _ _ => rfl
  go_enter Tryd.func14, Tryd.ntmps14
  go_wp2_with fail
  (with_reducible refine (h0.out _ (ft.later (bA (bA (Below.refl _ _) _) _))).mono ?_); rintro e w1 ⟨rfl, hb⟩
  have hz := bC (bA (bA (Below.refl _ _) _) _) hb
  have gX1 : w.heap.size ≤ w.heap.size + 1 := by omega
  have cX0_0 := cell_later hb (a := ⟨w.heap.size, 0, none⟩) (v := .int .u8 f) (by go_simp)
  have sX0 : w.heap.size < w1.heap.size := World.block_lt_of_cell? _ _ cX0_0
  have cX1_0 := cell_later hb (a := ⟨w.heap.size + 1, 0, none⟩) (v := .int .u64 0) (by go_simp)
  have cX1_1 := cell_later hb (a := ⟨w.heap.size + 1, 1, none⟩) (v := .int .u64 0) (by go_simp)
  have cX1_2 := cell_later hb (a := ⟨w.heap.size + 1, 2, none⟩) (v := .int .u8 0) (by go_simp)
  have sX1 : w.heap.size + 1 < w1.heap.size ∧ w.heap.size < w1.heap.size := by have h : w.heap.size + 1 < w1.heap.size := World.block_lt_of_cell? _ _ cX1_0; exact ⟨h, by omega⟩
  have fX1_0 := frozen_later hb (a := ⟨w.heap.size + 1, 0, none⟩) (v := .int .u64 0) (by go_simp) (by go_simp)
  have fX1_1 := frozen_later hb (a := ⟨w.heap.size + 1, 1, none⟩) (v := .int .u64 0) (by go_simp) (by go_simp)
  have fX1_2 := frozen_later hb (a := ⟨w.heap.size + 1, 2, none⟩) (v := .int .u8 0) (by go_simp) (by go_simp)
  have kk := hz
  clear hb hz
  go_wp2_with fail
  (with_reducible refine (ix.out _ _ (ft.later kk) (bs.later kk) cX0_0).mono ?_); rintro e w2 ⟨rfl, hb⟩
  replace cX0_0 := cell_later hb cX0_0
  replace sX0 : w.heap.size < w2.heap.size := World.block_lt_of_cell? _ _ cX0_0
  replace fX1_0 := frozen_later hb cX1_0 fX1_0; replace fX1_1 := frozen_later hb cX1_1 fX1_1; replace fX1_2 := frozen_later hb cX1_2 fX1_2
  replace cX1_0 := cell_later hb cX1_0; replace cX1_1 := cell_later hb cX1_1; replace cX1_2 := cell_later hb cX1_2
  replace sX1 : w.heap.size + 1 < w2.heap.size ∧ w.heap.size < w2.heap.size := by have h : w.heap.size + 1 < w2.heap.size := World.block_lt_of_cell? _ _ cX1_0; exact ⟨h, by omega⟩
  replace kk := bC kk hb
  clear hb
  go_wp2_with fail
  (with_reducible refine (h2.out _ (ft.later kk)).mono ?_); rintro e w3 ⟨rfl, hb⟩
  replace cX0_0 := cell_later hb cX0_0
  replace sX0 : w.heap.size < w3.heap.size := World.block_lt_of_cell? _ _ cX0_0
  replace fX1_0 := frozen_later hb cX1_0 fX1_0; replace fX1_1 := frozen_later hb cX1_1 fX1_1; replace fX1_2 := frozen_later hb cX1_2 fX1_2
  replace cX1_0 := cell_later hb cX1_0; replace cX1_1 := cell_later hb cX1_1; replace cX1_2 := cell_later hb cX1_2
  replace sX1 : w.heap.size + 1 < w3.heap.size ∧ w.heap.size < w3.heap.size := by have h : w.heap.size + 1 < w3.heap.size := World.block_lt_of_cell? _ _ cX1_0; exact ⟨h, by omega⟩
  replace kk := bC kk hb
  clear hb
  go_wp2_with fail
  have nX0_X2 : w.heap.size < w3.heap.size := by omega
  have nX1_X2 : w.heap.size + 1 < w3.heap.size := by omega
  have gX2 : w.heap.size ≤ w3.heap.size := by have := kk.size; omega
  refine wp_forget (fun W => W.cell? ⟨w.heap.size, 0, none⟩ = some (.int .u8 f) ∧ W.cell? ⟨w.heap.size + 1, 0, none⟩ = some (.int .u64 0) ∧ W.cell? ⟨w.heap.size + 1, 1, none⟩ = some (.int .u64 0) ∧ W.cell? ⟨w.heap.size + 1, 2, none⟩ = some (.int .u8 0) ∧ W.cell? ⟨w3.heap.size, 0, none⟩ = some (.int .u64 dh) ∧ W.cell? ⟨w3.heap.size, 1, none⟩ = some (.int .u64 dl) ∧ W.cell? ⟨w3.heap.size, 2, none⟩ = some (.int .u8 0) ∧ W.frozen? ⟨w.heap.size + 1, 0, none⟩ = false ∧ W.frozen? ⟨w.heap.size + 1, 1, none⟩ = false ∧ W.frozen? ⟨w.heap.size + 1, 2, none⟩ = false ∧ W.frozen? ⟨w3.heap.size, 0, none⟩ = false ∧ W.frozen? ⟨w3.heap.size, 1, none⟩ = false ∧ W.frozen? ⟨w3.heap.size, 2, none⟩ = false ∧ Below w.heap.size w W) ⟨cell_later (bA (Below.refl _ _) _) cX0_0, cell_later (bA (Below.refl _ _) _) cX1_0, cell_later (bA (Below.refl _ _) _) cX1_1, cell_later (bA (Below.refl _ _) _) cX1_2, by go_simp, by go_simp, by go_simp, frozen_later (bA (Below.refl _ _) _) cX1_0 fX1_0, frozen_later (bA (Below.refl _ _) _) cX1_1 fX1_1, frozen_later (bA (Below.refl _ _) _) cX1_2 fX1_2, by go_simp, by go_simp, by go_simp, bC kk (bA (Below.refl _ _) _)⟩ (fun w4 hst => ?_)
  clear cX0_0 sX0 cX1_0 cX1_1 cX1_2 sX1 fX1_0 fX1_1 fX1_2 kk
  obtain ⟨cX0_0, cX1_0, cX1_1, cX1_2, cX2_0, cX2_1, cX2_2, fX1_0, fX1_1, fX1_2, fX2_0, fX2_1, fX2_2, kk⟩ := hst
  have sX0 : w.heap.size < w4.heap.size := World.block_lt_of_cell? _ _ cX0_0
  have sX1 : w.heap.size + 1 < w4.heap.size ∧ w.heap.size < w4.heap.size := by have h : w.heap.size + 1 < w4.heap.size := World.block_lt_of_cell? _ _ cX1_0; exact ⟨h, by omega⟩
  have sX2 : w3.heap.size < w4.heap.size := World.block_lt_of_cell? _ _ cX2_0
  have c0 := cell_later kk c00
  have c1 := cell_later kk c01
  refine wp_region_noPanic ?_
  refine wp_region_held_drew (S := fun w' => w'.cell? (a.add (k * 2)) = some (.int .u64 bh) ∧ w'.cell? ⟨(a.add (k * 2)).block, (a.add (k * 2)).off + 1, none⟩ = some (.int .u64 bl) ∧ w'.cell? ⟨w.heap.size, 0, none⟩ = some (.int .u8 f) ∧ True) (by kernel_rfl) ⟨cell_later (Below.refl _ _).drew c0, cell_later (Below.refl _ _).drew c1, cell_later (Below.refl _ _).drew cX0_0, trivial⟩ (fun hHeld => ?_)
  replace cX0_0 := cell_later (Below.refl _ _).drew cX0_0
  replace fX1_0 := frozen_later (Below.refl _ _).drew cX1_0 fX1_0; replace fX1_1 := frozen_later (Below.refl _ _).drew cX1_1 fX1_1; replace fX1_2 := frozen_later (Below.refl _ _).drew cX1_2 fX1_2
  replace cX1_0 := cell_later (Below.refl _ _).drew cX1_0; replace cX1_1 := cell_later (Below.refl _ _).drew cX1_1; replace cX1_2 := cell_later (Below.refl _ _).drew cX1_2
  replace fX2_0 := frozen_later (Below.refl _ _).drew cX2_0 fX2_0; replace fX2_1 := frozen_later (Below.refl _ _).drew cX2_1 fX2_1; replace fX2_2 := frozen_later (Below.refl _ _).drew cX2_2 fX2_2
  replace cX2_0 := cell_later (Below.refl _ _).drew cX2_0; replace cX2_1 := cell_later (Below.refl _ _).drew cX2_1; replace cX2_2 := cell_later (Below.refl _ _).drew cX2_2
  replace kk := bC kk (Below.refl _ _).drew
  replace c0 := cell_later kk c00; replace c1 := cell_later kk c01
  refine wpAnyH_take (i := 0) (v := ?vq7) rfl (by kernel_rfl) (by kernel_rfl) (by kernel_rfl) (fun _ _ _ h => h) (Or.inl ⟨by rfl, ?yq7⟩) hHeld ?rq7
  case yq7 => (intro wq hb; obtain ⟨lq0, lq1, lq2, _⟩ := hb; go_simp; try (with_reducible rfl))
  try simp only [List.getElem_toArray, List.getElem_cons_zero, List.getElem_cons_succ, Act.put, List.setIfInBounds_toArray, List.set_cons_zero, List.set_cons_succ]
  refine wpAnyH_take (i := 1) (v := ?vq8) rfl (by kernel_rfl) (by kernel_rfl) (by kernel_rfl) (fun _ _ _ h => h) (Or.inl ⟨by rfl, ?yq8⟩) hHeld ?rq8
  case yq8 => (intro wq hb; obtain ⟨lq0, lq1, lq2, _⟩ := hb; go_simp; try (with_reducible rfl))
  try simp only [List.getElem_toArray, List.getElem_cons_zero, List.getElem_cons_succ, Act.put, List.setIfInBounds_toArray, List.set_cons_zero, List.set_cons_succ]
  refine wpAnyH_take (i := 2) (v := ?vq9) rfl (by kernel_rfl) (by kernel_rfl) (by kernel_rfl) (fun _ _ _ h => h) (Or.inl ⟨by rfl, ?yq9⟩) hHeld ?rq9
  case yq9 => (intro wq hb; obtain ⟨lq0, lq1, lq2, _⟩ := hb; go_simp; try (with_reducible rfl))
  try simp only [List.getElem_toArray, List.getElem_cons_zero, List.getElem_cons_succ, Act.put, List.setIfInBounds_toArray, List.set_cons_zero, List.set_cons_succ]
  refine wpAnyH_take (i := 3) (v := ?vq10) rfl (by kernel_rfl) (by kernel_rfl) (by kernel_rfl) (fun _ _ _ h => h) (Or.inl ⟨by rfl, ?yq10⟩) hHeld ?rq10
  case yq10 => (intro wq hb; obtain ⟨lq0, lq1, lq2, _⟩ := hb; go_simp; try (with_reducible rfl))
  try simp only [List.getElem_toArray, List.getElem_cons_zero, List.getElem_cons_succ, Act.put, List.setIfInBounds_toArray, List.set_cons_zero, List.set_cons_succ]
  refine wpAnyH_take (i := 4) (v := ?vq11) rfl (by kernel_rfl) (by kernel_rfl) (by kernel_rfl) (fun _ _ _ h => h) (Or.inl ⟨by rfl, ?yq11⟩) hHeld ?rq11
  case yq11 => (intro wq hb; obtain ⟨lq0, lq1, lq2, _⟩ := hb; go_simp; try (with_reducible rfl))
  try simp only [List.getElem_toArray, List.getElem_cons_zero, List.getElem_cons_succ, Act.put, List.setIfInBounds_toArray, List.set_cons_zero, List.set_cons_succ]
  clear hHeld
  refine wpAnyH_ready (rs := [5]) (by kernel_rfl) (by simp) ?_
  refine AllReadyH.cons rfl (fun K hK => ?_) AllReadyH.nil
  go_simp
  (with_reducible refine (h3.out _ (ft.later kk)).mono ?_); rintro e w5 ⟨rfl, hb⟩
  replace cX0_0 := cell_later hb cX0_0
  replace fX1_0 := frozen_later hb cX1_0 fX1_0; replace fX1_1 := frozen_later hb cX1_1 fX1_1; replace fX1_2 := frozen_later hb cX1_2 fX1_2
  replace cX1_0 := cell_later hb cX1_0; replace cX1_1 := cell_later hb cX1_1; replace cX1_2 := cell_later hb cX1_2
  replace fX2_0 := frozen_later hb cX2_0 fX2_0; replace fX2_1 := frozen_later hb cX2_1 fX2_1; replace fX2_2 := frozen_later hb cX2_2 fX2_2
  replace cX2_0 := cell_later hb cX2_0; replace cX2_1 := cell_later hb cX2_1; replace cX2_2 := cell_later hb cX2_2
  replace kk := bC kk hb
  replace c0 := cell_later kk c00; replace c1 := cell_later kk c01
  clear hb
  refine hK.out _ _ ⟨c0, c1, cX0_0, trivial⟩ (fun hHeld => ?_)
  clear hK K
  try simp only [List.getElem_toArray, List.getElem_cons_zero, List.getElem_cons_succ, Act.put, List.setIfInBounds_toArray, List.set_cons_zero, List.set_cons_succ]
  refine wpAnyH_take (i := 6) (v := ?vq12) rfl (by kernel_rfl) (by kernel_rfl) (by kernel_rfl) (fun _ _ _ h => h) (Or.inl ⟨by rfl, ?yq12⟩) hHeld ?rq12
  case yq12 => (intro wq hb; obtain ⟨lq0, lq1, lq2, _⟩ := hb; go_simp; try (with_reducible rfl))
  try simp only [List.getElem_toArray, List.getElem_cons_zero, List.getElem_cons_succ, Act.put, List.setIfInBounds_toArray, List.set_cons_zero, List.set_cons_succ]
  clear hHeld
  refine wpAnyH_ready (rs := [7]) (by kernel_rfl) (by simp) ?_
  refine AllReadyH.cons rfl (fun K hK => ?_) AllReadyH.nil
  go_simp
  have neX0 : ¬ (w3.heap.size = w.heap.size) := by omega
  have nfX0 : ¬ (w.heap.size = w3.heap.size) := by omega
  have neX1 : ¬ (w3.heap.size = w.heap.size + 1) := by omega
  have nfX1 : ¬ (w.heap.size + 1 = w3.heap.size) := by omega
  have KEY := Lib.hid (show ((w5.setCell ⟨w3.heap.size, 0, none⟩ (.int .u64 qh)).setCell ⟨w3.heap.size, 1, none⟩ (.int .u64 ql)).cell? ⟨w.heap.size, 0, none⟩ = some (.int .u8 f) ∧ ((w5.setCell ⟨w3.heap.size, 0, none⟩ (.int .u64 qh)).setCell ⟨w3.heap.size, 1, none⟩ (.int .u64 ql)).cell? ⟨w.heap.size + 1, 0, none⟩ = some (.int .u64 0) ∧ ((w5.setCell ⟨w3.heap.size, 0, none⟩ (.int .u64 qh)).setCell ⟨w3.heap.size, 1, none⟩ (.int .u64 ql)).cell? ⟨w.heap.size + 1, 1, none⟩ = some (.int .u64 0) ∧ ((w5.setCell ⟨w3.heap.size, 0, none⟩ (.int .u64 qh)).setCell ⟨w3.heap.size, 1, none⟩ (.int .u64 ql)).cell? ⟨w.heap.size + 1, 2, none⟩ = some (.int .u8 0) ∧ ((w5.setCell ⟨w3.heap.size, 0, none⟩ (.int .u64 qh)).setCell ⟨w3.heap.size, 1, none⟩ (.int .u64 ql)).frozen? ⟨w.heap.size + 1, 0, none⟩ = false ∧ ((w5.setCell ⟨w3.heap.size, 0, none⟩ (.int .u64 qh)).setCell ⟨w3.heap.size, 1, none⟩ (.int .u64 ql)).frozen? ⟨w.heap.size + 1, 1, none⟩ = false ∧ ((w5.setCell ⟨w3.heap.size, 0, none⟩ (.int .u64 qh)).setCell ⟨w3.heap.size, 1, none⟩ (.int .u64 ql)).frozen? ⟨w.heap.size + 1, 2, none⟩ = false ∧ ((w5.setCell ⟨w3.heap.size, 0, none⟩ (.int .u64 qh)).setCell ⟨w3.heap.size, 1, none⟩ (.int .u64 ql)).cell? ⟨w3.heap.size, 0, none⟩ = some (.int .u64 qh) ∧ ((w5.setCell ⟨w3.heap.size, 0, none⟩ (.int .u64 qh)).setCell ⟨w3.heap.size, 1, none⟩ (.int .u64 ql)).cell? ⟨w3.heap.size, 1, none⟩ = some (.int .u64 ql) ∧ ((w5.setCell ⟨w3.heap.size, 0, none⟩ (.int .u64 qh)).setCell ⟨w3.heap.size, 1, none⟩ (.int .u64 ql)).cell? ⟨w3.heap.size, 2, none⟩ = some (.int .u8 0) ∧ ((w5.setCell ⟨w3.heap.size, 0, none⟩ (.int .u64 qh)).setCell ⟨w3.heap.size, 1, none⟩ (.int .u64 ql)).frozen? ⟨w3.heap.size, 0, none⟩ = false ∧ ((w5.setCell ⟨w3.heap.size, 0, none⟩ (.int .u64 qh)).setCell ⟨w3.heap.size, 1, none⟩ (.int .u64 ql)).frozen? ⟨w3.heap.size, 1, none⟩ = false ∧ ((w5.setCell ⟨w3.heap.size, 0, none⟩ (.int .u64 qh)).setCell ⟨w3.heap.size, 1, none⟩ (.int .u64 ql)).frozen? ⟨w3.heap.size, 2, none⟩ = false ∧ Below w.heap.size w ((w5.setCell ⟨w3.heap.size, 0, none⟩ (.int .u64 qh)).setCell ⟨w3.heap.size, 1, none⟩ (.int .u64 ql)) from ⟨by go_simp, by go_simp, by go_simp, by go_simp, by go_simp, by go_simp, by go_simp, by go_simp, by go_simp, by go_simp, by go_simp, by go_simp, by go_simp, ((kk.setCell (p := ⟨w3.heap.size, 0, none⟩) gX2 _).setCell (p := ⟨w3.heap.size, 1, none⟩) gX2 _)⟩)
  clear cX0_0 cX1_0 cX1_1 cX1_2 fX1_0 fX1_1 fX1_2 cX2_0 cX2_1 cX2_2 fX2_0 fX2_1 fX2_2 neX0 nfX0 neX1 nfX1 kk
  refine forget_at (fun W => W.cell? ⟨w.heap.size, 0, none⟩ = some (.int .u8 f) ∧ W.cell? ⟨w.heap.size + 1, 0, none⟩ = some (.int .u64 0) ∧ W.cell? ⟨w.heap.size + 1, 1, none⟩ = some (.int .u64 0) ∧ W.cell? ⟨w.heap.size + 1, 2, none⟩ = some (.int .u8 0) ∧ W.frozen? ⟨w.heap.size + 1, 0, none⟩ = false ∧ W.frozen? ⟨w.heap.size + 1, 1, none⟩ = false ∧ W.frozen? ⟨w.heap.size + 1, 2, none⟩ = false ∧ W.cell? ⟨w3.heap.size, 0, none⟩ = some (.int .u64 qh) ∧ W.cell? ⟨w3.heap.size, 1, none⟩ = some (.int .u64 ql) ∧ W.cell? ⟨w3.heap.size, 2, none⟩ = some (.int .u8 0) ∧ W.frozen? ⟨w3.heap.size, 0, none⟩ = false ∧ W.frozen? ⟨w3.heap.size, 1, none⟩ = false ∧ W.frozen? ⟨w3.heap.size, 2, none⟩ = false ∧ Below w.heap.size w W) KEY.out (fun w6 hz => ?_)
  obtain ⟨cX0_0, cX1_0, cX1_1, cX1_2, fX1_0, fX1_1, fX1_2, cX2_0, cX2_1, cX2_2, fX2_0, fX2_1, fX2_2, kk⟩ := hz
  clear KEY
  replace c0 := cell_later kk c00
  replace c1 := cell_later kk c01
  refine hK.out _ _ ⟨c0, c1, cX0_0, trivial⟩ (fun hHeld => ?_)
  clear hK K
  try simp only [List.getElem_toArray, List.getElem_cons_zero, List.getElem_cons_succ, Act.put, List.setIfInBounds_toArray, List.set_cons_zero, List.set_cons_succ]
  clear hHeld
  refine wpAnyH_done (by kernel_rfl) ?_ _
  refine NoPanic.normal ?_
  clear c0 c1
  replace sX0 : w.heap.size < w6.heap.size := World.block_lt_of_cell? _ _ cX0_0
  replace sX1 : w.heap.size + 1 < w6.heap.size ∧ w.heap.size < w6.heap.size := by have h : w.heap.size + 1 < w6.heap.size := World.block_lt_of_cell? _ _ cX1_0; exact ⟨h, by omega⟩
  replace sX2 : w3.heap.size < w6.heap.size := World.block_lt_of_cell? _ _ cX2_0
  go_wp2_with fail
  (with_reducible refine (h4.out _ (ft.later kk) (bs.later kk)).mono ?_); rintro e w7 ⟨rfl, hb⟩
  clear cX0_0 sX0
  replace fX1_0 := frozen_later hb cX1_0 fX1_0; replace fX1_1 := frozen_later hb cX1_1 fX1_1; replace fX1_2 := frozen_later hb cX1_2 fX1_2
  replace cX1_0 := cell_later hb cX1_0; replace cX1_1 := cell_later hb cX1_1; replace cX1_2 := cell_later hb cX1_2
  replace sX1 : w.heap.size + 1 < w7.heap.size ∧ w.heap.size < w7.heap.size := by have h : w.heap.size + 1 < w7.heap.size := World.block_lt_of_cell? _ _ cX1_0; exact ⟨h, by omega⟩
  replace fX2_0 := frozen_later hb cX2_0 fX2_0; replace fX2_1 := frozen_later hb cX2_1 fX2_1; replace fX2_2 := frozen_later hb cX2_2 fX2_2
  replace cX2_0 := cell_later hb cX2_0; replace cX2_1 := cell_later hb cX2_1; replace cX2_2 := cell_later hb cX2_2
  replace sX2 : w3.heap.size < w7.heap.size := World.block_lt_of_cell? _ _ cX2_0
  replace kk := bC kk hb
  clear hb
  have KEY : Hid ((((w7.setCell ⟨w.heap.size + 1, 0, none⟩ (.int .u64 qh)).setCell ⟨w.heap.size + 1, 1, none⟩ (.int .u64 ql)).setCell ⟨w.heap.size + 1, 2, none⟩ (.int .u8 0)).cell? ⟨w.heap.size + 1, 0, none⟩ = some (.int .u64 qh) ∧ (((w7.setCell ⟨w.heap.size + 1, 0, none⟩ (.int .u64 qh)).setCell ⟨w.heap.size + 1, 1, none⟩ (.int .u64 ql)).setCell ⟨w.heap.size + 1, 2, none⟩ (.int .u8 0)).cell? ⟨w.heap.size + 1, 1, none⟩ = some (.int .u64 ql) ∧ (((w7.setCell ⟨w.heap.size + 1, 0, none⟩ (.int .u64 qh)).setCell ⟨w.heap.size + 1, 1, none⟩ (.int .u64 ql)).setCell ⟨w.heap.size + 1, 2, none⟩ (.int .u8 0)).cell? ⟨w.heap.size + 1, 2, none⟩ = some (.int .u8 0) ∧ Below w.heap.size w (((w7.setCell ⟨w.heap.size + 1, 0, none⟩ (.int .u64 qh)).setCell ⟨w.heap.size + 1, 1, none⟩ (.int .u64 ql)).setCell ⟨w.heap.size + 1, 2, none⟩ (.int .u8 0))) := Lib.hid ⟨by go_simp, by go_simp, by go_simp, (((kk.setCell (p := ⟨w.heap.size + 1, 0, none⟩) gX1 _).setCell (p := ⟨w.heap.size + 1, 1, none⟩) gX1 _).setCell (p := ⟨w.heap.size + 1, 2, none⟩) gX1 _)⟩
  go_wp2_with fail
  obtain ⟨e0, e1, e2, kb⟩ := KEY.out
  clear KEY cX1_0 cX1_1 cX1_2 fX1_0 fX1_1 fX1_2
  refine bodyPost_ret (v := .tuple #[.agg #[.int .u64 qh, .int .u64 ql, .int .u8 0], .bool true]) ?_ rfl ⟨rfl, kb⟩
  simp [results, Tryd.results14, go_sem, e0, e1, e2]

set_option maxHeartbeats 4000000 in
set_option maxRecDepth 100000 in
theorem nan_pick_ft (f dh dl bh bl qh ql : Int) (a : Addr) (k : Nat) (ao : Option Addr) (n cap : Nat) (xs : List Int)
    (h0 : Hid (∀ w, FTab w → Calls Tryd.prog 16 #[.int .u8 f] w fun e w' => e = .returned (.bool true) ∧ Below w.heap.size w w'))
    (h2 : Hid (∀ w, FTab w → Calls Tryd.prog 11 #[.int .u8 f] w fun e w' => e = .returned (.agg #[.int .u64 dh, .int .u64 dl]) ∧ Below w.heap.size w w'))
    (h3 : Hid (∀ w, FTab w → Calls Tryd.prog 9 #[.int .u8 f, .agg #[.int .u64 bh, .int .u64 bl]] w fun e w' => e = .returned (.agg #[.int .u64 qh, .int .u64 ql]) ∧ Below w.heap.size w w'))
    (h4 : Hid (∀ w, FTab w → Bs w ao n cap xs → Calls Tryd.prog 17 #[.int .u8 f, .func (.func 21) #[] #[], .slice ao n cap] w fun e w' => e = .returned (.bool true) ∧ Below w.heap.size w w')) (ix : Hid (∀ bk w, FTab w → Bs w ao n cap xs → w.cell? ⟨bk, 0, none⟩ = some (.int .u8 f) → Calls Tryd.prog 37 #[.slice ao n cap, .func (.func 38) #[] #[.pointer (some ⟨bk, 0, none⟩)]] w fun e w' => e = .returned (.int .i64 (k : Int)) ∧ Below w.heap.size w w')) (ha : ao = some a) (g1 : decide ((k : Int) < 0) = false) (g2 : decide (0 ≤ (k : Int)) = true) (gk : decide ((k : Int) < (n : Int)) = true) (gn : k < n) (w : World) (ft : FTab w) (bs : Bs w ao n cap xs) (c00 : w.cell? (a.add (k * 2)) = some (.int .u64 bh)) (c01 : w.cell? ⟨(a.add (k * 2)).block, (a.add (k * 2)).off + 1, none⟩ = some (.int .u64 bl)) :
    Calls Tryd.prog 14 #[.int .u8 f, .bool false, .slice ao n cap] w fun e w' => e = .returned (.tuple #[.agg #[.int .u64 qh, .int .u64 ql, .int .u8 1], .bool true]) ∧ Below w.heap.size w w' := by
  subst ha
  have hmf : ∀ (fn : Fn) (first cap : Array Value) (w : World), (Instr.makeFunc fn first cap).run Tryd.prog w = .ok (.func fn first cap) w := fun _ _ _ _ => rfl
  go_enter Tryd.func14, Tryd.ntmps14
  go_wp2_with fail
  (with_reducible refine (h0.out _ (ft.later (bA (bA (Below.refl _ _) _) _))).mono ?_); rintro e w1 ⟨rfl, hb⟩
  have hz := bC (bA (bA (Below.refl _ _) _) _) hb
  have gX1 : w.heap.size ≤ w.heap.size + 1 := by omega
  have cX0_0 := cell_later hb (a := ⟨w.heap.size, 0, none⟩) (v := .int .u8 f) (by go_simp)
  have sX0 : w.heap.size < w1.heap.size := World.block_lt_of_cell? _ _ cX0_0
  have cX1_0 := cell_later hb (a := ⟨w.heap.size + 1, 0, none⟩) (v := .int .u64 0) (by go_simp)
  have cX1_1 := cell_later hb (a := ⟨w.heap.size + 1, 1, none⟩) (v := .int .u64 0) (by go_simp)
  have cX1_2 := cell_later hb (a := ⟨w.heap.size + 1, 2, none⟩) (v := .int .u8 0) (by go_simp)
  have sX1 : w.heap.size + 1 < w1.heap.size ∧ w.heap.size < w1.heap.size := by have h : w.heap.size + 1 < w1.heap.size := World.block_lt_of_cell? _ _ cX1_0; exact ⟨h, by omega⟩
  have fX1_0 := frozen_later hb (a := ⟨w.heap.size + 1, 0, none⟩) (v := .int .u64 0) (by go_simp) (by go_simp)
  have fX1_1 := frozen_later hb (a := ⟨w.heap.size + 1, 1, none⟩) (v := .int .u64 0) (by go_simp) (by go_simp)
  have fX1_2 := frozen_later hb (a := ⟨w.heap.size + 1, 2, none⟩) (v := .int .u8 0) (by go_simp) (by go_simp)
  have kk := hz
  clear hb hz
  go_wp2_with fail
  (with_reducible refine (ix.out _ _ (ft.later kk) (bs.later kk) cX0_0).mono ?_); rintro e w2 ⟨rfl, hb⟩
  replace cX0_0 := cell_later hb cX0_0
  replace sX0 : w.heap.size < w2.heap.size := World.block_lt_of_cell? _ _ cX0_0
  replace fX1_0 := frozen_later hb cX1_0 fX1_0; replace fX1_1 := frozen_later hb cX1_1 fX1_1; replace fX1_2 := frozen_later hb cX1_2 fX1_2
  replace cX1_0 := cell_later hb cX1_0; replace cX1_1 := cell_later hb cX1_1; replace cX1_2 := cell_later hb cX1_2
  replace sX1 : w.heap.size + 1 < w2.heap.size ∧ w.heap.size < w2.heap.size := by have h : w.heap.size + 1 < w2.heap.size := World.block_lt_of_cell? _ _ cX1_0; exact ⟨h, by omega⟩
  replace kk := bC kk hb
  clear hb
  go_wp2_with fail
  (with_reducible refine (h2.out _ (ft.later kk)).mono ?_); rintro e w3 ⟨rfl, hb⟩
  replace cX0_0 := cell_later hb cX0_0
  replace sX0 : w.heap.size < w3.heap.size := World.block_lt_of_cell? _ _ cX0_0
  replace fX1_0 := frozen_later hb cX1_0 fX1_0; replace fX1_1 := frozen_later hb cX1_1 fX1_1; replace fX1_2 := frozen_later hb cX1_2 fX1_2
  replace cX1_0 := cell_later hb cX1_0; replace cX1_1 := cell_later hb cX1_1; replace cX1_2 := cell_later hb cX1_2
  replace sX1 : w.heap.size + 1 < w3.heap.size ∧ w.heap.size < w3.heap.size := by have h : w.heap.size + 1 < w3.heap.size := World.block_lt_of_cell? _ _ cX1_0; exact ⟨h, by omega⟩
  replace kk := bC kk hb
  clear hb
  go_wp2_with fail
  have nX0_X2 : w.heap.size < w3.heap.size := by omega
  have nX1_X2 : w.heap.size + 1 < w3.heap.size := by omega
  have gX2 : w.heap.size ≤ w3.heap.size := by have := kk.size; omega
  refine wp_forget (fun W => W.cell? ⟨w.heap.size, 0, none⟩ = some (.int .u8 f) ∧ W.cell? ⟨w.heap.size + 1, 0, none⟩ = some (.int .u64 0) ∧ W.cell? ⟨w.heap.size + 1, 1, none⟩ = some (.int .u64 0) ∧ W.cell? ⟨w.heap.size + 1, 2, none⟩ = some (.int .u8 0) ∧ W.cell? ⟨w3.heap.size, 0, none⟩ = some (.int .u64 dh) ∧ W.cell? ⟨w3.heap.size, 1, none⟩ = some (.int .u64 dl) ∧ W.cell? ⟨w3.heap.size, 2, none⟩ = some (.int .u8 0) ∧ W.frozen? ⟨w.heap.size + 1, 0, none⟩ = false ∧ W.frozen? ⟨w.heap.size + 1, 1, none⟩ = false ∧ W.frozen? ⟨w.heap.size + 1, 2, none⟩ = false ∧ W.frozen? ⟨w3.heap.size, 0, none⟩ = false ∧ W.frozen? ⟨w3.heap.size, 1, none⟩ = false ∧ W.frozen? ⟨w3.heap.size, 2, none⟩ = false ∧ Below w.heap.size w W) ⟨cell_later (bA (Below.refl _ _) _) cX0_0, cell_later (bA (Below.refl _ _) _) cX1_0, cell_later (bA (Below.refl _ _) _) cX1_1, cell_later (bA (Below.refl _ _) _) cX1_2, by go_simp, by go_simp, by go_simp, frozen_later (bA (Below.refl _ _) _) cX1_0 fX1_0, frozen_later (bA (Below.refl _ _) _) cX1_1 fX1_1, frozen_later (bA (Below.refl _ _) _) cX1_2 fX1_2, by go_simp, by go_simp, by go_simp, bC kk (bA (Below.refl _ _) _)⟩ (fun w4 hst => ?_)
  clear cX0_0 sX0 cX1_0 cX1_1 cX1_2 sX1 fX1_0 fX1_1 fX1_2 kk
  obtain ⟨cX0_0, cX1_0, cX1_1, cX1_2, cX2_0, cX2_1, cX2_2, fX1_0, fX1_1, fX1_2, fX2_0, fX2_1, fX2_2, kk⟩ := hst
  have sX0 : w.heap.size < w4.heap.size := World.block_lt_of_cell? _ _ cX0_0
  have sX1 : w.heap.size + 1 < w4.heap.size ∧ w.heap.size < w4.heap.size := by have h : w.heap.size + 1 < w4.heap.size := World.block_lt_of_cell? _ _ cX1_0; exact ⟨h, by omega⟩
  have sX2 : w3.heap.size < w4.heap.size := World.block_lt_of_cell? _ _ cX2_0
  have c0 := cell_later kk c00
  have c1 := cell_later kk c01
  refine wp_region_noPanic ?_
  refine wp_region_held_drew (S := fun w' => w'.cell? (a.add (k * 2)) = some (.int .u64 bh) ∧ w'.cell? ⟨(a.add (k * 2)).block, (a.add (k * 2)).off + 1, none⟩ = some (.int .u64 bl) ∧ w'.cell? ⟨w.heap.size, 0, none⟩ = some (.int .u8 f) ∧ True) (by kernel_rfl) ⟨cell_later (Below.refl _ _).drew c0, cell_later (Below.refl _ _).drew c1, cell_later (Below.refl _ _).drew cX0_0, trivial⟩ (fun hHeld => ?_)
  replace cX0_0 := cell_later (Below.refl _ _).drew cX0_0
  replace fX1_0 := frozen_later (Below.refl _ _).drew cX1_0 fX1_0; replace fX1_1 := frozen_later (Below.refl _ _).drew cX1_1 fX1_1; replace fX1_2 := frozen_later (Below.refl _ _).drew cX1_2 fX1_2
  replace cX1_0 := cell_later (Below.refl _ _).drew cX1_0; replace cX1_1 := cell_later (Below.refl _ _).drew cX1_1; replace cX1_2 := cell_later (Below.refl _ _).drew cX1_2
  replace fX2_0 := frozen_later (Below.refl _ _).drew cX2_0 fX2_0; replace fX2_1 := frozen_later (Below.refl _ _).drew cX2_1 fX2_1; replace fX2_2 := frozen_later (Below.refl _ _).drew cX2_2 fX2_2
  replace cX2_0 := cell_later (Below.refl _ _).drew cX2_0; replace cX2_1 := cell_later (Below.refl _ _).drew cX2_1; replace cX2_2 := cell_later (Below.refl _ _).drew cX2_2
  replace kk := bC kk (Below.refl _ _).drew
  replace c0 := cell_later kk c00; replace c1 := cell_later kk c01
  refine wpAnyH_take (i := 0) (v := ?vq13) rfl (by kernel_rfl) (by kernel_rfl) (by kernel_rfl) (fun _ _ _ h => h) (Or.inl ⟨by rfl, ?yq13⟩) hHeld ?rq13
  case yq13 => (intro wq hb; obtain ⟨lq0, lq1, lq2, _⟩ := hb; go_simp; try (with_reducible rfl))
  try simp only [List.getElem_toArray, List.getElem_cons_zero, List.getElem_cons_succ, Act.put, List.setIfInBounds_toArray, List.set_cons_zero, List.set_cons_succ]
  refine wpAnyH_take (i := 1) (v := ?vq14) rfl (by kernel_rfl) (by kernel_rfl) (by kernel_rfl) (fun _ _ _ h => h) (Or.inl ⟨by rfl, ?yq14⟩) hHeld ?rq14
  case yq14 => (intro wq hb; obtain ⟨lq0, lq1, lq2, _⟩ := hb; go_simp; try (with_reducible rfl))
  try simp only [List.getElem_toArray, List.getElem_cons_zero, List.getElem_cons_succ, Act.put, List.setIfInBounds_toArray, List.set_cons_zero, List.set_cons_succ]
  refine wpAnyH_take (i := 2) (v := ?vq15) rfl (by kernel_rfl) (by kernel_rfl) (by kernel_rfl) (fun _ _ _ h => h) (Or.inl ⟨by rfl, ?yq15⟩) hHeld ?rq15
  case yq15 => (intro wq hb; obtain ⟨lq0, lq1, lq2, _⟩ := hb; go_simp; try (with_reducible rfl))
  try simp only [List.getElem_toArray, List.getElem_cons_zero, List.getElem_cons_succ, Act.put, List.setIfInBounds_toArray, List.set_cons_zero, List.set_cons_succ]
  refine wpAnyH_take (i := 3) (v := ?vq16) rfl (by kernel_rfl) (by kernel_rfl) (by kernel_rfl) (fun _ _ _ h => h) (Or.inl ⟨by rfl, ?yq16⟩) hHeld ?rq16
  case yq16 => (intro wq hb; obtain ⟨lq0, lq1, lq2, _⟩ := hb; go_simp; try (with_reducible rfl))
  try simp only [List.getElem_toArray, List.getElem_cons_zero, List.getElem_cons_succ, Act.put, List.setIfInBounds_toArray, List.set_cons_zero, List.set_cons_succ]
  refine wpAnyH_take (i := 4) (v := ?vq17) rfl (by kernel_rfl) (by kernel_rfl) (by kernel_rfl) (fun _ _ _ h => h) (Or.inl ⟨by rfl, ?yq17⟩) hHeld ?rq17
  case yq17 => (intro wq hb; obtain ⟨lq0, lq1, lq2, _⟩ := hb; go_simp; try (with_reducible rfl))
  try simp only [List.getElem_toArray, List.getElem_cons_zero, List.getElem_cons_succ, Act.put, List.setIfInBounds_toArray, List.set_cons_zero, List.set_cons_succ]
  clear hHeld
  refine wpAnyH_ready (rs := [5]) (by kernel_rfl) (by simp) ?_
  refine AllReadyH.cons rfl (fun K hK => ?_) AllReadyH.nil
  go_simp
  (with_reducible refine (h3.out _ (ft.later kk)).mono ?_); rintro e w5 ⟨rfl, hb⟩
  replace cX0_0 := cell_later hb cX0_0
  replace fX1_0 := frozen_later hb cX1_0 fX1_0; replace fX1_1 := frozen_later hb cX1_1 fX1_1; replace fX1_2 := frozen_later hb cX1_2 fX1_2
  replace cX1_0 := cell_later hb cX1_0; replace cX1_1 := cell_later hb cX1_1; replace cX1_2 := cell_later hb cX1_2
  replace fX2_0 := frozen_later hb cX2_0 fX2_0; replace fX2_1 := frozen_later hb cX2_1 fX2_1; replace fX2_2 := frozen_later hb cX2_2 fX2_2
  replace cX2_0 := cell_later hb cX2_0; replace cX2_1 := cell_later hb cX2_1; replace cX2_2 := cell_later hb cX2_2
  replace kk := bC kk hb
  replace c0 := cell_later kk c00; replace c1 := cell_later kk c01
  clear hb
  refine hK.out _ _ ⟨c0, c1, cX0_0, trivial⟩ (fun hHeld => ?_)
  clear hK K
  try simp only [List.getElem_toArray, List.getElem_cons_zero, List.getElem_cons_succ, Act.put, List.setIfInBounds_toArray, List.set_cons_zero, List.set_cons_succ]
  refine wpAnyH_take (i := 6) (v := ?vq18) rfl (by kernel_rfl) (by kernel_rfl) (by kernel_rfl) (fun _ _ _ h => h) (Or.inl ⟨by rfl, ?yq18⟩) hHeld ?rq18
  case yq18 => (intro wq hb; obtain ⟨lq0, lq1, lq2, _⟩ := hb; go_simp; try (with_reducible rfl))
  try simp only [List.getElem_toArray, List.getElem_cons_zero, List.getElem_cons_succ, Act.put, List.setIfInBounds_toArray, List.set_cons_zero, List.set_cons_succ]
  clear hHeld
  refine wpAnyH_ready (rs := [7]) (by kernel_rfl) (by simp) ?_
  refine AllReadyH.cons rfl (fun K hK => ?_) AllReadyH.nil
  go_simp
  have neX0 : ¬ (w3.heap.size = w.heap.size) := by omega
  have nfX0 : ¬ (w.heap.size = w3.heap.size) := by omega
  have neX1 : ¬ (w3.heap.size = w.heap.size + 1) := by omega
  have nfX1 : ¬ (w.heap.size + 1 = w3.heap.size) := by omega
  have KEY := Lib.hid (show ((w5.setCell ⟨w3.heap.size, 0, none⟩ (.int .u64 qh)).setCell ⟨w3.heap.size, 1, none⟩ (.int .u64 ql)).cell? ⟨w.heap.size, 0, none⟩ = some (.int .u8 f) ∧ ((w5.setCell ⟨w3.heap.size, 0, none⟩ (.int .u64 qh)).setCell ⟨w3.heap.size, 1, none⟩ (.int .u64 ql)).cell? ⟨w.heap.size + 1, 0, none⟩ = some (.int .u64 0) ∧ ((w5.setCell ⟨w3.heap.size, 0, none⟩ (.int .u64 qh)).setCell ⟨w3.heap.size, 1, none⟩ (.int .u64 ql)).cell? ⟨w.heap.size + 1, 1, none⟩ = some (.int .u64 0) ∧ ((w5.setCell ⟨w3.heap.size, 0, none⟩ (.int .u64 qh)).setCell ⟨w3.heap.size, 1, none⟩ (.int .u64 ql)).cell? ⟨w.heap.size + 1, 2, none⟩ = some (.int .u8 0) ∧ ((w5.setCell ⟨w3.heap.size, 0, none⟩ (.int .u64 qh)).setCell ⟨w3.heap.size, 1, none⟩ (.int .u64 ql)).frozen? ⟨w.heap.size + 1, 0, none⟩ = false ∧ ((w5.setCell ⟨w3.heap.size, 0, none⟩ (.int .u64 qh)).setCell ⟨w3.heap.size, 1, none⟩ (.int .u64 ql)).frozen? ⟨w.heap.size + 1, 1, none⟩ = false ∧ ((w5.setCell ⟨w3.heap.size, 0, none⟩ (.int .u64 qh)).setCell ⟨w3.heap.size, 1, none⟩ (.int .u64 ql)).frozen? ⟨w.heap.size + 1, 2, none⟩ = false ∧ ((w5.setCell ⟨w3.heap.size, 0, none⟩ (.int .u64 qh)).setCell ⟨w3.heap.size, 1, none⟩ (.int .u64 ql)).cell? ⟨w3.heap.size, 0, none⟩ = some (.int .u64 qh) ∧ ((w5.setCell ⟨w3.heap.size, 0, none⟩ (.int .u64 qh)).setCell ⟨w3.heap.size, 1, none⟩ (.int .u64 ql)).cell? ⟨w3.heap.size, 1, none⟩ = some (.int .u64 ql) ∧ ((w5.setCell ⟨w3.heap.size, 0, none⟩ (.int .u64 qh)).setCell ⟨w3.heap.size, 1, none⟩ (.int .u64 ql)).cell? ⟨w3.heap.size, 2, none⟩ = some (.int .u8 0) ∧ ((w5.setCell ⟨w3.heap.size, 0, none⟩ (.int .u64 qh)).setCell ⟨w3.heap.size, 1, none⟩ (.int .u64 ql)).frozen? ⟨w3.heap.size, 0, none⟩ = false ∧ ((w5.setCell ⟨w3.heap.size, 0, none⟩ (.int .u64 qh)).setCell ⟨w3.heap.size, 1, none⟩ (.int .u64 ql)).frozen? ⟨w3.heap.size, 1, none⟩ = false ∧ ((w5.setCell ⟨w3.heap.size, 0, none⟩ (.int .u64 qh)).setCell ⟨w3.heap.size, 1, none⟩ (.int .u64 ql)).frozen? ⟨w3.heap.size, 2, none⟩ = false ∧ Below w.heap.size w ((w5.setCell ⟨w3.heap.size, 0, none⟩ (.int .u64 qh)).setCell ⟨w3.heap.size, 1, none⟩ (.int .u64 ql)) from ⟨by go_simp, by go_simp, by go_simp, by go_simp, by go_simp, by go_simp, by go_simp, by go_simp, by go_simp, by go_simp, by go_simp, by go_simp, by go_simp, ((kk.setCell (p := ⟨w3.heap.size, 0, none⟩) gX2 _).setCell (p := ⟨w3.heap.size, 1, none⟩) gX2 _)⟩)
  clear cX0_0 cX1_0 cX1_1 cX1_2 fX1_0 fX1_1 fX1_2 cX2_0 cX2_1 cX2_2 fX2_0 fX2_1 fX2_2 neX0 nfX0 neX1 nfX1 kk
  refine forget_at (fun W => W.cell? ⟨w.heap.size, 0, none⟩ = some (.int .u8 f) ∧ W.cell? ⟨w.heap.size + 1, 0, none⟩ = some (.int .u64 0) ∧ W.cell? ⟨w.heap.size + 1, 1, none⟩ = some (.int .u64 0) ∧ W.cell? ⟨w.heap.size + 1, 2, none⟩ = some (.int .u8 0) ∧ W.frozen? ⟨w.heap.size + 1, 0, none⟩ = false ∧ W.frozen? ⟨w.heap.size + 1, 1, none⟩ = false ∧ W.frozen? ⟨w.heap.size + 1, 2, none⟩ = false ∧ W.cell? ⟨w3.heap.size, 0, none⟩ = some (.int .u64 qh) ∧ W.cell? ⟨w3.heap.size, 1, none⟩ = some (.int .u64 ql) ∧ W.cell? ⟨w3.heap.size, 2, none⟩ = some (.int .u8 0) ∧ W.frozen? ⟨w3.heap.size, 0, none⟩ = false ∧ W.frozen? ⟨w3.heap.size, 1, none⟩ = false ∧ W.frozen? ⟨w3.heap.size, 2, none⟩ = false ∧ Below w.heap.size w W) KEY.out (fun w6 hz => ?_)
  obtain ⟨cX0_0, cX1_0, cX1_1, cX1_2, fX1_0, fX1_1, fX1_2, cX2_0, cX2_1, cX2_2, fX2_0, fX2_1, fX2_2, kk⟩ := hz
  clear KEY
  replace c0 := cell_later kk c00
  replace c1 := cell_later kk c01
  refine hK.out _ _ ⟨c0, c1, cX0_0, trivial⟩ (fun hHeld => ?_)
  clear hK K
  try simp only [List.getElem_toArray, List.getElem_cons_zero, List.getElem_cons_succ, Act.put, List.setIfInBounds_toArray, List.set_cons_zero, List.set_cons_succ]
  clear hHeld
  refine wpAnyH_done (by kernel_rfl) ?_ _
  refine NoPanic.normal ?_
  clear c0 c1
  replace sX0 : w.heap.size < w6.heap.size := World.block_lt_of_cell? _ _ cX0_0
  replace sX1 : w.heap.size + 1 < w6.heap.size ∧ w.heap.size < w6.heap.size := by have h : w.heap.size + 1 < w6.heap.size := World.block_lt_of_cell? _ _ cX1_0; exact ⟨h, by omega⟩
  replace sX2 : w3.heap.size < w6.heap.size := World.block_lt_of_cell? _ _ cX2_0
  go_wp2_with fail
  (with_reducible refine (h4.out _ (ft.later kk) (bs.later kk)).mono ?_); rintro e w7 ⟨rfl, hb⟩
  clear cX0_0 sX0
  replace fX1_0 := frozen_later hb cX1_0 fX1_0; replace fX1_1 := frozen_later hb cX1_1 fX1_1; replace fX1_2 := frozen_later hb cX1_2 fX1_2
  replace cX1_0 := cell_later hb cX1_0; replace cX1_1 := cell_later hb cX1_1; replace cX1_2 := cell_later hb cX1_2
  replace sX1 : w.heap.size + 1 < w7.heap.size ∧ w.heap.size < w7.heap.size := by have h : w.heap.size + 1 < w7.heap.size := World.block_lt_of_cell? _ _ cX1_0; exact ⟨h, by omega⟩
  replace fX2_0 := frozen_later hb cX2_0 fX2_0; replace fX2_1 := frozen_later hb cX2_1 fX2_1; replace fX2_2 := frozen_later hb cX2_2 fX2_2
  replace cX2_0 := cell_later hb cX2_0; replace cX2_1 := cell_later hb cX2_1; replace cX2_2 := cell_later hb cX2_2
  replace sX2 : w3.heap.size < w7.heap.size := World.block_lt_of_cell? _ _ cX2_0
  replace kk := bC kk hb
  clear hb
  have KEY : Hid (((((w7.setCell ⟨w3.heap.size, 2, none⟩ (.int .u8 1)).setCell ⟨w.heap.size + 1, 0, none⟩ (.int .u64 qh)).setCell ⟨w.heap.size + 1, 1, none⟩ (.int .u64 ql)).setCell ⟨w.heap.size + 1, 2, none⟩ (.int .u8 1)).cell? ⟨w.heap.size + 1, 0, none⟩ = some (.int .u64 qh) ∧ ((((w7.setCell ⟨w3.heap.size, 2, none⟩ (.int .u8 1)).setCell ⟨w.heap.size + 1, 0, none⟩ (.int .u64 qh)).setCell ⟨w.heap.size + 1, 1, none⟩ (.int .u64 ql)).setCell ⟨w.heap.size + 1, 2, none⟩ (.int .u8 1)).cell? ⟨w.heap.size + 1, 1, none⟩ = some (.int .u64 ql) ∧ ((((w7.setCell ⟨w3.heap.size, 2, none⟩ (.int .u8 1)).setCell ⟨w.heap.size + 1, 0, none⟩ (.int .u64 qh)).setCell ⟨w.heap.size + 1, 1, none⟩ (.int .u64 ql)).setCell ⟨w.heap.size + 1, 2, none⟩ (.int .u8 1)).cell? ⟨w.heap.size + 1, 2, none⟩ = some (.int .u8 1) ∧ Below w.heap.size w ((((w7.setCell ⟨w3.heap.size, 2, none⟩ (.int .u8 1)).setCell ⟨w.heap.size + 1, 0, none⟩ (.int .u64 qh)).setCell ⟨w.heap.size + 1, 1, none⟩ (.int .u64 ql)).setCell ⟨w.heap.size + 1, 2, none⟩ (.int .u8 1))) := Lib.hid ⟨by go_simp, by go_simp, by go_simp, ((((kk.setCell (p := ⟨w3.heap.size, 2, none⟩) gX2 _).setCell (p := ⟨w.heap.size + 1, 0, none⟩) gX1 _).setCell (p := ⟨w.heap.size + 1, 1, none⟩) gX1 _).setCell (p := ⟨w.heap.size + 1, 2, none⟩) gX1 _)⟩
  go_wp2_with fail
  obtain ⟨e0, e1, e2, kb⟩ := KEY.out
  clear KEY cX1_0 cX1_1 cX1_2 fX1_0 fX1_1 fX1_2
  refine bodyPost_ret (v := .tuple #[.agg #[.int .u64 qh, .int .u64 ql, .int .u8 1], .bool true]) ?_ rfl ⟨rfl, kb⟩
  simp [results, Tryd.results14, go_sem, e0, e1, e2]

end Go.Proofs.YtfcffmihhpcjjaaDoor
