/-
  Walks through package nan's functions.
-/
import Derived.Test.YtfcffmihhpcjjaaDoorFormG
import Derived.Test.YtfcffmihhpcjjaaDoorGaA
import Derived.Test.YtfcffmihhpcjjaaDoorHeld
import Derived.Test.YtfcffmihhpcjjaaDoorClassG
import Derived.Test.YtfcffmihhpcjjaaDoorNanP
set_option linter.unusedVariables false
set_option linter.unusedSimpArgs false
set_option maxRecDepth 100000
namespace Go.Proofs.YtfcffmihhpcjjaaDoor
open Go.RowKit
attribute [local go_sem ↓] Go.wp_at_zero Go.wp_at_succ

set_option maxHeartbeats 4000000 in
set_option maxRecDepth 100000 in
theorem nan_quieted (f bh bl p q xh xl rh rl : Int)
    (h0 : Hid (∀ w, FTab w → Calls Tryd.prog 25 #[.int .u8 f] w fun e w' => e = .returned (.int .i64 p) ∧ Below w.heap.size w w'))
    (h1 : Hid (∀ w, Calls Tryd.prog 24 #[.agg #[.int .u64 0, .int .u64 1], .int .i64 q] w fun e w' => e = .returned (.agg #[.int .u64 xh, .int .u64 xl]) ∧ Below w.heap.size w w')) (v1 : IntKind.i64.wrap (p - 2) = q) (a1 : bits .or .u64 bh xh = rh) (a2 : bits .or .u64 bl xl = rl) (w : World) (ft : FTab w) :
    Calls Tryd.prog 27 #[.int .u8 f, .agg #[.int .u64 bh, .int .u64 bl]] w fun e w' => e = .returned (.agg #[.int .u64 rh, .int .u64 rl]) ∧ Below w.heap.size w w' := by
  go_enter Tryd.func27, Tryd.ntmps27
  go_wp2_with fail
  (with_reducible refine (h0.out _ (ft.later (bA (bA (Below.refl _ _) _) _))).mono ?_); rintro e w1 ⟨rfl, hb⟩
  have hz := bC (bA (bA (Below.refl _ _) _) _) hb
  have gX1 : w.heap.size ≤ w.heap.size + 1 := by omega
  have cX0_0 := cell_later hb (a := ⟨w.heap.size, 0, none⟩) (v := .int .u64 bh) (by go_simp)
  have cX0_1 := cell_later hb (a := ⟨w.heap.size, 1, none⟩) (v := .int .u64 bl) (by go_simp)
  have sX0 : w.heap.size < w1.heap.size := World.block_lt_of_cell? _ _ cX0_0
  have cX1_0 := cell_later hb (a := ⟨w.heap.size + 1, 0, none⟩) (v := .int .u64 0) (by go_simp)
  have cX1_1 := cell_later hb (a := ⟨w.heap.size + 1, 1, none⟩) (v := .int .u64 0) (by go_simp)
  have sX1 : w.heap.size + 1 < w1.heap.size ∧ w.heap.size < w1.heap.size := by have h : w.heap.size + 1 < w1.heap.size := World.block_lt_of_cell? _ _ cX1_0; exact ⟨h, by omega⟩
  have fX1_0 := frozen_later hb (a := ⟨w.heap.size + 1, 0, none⟩) (v := .int .u64 0) (by go_simp) (by go_simp)
  have fX1_1 := frozen_later hb (a := ⟨w.heap.size + 1, 1, none⟩) (v := .int .u64 0) (by go_simp) (by go_simp)
  have kk := hz
  clear hb hz
  go_wp2_with fail
  (with_reducible refine (h1.out _).mono ?_); rintro e w2 ⟨rfl, hb⟩
  replace cX0_0 := cell_later hb cX0_0; replace cX0_1 := cell_later hb cX0_1
  replace sX0 : w.heap.size < w2.heap.size := World.block_lt_of_cell? _ _ cX0_0
  replace fX1_0 := frozen_later hb cX1_0 fX1_0; replace fX1_1 := frozen_later hb cX1_1 fX1_1
  replace cX1_0 := cell_later hb cX1_0; replace cX1_1 := cell_later hb cX1_1
  replace sX1 : w.heap.size + 1 < w2.heap.size ∧ w.heap.size < w2.heap.size := by have h : w.heap.size + 1 < w2.heap.size := World.block_lt_of_cell? _ _ cX1_0; exact ⟨h, by omega⟩
  replace kk := bC kk hb
  clear hb
  have NW := BoxF.set (⟨Box.of cX1_0 cX1_1, fX1_0, fX1_1⟩ : BoxF w2 (w.heap.size + 1) _ _) rh rl
  have KEY : Hid ((((w2.setCell ⟨w.heap.size + 1, 0, none⟩ (.int .u64 rh)).setCell ⟨w.heap.size + 1, 1, none⟩ (.int .u64 rl)).alloc (.cells #[.int .u64 xh, .int .u64 xl] 25)).cell? ⟨w.heap.size + 1, 0, none⟩ = some (.int .u64 rh) ∧ (((w2.setCell ⟨w.heap.size + 1, 0, none⟩ (.int .u64 rh)).setCell ⟨w.heap.size + 1, 1, none⟩ (.int .u64 rl)).alloc (.cells #[.int .u64 xh, .int .u64 xl] 25)).cell? ⟨w.heap.size + 1, 1, none⟩ = some (.int .u64 rl) ∧ Below w.heap.size w (((w2.setCell ⟨w.heap.size + 1, 0, none⟩ (.int .u64 rh)).setCell ⟨w.heap.size + 1, 1, none⟩ (.int .u64 rl)).alloc (.cells #[.int .u64 xh, .int .u64 xl] 25))) := Lib.hid ⟨(cell_later (bA (Below.refl _ _) _) NW.1.2.1), (cell_later (bA (Below.refl _ _) _) NW.1.2.2), (bA (bS kk gX1 _ _) _)⟩
  clear NW
  go_wp2_with fail
  obtain ⟨e0, e1, kb⟩ := KEY.out
  clear KEY
  refine bodyPost_ret (v := .agg #[.int .u64 rh, .int .u64 rl]) ?_ rfl ⟨rfl, kb⟩
  simp [results, Tryd.results27, go_sem, e0, e1]

set_option maxHeartbeats 4000000 in
set_option maxRecDepth 100000 in
theorem nan_quiet_no (f bh bl ch cl : Int)
    (h0 : Hid (∀ w, FTab w → Calls Tryd.prog 26 #[.int .u8 f, .agg #[.int .u64 bh, .int .u64 bl]] w fun e w' => e = .returned (.agg #[.int .u64 ch, .int .u64 cl]) ∧ Below w.heap.size w w'))
    (h1 : Hid (∀ w, FTab w → Calls Tryd.prog 18 #[.int .u8 f, .agg #[.int .u64 ch, .int .u64 cl]] w fun e w' => e = .returned (.bool false) ∧ Below w.heap.size w w')) (w : World) (ft : FTab w) :
    Calls Tryd.prog 9 #[.int .u8 f, .agg #[.int .u64 bh, .int .u64 bl]] w fun e w' => e = .returned (.agg #[.int .u64 ch, .int .u64 cl]) ∧ Below w.heap.size w w' := by
  go_enter Tryd.func9, Tryd.ntmps9
  go_wp2_with fail
  (with_reducible refine (h0.out _ (ft.later (bA (bA (Below.refl _ _) _) _))).mono ?_); rintro e w1 ⟨rfl, hb⟩
  have hz := bC (bA (bA (Below.refl _ _) _) _) hb
  have gX0 : w.heap.size ≤ w.heap.size := by omega
  have gX1 : w.heap.size ≤ w.heap.size + 1 := by omega
  have cX0_0 := cell_later hb (a := ⟨w.heap.size, 0, none⟩) (v := .int .u64 bh) (by go_simp)
  have cX0_1 := cell_later hb (a := ⟨w.heap.size, 1, none⟩) (v := .int .u64 bl) (by go_simp)
  have sX0 : w.heap.size < w1.heap.size := World.block_lt_of_cell? _ _ cX0_0
  have fX0_0 := frozen_later hb (a := ⟨w.heap.size, 0, none⟩) (v := .int .u64 bh) (by go_simp) (by go_simp)
  have fX0_1 := frozen_later hb (a := ⟨w.heap.size, 1, none⟩) (v := .int .u64 bl) (by go_simp) (by go_simp)
  have cX1_0 := cell_later hb (a := ⟨w.heap.size + 1, 0, none⟩) (v := .int .u64 0) (by go_simp)
  have cX1_1 := cell_later hb (a := ⟨w.heap.size + 1, 1, none⟩) (v := .int .u64 0) (by go_simp)
  have sX1 : w.heap.size + 1 < w1.heap.size ∧ w.heap.size < w1.heap.size := by have h : w.heap.size + 1 < w1.heap.size := World.block_lt_of_cell? _ _ cX1_0; exact ⟨h, by omega⟩
  have fX1_0 := frozen_later hb (a := ⟨w.heap.size + 1, 0, none⟩) (v := .int .u64 0) (by go_simp) (by go_simp)
  have fX1_1 := frozen_later hb (a := ⟨w.heap.size + 1, 1, none⟩) (v := .int .u64 0) (by go_simp) (by go_simp)
  have kk := hz
  clear hb hz
  go_wp2_with fail
  (with_reducible refine (h1.out _ (ft.later ((((kk).setCell (p := ⟨w.heap.size, 0, none⟩) gX0 _)).setCell (p := ⟨w.heap.size, 1, none⟩) gX0 _))).mono ?_); rintro e w2 ⟨rfl, hb⟩
  replace kk := bC ((kk.setCell (p := ⟨w.heap.size, 0, none⟩) gX0 _).setCell (p := ⟨w.heap.size, 1, none⟩) gX0 _) hb
  have ncX0_0 := cell_later hb (a := ⟨w.heap.size, 0, none⟩) (v := .int .u64 ch) (by go_simp)
  have ncX0_1 := cell_later hb (a := ⟨w.heap.size, 1, none⟩) (v := .int .u64 cl) (by go_simp)
  have nfX0_0 := frozen_later hb (a := ⟨w.heap.size, 0, none⟩) (v := .int .u64 ch) (by go_simp) (by go_simp)
  have nfX0_1 := frozen_later hb (a := ⟨w.heap.size, 1, none⟩) (v := .int .u64 cl) (by go_simp) (by go_simp)
  have ncX1_0 := cell_later hb (a := ⟨w.heap.size + 1, 0, none⟩) (v := .int .u64 0) (by go_simp)
  have ncX1_1 := cell_later hb (a := ⟨w.heap.size + 1, 1, none⟩) (v := .int .u64 0) (by go_simp)
  have nfX1_0 := frozen_later hb (a := ⟨w.heap.size + 1, 0, none⟩) (v := .int .u64 0) (by go_simp) (by go_simp)
  have nfX1_1 := frozen_later hb (a := ⟨w.heap.size + 1, 1, none⟩) (v := .int .u64 0) (by go_simp) (by go_simp)
  clear cX0_0 cX0_1 sX0 fX0_0 fX0_1
  have cX0_0 := ncX0_0; clear ncX0_0
  have fX0_0 := nfX0_0; clear nfX0_0
  have cX0_1 := ncX0_1; clear ncX0_1
  have fX0_1 := nfX0_1; clear nfX0_1
  have sX0 : w.heap.size < w2.heap.size := World.block_lt_of_cell? _ _ cX0_0
  clear cX1_0 cX1_1 sX1 fX1_0 fX1_1
  have cX1_0 := ncX1_0; clear ncX1_0
  have fX1_0 := nfX1_0; clear nfX1_0
  have cX1_1 := ncX1_1; clear ncX1_1
  have fX1_1 := nfX1_1; clear nfX1_1
  have sX1 : w.heap.size + 1 < w2.heap.size ∧ w.heap.size < w2.heap.size := by have h : w.heap.size + 1 < w2.heap.size := World.block_lt_of_cell? _ _ cX1_0; exact ⟨h, by omega⟩
  clear hb
  have NW := BoxF.set (⟨Box.of cX1_0 cX1_1, fX1_0, fX1_1⟩ : BoxF w2 (w.heap.size + 1) _ _) ch cl
  have KEY : Hid (((w2.setCell ⟨w.heap.size + 1, 0, none⟩ (.int .u64 ch)).setCell ⟨w.heap.size + 1, 1, none⟩ (.int .u64 cl)).cell? ⟨w.heap.size + 1, 0, none⟩ = some (.int .u64 ch) ∧ ((w2.setCell ⟨w.heap.size + 1, 0, none⟩ (.int .u64 ch)).setCell ⟨w.heap.size + 1, 1, none⟩ (.int .u64 cl)).cell? ⟨w.heap.size + 1, 1, none⟩ = some (.int .u64 cl) ∧ Below w.heap.size w ((w2.setCell ⟨w.heap.size + 1, 0, none⟩ (.int .u64 ch)).setCell ⟨w.heap.size + 1, 1, none⟩ (.int .u64 cl))) := Lib.hid ⟨NW.1.2.1, NW.1.2.2, (bS kk gX1 _ _)⟩
  clear NW
  go_wp2_with fail
  obtain ⟨e0, e1, kb⟩ := KEY.out
  clear KEY
  refine bodyPost_ret (v := .agg #[.int .u64 ch, .int .u64 cl]) ?_ rfl ⟨rfl, kb⟩
  simp [results, Tryd.results9, go_sem, e0, e1]

set_option maxHeartbeats 4000000 in
set_option maxRecDepth 100000 in
theorem nan_quiet_yes (f bh bl ch cl rh rl : Int)
    (h0 : Hid (∀ w, FTab w → Calls Tryd.prog 26 #[.int .u8 f, .agg #[.int .u64 bh, .int .u64 bl]] w fun e w' => e = .returned (.agg #[.int .u64 ch, .int .u64 cl]) ∧ Below w.heap.size w w'))
    (h1 : Hid (∀ w, FTab w → Calls Tryd.prog 18 #[.int .u8 f, .agg #[.int .u64 ch, .int .u64 cl]] w fun e w' => e = .returned (.bool true) ∧ Below w.heap.size w w'))
    (h2 : Hid (∀ w, FTab w → Calls Tryd.prog 27 #[.int .u8 f, .agg #[.int .u64 ch, .int .u64 cl]] w fun e w' => e = .returned (.agg #[.int .u64 rh, .int .u64 rl]) ∧ Below w.heap.size w w')) (w : World) (ft : FTab w) :
    Calls Tryd.prog 9 #[.int .u8 f, .agg #[.int .u64 bh, .int .u64 bl]] w fun e w' => e = .returned (.agg #[.int .u64 rh, .int .u64 rl]) ∧ Below w.heap.size w w' := by
  go_enter Tryd.func9, Tryd.ntmps9
  go_wp2_with fail
  (with_reducible refine (h0.out _ (ft.later (bA (bA (Below.refl _ _) _) _))).mono ?_); rintro e w1 ⟨rfl, hb⟩
  have hz := bC (bA (bA (Below.refl _ _) _) _) hb
  have gX0 : w.heap.size ≤ w.heap.size := by omega
  have gX1 : w.heap.size ≤ w.heap.size + 1 := by omega
  have cX0_0 := cell_later hb (a := ⟨w.heap.size, 0, none⟩) (v := .int .u64 bh) (by go_simp)
  have cX0_1 := cell_later hb (a := ⟨w.heap.size, 1, none⟩) (v := .int .u64 bl) (by go_simp)
  have sX0 : w.heap.size < w1.heap.size := World.block_lt_of_cell? _ _ cX0_0
  have fX0_0 := frozen_later hb (a := ⟨w.heap.size, 0, none⟩) (v := .int .u64 bh) (by go_simp) (by go_simp)
  have fX0_1 := frozen_later hb (a := ⟨w.heap.size, 1, none⟩) (v := .int .u64 bl) (by go_simp) (by go_simp)
  have cX1_0 := cell_later hb (a := ⟨w.heap.size + 1, 0, none⟩) (v := .int .u64 0) (by go_simp)
  have cX1_1 := cell_later hb (a := ⟨w.heap.size + 1, 1, none⟩) (v := .int .u64 0) (by go_simp)
  have sX1 : w.heap.size + 1 < w1.heap.size ∧ w.heap.size < w1.heap.size := by have h : w.heap.size + 1 < w1.heap.size := World.block_lt_of_cell? _ _ cX1_0; exact ⟨h, by omega⟩
  have fX1_0 := frozen_later hb (a := ⟨w.heap.size + 1, 0, none⟩) (v := .int .u64 0) (by go_simp) (by go_simp)
  have fX1_1 := frozen_later hb (a := ⟨w.heap.size + 1, 1, none⟩) (v := .int .u64 0) (by go_simp) (by go_simp)
  have kk := hz
  clear hb hz
  go_wp2_with fail
  (with_reducible refine (h1.out _ (ft.later ((((kk).setCell (p := ⟨w.heap.size, 0, none⟩) gX0 _)).setCell (p := ⟨w.heap.size, 1, none⟩) gX0 _))).mono ?_); rintro e w2 ⟨rfl, hb⟩
  replace kk := bC ((kk.setCell (p := ⟨w.heap.size, 0, none⟩) gX0 _).setCell (p := ⟨w.heap.size, 1, none⟩) gX0 _) hb
  have ncX0_0 := cell_later hb (a := ⟨w.heap.size, 0, none⟩) (v := .int .u64 ch) (by go_simp)
  have ncX0_1 := cell_later hb (a := ⟨w.heap.size, 1, none⟩) (v := .int .u64 cl) (by go_simp)
  have nfX0_0 := frozen_later hb (a := ⟨w.heap.size, 0, none⟩) (v := .int .u64 ch) (by go_simp) (by go_simp)
  have nfX0_1 := frozen_later hb (a := ⟨w.heap.size, 1, none⟩) (v := .int .u64 cl) (by go_simp) (by go_simp)
  have ncX1_0 := cell_later hb (a := ⟨w.heap.size + 1, 0, none⟩) (v := .int .u64 0) (by go_simp)
  have ncX1_1 := cell_later hb (a := ⟨w.heap.size + 1, 1, none⟩) (v := .int .u64 0) (by go_simp)
  have nfX1_0 := frozen_later hb (a := ⟨w.heap.size + 1, 0, none⟩) (v := .int .u64 0) (by go_simp) (by go_simp)
  have nfX1_1 := frozen_later hb (a := ⟨w.heap.size + 1, 1, none⟩) (v := .int .u64 0) (by go_simp) (by go_simp)
  clear cX0_0 cX0_1 sX0 fX0_0 fX0_1
  have cX0_0 := ncX0_0; clear ncX0_0
  have fX0_0 := nfX0_0; clear nfX0_0
  have cX0_1 := ncX0_1; clear ncX0_1
  have fX0_1 := nfX0_1; clear nfX0_1
  have sX0 : w.heap.size < w2.heap.size := World.block_lt_of_cell? _ _ cX0_0
  clear cX1_0 cX1_1 sX1 fX1_0 fX1_1
  have cX1_0 := ncX1_0; clear ncX1_0
  have fX1_0 := nfX1_0; clear nfX1_0
  have cX1_1 := ncX1_1; clear ncX1_1
  have fX1_1 := nfX1_1; clear nfX1_1
  have sX1 : w.heap.size + 1 < w2.heap.size ∧ w.heap.size < w2.heap.size := by have h : w.heap.size + 1 < w2.heap.size := World.block_lt_of_cell? _ _ cX1_0; exact ⟨h, by omega⟩
  clear hb
  go_wp2_with fail
  (with_reducible refine (h2.out _ (ft.later kk)).mono ?_); rintro e w3 ⟨rfl, hb⟩
  clear cX0_0 cX0_1 sX0
  replace fX1_0 := frozen_later hb cX1_0 fX1_0; replace fX1_1 := frozen_later hb cX1_1 fX1_1
  replace cX1_0 := cell_later hb cX1_0; replace cX1_1 := cell_later hb cX1_1
  replace sX1 : w.heap.size + 1 < w3.heap.size ∧ w.heap.size < w3.heap.size := by have h : w.heap.size + 1 < w3.heap.size := World.block_lt_of_cell? _ _ cX1_0; exact ⟨h, by omega⟩
  replace kk := bC kk hb
  clear hb
  have NW := BoxF.set (⟨Box.of cX1_0 cX1_1, fX1_0, fX1_1⟩ : BoxF w3 (w.heap.size + 1) _ _) rh rl
  have KEY : Hid (((w3.setCell ⟨w.heap.size + 1, 0, none⟩ (.int .u64 rh)).setCell ⟨w.heap.size + 1, 1, none⟩ (.int .u64 rl)).cell? ⟨w.heap.size + 1, 0, none⟩ = some (.int .u64 rh) ∧ ((w3.setCell ⟨w.heap.size + 1, 0, none⟩ (.int .u64 rh)).setCell ⟨w.heap.size + 1, 1, none⟩ (.int .u64 rl)).cell? ⟨w.heap.size + 1, 1, none⟩ = some (.int .u64 rl) ∧ Below w.heap.size w ((w3.setCell ⟨w.heap.size + 1, 0, none⟩ (.int .u64 rh)).setCell ⟨w.heap.size + 1, 1, none⟩ (.int .u64 rl))) := Lib.hid ⟨NW.1.2.1, NW.1.2.2, (bS kk gX1 _ _)⟩
  clear NW
  go_wp2_with fail
  obtain ⟨e0, e1, kb⟩ := KEY.out
  clear KEY
  refine bodyPost_ret (v := .agg #[.int .u64 rh, .int .u64 rl]) ?_ rfl ⟨rfl, kb⟩
  simp [results, Tryd.results9, go_sem, e0, e1]

set_option maxHeartbeats 4000000 in
set_option maxRecDepth 100000 in
theorem nan_default_no (f : Int)
    (h0 : Hid (∀ w, FTab w → Calls Tryd.prog 16 #[.int .u8 f] w fun e w' => e = .returned (.bool false) ∧ Below w.heap.size w w')) (w : World) (ft : FTab w) :
    Calls Tryd.prog 11 #[.int .u8 f] w fun e w' => e = .returned (.agg #[.int .u64 0, .int .u64 0]) ∧ Below w.heap.size w w' := by
  go_enter Tryd.func11, Tryd.ntmps11
  go_wp2_with fail
  (with_reducible refine (h0.out _ (ft.later (bA (Below.refl _ _) _))).mono ?_); rintro e w1 ⟨rfl, hb⟩
  have hz := bC (bA (Below.refl _ _) _) hb
  have gX0 : w.heap.size ≤ w.heap.size := by omega
  have cX0_0 := cell_later hb (a := ⟨w.heap.size, 0, none⟩) (v := .int .u64 0) (by go_simp)
  have cX0_1 := cell_later hb (a := ⟨w.heap.size, 1, none⟩) (v := .int .u64 0) (by go_simp)
  have sX0 : w.heap.size < w1.heap.size := World.block_lt_of_cell? _ _ cX0_0
  have fX0_0 := frozen_later hb (a := ⟨w.heap.size, 0, none⟩) (v := .int .u64 0) (by go_simp) (by go_simp)
  have fX0_1 := frozen_later hb (a := ⟨w.heap.size, 1, none⟩) (v := .int .u64 0) (by go_simp) (by go_simp)
  have kk := hz
  clear hb hz
  have NW := BoxF.set (⟨Box.of cX0_0 cX0_1, fX0_0, fX0_1⟩ : BoxF w1 (w.heap.size) _ _) 0 0
  have KEY : Hid (((w1.setCell ⟨w.heap.size, 0, none⟩ (.int .u64 0)).setCell ⟨w.heap.size, 1, none⟩ (.int .u64 0)).cell? ⟨w.heap.size, 0, none⟩ = some (.int .u64 0) ∧ ((w1.setCell ⟨w.heap.size, 0, none⟩ (.int .u64 0)).setCell ⟨w.heap.size, 1, none⟩ (.int .u64 0)).cell? ⟨w.heap.size, 1, none⟩ = some (.int .u64 0) ∧ Below w.heap.size w ((w1.setCell ⟨w.heap.size, 0, none⟩ (.int .u64 0)).setCell ⟨w.heap.size, 1, none⟩ (.int .u64 0))) := Lib.hid ⟨NW.1.2.1, NW.1.2.2, (bS kk gX0 _ _)⟩
  clear NW
  go_wp2_with fail
  obtain ⟨e0, e1, kb⟩ := KEY.out
  clear KEY
  refine bodyPost_ret (v := .agg #[.int .u64 0, .int .u64 0]) ?_ rfl ⟨rfl, kb⟩
  simp [results, Tryd.results11, go_sem, e0, e1]

set_option maxHeartbeats 4000000 in
set_option maxRecDepth 100000 in
theorem nan_default_yes (f ih il rh rl : Int)
    (h0 : Hid (∀ w, FTab w → Calls Tryd.prog 16 #[.int .u8 f] w fun e w' => e = .returned (.bool true) ∧ Below w.heap.size w w'))
    (h1 : Hid (∀ w, FTab w → Calls Tryd.prog 34 #[.int .u8 f, .bool false] w fun e w' => e = .returned (.agg #[.int .u64 ih, .int .u64 il]) ∧ Below w.heap.size w w'))
    (h2 : Hid (∀ w, FTab w → Calls Tryd.prog 27 #[.int .u8 f, .agg #[.int .u64 ih, .int .u64 il]] w fun e w' => e = .returned (.agg #[.int .u64 rh, .int .u64 rl]) ∧ Below w.heap.size w w')) (w : World) (ft : FTab w) :
    Calls Tryd.prog 11 #[.int .u8 f] w fun e w' => e = .returned (.agg #[.int .u64 rh, .int .u64 rl]) ∧ Below w.heap.size w w' := by
  go_enter Tryd.func11, Tryd.ntmps11
  go_wp2_with fail
  (with_reducible refine (h0.out _ (ft.later (bA (Below.refl _ _) _))).mono ?_); rintro e w1 ⟨rfl, hb⟩
  have hz := bC (bA (Below.refl _ _) _) hb
  have gX0 : w.heap.size ≤ w.heap.size := by omega
  have cX0_0 := cell_later hb (a := ⟨w.heap.size, 0, none⟩) (v := .int .u64 0) (by go_simp)
  have cX0_1 := cell_later hb (a := ⟨w.heap.size, 1, none⟩) (v := .int .u64 0) (by go_simp)
  have sX0 : w.heap.size < w1.heap.size := World.block_lt_of_cell? _ _ cX0_0
  have fX0_0 := frozen_later hb (a := ⟨w.heap.size, 0, none⟩) (v := .int .u64 0) (by go_simp) (by go_simp)
  have fX0_1 := frozen_later hb (a := ⟨w.heap.size, 1, none⟩) (v := .int .u64 0) (by go_simp) (by go_simp)
  have kk := hz
  clear hb hz
  go_wp2_with fail
  (with_reducible refine (h1.out _ (ft.later kk)).mono ?_); rintro e w2 ⟨rfl, hb⟩
  replace fX0_0 := frozen_later hb cX0_0 fX0_0; replace fX0_1 := frozen_later hb cX0_1 fX0_1
  replace cX0_0 := cell_later hb cX0_0; replace cX0_1 := cell_later hb cX0_1
  replace sX0 : w.heap.size < w2.heap.size := World.block_lt_of_cell? _ _ cX0_0
  replace kk := bC kk hb
  clear hb
  go_wp2_with fail
  (with_reducible refine (h2.out _ (ft.later kk)).mono ?_); rintro e w3 ⟨rfl, hb⟩
  replace fX0_0 := frozen_later hb cX0_0 fX0_0; replace fX0_1 := frozen_later hb cX0_1 fX0_1
  replace cX0_0 := cell_later hb cX0_0; replace cX0_1 := cell_later hb cX0_1
  replace sX0 : w.heap.size < w3.heap.size := World.block_lt_of_cell? _ _ cX0_0
  replace kk := bC kk hb
  clear hb
  have NW := BoxF.set (⟨Box.of cX0_0 cX0_1, fX0_0, fX0_1⟩ : BoxF w3 (w.heap.size) _ _) rh rl
  have KEY : Hid (((w3.setCell ⟨w.heap.size, 0, none⟩ (.int .u64 rh)).setCell ⟨w.heap.size, 1, none⟩ (.int .u64 rl)).cell? ⟨w.heap.size, 0, none⟩ = some (.int .u64 rh) ∧ ((w3.setCell ⟨w.heap.size, 0, none⟩ (.int .u64 rh)).setCell ⟨w.heap.size, 1, none⟩ (.int .u64 rl)).cell? ⟨w.heap.size, 1, none⟩ = some (.int .u64 rl) ∧ Below w.heap.size w ((w3.setCell ⟨w.heap.size, 0, none⟩ (.int .u64 rh)).setCell ⟨w.heap.size, 1, none⟩ (.int .u64 rl))) := Lib.hid ⟨NW.1.2.1, NW.1.2.2, (bS kk gX0 _ _)⟩
  clear NW
  go_wp2_with fail
  obtain ⟨e0, e1, kb⟩ := KEY.out
  clear KEY
  refine bodyPost_ret (v := .agg #[.int .u64 rh, .int .u64 rl]) ?_ rfl ⟨rfl, kb⟩
  simp [results, Tryd.results11, go_sem, e0, e1]

end Go.Proofs.YtfcffmihhpcjjaaDoor
