/-
  Walks through package pack's functions.
-/
import Derived.Test.YtbcjboaihahemaaGreatDoorPack16M
import Derived.Test.YtbcjboaihahemaaGreatDoorSlim
import Derived.Test.YtbcjboaihahemaaGreatDoorGfA
import Derived.Test.YtbcjboaihahemaaGreatDoorGmA
import Derived.Test.YtbcjboaihahemaaGreatDoorGoA
import Derived.Test.YtbcjboaihahemaaGreatDoorGrA
import Derived.Test.YtbcjboaihahemaaGreatDoorGcA
import Derived.Test.YtbcjboaihahemaaGreatDoorGsB
import Derived.Test.YtbcjboaihahemaaGreatDoorGdA
import Derived.Test.YtbcjboaihahemaaGreatDoorGaA
import Derived.Test.YtbcjboaihahemaaGreatDoorGaB
set_option linter.unusedVariables false
set_option linter.unusedSimpArgs false
set_option maxRecDepth 100000
namespace Go.Proofs.YtbcjboaihahemaaGreatDoor
open Go.RowKit
attribute [local go_sem ↓] Go.wp_at_zero Go.wp_at_succ

set_option maxHeartbeats 4000000 in
set_option maxRecDepth 100000 in
theorem pk_level (f p em ex l mm : Int)
     (w1 : IntKind.i64.wrap (1 - em) = l) (x1 : (if l > ex then l else ex) = mm) (x1' : (if ex < l then l else ex) = mm) (w : World) :
    Calls Tryz.prog 47 #[.agg #[.int .u8 f, .int .i64 p, .int .i64 em], .int .i64 ex] w fun e w' => e = .returned (.int .i64 mm) ∧ Below w.heap.size w w' := by
  go_enter Tryz.func47, Tryz.ntmps47
  go_wp2_with fail
  go_ret
  exact ⟨rfl, (bA (Below.refl _ _) _)⟩

set_option maxHeartbeats 4000000 in
set_option maxRecDepth 100000 in
theorem pk_carried_yes (f p em ex ey uh ul : Int)
    (h0 : Hid (∀ w, Calls Tryz.prog 73 #[.agg #[.int .u64 uh, .int .u64 ul], .int .i64 p] w fun e w' => e = .returned (.bool true) ∧ Below w.heap.size w w')) (w1 : IntKind.i64.wrap (ex + 1) = ey) (w1x : wrap64 (ex + 1) = ey) (w : World) :
    Calls Tryz.prog 43 #[.agg #[.int .u8 f, .int .i64 p, .int .i64 em], .int .i64 ex, .agg #[.int .u64 uh, .int .u64 ul]] w fun e w' => e = .returned (.int .i64 ey) ∧ Below w.heap.size w w' := by
  go_enter Tryz.func43, Tryz.ntmps43
  go_wp2_with fail
  (with_reducible refine (h0.out _).mono ?_); rintro e w1 ⟨rfl, hb⟩
  have hz := bC (bA (bA (Below.refl _ _) _) _) hb
  have kk := hz
  clear hb hz
  go_wp2_with fail
  go_ret
  exact ⟨rfl, kk⟩

set_option maxHeartbeats 4000000 in
set_option maxRecDepth 100000 in
theorem pk_carried_no (f p em ex uh ul : Int)
    (h0 : Hid (∀ w, Calls Tryz.prog 73 #[.agg #[.int .u64 uh, .int .u64 ul], .int .i64 p] w fun e w' => e = .returned (.bool false) ∧ Below w.heap.size w w')) (w : World) :
    Calls Tryz.prog 43 #[.agg #[.int .u8 f, .int .i64 p, .int .i64 em], .int .i64 ex, .agg #[.int .u64 uh, .int .u64 ul]] w fun e w' => e = .returned (.int .i64 ex) ∧ Below w.heap.size w w' := by
  go_enter Tryz.func43, Tryz.ntmps43
  go_wp2_with fail
  (with_reducible refine (h0.out _).mono ?_); rintro e w1 ⟨rfl, hb⟩
  have hz := bC (bA (bA (Below.refl _ _) _) _) hb
  have kk := hz
  clear hb hz
  go_wp2_with fail
  go_ret
  exact ⟨rfl, kk⟩

set_option maxHeartbeats 4000000 in
set_option maxRecDepth 100000 in
theorem pk_beyond (f p em ex : Int) (b : Bool)
    (h0 : Hid (∀ w, FTab w → Calls Tryz.prog 92 #[.int .u8 f, .int .i64 ex] w fun e w' => e = .returned (.bool b) ∧ Below w.heap.size w w')) (w : World) (ft : FTab w) :
    Calls Tryz.prog 44 #[.agg #[.int .u8 f, .int .i64 p, .int .i64 em], .int .i64 ex] w fun e w' => e = .returned (.bool b) ∧ Below w.heap.size w w' := by
  go_enter Tryz.func44, Tryz.ntmps44
  go_wp2_with fail
  (with_reducible refine (h0.out _ (ft.later (bA (Below.refl _ _) _))).mono ?_); rintro e w1 ⟨rfl, hb⟩
  have hz := bC (bA (Below.refl _ _) _) hb
  have kk := hz
  clear hb hz
  go_wp2_with fail
  go_ret
  exact ⟨rfl, kk⟩

set_option maxHeartbeats 4000000 in
set_option maxRecDepth 100000 in
theorem pk_tiny (f p em ex : Int) (b : Bool)
    (h0 : Hid (∀ w, FTab w → Calls Tryz.prog 123 #[.int .u8 f, .int .i64 ex] w fun e w' => e = .returned (.bool b) ∧ Below w.heap.size w w')) (w : World) (ft : FTab w) :
    Calls Tryz.prog 97 #[.agg #[.int .u8 f, .int .i64 p, .int .i64 em], .int .i64 ex] w fun e w' => e = .returned (.bool b) ∧ Below w.heap.size w w' := by
  go_enter Tryz.func97, Tryz.ntmps97
  go_wp2_with fail
  (with_reducible refine (h0.out _ (ft.later (bA (Below.refl _ _) _))).mono ?_); rintro e w1 ⟨rfl, hb⟩
  have hz := bC (bA (Below.refl _ _) _) hb
  have kk := hz
  clear hb hz
  go_wp2_with fail
  go_ret
  exact ⟨rfl, kk⟩

/-- The closure's variables: how many bits are kept, the mode, the sign. -/
def RoundIn (w : World) (k m : Int) (ng : Bool) (vp : Nat × Nat × Nat) : Prop := w.cell? ⟨vp.1, 0, none⟩ = some (.int .i64 k) ∧ w.cell? ⟨vp.2.1, 0, none⟩ = some (.int .u8 m) ∧ w.cell? ⟨vp.2.2, 0, none⟩ = some (.bool ng)
theorem RoundIn.later {w w' : World} {k m : Int} {ng : Bool} {vp : Nat × Nat × Nat} (h : RoundIn w k m ng vp) (hb : Below w.heap.size w w') : RoundIn w' k m ng vp := ⟨cL hb h.1, cL hb h.2.1, cL hb h.2.2⟩
theorem pk_rounder (k m : Int) (ng : Bool) (w : World) : Calls Tryz.prog 42 #[.int .i64 k, .int .u8 m, .bool ng] w fun e w' => ∃ vp, e = .returned (.func (.func 90) #[] #[.pointer (some ⟨vp.1, 0, none⟩), .pointer (some ⟨vp.2.1, 0, none⟩), .pointer (some ⟨vp.2.2, 0, none⟩)]) ∧ RoundIn w' k m ng vp ∧ Below w.heap.size w w' := by
  have hmf : ∀ (fn : Fn) (first cap : Array Value) (w : World), (Instr.makeFunc fn first cap).run Tryz.prog w = .ok (.func fn first cap) w := fun _ _ _ _ => rfl
  have KEY : Hid ((((w.alloc (.cells #[.int .i64 k] 3)).alloc (.cells #[.int .u8 m] 23)).alloc (.cells #[.bool ng] 4)).cell? ⟨w.heap.size, 0, none⟩ = some (.int .i64 k) ∧ (((w.alloc (.cells #[.int .i64 k] 3)).alloc (.cells #[.int .u8 m] 23)).alloc (.cells #[.bool ng] 4)).cell? ⟨w.heap.size + 1, 0, none⟩ = some (.int .u8 m) ∧ (((w.alloc (.cells #[.int .i64 k] 3)).alloc (.cells #[.int .u8 m] 23)).alloc (.cells #[.bool ng] 4)).cell? ⟨w.heap.size + 1 + 1, 0, none⟩ = some (.bool ng) ∧ Below w.heap.size w (((w.alloc (.cells #[.int .i64 k] 3)).alloc (.cells #[.int .u8 m] 23)).alloc (.cells #[.bool ng] 4))) :=
    Lib.hid ⟨by go_simp, by go_simp, by go_simp, bA (bA (bA (Below.refl _ _) _) _) _⟩
  go_enter Tryz.func42, Tryz.ntmps42
  go_wp2_with fail
  obtain ⟨e0, e1, e2, kb⟩ := KEY.out
  clear KEY
  go_ret
  exact ⟨(w.heap.size, w.heap.size + 1, w.heap.size + 1 + 1), rfl, ⟨e0, e1, e2⟩, kb⟩

set_option maxHeartbeats 4000000 in
set_option maxRecDepth 100000 in
theorem pk_cut_core (bk bm bn : Nat) (k m uh ul x0 x1 x2 x3 : Int) (ng i : Bool)
    (h0 : Hid (∀ w, Calls Tryz.prog 91 #[.agg #[.int .u64 x0, .int .u64 x1, .int .u64 x2, .int .u64 x3], .int .i64 k, .int .u8 m, .bool ng] w fun e w' => e = .returned (.tuple #[.agg #[.int .u64 uh, .int .u64 ul], .bool i]) ∧ Below w.heap.size w w')) (w : World) (cX0_0 : w.cell? ⟨bk, 0, none⟩ = some (.int .i64 k)) (cX1_0 : w.cell? ⟨bm, 0, none⟩ = some (.int .u8 m)) (cX2_0 : w.cell? ⟨bn, 0, none⟩ = some (.bool ng)) :
    Calls Tryz.prog 90 #[.agg #[.int .u64 x0, .int .u64 x1, .int .u64 x2, .int .u64 x3], .pointer (some ⟨bk, 0, none⟩), .pointer (some ⟨bm, 0, none⟩), .pointer (some ⟨bn, 0, none⟩)] w fun e w' => e = .returned (.tuple #[.agg #[.int .u64 uh, .int .u64 ul], .bool i]) ∧ Below w.heap.size w w' := by
  go_enter Tryz.func90, Tryz.ntmps90
  have sX0 : bk < w.heap.size := bL cX0_0
  have sX1 : bm < w.heap.size := bL cX1_0
  have sX2 : bn < w.heap.size := bL cX2_0
  go_wp2_with fail
  (with_reducible refine (h0.out _).mono ?_); rintro e w1 ⟨rfl, hb⟩
  have hz := bC (bA (bA (Below.refl _ _) _) _) hb
  have gX4 : w.heap.size ≤ w.heap.size + 1 := by omega
  clear cX0_0 sX0
  clear cX1_0 sX1
  clear cX2_0 sX2
  have cX4_0 := cL hb (a := ⟨w.heap.size + 1, 0, none⟩) (v := .int .u64 0) (by go_simp)
  have cX4_1 := cL hb (a := ⟨w.heap.size + 1, 1, none⟩) (v := .int .u64 0) (by go_simp)
  have sX4 : w.heap.size + 1 < w1.heap.size ∧ w.heap.size < w1.heap.size := by have h : w.heap.size + 1 < w1.heap.size := bL cX4_0; exact ⟨h, by omega⟩
  have fX4_0 := fL hb (a := ⟨w.heap.size + 1, 0, none⟩) (v := .int .u64 0) (by go_simp) (by go_simp)
  have fX4_1 := fL hb (a := ⟨w.heap.size + 1, 1, none⟩) (v := .int .u64 0) (by go_simp) (by go_simp)
  have kk := hz
  clear hb hz
  have NW := BoxF.set (⟨Box.of cX4_0 cX4_1, fX4_0, fX4_1⟩ : BoxF w1 (w.heap.size + 1) _ _) uh ul
  have KEY : Hid (((w1.setCell ⟨w.heap.size + 1, 0, none⟩ (.int .u64 uh)).setCell ⟨w.heap.size + 1, 1, none⟩ (.int .u64 ul)).cell? ⟨w.heap.size + 1, 0, none⟩ = some (.int .u64 uh) ∧ ((w1.setCell ⟨w.heap.size + 1, 0, none⟩ (.int .u64 uh)).setCell ⟨w.heap.size + 1, 1, none⟩ (.int .u64 ul)).cell? ⟨w.heap.size + 1, 1, none⟩ = some (.int .u64 ul) ∧ Below w.heap.size w ((w1.setCell ⟨w.heap.size + 1, 0, none⟩ (.int .u64 uh)).setCell ⟨w.heap.size + 1, 1, none⟩ (.int .u64 ul))) := Lib.hid ⟨NW.1.2.1, NW.1.2.2, (bS kk gX4 _ _)⟩
  clear NW
  go_wp2_with fail
  obtain ⟨e0, e1, kb⟩ := KEY.out
  clear KEY
  refine bodyPost_ret (v := .tuple #[.agg #[.int .u64 uh, .int .u64 ul], .bool i]) ?_ rfl ⟨rfl, kb⟩
  simp [results, Tryz.results90, go_sem, e0, e1]

set_option maxHeartbeats 4000000 in
set_option maxRecDepth 100000 in
theorem pk_numberIn (f p em ex a b by0 c x0 x1 x2 x3 y0 y1 y2 y3 : Int) (ng : Bool)
    (h0 : Hid (∀ w, Calls Tryz.prog 39 #[.agg #[.int .u64 x0, .int .u64 x1, .int .u64 x2, .int .u64 x3]] w fun e w' => e = .returned (.tuple #[.agg #[.int .u64 y0, .int .u64 y1, .int .u64 y2, .int .u64 y3], .int .i64 by0]) ∧ Below w.heap.size w w'))
    (h1 : Hid (∀ w, FTab w → Calls Tryz.prog 40 #[.int .u8 f] w fun e w' => e = .returned (.int .i64 p) ∧ Below w.heap.size w w'))
    (h2 : Hid (∀ w, FTab w → Calls Tryz.prog 41 #[.int .u8 f] w fun e w' => e = .returned (.int .i64 em) ∧ Below w.heap.size w w')) (q1 : (if (-1099511627776) > ex then (-1099511627776) else ex) = a) (q1' : (if ex < (-1099511627776) then (-1099511627776) else ex) = a) (q2 : (if 1099511627776 < a then 1099511627776 else a) = b) (q2' : (if a > 1099511627776 then 1099511627776 else a) = b) (w1 : IntKind.i64.wrap (b - by0) = c) (w : World) (ft : FTab w) :
    Calls Tryz.prog 19 #[.int .u8 f, .bool ng, .int .i64 ex, .agg #[.int .u64 x0, .int .u64 x1, .int .u64 x2, .int .u64 x3]] w fun e w' => e = .returned (.agg #[.int .u8 f, .int .i64 p, .int .i64 em, .bool ng, .int .i64 c, .int .u64 y0, .int .u64 y1, .int .u64 y2, .int .u64 y3]) ∧ Below w.heap.size w w' := by
  go_enter Tryz.func19, Tryz.ntmps19
  go_wp2_with fail
  (with_reducible refine (h0.out _).mono ?_); rintro e w1 ⟨rfl, hb⟩
  have hz := bC (bA (bA (Below.refl _ _) _) _) hb
  have gX1 : w.heap.size ≤ w.heap.size + 1 := by omega
  have cX1_0 := cL hb (a := ⟨w.heap.size + 1, 0, none⟩) (v := .int .u8 0) (by go_simp)
  have cX1_1 := cL hb (a := ⟨w.heap.size + 1, 1, none⟩) (v := .int .i64 0) (by go_simp)
  have cX1_2 := cL hb (a := ⟨w.heap.size + 1, 2, none⟩) (v := .int .i64 0) (by go_simp)
  have cX1_3 := cL hb (a := ⟨w.heap.size + 1, 3, none⟩) (v := .bool false) (by go_simp)
  have cX1_4 := cL hb (a := ⟨w.heap.size + 1, 4, none⟩) (v := .int .i64 0) (by go_simp)
  have cX1_5 := cL hb (a := ⟨w.heap.size + 1, 5, none⟩) (v := .int .u64 0) (by go_simp)
  have cX1_6 := cL hb (a := ⟨w.heap.size + 1, 6, none⟩) (v := .int .u64 0) (by go_simp)
  have cX1_7 := cL hb (a := ⟨w.heap.size + 1, 7, none⟩) (v := .int .u64 0) (by go_simp)
  have cX1_8 := cL hb (a := ⟨w.heap.size + 1, 8, none⟩) (v := .int .u64 0) (by go_simp)
  have sX1 : w.heap.size + 1 < w1.heap.size ∧ w.heap.size < w1.heap.size := by have h : w.heap.size + 1 < w1.heap.size := bL cX1_0; exact ⟨h, by omega⟩
  have fX1_0 := fL hb (a := ⟨w.heap.size + 1, 0, none⟩) (v := .int .u8 0) (by go_simp) (by go_simp)
  have fX1_1 := fL hb (a := ⟨w.heap.size + 1, 1, none⟩) (v := .int .i64 0) (by go_simp) (by go_simp)
  have fX1_2 := fL hb (a := ⟨w.heap.size + 1, 2, none⟩) (v := .int .i64 0) (by go_simp) (by go_simp)
  have fX1_3 := fL hb (a := ⟨w.heap.size + 1, 3, none⟩) (v := .bool false) (by go_simp) (by go_simp)
  have fX1_4 := fL hb (a := ⟨w.heap.size + 1, 4, none⟩) (v := .int .i64 0) (by go_simp) (by go_simp)
  have fX1_5 := fL hb (a := ⟨w.heap.size + 1, 5, none⟩) (v := .int .u64 0) (by go_simp) (by go_simp)
  have fX1_6 := fL hb (a := ⟨w.heap.size + 1, 6, none⟩) (v := .int .u64 0) (by go_simp) (by go_simp)
  have fX1_7 := fL hb (a := ⟨w.heap.size + 1, 7, none⟩) (v := .int .u64 0) (by go_simp) (by go_simp)
  have fX1_8 := fL hb (a := ⟨w.heap.size + 1, 8, none⟩) (v := .int .u64 0) (by go_simp) (by go_simp)
  have kk := hz
  clear hb hz
  go_wp2_with fail
  have nX1_X2 : w.heap.size + 1 < w1.heap.size := by omega
  refine wp_forget (fun W => W.cell? ⟨w.heap.size + 1, 0, none⟩ = some (.int .u8 0) ∧ W.cell? ⟨w.heap.size + 1, 1, none⟩ = some (.int .i64 0) ∧ W.cell? ⟨w.heap.size + 1, 2, none⟩ = some (.int .i64 0) ∧ W.cell? ⟨w.heap.size + 1, 3, none⟩ = some (.bool false) ∧ W.cell? ⟨w.heap.size + 1, 4, none⟩ = some (.int .i64 0) ∧ W.cell? ⟨w.heap.size + 1, 5, none⟩ = some (.int .u64 0) ∧ W.cell? ⟨w.heap.size + 1, 6, none⟩ = some (.int .u64 0) ∧ W.cell? ⟨w.heap.size + 1, 7, none⟩ = some (.int .u64 0) ∧ W.cell? ⟨w.heap.size + 1, 8, none⟩ = some (.int .u64 0) ∧ W.cell? ⟨w1.heap.size, 0, none⟩ = some (.int .u64 y0) ∧ W.cell? ⟨w1.heap.size, 1, none⟩ = some (.int .u64 y1) ∧ W.cell? ⟨w1.heap.size, 2, none⟩ = some (.int .u64 y2) ∧ W.cell? ⟨w1.heap.size, 3, none⟩ = some (.int .u64 y3) ∧ W.frozen? ⟨w.heap.size + 1, 0, none⟩ = false ∧ W.frozen? ⟨w.heap.size + 1, 1, none⟩ = false ∧ W.frozen? ⟨w.heap.size + 1, 2, none⟩ = false ∧ W.frozen? ⟨w.heap.size + 1, 3, none⟩ = false ∧ W.frozen? ⟨w.heap.size + 1, 4, none⟩ = false ∧ W.frozen? ⟨w.heap.size + 1, 5, none⟩ = false ∧ W.frozen? ⟨w.heap.size + 1, 6, none⟩ = false ∧ W.frozen? ⟨w.heap.size + 1, 7, none⟩ = false ∧ W.frozen? ⟨w.heap.size + 1, 8, none⟩ = false ∧ Below w.heap.size w W) ⟨cL (bA (Below.refl _ _) _) cX1_0, cL (bA (Below.refl _ _) _) cX1_1, cL (bA (Below.refl _ _) _) cX1_2, cL (bA (Below.refl _ _) _) cX1_3, cL (bA (Below.refl _ _) _) cX1_4, cL (bA (Below.refl _ _) _) cX1_5, cL (bA (Below.refl _ _) _) cX1_6, cL (bA (Below.refl _ _) _) cX1_7, cL (bA (Below.refl _ _) _) cX1_8, by go_simp, by go_simp, by go_simp, by go_simp, fL (bA (Below.refl _ _) _) cX1_0 fX1_0, fL (bA (Below.refl _ _) _) cX1_1 fX1_1, fL (bA (Below.refl _ _) _) cX1_2 fX1_2, fL (bA (Below.refl _ _) _) cX1_3 fX1_3, fL (bA (Below.refl _ _) _) cX1_4 fX1_4, fL (bA (Below.refl _ _) _) cX1_5 fX1_5, fL (bA (Below.refl _ _) _) cX1_6 fX1_6, fL (bA (Below.refl _ _) _) cX1_7 fX1_7, fL (bA (Below.refl _ _) _) cX1_8 fX1_8, bC kk (bA (Below.refl _ _) _)⟩ (fun w2 hst => ?_)
  clear cX1_0 cX1_1 cX1_2 cX1_3 cX1_4 cX1_5 cX1_6 cX1_7 cX1_8 sX1 fX1_0 fX1_1 fX1_2 fX1_3 fX1_4 fX1_5 fX1_6 fX1_7 fX1_8 kk
  obtain ⟨cX1_0, cX1_1, cX1_2, cX1_3, cX1_4, cX1_5, cX1_6, cX1_7, cX1_8, cX2_0, cX2_1, cX2_2, cX2_3, fX1_0, fX1_1, fX1_2, fX1_3, fX1_4, fX1_5, fX1_6, fX1_7, fX1_8, kk⟩ := hst
  have sX1 : w.heap.size + 1 < w2.heap.size ∧ w.heap.size < w2.heap.size := by have h : w.heap.size + 1 < w2.heap.size := bL cX1_0; exact ⟨h, by omega⟩
  have sX2 : w1.heap.size < w2.heap.size := bL cX2_0
  refine wp_region_noPanic ?_
  refine wp_region_held_drew (S := fun w' => w'.cell? ⟨w1.heap.size, 0, none⟩ = some (.int .u64 y0) ∧ w'.cell? ⟨w1.heap.size, 1, none⟩ = some (.int .u64 y1) ∧ w'.cell? ⟨w1.heap.size, 2, none⟩ = some (.int .u64 y2) ∧ w'.cell? ⟨w1.heap.size, 3, none⟩ = some (.int .u64 y3) ∧ True) (by kernel_rfl) ⟨cL (Below.refl _ _).drew cX2_0, cL (Below.refl _ _).drew cX2_1, cL (Below.refl _ _).drew cX2_2, cL (Below.refl _ _).drew cX2_3, trivial⟩ (fun hHeld => ?_)
  replace fX1_0 := fL (Below.refl _ _).drew cX1_0 fX1_0; replace fX1_1 := fL (Below.refl _ _).drew cX1_1 fX1_1; replace fX1_2 := fL (Below.refl _ _).drew cX1_2 fX1_2; replace fX1_3 := fL (Below.refl _ _).drew cX1_3 fX1_3; replace fX1_4 := fL (Below.refl _ _).drew cX1_4 fX1_4; replace fX1_5 := fL (Below.refl _ _).drew cX1_5 fX1_5; replace fX1_6 := fL (Below.refl _ _).drew cX1_6 fX1_6; replace fX1_7 := fL (Below.refl _ _).drew cX1_7 fX1_7; replace fX1_8 := fL (Below.refl _ _).drew cX1_8 fX1_8
  replace cX1_0 := cL (Below.refl _ _).drew cX1_0; replace cX1_1 := cL (Below.refl _ _).drew cX1_1; replace cX1_2 := cL (Below.refl _ _).drew cX1_2; replace cX1_3 := cL (Below.refl _ _).drew cX1_3; replace cX1_4 := cL (Below.refl _ _).drew cX1_4; replace cX1_5 := cL (Below.refl _ _).drew cX1_5; replace cX1_6 := cL (Below.refl _ _).drew cX1_6; replace cX1_7 := cL (Below.refl _ _).drew cX1_7; replace cX1_8 := cL (Below.refl _ _).drew cX1_8
  replace cX2_0 := cL (Below.refl _ _).drew cX2_0; replace cX2_1 := cL (Below.refl _ _).drew cX2_1; replace cX2_2 := cL (Below.refl _ _).drew cX2_2; replace cX2_3 := cL (Below.refl _ _).drew cX2_3
  replace kk := bC kk (Below.refl _ _).drew
  refine wpAnyH_take (i := 0) (v := ?vq1) rfl (by kernel_rfl) (by kernel_rfl) (by kernel_rfl) (fun _ _ _ h => h) (Or.inl ⟨by rfl, ?yq1⟩) hHeld ?rq1
  case yq1 => (intro wq hb; obtain ⟨lq0, lq1, lq2, lq3, _⟩ := hb; go_simp; try (with_reducible rfl))
  try simp only [zA, zB, zC, Act.put, zD, zE, zF]
  refine wpAnyH_take (i := 1) (v := ?vq2) rfl (by kernel_rfl) (by kernel_rfl) (by kernel_rfl) (fun _ _ _ h => h) (Or.inl ⟨by rfl, ?yq2⟩) hHeld ?rq2
  case yq2 => (intro wq hb; obtain ⟨lq0, lq1, lq2, lq3, _⟩ := hb; go_simp; try (with_reducible rfl))
  try simp only [zA, zB, zC, Act.put, zD, zE, zF]
  refine wpAnyH_take (i := 3) (v := ?vq3) rfl (by kernel_rfl) (by kernel_rfl) (by kernel_rfl) (fun _ _ _ h => h) (Or.inl ⟨by rfl, ?yq3⟩) hHeld ?rq3
  case yq3 => (intro wq hb; obtain ⟨lq0, lq1, lq2, lq3, _⟩ := hb; go_simp; try (with_reducible rfl))
  try simp only [zA, zB, zC, Act.put, zD, zE, zF]
  refine wpAnyH_take (i := 6) (v := ?vq4) rfl (by kernel_rfl) (by kernel_rfl) (by kernel_rfl) (fun _ _ _ h => h) (Or.inl ⟨by rfl, ?yq4⟩) hHeld ?rq4
  case yq4 => (intro wq hb; obtain ⟨lq0, lq1, lq2, lq3, _⟩ := hb; go_simp; try (with_reducible rfl))
  try simp only [zA, zB, zC, Act.put, zD, zE, zF]
  refine wpAnyH_take (i := 7) (v := ?vq5) rfl (by kernel_rfl) (by kernel_rfl) (by kernel_rfl) (fun _ _ _ h => h) (Or.inl ⟨by rfl, ?yq5⟩) hHeld ?rq5
  case yq5 => (intro wq hb; obtain ⟨lq0, lq1, lq2, lq3, _⟩ := hb; go_simp; try (with_reducible rfl))
  try simp only [zA, zB, zC, Act.put, zD, zE, zF]
  refine wpAnyH_take (i := 8) (v := ?vq6) rfl (by kernel_rfl) (by kernel_rfl) (by kernel_rfl) (fun _ _ _ h => h) (Or.inl ⟨by rfl, ?yq6⟩) hHeld ?rq6
  case yq6 => (intro wq hb; obtain ⟨lq0, lq1, lq2, lq3, _⟩ := hb; go_simp; try (with_reducible rfl))
  try simp only [zA, zB, zC, Act.put, zD, zE, zF]
  clear hHeld
  refine wpAnyH_ready (rs := [2]) (by kernel_rfl) (by simp) ?_
  refine AllReadyH.cons rfl (fun K hK => ?_) AllReadyH.nil
  go_simp
  (with_reducible refine (h1.out _ (ft.later kk)).mono ?_); rintro e w3 ⟨rfl, hb⟩
  replace fX1_0 := fL hb cX1_0 fX1_0; replace fX1_1 := fL hb cX1_1 fX1_1; replace fX1_2 := fL hb cX1_2 fX1_2; replace fX1_3 := fL hb cX1_3 fX1_3; replace fX1_4 := fL hb cX1_4 fX1_4; replace fX1_5 := fL hb cX1_5 fX1_5; replace fX1_6 := fL hb cX1_6 fX1_6; replace fX1_7 := fL hb cX1_7 fX1_7; replace fX1_8 := fL hb cX1_8 fX1_8
  replace cX1_0 := cL hb cX1_0; replace cX1_1 := cL hb cX1_1; replace cX1_2 := cL hb cX1_2; replace cX1_3 := cL hb cX1_3; replace cX1_4 := cL hb cX1_4; replace cX1_5 := cL hb cX1_5; replace cX1_6 := cL hb cX1_6; replace cX1_7 := cL hb cX1_7; replace cX1_8 := cL hb cX1_8
  replace cX2_0 := cL hb cX2_0; replace cX2_1 := cL hb cX2_1; replace cX2_2 := cL hb cX2_2; replace cX2_3 := cL hb cX2_3
  replace kk := bC kk hb
  clear hb
  refine hK.out _ _ ⟨cX2_0, cX2_1, cX2_2, cX2_3, trivial⟩ (fun hHeld => ?_)
  clear hK K
  try simp only [zA, zB, zC, Act.put, zD, zE, zF]
  clear hHeld
  refine wpAnyH_ready (rs := [4]) (by kernel_rfl) (by simp) ?_
  refine AllReadyH.cons rfl (fun K hK => ?_) AllReadyH.nil
  go_simp
  (with_reducible refine (h2.out _ (ft.later kk)).mono ?_); rintro e w4 ⟨rfl, hb⟩
  replace fX1_0 := fL hb cX1_0 fX1_0; replace fX1_1 := fL hb cX1_1 fX1_1; replace fX1_2 := fL hb cX1_2 fX1_2; replace fX1_3 := fL hb cX1_3 fX1_3; replace fX1_4 := fL hb cX1_4 fX1_4; replace fX1_5 := fL hb cX1_5 fX1_5; replace fX1_6 := fL hb cX1_6 fX1_6; replace fX1_7 := fL hb cX1_7 fX1_7; replace fX1_8 := fL hb cX1_8 fX1_8
  replace cX1_0 := cL hb cX1_0; replace cX1_1 := cL hb cX1_1; replace cX1_2 := cL hb cX1_2; replace cX1_3 := cL hb cX1_3; replace cX1_4 := cL hb cX1_4; replace cX1_5 := cL hb cX1_5; replace cX1_6 := cL hb cX1_6; replace cX1_7 := cL hb cX1_7; replace cX1_8 := cL hb cX1_8
  replace cX2_0 := cL hb cX2_0; replace cX2_1 := cL hb cX2_1; replace cX2_2 := cL hb cX2_2; replace cX2_3 := cL hb cX2_3
  replace kk := bC kk hb
  clear hb
  refine hK.out _ _ ⟨cX2_0, cX2_1, cX2_2, cX2_3, trivial⟩ (fun hHeld => ?_)
  clear hK K
  try simp only [zA, zB, zC, Act.put, zD, zE, zF]
  refine wpAnyH_take (i := 5) (v := ?vq7) rfl (by kernel_rfl) (by kernel_rfl) (by kernel_rfl) (fun _ _ _ h => h) (Or.inl ⟨by rfl, ?yq7⟩) hHeld ?rq7
  case yq7 => (intro wq hb; obtain ⟨lq0, lq1, lq2, lq3, _⟩ := hb; go_simp; try (with_reducible rfl))
  try simp only [zA, zB, zC, Act.put, zD, zE, zF]
  refine wpAnyH_take (i := 9) (v := ?vq8) rfl (by kernel_rfl) (by kernel_rfl) (by kernel_rfl) (fun _ _ _ h => h) (Or.inl ⟨by rfl, ?yq8⟩) hHeld ?rq8
  case yq8 => (intro wq hb; obtain ⟨lq0, lq1, lq2, lq3, _⟩ := hb; go_simp; try (with_reducible rfl))
  try simp only [zA, zB, zC, Act.put, zD, zE, zF]
  clear hHeld
  refine wpAnyH_ready (rs := [10]) (by kernel_rfl) (by simp) ?_
  refine AllReadyH.cons rfl (fun K hK => ?_) AllReadyH.nil
  go_simp
  have neX2 : ¬ (w.heap.size + 1 = w1.heap.size) := by omega
  have nfX2 : ¬ (w1.heap.size = w.heap.size + 1) := by omega
  have KEY := Lib.hid (show (fun W => W.cell? ⟨w.heap.size + 1, 0, none⟩ = some (.int .u8 f) ∧ W.cell? ⟨w.heap.size + 1, 1, none⟩ = some (.int .i64 p) ∧ W.cell? ⟨w.heap.size + 1, 2, none⟩ = some (.int .i64 em) ∧ W.cell? ⟨w.heap.size + 1, 3, none⟩ = some (.bool ng) ∧ W.cell? ⟨w.heap.size + 1, 4, none⟩ = some (.int .i64 c) ∧ W.cell? ⟨w.heap.size + 1, 5, none⟩ = some (.int .u64 y0) ∧ W.cell? ⟨w.heap.size + 1, 6, none⟩ = some (.int .u64 y1) ∧ W.cell? ⟨w.heap.size + 1, 7, none⟩ = some (.int .u64 y2) ∧ W.cell? ⟨w.heap.size + 1, 8, none⟩ = some (.int .u64 y3) ∧ W.frozen? ⟨w.heap.size + 1, 0, none⟩ = false ∧ W.frozen? ⟨w.heap.size + 1, 1, none⟩ = false ∧ W.frozen? ⟨w.heap.size + 1, 2, none⟩ = false ∧ W.frozen? ⟨w.heap.size + 1, 3, none⟩ = false ∧ W.frozen? ⟨w.heap.size + 1, 4, none⟩ = false ∧ W.frozen? ⟨w.heap.size + 1, 5, none⟩ = false ∧ W.frozen? ⟨w.heap.size + 1, 6, none⟩ = false ∧ W.frozen? ⟨w.heap.size + 1, 7, none⟩ = false ∧ W.frozen? ⟨w.heap.size + 1, 8, none⟩ = false ∧ W.cell? ⟨w1.heap.size, 0, none⟩ = some (.int .u64 y0) ∧ W.cell? ⟨w1.heap.size, 1, none⟩ = some (.int .u64 y1) ∧ W.cell? ⟨w1.heap.size, 2, none⟩ = some (.int .u64 y2) ∧ W.cell? ⟨w1.heap.size, 3, none⟩ = some (.int .u64 y3) ∧ Below w.heap.size w W) (((((((((w4.setCell ⟨w.heap.size + 1, 0, none⟩ (.int .u8 f)).setCell ⟨w.heap.size + 1, 1, none⟩ (.int .i64 p)).setCell ⟨w.heap.size + 1, 2, none⟩ (.int .i64 em)).setCell ⟨w.heap.size + 1, 3, none⟩ (.bool ng)).setCell ⟨w.heap.size + 1, 4, none⟩ (.int .i64 c)).setCell ⟨w.heap.size + 1, 5, none⟩ (.int .u64 y0)).setCell ⟨w.heap.size + 1, 6, none⟩ (.int .u64 y1)).setCell ⟨w.heap.size + 1, 7, none⟩ (.int .u64 y2)).setCell ⟨w.heap.size + 1, 8, none⟩ (.int .u64 y3)) from ⟨by go_simp, by go_simp, by go_simp, by go_simp, by go_simp, by go_simp, by go_simp, by go_simp, by go_simp, by go_simp, by go_simp, by go_simp, by go_simp, by go_simp, by go_simp, by go_simp, by go_simp, by go_simp, by go_simp, by go_simp, by go_simp, by go_simp, (((((((((kk.setCell (p := ⟨w.heap.size + 1, 0, none⟩) gX1 _).setCell (p := ⟨w.heap.size + 1, 1, none⟩) gX1 _).setCell (p := ⟨w.heap.size + 1, 2, none⟩) gX1 _).setCell (p := ⟨w.heap.size + 1, 3, none⟩) gX1 _).setCell (p := ⟨w.heap.size + 1, 4, none⟩) gX1 _).setCell (p := ⟨w.heap.size + 1, 5, none⟩) gX1 _).setCell (p := ⟨w.heap.size + 1, 6, none⟩) gX1 _).setCell (p := ⟨w.heap.size + 1, 7, none⟩) gX1 _).setCell (p := ⟨w.heap.size + 1, 8, none⟩) gX1 _)⟩)
  clear cX1_0 cX1_1 cX1_2 cX1_3 cX1_4 cX1_5 cX1_6 cX1_7 cX1_8 fX1_0 fX1_1 fX1_2 fX1_3 fX1_4 fX1_5 fX1_6 fX1_7 fX1_8 cX2_0 cX2_1 cX2_2 cX2_3 neX2 nfX2 kk
  refine forget_at (fun W => W.cell? ⟨w.heap.size + 1, 0, none⟩ = some (.int .u8 f) ∧ W.cell? ⟨w.heap.size + 1, 1, none⟩ = some (.int .i64 p) ∧ W.cell? ⟨w.heap.size + 1, 2, none⟩ = some (.int .i64 em) ∧ W.cell? ⟨w.heap.size + 1, 3, none⟩ = some (.bool ng) ∧ W.cell? ⟨w.heap.size + 1, 4, none⟩ = some (.int .i64 c) ∧ W.cell? ⟨w.heap.size + 1, 5, none⟩ = some (.int .u64 y0) ∧ W.cell? ⟨w.heap.size + 1, 6, none⟩ = some (.int .u64 y1) ∧ W.cell? ⟨w.heap.size + 1, 7, none⟩ = some (.int .u64 y2) ∧ W.cell? ⟨w.heap.size + 1, 8, none⟩ = some (.int .u64 y3) ∧ W.frozen? ⟨w.heap.size + 1, 0, none⟩ = false ∧ W.frozen? ⟨w.heap.size + 1, 1, none⟩ = false ∧ W.frozen? ⟨w.heap.size + 1, 2, none⟩ = false ∧ W.frozen? ⟨w.heap.size + 1, 3, none⟩ = false ∧ W.frozen? ⟨w.heap.size + 1, 4, none⟩ = false ∧ W.frozen? ⟨w.heap.size + 1, 5, none⟩ = false ∧ W.frozen? ⟨w.heap.size + 1, 6, none⟩ = false ∧ W.frozen? ⟨w.heap.size + 1, 7, none⟩ = false ∧ W.frozen? ⟨w.heap.size + 1, 8, none⟩ = false ∧ W.cell? ⟨w1.heap.size, 0, none⟩ = some (.int .u64 y0) ∧ W.cell? ⟨w1.heap.size, 1, none⟩ = some (.int .u64 y1) ∧ W.cell? ⟨w1.heap.size, 2, none⟩ = some (.int .u64 y2) ∧ W.cell? ⟨w1.heap.size, 3, none⟩ = some (.int .u64 y3) ∧ Below w.heap.size w W) KEY.out (fun w5 hz => ?_)
  obtain ⟨cX1_0, cX1_1, cX1_2, cX1_3, cX1_4, cX1_5, cX1_6, cX1_7, cX1_8, fX1_0, fX1_1, fX1_2, fX1_3, fX1_4, fX1_5, fX1_6, fX1_7, fX1_8, cX2_0, cX2_1, cX2_2, cX2_3, kk⟩ := hz
  clear KEY
  refine hK.out _ _ ⟨cX2_0, cX2_1, cX2_2, cX2_3, trivial⟩ (fun hHeld => ?_)
  clear hK K
  try simp only [zA, zB, zC, Act.put, zD, zE, zF]
  clear hHeld
  refine wpAnyH_done (by kernel_rfl) ?_ _
  refine NoPanic.normal ?_
  replace sX1 : w.heap.size + 1 < w5.heap.size ∧ w.heap.size < w5.heap.size := by have h : w.heap.size + 1 < w5.heap.size := bL cX1_0; exact ⟨h, by omega⟩
  clear cX2_0 cX2_1 cX2_2 cX2_3 sX2
  go_wp2_with fail
  refine bodyPost_ret (v := .agg #[.int .u8 f, .int .i64 p, .int .i64 em, .bool ng, .int .i64 c, .int .u64 y0, .int .u64 y1, .int .u64 y2, .int .u64 y3]) ?_ rfl ⟨rfl, kk⟩
  simp [results, Tryz.results19, go_sem, cX1_0, cX1_1, cX1_2, cX1_3, cX1_4, cX1_5, cX1_6, cX1_7, cX1_8]

set_option maxHeartbeats 4000000 in
set_option maxRecDepth 100000 in
theorem pk_round_over (f p em ex m uh ul af rh rl fl x0 x1 x2 x3 : Int) (ng t i0 : Bool)
    (h2 : Hid (∀ w, FTab w → Calls Tryz.prog 43 #[.agg #[.int .u8 f, .int .i64 p, .int .i64 em], .int .i64 ex, .agg #[.int .u64 uh, .int .u64 ul]] w fun e w' => e = .returned (.int .i64 af) ∧ Below w.heap.size w w'))
    (h3 : Hid (∀ w, FTab w → Calls Tryz.prog 44 #[.agg #[.int .u8 f, .int .i64 p, .int .i64 em], .int .i64 af] w fun e w' => e = .returned (.bool true) ∧ Below w.heap.size w w'))
    (h4 : Hid (∀ w, FTab w → Calls Tryz.prog 45 #[.int .u8 f, .int .u8 m, .bool ng] w fun e w' => e = .returned (.agg #[.int .u64 rh, .int .u64 rl, .int .u8 fl]) ∧ Below w.heap.size w w')) (RN : Hid (∀ w, Calls Tryz.prog 42 #[.int .i64 p, .int .u8 m, .bool ng] w fun e w' => ∃ vp, e = .returned (.func (.func 90) #[] #[.pointer (some ⟨vp.1, 0, none⟩), .pointer (some ⟨vp.2.1, 0, none⟩), .pointer (some ⟨vp.2.2, 0, none⟩)]) ∧ RoundIn w' p m ng vp ∧ Below w.heap.size w w')) (CU : Hid (∀ vp w, RoundIn w p m ng vp → Calls Tryz.prog 90 #[.agg #[.int .u64 x0, .int .u64 x1, .int .u64 x2, .int .u64 x3], .pointer (some ⟨vp.1, 0, none⟩), .pointer (some ⟨vp.2.1, 0, none⟩), .pointer (some ⟨vp.2.2, 0, none⟩)] w fun e w' => e = .returned (.tuple #[.agg #[.int .u64 uh, .int .u64 ul], .bool i0]) ∧ Below w.heap.size w w')) (w : World) (ft : FTab w) :
    Calls Tryz.prog 20 #[.agg #[.int .u8 f, .int .i64 p, .int .i64 em, .bool ng, .int .i64 ex, .int .u64 x0, .int .u64 x1, .int .u64 x2, .int .u64 x3], .agg #[.int .u8 m, .bool t]] w fun e w' => e = .returned (.agg #[.int .u64 rh, .int .u64 rl, .int .u8 fl]) ∧ Below w.heap.size w w' := by
  go_enter Tryz.func20, Tryz.ntmps20
  go_wp2_with fail
  (with_reducible refine (RN.out _).mono ?_); rintro e w1 ⟨vp, rfl, nvp, hb⟩
  have hz := bC (bA (bA (bA (Below.refl _ _) _) _) _) hb
  have gX2 : w.heap.size ≤ w.heap.size + 1 + 1 := by omega
  have cX0_0 := cL hb (a := ⟨w.heap.size, 0, none⟩) (v := .int .u8 f) (by go_simp)
  have cX0_1 := cL hb (a := ⟨w.heap.size, 1, none⟩) (v := .int .i64 p) (by go_simp)
  have cX0_2 := cL hb (a := ⟨w.heap.size, 2, none⟩) (v := .int .i64 em) (by go_simp)
  have cX0_3 := cL hb (a := ⟨w.heap.size, 3, none⟩) (v := .bool ng) (by go_simp)
  have cX0_4 := cL hb (a := ⟨w.heap.size, 4, none⟩) (v := .int .i64 ex) (by go_simp)
  have cX0_5 := cL hb (a := ⟨w.heap.size, 5, none⟩) (v := .int .u64 x0) (by go_simp)
  have cX0_6 := cL hb (a := ⟨w.heap.size, 6, none⟩) (v := .int .u64 x1) (by go_simp)
  have cX0_7 := cL hb (a := ⟨w.heap.size, 7, none⟩) (v := .int .u64 x2) (by go_simp)
  have cX0_8 := cL hb (a := ⟨w.heap.size, 8, none⟩) (v := .int .u64 x3) (by go_simp)
  have sX0 : w.heap.size < w1.heap.size := bL cX0_0
  have cX1_0 := cL hb (a := ⟨w.heap.size + 1, 0, none⟩) (v := .int .u8 m) (by go_simp)
  have cX1_1 := cL hb (a := ⟨w.heap.size + 1, 1, none⟩) (v := .bool t) (by go_simp)
  have sX1 : w.heap.size + 1 < w1.heap.size ∧ w.heap.size < w1.heap.size := by have h : w.heap.size + 1 < w1.heap.size := bL cX1_0; exact ⟨h, by omega⟩
  have cX2_0 := cL hb (a := ⟨w.heap.size + 1 + 1, 0, none⟩) (v := .int .u64 0) (by go_simp)
  have cX2_1 := cL hb (a := ⟨w.heap.size + 1 + 1, 1, none⟩) (v := .int .u64 0) (by go_simp)
  have cX2_2 := cL hb (a := ⟨w.heap.size + 1 + 1, 2, none⟩) (v := .int .u8 0) (by go_simp)
  have sX2 : w.heap.size + 1 + 1 < w1.heap.size ∧ w.heap.size + 1 < w1.heap.size := by have h : w.heap.size + 1 + 1 < w1.heap.size := bL cX2_0; exact ⟨h, by omega⟩
  have fX2_0 := fL hb (a := ⟨w.heap.size + 1 + 1, 0, none⟩) (v := .int .u64 0) (by go_simp) (by go_simp)
  have fX2_1 := fL hb (a := ⟨w.heap.size + 1 + 1, 1, none⟩) (v := .int .u64 0) (by go_simp) (by go_simp)
  have fX2_2 := fL hb (a := ⟨w.heap.size + 1 + 1, 2, none⟩) (v := .int .u8 0) (by go_simp) (by go_simp)
  have kk := hz
  clear hb hz
  go_wp2_with fail
  (with_reducible refine (CU.out _ _ nvp).mono ?_); rintro e w2 ⟨rfl, hb⟩
  replace nvp := nvp.later hb
  replace cX0_0 := cL hb cX0_0; replace cX0_1 := cL hb cX0_1; replace cX0_2 := cL hb cX0_2; replace cX0_3 := cL hb cX0_3; replace cX0_4 := cL hb cX0_4; replace cX0_5 := cL hb cX0_5; replace cX0_6 := cL hb cX0_6; replace cX0_7 := cL hb cX0_7; replace cX0_8 := cL hb cX0_8
  replace sX0 : w.heap.size < w2.heap.size := bL cX0_0
  replace cX1_0 := cL hb cX1_0; replace cX1_1 := cL hb cX1_1
  replace sX1 : w.heap.size + 1 < w2.heap.size ∧ w.heap.size < w2.heap.size := by have h : w.heap.size + 1 < w2.heap.size := bL cX1_0; exact ⟨h, by omega⟩
  replace fX2_0 := fL hb cX2_0 fX2_0; replace fX2_1 := fL hb cX2_1 fX2_1; replace fX2_2 := fL hb cX2_2 fX2_2
  replace cX2_0 := cL hb cX2_0; replace cX2_1 := cL hb cX2_1; replace cX2_2 := cL hb cX2_2
  replace sX2 : w.heap.size + 1 + 1 < w2.heap.size ∧ w.heap.size + 1 < w2.heap.size := by have h : w.heap.size + 1 + 1 < w2.heap.size := bL cX2_0; exact ⟨h, by omega⟩
  replace kk := bC kk hb
  clear hb
  clear nvp
  go_wp2_with fail
  (with_reducible refine (h2.out _ (ft.later (bC kk (bA (Below.refl _ _) _)))).mono ?_); rintro e w3 ⟨rfl, hb⟩
  have hz := bC (bA (Below.refl _ _) _) hb
  replace cX0_0 := cL hz cX0_0; replace cX0_1 := cL hz cX0_1; replace cX0_2 := cL hz cX0_2; replace cX0_3 := cL hz cX0_3; replace cX0_4 := cL hz cX0_4; replace cX0_5 := cL hz cX0_5; replace cX0_6 := cL hz cX0_6; replace cX0_7 := cL hz cX0_7; replace cX0_8 := cL hz cX0_8
  replace sX0 : w.heap.size < w3.heap.size := bL cX0_0
  replace cX1_0 := cL hz cX1_0; replace cX1_1 := cL hz cX1_1
  replace sX1 : w.heap.size + 1 < w3.heap.size ∧ w.heap.size < w3.heap.size := by have h : w.heap.size + 1 < w3.heap.size := bL cX1_0; exact ⟨h, by omega⟩
  replace fX2_0 := fL hz cX2_0 fX2_0; replace fX2_1 := fL hz cX2_1 fX2_1; replace fX2_2 := fL hz cX2_2 fX2_2
  replace cX2_0 := cL hz cX2_0; replace cX2_1 := cL hz cX2_1; replace cX2_2 := cL hz cX2_2
  replace sX2 : w.heap.size + 1 + 1 < w3.heap.size ∧ w.heap.size + 1 < w3.heap.size := by have h : w.heap.size + 1 + 1 < w3.heap.size := bL cX2_0; exact ⟨h, by omega⟩
  replace kk := bC kk hz
  clear hb hz
  go_wp2_with fail
  (with_reducible refine (h3.out _ (ft.later kk)).mono ?_); rintro e w4 ⟨rfl, hb⟩
  replace cX0_0 := cL hb cX0_0; replace cX0_1 := cL hb cX0_1; replace cX0_2 := cL hb cX0_2; replace cX0_3 := cL hb cX0_3; replace cX0_4 := cL hb cX0_4; replace cX0_5 := cL hb cX0_5; replace cX0_6 := cL hb cX0_6; replace cX0_7 := cL hb cX0_7; replace cX0_8 := cL hb cX0_8
  replace sX0 : w.heap.size < w4.heap.size := bL cX0_0
  replace cX1_0 := cL hb cX1_0; replace cX1_1 := cL hb cX1_1
  replace sX1 : w.heap.size + 1 < w4.heap.size ∧ w.heap.size < w4.heap.size := by have h : w.heap.size + 1 < w4.heap.size := bL cX1_0; exact ⟨h, by omega⟩
  replace fX2_0 := fL hb cX2_0 fX2_0; replace fX2_1 := fL hb cX2_1 fX2_1; replace fX2_2 := fL hb cX2_2 fX2_2
  replace cX2_0 := cL hb cX2_0; replace cX2_1 := cL hb cX2_1; replace cX2_2 := cL hb cX2_2
  replace sX2 : w.heap.size + 1 + 1 < w4.heap.size ∧ w.heap.size + 1 < w4.heap.size := by have h : w.heap.size + 1 + 1 < w4.heap.size := bL cX2_0; exact ⟨h, by omega⟩
  replace kk := bC kk hb
  clear hb
  go_wp2_with fail
  (with_reducible refine (h4.out _ (ft.later kk)).mono ?_); rintro e w5 ⟨rfl, hb⟩
  clear cX0_0 cX0_1 cX0_2 cX0_3 cX0_4 cX0_5 cX0_6 cX0_7 cX0_8 sX0
  clear cX1_0 cX1_1 sX1
  replace fX2_0 := fL hb cX2_0 fX2_0; replace fX2_1 := fL hb cX2_1 fX2_1; replace fX2_2 := fL hb cX2_2 fX2_2
  replace cX2_0 := cL hb cX2_0; replace cX2_1 := cL hb cX2_1; replace cX2_2 := cL hb cX2_2
  replace sX2 : w.heap.size + 1 + 1 < w5.heap.size ∧ w.heap.size + 1 < w5.heap.size := by have h : w.heap.size + 1 + 1 < w5.heap.size := bL cX2_0; exact ⟨h, by omega⟩
  replace kk := bC kk hb
  clear hb
  have KEY : Hid ((fun W : World => W.cell? ⟨w.heap.size + 1 + 1, 0, none⟩ = some (.int .u64 rh) ∧ W.cell? ⟨w.heap.size + 1 + 1, 1, none⟩ = some (.int .u64 rl) ∧ W.cell? ⟨w.heap.size + 1 + 1, 2, none⟩ = some (.int .u8 fl) ∧ Below w.heap.size w W) (((w5.setCell ⟨w.heap.size + 1 + 1, 0, none⟩ (.int .u64 rh)).setCell ⟨w.heap.size + 1 + 1, 1, none⟩ (.int .u64 rl)).setCell ⟨w.heap.size + 1 + 1, 2, none⟩ (.int .u8 fl))) := Lib.hid ⟨by go_simp, by go_simp, by go_simp, (((kk.setCell (p := ⟨w.heap.size + 1 + 1, 0, none⟩) gX2 _).setCell (p := ⟨w.heap.size + 1 + 1, 1, none⟩) gX2 _).setCell (p := ⟨w.heap.size + 1 + 1, 2, none⟩) gX2 _)⟩
  go_wp2_with fail
  obtain ⟨e0, e1, e2, kb⟩ := KEY.out
  clear KEY cX2_0 cX2_1 cX2_2 fX2_0 fX2_1 fX2_2
  refine bodyPost_ret (v := .agg #[.int .u64 rh, .int .u64 rl, .int .u8 fl]) ?_ rfl ⟨rfl, kb⟩
  simp [results, Tryz.results20, go_sem, e0, e1, e2]

set_option maxHeartbeats 4000000 in
set_option maxRecDepth 100000 in
theorem pk_round_exact (f p em ex m uh ul af l d nh nl rh rl x0 x1 x2 x3 j0 j1 j2 j3 : Int) (ng t i0 : Bool)
    (h2 : Hid (∀ w, FTab w → Calls Tryz.prog 43 #[.agg #[.int .u8 f, .int .i64 p, .int .i64 em], .int .i64 ex, .agg #[.int .u64 uh, .int .u64 ul]] w fun e w' => e = .returned (.int .i64 af) ∧ Below w.heap.size w w'))
    (h3 : Hid (∀ w, FTab w → Calls Tryz.prog 44 #[.agg #[.int .u8 f, .int .i64 p, .int .i64 em], .int .i64 af] w fun e w' => e = .returned (.bool false) ∧ Below w.heap.size w w'))
    (h4 : Hid (∀ w, FTab w → Calls Tryz.prog 47 #[.agg #[.int .u8 f, .int .i64 p, .int .i64 em], .int .i64 ex] w fun e w' => e = .returned (.int .i64 l) ∧ Below w.heap.size w w'))
    (h5 : Hid (∀ w, Calls Tryz.prog 46 #[.agg #[.int .u64 x0, .int .u64 x1, .int .u64 x2, .int .u64 x3], .int .i64 d] w fun e w' => e = .returned (.agg #[.int .u64 j0, .int .u64 j1, .int .u64 j2, .int .u64 j3]) ∧ Below w.heap.size w w'))
    (h7 : Hid (∀ w, FTab w → Calls Tryz.prog 48 #[.agg #[.int .u8 f, .int .i64 p, .int .i64 em, .bool ng, .int .i64 ex, .int .u64 x0, .int .u64 x1, .int .u64 x2, .int .u64 x3], .agg #[.int .u64 nh, .int .u64 nl]] w fun e w' => e = .returned (.agg #[.int .u64 rh, .int .u64 rl]) ∧ Below w.heap.size w w')) (RN : Hid (∀ w, Calls Tryz.prog 42 #[.int .i64 p, .int .u8 m, .bool ng] w fun e w' => ∃ vp, e = .returned (.func (.func 90) #[] #[.pointer (some ⟨vp.1, 0, none⟩), .pointer (some ⟨vp.2.1, 0, none⟩), .pointer (some ⟨vp.2.2, 0, none⟩)]) ∧ RoundIn w' p m ng vp ∧ Below w.heap.size w w')) (CU : Hid (∀ vp w, RoundIn w p m ng vp → Calls Tryz.prog 90 #[.agg #[.int .u64 x0, .int .u64 x1, .int .u64 x2, .int .u64 x3], .pointer (some ⟨vp.1, 0, none⟩), .pointer (some ⟨vp.2.1, 0, none⟩), .pointer (some ⟨vp.2.2, 0, none⟩)] w fun e w' => e = .returned (.tuple #[.agg #[.int .u64 uh, .int .u64 ul], .bool i0]) ∧ Below w.heap.size w w')) (CN : Hid (∀ vp w, RoundIn w p m ng vp → Calls Tryz.prog 90 #[.agg #[.int .u64 j0, .int .u64 j1, .int .u64 j2, .int .u64 j3], .pointer (some ⟨vp.1, 0, none⟩), .pointer (some ⟨vp.2.1, 0, none⟩), .pointer (some ⟨vp.2.2, 0, none⟩)] w fun e w' => e = .returned (.tuple #[.agg #[.int .u64 nh, .int .u64 nl], .bool false]) ∧ Below w.heap.size w w')) (w1 : IntKind.i64.wrap (l - ex) = d) (w : World) (ft : FTab w) :
    Calls Tryz.prog 20 #[.agg #[.int .u8 f, .int .i64 p, .int .i64 em, .bool ng, .int .i64 ex, .int .u64 x0, .int .u64 x1, .int .u64 x2, .int .u64 x3], .agg #[.int .u8 m, .bool t]] w fun e w' => e = .returned (.agg #[.int .u64 rh, .int .u64 rl, .int .u8 0]) ∧ Below w.heap.size w w' := by
  go_enter Tryz.func20, Tryz.ntmps20
  go_wp2_with fail
  (with_reducible refine (RN.out _).mono ?_); rintro e w1 ⟨vp, rfl, nvp, hb⟩
  have hz := bC (bA (bA (bA (Below.refl _ _) _) _) _) hb
  have gX2 : w.heap.size ≤ w.heap.size + 1 + 1 := by omega
  have cX0_0 := cL hb (a := ⟨w.heap.size, 0, none⟩) (v := .int .u8 f) (by go_simp)
  have cX0_1 := cL hb (a := ⟨w.heap.size, 1, none⟩) (v := .int .i64 p) (by go_simp)
  have cX0_2 := cL hb (a := ⟨w.heap.size, 2, none⟩) (v := .int .i64 em) (by go_simp)
  have cX0_3 := cL hb (a := ⟨w.heap.size, 3, none⟩) (v := .bool ng) (by go_simp)
  have cX0_4 := cL hb (a := ⟨w.heap.size, 4, none⟩) (v := .int .i64 ex) (by go_simp)
  have cX0_5 := cL hb (a := ⟨w.heap.size, 5, none⟩) (v := .int .u64 x0) (by go_simp)
  have cX0_6 := cL hb (a := ⟨w.heap.size, 6, none⟩) (v := .int .u64 x1) (by go_simp)
  have cX0_7 := cL hb (a := ⟨w.heap.size, 7, none⟩) (v := .int .u64 x2) (by go_simp)
  have cX0_8 := cL hb (a := ⟨w.heap.size, 8, none⟩) (v := .int .u64 x3) (by go_simp)
  have sX0 : w.heap.size < w1.heap.size := bL cX0_0
  have cX2_0 := cL hb (a := ⟨w.heap.size + 1 + 1, 0, none⟩) (v := .int .u64 0) (by go_simp)
  have cX2_1 := cL hb (a := ⟨w.heap.size + 1 + 1, 1, none⟩) (v := .int .u64 0) (by go_simp)
  have cX2_2 := cL hb (a := ⟨w.heap.size + 1 + 1, 2, none⟩) (v := .int .u8 0) (by go_simp)
  have sX2 : w.heap.size + 1 + 1 < w1.heap.size ∧ w.heap.size + 1 < w1.heap.size := by have h : w.heap.size + 1 + 1 < w1.heap.size := bL cX2_0; exact ⟨h, by omega⟩
  have fX2_0 := fL hb (a := ⟨w.heap.size + 1 + 1, 0, none⟩) (v := .int .u64 0) (by go_simp) (by go_simp)
  have fX2_1 := fL hb (a := ⟨w.heap.size + 1 + 1, 1, none⟩) (v := .int .u64 0) (by go_simp) (by go_simp)
  have fX2_2 := fL hb (a := ⟨w.heap.size + 1 + 1, 2, none⟩) (v := .int .u8 0) (by go_simp) (by go_simp)
  have kk := hz
  clear hb hz
  go_wp2_with fail
  (with_reducible refine (CU.out _ _ nvp).mono ?_); rintro e w2 ⟨rfl, hb⟩
  replace nvp := nvp.later hb
  replace cX0_0 := cL hb cX0_0; replace cX0_1 := cL hb cX0_1; replace cX0_2 := cL hb cX0_2; replace cX0_3 := cL hb cX0_3; replace cX0_4 := cL hb cX0_4; replace cX0_5 := cL hb cX0_5; replace cX0_6 := cL hb cX0_6; replace cX0_7 := cL hb cX0_7; replace cX0_8 := cL hb cX0_8
  replace sX0 : w.heap.size < w2.heap.size := bL cX0_0
  replace fX2_0 := fL hb cX2_0 fX2_0; replace fX2_1 := fL hb cX2_1 fX2_1; replace fX2_2 := fL hb cX2_2 fX2_2
  replace cX2_0 := cL hb cX2_0; replace cX2_1 := cL hb cX2_1; replace cX2_2 := cL hb cX2_2
  replace sX2 : w.heap.size + 1 + 1 < w2.heap.size ∧ w.heap.size + 1 < w2.heap.size := by have h : w.heap.size + 1 + 1 < w2.heap.size := bL cX2_0; exact ⟨h, by omega⟩
  replace kk := bC kk hb
  clear hb
  go_wp2_with fail
  (with_reducible refine (h2.out _ (ft.later (bC kk (bA (Below.refl _ _) _)))).mono ?_); rintro e w3 ⟨rfl, hb⟩
  have hz := bC (bA (Below.refl _ _) _) hb
  replace nvp := nvp.later hz
  replace cX0_0 := cL hz cX0_0; replace cX0_1 := cL hz cX0_1; replace cX0_2 := cL hz cX0_2; replace cX0_3 := cL hz cX0_3; replace cX0_4 := cL hz cX0_4; replace cX0_5 := cL hz cX0_5; replace cX0_6 := cL hz cX0_6; replace cX0_7 := cL hz cX0_7; replace cX0_8 := cL hz cX0_8
  replace sX0 : w.heap.size < w3.heap.size := bL cX0_0
  replace fX2_0 := fL hz cX2_0 fX2_0; replace fX2_1 := fL hz cX2_1 fX2_1; replace fX2_2 := fL hz cX2_2 fX2_2
  replace cX2_0 := cL hz cX2_0; replace cX2_1 := cL hz cX2_1; replace cX2_2 := cL hz cX2_2
  replace sX2 : w.heap.size + 1 + 1 < w3.heap.size ∧ w.heap.size + 1 < w3.heap.size := by have h : w.heap.size + 1 + 1 < w3.heap.size := bL cX2_0; exact ⟨h, by omega⟩
  replace kk := bC kk hz
  clear hb hz
  go_wp2_with fail
  (with_reducible refine (h3.out _ (ft.later kk)).mono ?_); rintro e w4 ⟨rfl, hb⟩
  replace nvp := nvp.later hb
  replace cX0_0 := cL hb cX0_0; replace cX0_1 := cL hb cX0_1; replace cX0_2 := cL hb cX0_2; replace cX0_3 := cL hb cX0_3; replace cX0_4 := cL hb cX0_4; replace cX0_5 := cL hb cX0_5; replace cX0_6 := cL hb cX0_6; replace cX0_7 := cL hb cX0_7; replace cX0_8 := cL hb cX0_8
  replace sX0 : w.heap.size < w4.heap.size := bL cX0_0
  replace fX2_0 := fL hb cX2_0 fX2_0; replace fX2_1 := fL hb cX2_1 fX2_1; replace fX2_2 := fL hb cX2_2 fX2_2
  replace cX2_0 := cL hb cX2_0; replace cX2_1 := cL hb cX2_1; replace cX2_2 := cL hb cX2_2
  replace sX2 : w.heap.size + 1 + 1 < w4.heap.size ∧ w.heap.size + 1 < w4.heap.size := by have h : w.heap.size + 1 + 1 < w4.heap.size := bL cX2_0; exact ⟨h, by omega⟩
  replace kk := bC kk hb
  clear hb
  go_wp2_with fail
  clear sX0
  clear sX2
  refine wp_region_noPanic ?_
  refine wp_region_held_drew (S := fun w' => w'.cell? ⟨w.heap.size, 5, none⟩ = some (.int .u64 x0) ∧ w'.cell? ⟨w.heap.size, 6, none⟩ = some (.int .u64 x1) ∧ w'.cell? ⟨w.heap.size, 7, none⟩ = some (.int .u64 x2) ∧ w'.cell? ⟨w.heap.size, 8, none⟩ = some (.int .u64 x3) ∧ w'.cell? ⟨w.heap.size, 0, none⟩ = some (.int .u8 f) ∧ w'.cell? ⟨w.heap.size, 1, none⟩ = some (.int .i64 p) ∧ w'.cell? ⟨w.heap.size, 2, none⟩ = some (.int .i64 em) ∧ w'.cell? ⟨w.heap.size, 4, none⟩ = some (.int .i64 ex) ∧ True) (by kernel_rfl) ⟨cL (Below.refl _ _).drew cX0_5, cL (Below.refl _ _).drew cX0_6, cL (Below.refl _ _).drew cX0_7, cL (Below.refl _ _).drew cX0_8, cL (Below.refl _ _).drew cX0_0, cL (Below.refl _ _).drew cX0_1, cL (Below.refl _ _).drew cX0_2, cL (Below.refl _ _).drew cX0_4, trivial⟩ (fun hHeld => ?_)
  replace nvp := nvp.later (Below.refl _ _).drew
  replace cX0_0 := cL (Below.refl _ _).drew cX0_0; replace cX0_1 := cL (Below.refl _ _).drew cX0_1; replace cX0_2 := cL (Below.refl _ _).drew cX0_2; replace cX0_3 := cL (Below.refl _ _).drew cX0_3; replace cX0_4 := cL (Below.refl _ _).drew cX0_4; replace cX0_5 := cL (Below.refl _ _).drew cX0_5; replace cX0_6 := cL (Below.refl _ _).drew cX0_6; replace cX0_7 := cL (Below.refl _ _).drew cX0_7; replace cX0_8 := cL (Below.refl _ _).drew cX0_8
  replace fX2_0 := fL (Below.refl _ _).drew cX2_0 fX2_0; replace fX2_1 := fL (Below.refl _ _).drew cX2_1 fX2_1; replace fX2_2 := fL (Below.refl _ _).drew cX2_2 fX2_2
  replace cX2_0 := cL (Below.refl _ _).drew cX2_0; replace cX2_1 := cL (Below.refl _ _).drew cX2_1; replace cX2_2 := cL (Below.refl _ _).drew cX2_2
  replace kk := bC kk (Below.refl _ _).drew
  generalize World.drew _ = w6 at *
  refine wpAnyH_take (i := 0) (v := ?vq9) rfl (by kernel_rfl) (by kernel_rfl) (by kernel_rfl) (fun _ _ _ h => h) (Or.inl ⟨by rfl, ?yq9⟩) hHeld ?rq9
  case yq9 => (intro wq hb; obtain ⟨lq0, lq1, lq2, lq3, lq4, lq5, lq6, lq7, _⟩ := hb; go_simp; try (with_reducible rfl))
  try simp only [zA, zB, zC, Act.put, zD, zE, zF]
  refine wpAnyH_take (i := 1) (v := ?vq10) rfl (by kernel_rfl) (by kernel_rfl) (by kernel_rfl) (fun _ _ _ h => h) (Or.inl ⟨by rfl, ?yq10⟩) hHeld ?rq10
  case yq10 => (intro wq hb; obtain ⟨lq0, lq1, lq2, lq3, lq4, lq5, lq6, lq7, _⟩ := hb; go_simp; try (with_reducible rfl))
  try simp only [zA, zB, zC, Act.put, zD, zE, zF]
  refine wpAnyH_take (i := 2) (v := ?vq11) rfl (by kernel_rfl) (by kernel_rfl) (by kernel_rfl) (fun _ _ _ h => h) (Or.inl ⟨by rfl, ?yq11⟩) hHeld ?rq11
  case yq11 => (intro wq hb; obtain ⟨lq0, lq1, lq2, lq3, lq4, lq5, lq6, lq7, _⟩ := hb; go_simp; try (with_reducible rfl))
  try simp only [zA, zB, zC, Act.put, zD, zE, zF]
  refine wpAnyH_take (i := 3) (v := ?vq12) rfl (by kernel_rfl) (by kernel_rfl) (by kernel_rfl) (fun _ _ _ h => h) (Or.inl ⟨by rfl, ?yq12⟩) hHeld ?rq12
  case yq12 => (intro wq hb; obtain ⟨lq0, lq1, lq2, lq3, lq4, lq5, lq6, lq7, _⟩ := hb; go_simp; try (with_reducible rfl))
  try simp only [zA, zB, zC, Act.put, zD, zE, zF]
  refine wpAnyH_take (i := 4) (v := ?vq13) rfl (by kernel_rfl) (by kernel_rfl) (by kernel_rfl) (fun _ _ _ h => h) (Or.inl ⟨by rfl, ?yq13⟩) hHeld ?rq13
  case yq13 => (intro wq hb; obtain ⟨lq0, lq1, lq2, lq3, lq4, lq5, lq6, lq7, _⟩ := hb; go_simp; try (with_reducible rfl))
  try simp only [zA, zB, zC, Act.put, zD, zE, zF]
  refine wpAnyH_take (i := 5) (v := ?vq14) rfl (by kernel_rfl) (by kernel_rfl) (by kernel_rfl) (fun _ _ _ h => h) (Or.inl ⟨by rfl, ?yq14⟩) hHeld ?rq14
  case yq14 => (intro wq hb; obtain ⟨lq0, lq1, lq2, lq3, lq4, lq5, lq6, lq7, _⟩ := hb; go_simp; try (with_reducible rfl))
  try simp only [zA, zB, zC, Act.put, zD, zE, zF]
  refine wpAnyH_take (i := 6) (v := ?vq15) rfl (by kernel_rfl) (by kernel_rfl) (by kernel_rfl) (fun _ _ _ h => h) (Or.inl ⟨by rfl, ?yq15⟩) hHeld ?rq15
  case yq15 => (intro wq hb; obtain ⟨lq0, lq1, lq2, lq3, lq4, lq5, lq6, lq7, _⟩ := hb; go_simp; try (with_reducible rfl))
  try simp only [zA, zB, zC, Act.put, zD, zE, zF]
  refine wpAnyH_take (i := 8) (v := ?vq16) rfl (by kernel_rfl) (by kernel_rfl) (by kernel_rfl) (fun _ _ _ h => h) (Or.inl ⟨by rfl, ?yq16⟩) hHeld ?rq16
  case yq16 => (intro wq hb; obtain ⟨lq0, lq1, lq2, lq3, lq4, lq5, lq6, lq7, _⟩ := hb; go_simp; try (with_reducible rfl))
  try simp only [zA, zB, zC, Act.put, zD, zE, zF]
  refine wpAnyH_take (i := 9) (v := ?vq17) rfl (by kernel_rfl) (by kernel_rfl) (by kernel_rfl) (fun _ _ _ h => h) (Or.inl ⟨by rfl, ?yq17⟩) hHeld ?rq17
  case yq17 => (intro wq hb; obtain ⟨lq0, lq1, lq2, lq3, lq4, lq5, lq6, lq7, _⟩ := hb; go_simp; try (with_reducible rfl))
  try simp only [zA, zB, zC, Act.put, zD, zE, zF]
  clear hHeld
  refine wpAnyH_ready (rs := [7, 16]) (by kernel_rfl) (by simp) ?_
  refine AllReadyH.cons rfl (fun K hK => ?_) (AllReadyH.cons rfl (fun K hK => ?_) AllReadyH.nil)
  go_simp
  (with_reducible refine (h4.out _ (ft.later kk)).mono ?_); rintro e w7 ⟨rfl, hb⟩
  replace nvp := nvp.later hb
  replace cX0_0 := cL hb cX0_0; replace cX0_1 := cL hb cX0_1; replace cX0_2 := cL hb cX0_2; replace cX0_3 := cL hb cX0_3; replace cX0_4 := cL hb cX0_4; replace cX0_5 := cL hb cX0_5; replace cX0_6 := cL hb cX0_6; replace cX0_7 := cL hb cX0_7; replace cX0_8 := cL hb cX0_8
  replace fX2_0 := fL hb cX2_0 fX2_0; replace fX2_1 := fL hb cX2_1 fX2_1; replace fX2_2 := fL hb cX2_2 fX2_2
  replace cX2_0 := cL hb cX2_0; replace cX2_1 := cL hb cX2_1; replace cX2_2 := cL hb cX2_2
  replace kk := bC kk hb
  clear hb
  refine hK.out _ _ ⟨cX0_5, cX0_6, cX0_7, cX0_8, cX0_0, cX0_1, cX0_2, cX0_4, trivial⟩ (fun hHeld => ?_)
  clear hK K
  try simp only [zA, zB, zC, Act.put, zD, zE, zF]
  clear w6
  refine wpAnyH_take (i := 10) (v := ?vq18) rfl (by kernel_rfl) (by kernel_rfl) (by kernel_rfl) (fun _ _ _ h => h) (Or.inl ⟨by rfl, ?yq18⟩) hHeld ?rq18
  case yq18 => (intro wq hb; obtain ⟨lq0, lq1, lq2, lq3, lq4, lq5, lq6, lq7, _⟩ := hb; go_simp; try (with_reducible rfl))
  try simp only [zA, zB, zC, Act.put, zD, zE, zF]
  clear hHeld
  refine wpAnyH_ready (rs := [11, 16]) (by kernel_rfl) (by simp) ?_
  refine AllReadyH.cons rfl (fun K hK => ?_) (AllReadyH.cons rfl (fun K hK => ?_) AllReadyH.nil)
  go_simp
  (with_reducible refine (h5.out _).mono ?_); rintro e w8 ⟨rfl, hb⟩
  replace nvp := nvp.later hb
  replace cX0_0 := cL hb cX0_0; replace cX0_1 := cL hb cX0_1; replace cX0_2 := cL hb cX0_2; replace cX0_3 := cL hb cX0_3; replace cX0_4 := cL hb cX0_4; replace cX0_5 := cL hb cX0_5; replace cX0_6 := cL hb cX0_6; replace cX0_7 := cL hb cX0_7; replace cX0_8 := cL hb cX0_8
  replace fX2_0 := fL hb cX2_0 fX2_0; replace fX2_1 := fL hb cX2_1 fX2_1; replace fX2_2 := fL hb cX2_2 fX2_2
  replace cX2_0 := cL hb cX2_0; replace cX2_1 := cL hb cX2_1; replace cX2_2 := cL hb cX2_2
  replace kk := bC kk hb
  clear hb
  refine hK.out _ _ ⟨cX0_5, cX0_6, cX0_7, cX0_8, cX0_0, cX0_1, cX0_2, cX0_4, trivial⟩ (fun hHeld => ?_)
  clear hK K
  try simp only [zA, zB, zC, Act.put, zD, zE, zF]
  clear w7
  clear hHeld
  refine wpAnyH_ready (rs := [12, 16]) (by kernel_rfl) (by simp) ?_
  refine AllReadyH.cons rfl (fun K hK => ?_) (AllReadyH.cons rfl (fun K hK => ?_) AllReadyH.nil)
  go_simp
  (with_reducible refine (CN.out _ _ nvp).mono ?_); rintro e w9 ⟨rfl, hb⟩
  replace nvp := nvp.later hb
  replace cX0_0 := cL hb cX0_0; replace cX0_1 := cL hb cX0_1; replace cX0_2 := cL hb cX0_2; replace cX0_3 := cL hb cX0_3; replace cX0_4 := cL hb cX0_4; replace cX0_5 := cL hb cX0_5; replace cX0_6 := cL hb cX0_6; replace cX0_7 := cL hb cX0_7; replace cX0_8 := cL hb cX0_8
  replace fX2_0 := fL hb cX2_0 fX2_0; replace fX2_1 := fL hb cX2_1 fX2_1; replace fX2_2 := fL hb cX2_2 fX2_2
  replace cX2_0 := cL hb cX2_0; replace cX2_1 := cL hb cX2_1; replace cX2_2 := cL hb cX2_2
  replace kk := bC kk hb
  clear hb
  clear nvp
  refine hK.out _ _ ⟨cX0_5, cX0_6, cX0_7, cX0_8, cX0_0, cX0_1, cX0_2, cX0_4, trivial⟩ (fun hHeld => ?_)
  clear hK K
  try simp only [zA, zB, zC, Act.put, zD, zE, zF]
  clear w8
  refine wpAnyH_take (i := 13) (v := ?vq19) rfl (by kernel_rfl) (by kernel_rfl) (by kernel_rfl) (fun _ _ _ h => h) (Or.inl ⟨by rfl, ?yq19⟩) hHeld ?rq19
  case yq19 => (intro wq hb; obtain ⟨lq0, lq1, lq2, lq3, lq4, lq5, lq6, lq7, _⟩ := hb; go_simp; try (with_reducible rfl))
  try simp only [zA, zB, zC, Act.put, zD, zE, zF]
  refine wpAnyH_take (i := 14) (v := ?vq20) rfl (by kernel_rfl) (by kernel_rfl) (by kernel_rfl) (fun _ _ _ h => h) (Or.inl ⟨by rfl, ?yq20⟩) hHeld ?rq20
  case yq20 => (intro wq hb; obtain ⟨lq0, lq1, lq2, lq3, lq4, lq5, lq6, lq7, _⟩ := hb; go_simp; try (with_reducible rfl))
  try simp only [zA, zB, zC, Act.put, zD, zE, zF]
  refine wpAnyH_take (i := 15) (v := ?vq21) rfl (by kernel_rfl) (by kernel_rfl) (by kernel_rfl) (fun _ _ _ h => h) (Or.inl ⟨by rfl, ?yq21⟩) hHeld ?rq21
  case yq21 => (intro wq hb; obtain ⟨lq0, lq1, lq2, lq3, lq4, lq5, lq6, lq7, _⟩ := hb; go_simp; try (with_reducible rfl))
  try simp only [zA, zB, zC, Act.put, zD, zE, zF]
  clear hHeld
  refine wpAnyH_ready (rs := [16]) (by kernel_rfl) (by simp) ?_
  refine AllReadyH.cons rfl (fun K hK => ?_) AllReadyH.nil
  go_simp
  have nX0_X4 : w.heap.size < w9.heap.size := bL cX0_0
  have nX2_X4 : w.heap.size + 1 + 1 < w9.heap.size := bL cX2_0
  have gX4 : w.heap.size ≤ w9.heap.size := kk.size
  have ha := bA (Below.refl _ w9) (.cells #[.int .u64 0, .int .u64 0] 30)
  have hx := HB.new w9 30 #[.int .u64 0, .int .u64 0]
  replace cX0_0 := cL ha cX0_0; replace cX0_1 := cL ha cX0_1; replace cX0_2 := cL ha cX0_2; replace cX0_3 := cL ha cX0_3; replace cX0_4 := cL ha cX0_4; replace cX0_5 := cL ha cX0_5; replace cX0_6 := cL ha cX0_6; replace cX0_7 := cL ha cX0_7; replace cX0_8 := cL ha cX0_8
  replace fX2_0 := fL ha cX2_0 fX2_0; replace fX2_1 := fL ha cX2_1 fX2_1; replace fX2_2 := fL ha cX2_2 fX2_2
  replace cX2_0 := cL ha cX2_0; replace cX2_1 := cL ha cX2_1; replace cX2_2 := cL ha cX2_2
  replace kk := bC kk ha
  have cX4_0 := hx.cell 0; have fX4_0 := hx.frozen 0; have cX4_1 := hx.cell 1; have fX4_1 := hx.frozen 1; dsimp at cX4_0 cX4_1
  clear ha hx
  refine hK.out _ _ ⟨cX0_5, cX0_6, cX0_7, cX0_8, cX0_0, cX0_1, cX0_2, cX0_4, trivial⟩ (fun hHeld => ?_)
  clear hK K
  generalize w9.alloc (.cells #[.int .u64 0, .int .u64 0] 30) = w10 at *
  generalize w9.heap.size = pp5 at *
  try simp only [zA, zB, zC, Act.put, zD, zE, zF]
  clear w9
  clear hHeld
  refine wpAnyH_ready (rs := [17]) (by kernel_rfl) (by simp) ?_
  refine AllReadyH.cons rfl (fun K hK => ?_) AllReadyH.nil
  go_simp
  have neX0 : ¬ (pp5 = w.heap.size) := by omega
  have nfX0 : ¬ (w.heap.size = pp5) := by omega
  have neX2 : ¬ (pp5 = w.heap.size + 1 + 1) := by omega
  have nfX2 : ¬ (w.heap.size + 1 + 1 = pp5) := by omega
  have KEY := Lib.hid (show (fun W => W.cell? ⟨w.heap.size, 0, none⟩ = some (.int .u8 f) ∧ W.cell? ⟨w.heap.size, 1, none⟩ = some (.int .i64 p) ∧ W.cell? ⟨w.heap.size, 2, none⟩ = some (.int .i64 em) ∧ W.cell? ⟨w.heap.size, 3, none⟩ = some (.bool ng) ∧ W.cell? ⟨w.heap.size, 4, none⟩ = some (.int .i64 ex) ∧ W.cell? ⟨w.heap.size, 5, none⟩ = some (.int .u64 x0) ∧ W.cell? ⟨w.heap.size, 6, none⟩ = some (.int .u64 x1) ∧ W.cell? ⟨w.heap.size, 7, none⟩ = some (.int .u64 x2) ∧ W.cell? ⟨w.heap.size, 8, none⟩ = some (.int .u64 x3) ∧ W.cell? ⟨w.heap.size + 1 + 1, 0, none⟩ = some (.int .u64 0) ∧ W.cell? ⟨w.heap.size + 1 + 1, 1, none⟩ = some (.int .u64 0) ∧ W.cell? ⟨w.heap.size + 1 + 1, 2, none⟩ = some (.int .u8 0) ∧ W.frozen? ⟨w.heap.size + 1 + 1, 0, none⟩ = false ∧ W.frozen? ⟨w.heap.size + 1 + 1, 1, none⟩ = false ∧ W.frozen? ⟨w.heap.size + 1 + 1, 2, none⟩ = false ∧ W.cell? ⟨pp5, 0, none⟩ = some (.int .u64 nh) ∧ W.cell? ⟨pp5, 1, none⟩ = some (.int .u64 nl) ∧ W.frozen? ⟨pp5, 0, none⟩ = false ∧ W.frozen? ⟨pp5, 1, none⟩ = false ∧ Below w.heap.size w W) ((w10.setCell ⟨pp5, 0, none⟩ (.int .u64 nh)).setCell ⟨pp5, 1, none⟩ (.int .u64 nl)) from ⟨by go_simp, by go_simp, by go_simp, by go_simp, by go_simp, by go_simp, by go_simp, by go_simp, by go_simp, by go_simp, by go_simp, by go_simp, by go_simp, by go_simp, by go_simp, by go_simp, by go_simp, by go_simp, by go_simp, ((kk.setCell (p := ⟨pp5, 0, none⟩) gX4 _).setCell (p := ⟨pp5, 1, none⟩) gX4 _)⟩)
  clear cX0_0 cX0_1 cX0_2 cX0_3 cX0_4 cX0_5 cX0_6 cX0_7 cX0_8 cX2_0 cX2_1 cX2_2 fX2_0 fX2_1 fX2_2 cX4_0 cX4_1 fX4_0 fX4_1 neX0 nfX0 neX2 nfX2 kk
  refine forget_at (fun W => W.cell? ⟨w.heap.size, 0, none⟩ = some (.int .u8 f) ∧ W.cell? ⟨w.heap.size, 1, none⟩ = some (.int .i64 p) ∧ W.cell? ⟨w.heap.size, 2, none⟩ = some (.int .i64 em) ∧ W.cell? ⟨w.heap.size, 3, none⟩ = some (.bool ng) ∧ W.cell? ⟨w.heap.size, 4, none⟩ = some (.int .i64 ex) ∧ W.cell? ⟨w.heap.size, 5, none⟩ = some (.int .u64 x0) ∧ W.cell? ⟨w.heap.size, 6, none⟩ = some (.int .u64 x1) ∧ W.cell? ⟨w.heap.size, 7, none⟩ = some (.int .u64 x2) ∧ W.cell? ⟨w.heap.size, 8, none⟩ = some (.int .u64 x3) ∧ W.cell? ⟨w.heap.size + 1 + 1, 0, none⟩ = some (.int .u64 0) ∧ W.cell? ⟨w.heap.size + 1 + 1, 1, none⟩ = some (.int .u64 0) ∧ W.cell? ⟨w.heap.size + 1 + 1, 2, none⟩ = some (.int .u8 0) ∧ W.frozen? ⟨w.heap.size + 1 + 1, 0, none⟩ = false ∧ W.frozen? ⟨w.heap.size + 1 + 1, 1, none⟩ = false ∧ W.frozen? ⟨w.heap.size + 1 + 1, 2, none⟩ = false ∧ W.cell? ⟨pp5, 0, none⟩ = some (.int .u64 nh) ∧ W.cell? ⟨pp5, 1, none⟩ = some (.int .u64 nl) ∧ W.frozen? ⟨pp5, 0, none⟩ = false ∧ W.frozen? ⟨pp5, 1, none⟩ = false ∧ Below w.heap.size w W) KEY.out (fun w11 hz => ?_)
  obtain ⟨cX0_0, cX0_1, cX0_2, cX0_3, cX0_4, cX0_5, cX0_6, cX0_7, cX0_8, cX2_0, cX2_1, cX2_2, fX2_0, fX2_1, fX2_2, cX4_0, cX4_1, fX4_0, fX4_1, kk⟩ := hz
  clear KEY
  refine hK.out _ _ ⟨cX0_5, cX0_6, cX0_7, cX0_8, cX0_0, cX0_1, cX0_2, cX0_4, trivial⟩ (fun hHeld => ?_)
  clear hK K
  try simp only [zA, zB, zC, Act.put, zD, zE, zF]
  clear w10
  refine wpAnyH_take (i := 18) (v := ?vq22) rfl (by kernel_rfl) (by kernel_rfl) (by kernel_rfl) (fun _ _ _ h => h) (Or.inl ⟨by rfl, ?yq22⟩) hHeld ?rq22
  case yq22 => (intro wq hb; obtain ⟨lq0, lq1, lq2, lq3, lq4, lq5, lq6, lq7, _⟩ := hb; go_simp; try (with_reducible rfl))
  try simp only [zA, zB, zC, Act.put, zD, zE, zF]
  clear hHeld
  refine wpAnyH_done (by kernel_rfl) ?_ _
  refine NoPanic.normal ?_
  revert kk; revert nX2_X4; revert nX0_X4; revert gX4; revert fX4_1; revert fX4_0; revert cX4_1; revert cX4_0; revert fX2_2; revert fX2_1; revert fX2_0; revert cX2_2; revert cX2_1; revert cX2_0; revert cX0_8; revert cX0_7; revert cX0_6; revert cX0_5; revert cX0_4; revert cX0_3; revert cX0_2; revert cX0_1; revert cX0_0; revert pp5; revert w11
  refine ?restw6
  rotate_left
  go_simp
  have nX0_X4 : w.heap.size < w8.heap.size := bL cX0_0
  have nX2_X4 : w.heap.size + 1 + 1 < w8.heap.size := bL cX2_0
  have gX4 : w.heap.size ≤ w8.heap.size := kk.size
  have ha := bA (Below.refl _ w8) (.cells #[.int .u64 0, .int .u64 0] 30)
  have hx := HB.new w8 30 #[.int .u64 0, .int .u64 0]
  replace nvp := nvp.later ha
  replace cX0_0 := cL ha cX0_0; replace cX0_1 := cL ha cX0_1; replace cX0_2 := cL ha cX0_2; replace cX0_3 := cL ha cX0_3; replace cX0_4 := cL ha cX0_4; replace cX0_5 := cL ha cX0_5; replace cX0_6 := cL ha cX0_6; replace cX0_7 := cL ha cX0_7; replace cX0_8 := cL ha cX0_8
  replace fX2_0 := fL ha cX2_0 fX2_0; replace fX2_1 := fL ha cX2_1 fX2_1; replace fX2_2 := fL ha cX2_2 fX2_2
  replace cX2_0 := cL ha cX2_0; replace cX2_1 := cL ha cX2_1; replace cX2_2 := cL ha cX2_2
  replace kk := bC kk ha
  have cX4_0 := hx.cell 0; have fX4_0 := hx.frozen 0; have cX4_1 := hx.cell 1; have fX4_1 := hx.frozen 1; dsimp at cX4_0 cX4_1
  clear ha hx
  refine hK.out _ _ ⟨cX0_5, cX0_6, cX0_7, cX0_8, cX0_0, cX0_1, cX0_2, cX0_4, trivial⟩ (fun hHeld => ?_)
  clear hK K
  generalize w8.alloc (.cells #[.int .u64 0, .int .u64 0] 30) = w12 at *
  generalize w8.heap.size = pp5 at *
  try simp only [zA, zB, zC, Act.put, zD, zE, zF]
  clear w8
  clear hHeld
  refine wpAnyH_ready (rs := [12]) (by kernel_rfl) (by simp) ?_
  refine AllReadyH.cons rfl (fun K hK => ?_) AllReadyH.nil
  go_simp
  (with_reducible refine (CN.out _ _ nvp).mono ?_); rintro e w13 ⟨rfl, hb⟩
  replace nvp := nvp.later hb
  replace cX0_0 := cL hb cX0_0; replace cX0_1 := cL hb cX0_1; replace cX0_2 := cL hb cX0_2; replace cX0_3 := cL hb cX0_3; replace cX0_4 := cL hb cX0_4; replace cX0_5 := cL hb cX0_5; replace cX0_6 := cL hb cX0_6; replace cX0_7 := cL hb cX0_7; replace cX0_8 := cL hb cX0_8
  replace fX2_0 := fL hb cX2_0 fX2_0; replace fX2_1 := fL hb cX2_1 fX2_1; replace fX2_2 := fL hb cX2_2 fX2_2
  replace cX2_0 := cL hb cX2_0; replace cX2_1 := cL hb cX2_1; replace cX2_2 := cL hb cX2_2
  replace fX4_0 := fL hb cX4_0 fX4_0; replace fX4_1 := fL hb cX4_1 fX4_1
  replace cX4_0 := cL hb cX4_0; replace cX4_1 := cL hb cX4_1
  replace kk := bC kk hb
  clear hb
  clear nvp
  refine hK.out _ _ ⟨cX0_5, cX0_6, cX0_7, cX0_8, cX0_0, cX0_1, cX0_2, cX0_4, trivial⟩ (fun hHeld => ?_)
  clear hK K
  try simp only [zA, zB, zC, Act.put, zD, zE, zF]
  clear w12
  refine wpAnyH_take (i := 13) (v := ?vq23) rfl (by kernel_rfl) (by kernel_rfl) (by kernel_rfl) (fun _ _ _ h => h) (Or.inl ⟨by rfl, ?yq23⟩) hHeld ?rq23
  case yq23 => (intro wq hb; obtain ⟨lq0, lq1, lq2, lq3, lq4, lq5, lq6, lq7, _⟩ := hb; go_simp; try (with_reducible rfl))
  try simp only [zA, zB, zC, Act.put, zD, zE, zF]
  refine wpAnyH_take (i := 14) (v := ?vq24) rfl (by kernel_rfl) (by kernel_rfl) (by kernel_rfl) (fun _ _ _ h => h) (Or.inl ⟨by rfl, ?yq24⟩) hHeld ?rq24
  case yq24 => (intro wq hb; obtain ⟨lq0, lq1, lq2, lq3, lq4, lq5, lq6, lq7, _⟩ := hb; go_simp; try (with_reducible rfl))
  try simp only [zA, zB, zC, Act.put, zD, zE, zF]
  refine wpAnyH_take (i := 15) (v := ?vq25) rfl (by kernel_rfl) (by kernel_rfl) (by kernel_rfl) (fun _ _ _ h => h) (Or.inl ⟨by rfl, ?yq25⟩) hHeld ?rq25
  case yq25 => (intro wq hb; obtain ⟨lq0, lq1, lq2, lq3, lq4, lq5, lq6, lq7, _⟩ := hb; go_simp; try (with_reducible rfl))
  try simp only [zA, zB, zC, Act.put, zD, zE, zF]
  clear hHeld
  refine wpAnyH_ready (rs := [17]) (by kernel_rfl) (by simp) ?_
  refine AllReadyH.cons rfl (fun K hK => ?_) AllReadyH.nil
  go_simp
  have neX0 : ¬ (pp5 = w.heap.size) := by omega
  have nfX0 : ¬ (w.heap.size = pp5) := by omega
  have neX2 : ¬ (pp5 = w.heap.size + 1 + 1) := by omega
  have nfX2 : ¬ (w.heap.size + 1 + 1 = pp5) := by omega
  have KEY := Lib.hid (show (fun W => W.cell? ⟨w.heap.size, 0, none⟩ = some (.int .u8 f) ∧ W.cell? ⟨w.heap.size, 1, none⟩ = some (.int .i64 p) ∧ W.cell? ⟨w.heap.size, 2, none⟩ = some (.int .i64 em) ∧ W.cell? ⟨w.heap.size, 3, none⟩ = some (.bool ng) ∧ W.cell? ⟨w.heap.size, 4, none⟩ = some (.int .i64 ex) ∧ W.cell? ⟨w.heap.size, 5, none⟩ = some (.int .u64 x0) ∧ W.cell? ⟨w.heap.size, 6, none⟩ = some (.int .u64 x1) ∧ W.cell? ⟨w.heap.size, 7, none⟩ = some (.int .u64 x2) ∧ W.cell? ⟨w.heap.size, 8, none⟩ = some (.int .u64 x3) ∧ W.cell? ⟨w.heap.size + 1 + 1, 0, none⟩ = some (.int .u64 0) ∧ W.cell? ⟨w.heap.size + 1 + 1, 1, none⟩ = some (.int .u64 0) ∧ W.cell? ⟨w.heap.size + 1 + 1, 2, none⟩ = some (.int .u8 0) ∧ W.frozen? ⟨w.heap.size + 1 + 1, 0, none⟩ = false ∧ W.frozen? ⟨w.heap.size + 1 + 1, 1, none⟩ = false ∧ W.frozen? ⟨w.heap.size + 1 + 1, 2, none⟩ = false ∧ W.cell? ⟨pp5, 0, none⟩ = some (.int .u64 nh) ∧ W.cell? ⟨pp5, 1, none⟩ = some (.int .u64 nl) ∧ W.frozen? ⟨pp5, 0, none⟩ = false ∧ W.frozen? ⟨pp5, 1, none⟩ = false ∧ Below w.heap.size w W) ((w13.setCell ⟨pp5, 0, none⟩ (.int .u64 nh)).setCell ⟨pp5, 1, none⟩ (.int .u64 nl)) from ⟨by go_simp, by go_simp, by go_simp, by go_simp, by go_simp, by go_simp, by go_simp, by go_simp, by go_simp, by go_simp, by go_simp, by go_simp, by go_simp, by go_simp, by go_simp, by go_simp, by go_simp, by go_simp, by go_simp, ((kk.setCell (p := ⟨pp5, 0, none⟩) gX4 _).setCell (p := ⟨pp5, 1, none⟩) gX4 _)⟩)
  clear cX0_0 cX0_1 cX0_2 cX0_3 cX0_4 cX0_5 cX0_6 cX0_7 cX0_8 cX2_0 cX2_1 cX2_2 fX2_0 fX2_1 fX2_2 cX4_0 cX4_1 fX4_0 fX4_1 neX0 nfX0 neX2 nfX2 kk
  refine forget_at (fun W => W.cell? ⟨w.heap.size, 0, none⟩ = some (.int .u8 f) ∧ W.cell? ⟨w.heap.size, 1, none⟩ = some (.int .i64 p) ∧ W.cell? ⟨w.heap.size, 2, none⟩ = some (.int .i64 em) ∧ W.cell? ⟨w.heap.size, 3, none⟩ = some (.bool ng) ∧ W.cell? ⟨w.heap.size, 4, none⟩ = some (.int .i64 ex) ∧ W.cell? ⟨w.heap.size, 5, none⟩ = some (.int .u64 x0) ∧ W.cell? ⟨w.heap.size, 6, none⟩ = some (.int .u64 x1) ∧ W.cell? ⟨w.heap.size, 7, none⟩ = some (.int .u64 x2) ∧ W.cell? ⟨w.heap.size, 8, none⟩ = some (.int .u64 x3) ∧ W.cell? ⟨w.heap.size + 1 + 1, 0, none⟩ = some (.int .u64 0) ∧ W.cell? ⟨w.heap.size + 1 + 1, 1, none⟩ = some (.int .u64 0) ∧ W.cell? ⟨w.heap.size + 1 + 1, 2, none⟩ = some (.int .u8 0) ∧ W.frozen? ⟨w.heap.size + 1 + 1, 0, none⟩ = false ∧ W.frozen? ⟨w.heap.size + 1 + 1, 1, none⟩ = false ∧ W.frozen? ⟨w.heap.size + 1 + 1, 2, none⟩ = false ∧ W.cell? ⟨pp5, 0, none⟩ = some (.int .u64 nh) ∧ W.cell? ⟨pp5, 1, none⟩ = some (.int .u64 nl) ∧ W.frozen? ⟨pp5, 0, none⟩ = false ∧ W.frozen? ⟨pp5, 1, none⟩ = false ∧ Below w.heap.size w W) KEY.out (fun w14 hz => ?_)
  obtain ⟨cX0_0, cX0_1, cX0_2, cX0_3, cX0_4, cX0_5, cX0_6, cX0_7, cX0_8, cX2_0, cX2_1, cX2_2, fX2_0, fX2_1, fX2_2, cX4_0, cX4_1, fX4_0, fX4_1, kk⟩ := hz
  clear KEY
  refine hK.out _ _ ⟨cX0_5, cX0_6, cX0_7, cX0_8, cX0_0, cX0_1, cX0_2, cX0_4, trivial⟩ (fun hHeld => ?_)
  clear hK K
  try simp only [zA, zB, zC, Act.put, zD, zE, zF]
  clear w13
  refine wpAnyH_take (i := 18) (v := ?vq26) rfl (by kernel_rfl) (by kernel_rfl) (by kernel_rfl) (fun _ _ _ h => h) (Or.inl ⟨by rfl, ?yq26⟩) hHeld ?rq26
  case yq26 => (intro wq hb; obtain ⟨lq0, lq1, lq2, lq3, lq4, lq5, lq6, lq7, _⟩ := hb; go_simp; try (with_reducible rfl))
  try simp only [zA, zB, zC, Act.put, zD, zE, zF]
  clear hHeld
  refine wpAnyH_done (by kernel_rfl) ?_ _
  refine NoPanic.normal ?_
  revert kk; revert nX2_X4; revert nX0_X4; revert gX4; revert fX4_1; revert fX4_0; revert cX4_1; revert cX4_0; revert fX2_2; revert fX2_1; revert fX2_0; revert cX2_2; revert cX2_1; revert cX2_0; revert cX0_8; revert cX0_7; revert cX0_6; revert cX0_5; revert cX0_4; revert cX0_3; revert cX0_2; revert cX0_1; revert cX0_0; revert pp5; revert w14
  exact ?restw6
  go_simp
  have nX0_X4 : w.heap.size < w7.heap.size := bL cX0_0
  have nX2_X4 : w.heap.size + 1 + 1 < w7.heap.size := bL cX2_0
  have gX4 : w.heap.size ≤ w7.heap.size := kk.size
  have ha := bA (Below.refl _ w7) (.cells #[.int .u64 0, .int .u64 0] 30)
  have hx := HB.new w7 30 #[.int .u64 0, .int .u64 0]
  replace nvp := nvp.later ha
  replace cX0_0 := cL ha cX0_0; replace cX0_1 := cL ha cX0_1; replace cX0_2 := cL ha cX0_2; replace cX0_3 := cL ha cX0_3; replace cX0_4 := cL ha cX0_4; replace cX0_5 := cL ha cX0_5; replace cX0_6 := cL ha cX0_6; replace cX0_7 := cL ha cX0_7; replace cX0_8 := cL ha cX0_8
  replace fX2_0 := fL ha cX2_0 fX2_0; replace fX2_1 := fL ha cX2_1 fX2_1; replace fX2_2 := fL ha cX2_2 fX2_2
  replace cX2_0 := cL ha cX2_0; replace cX2_1 := cL ha cX2_1; replace cX2_2 := cL ha cX2_2
  replace kk := bC kk ha
  have cX4_0 := hx.cell 0; have fX4_0 := hx.frozen 0; have cX4_1 := hx.cell 1; have fX4_1 := hx.frozen 1; dsimp at cX4_0 cX4_1
  clear ha hx
  refine hK.out _ _ ⟨cX0_5, cX0_6, cX0_7, cX0_8, cX0_0, cX0_1, cX0_2, cX0_4, trivial⟩ (fun hHeld => ?_)
  clear hK K
  generalize w7.alloc (.cells #[.int .u64 0, .int .u64 0] 30) = w15 at *
  generalize w7.heap.size = pp5 at *
  try simp only [zA, zB, zC, Act.put, zD, zE, zF]
  clear w7
  clear hHeld
  refine wpAnyH_ready (rs := [11]) (by kernel_rfl) (by simp) ?_
  refine AllReadyH.cons rfl (fun K hK => ?_) AllReadyH.nil
  go_simp
  (with_reducible refine (h5.out _).mono ?_); rintro e w16 ⟨rfl, hb⟩
  replace nvp := nvp.later hb
  replace cX0_0 := cL hb cX0_0; replace cX0_1 := cL hb cX0_1; replace cX0_2 := cL hb cX0_2; replace cX0_3 := cL hb cX0_3; replace cX0_4 := cL hb cX0_4; replace cX0_5 := cL hb cX0_5; replace cX0_6 := cL hb cX0_6; replace cX0_7 := cL hb cX0_7; replace cX0_8 := cL hb cX0_8
  replace fX2_0 := fL hb cX2_0 fX2_0; replace fX2_1 := fL hb cX2_1 fX2_1; replace fX2_2 := fL hb cX2_2 fX2_2
  replace cX2_0 := cL hb cX2_0; replace cX2_1 := cL hb cX2_1; replace cX2_2 := cL hb cX2_2
  replace fX4_0 := fL hb cX4_0 fX4_0; replace fX4_1 := fL hb cX4_1 fX4_1
  replace cX4_0 := cL hb cX4_0; replace cX4_1 := cL hb cX4_1
  replace kk := bC kk hb
  clear hb
  refine hK.out _ _ ⟨cX0_5, cX0_6, cX0_7, cX0_8, cX0_0, cX0_1, cX0_2, cX0_4, trivial⟩ (fun hHeld => ?_)
  clear hK K
  try simp only [zA, zB, zC, Act.put, zD, zE, zF]
  clear w15
  clear hHeld
  refine wpAnyH_ready (rs := [12]) (by kernel_rfl) (by simp) ?_
  refine AllReadyH.cons rfl (fun K hK => ?_) AllReadyH.nil
  go_simp
  (with_reducible refine (CN.out _ _ nvp).mono ?_); rintro e w17 ⟨rfl, hb⟩
  replace nvp := nvp.later hb
  replace cX0_0 := cL hb cX0_0; replace cX0_1 := cL hb cX0_1; replace cX0_2 := cL hb cX0_2; replace cX0_3 := cL hb cX0_3; replace cX0_4 := cL hb cX0_4; replace cX0_5 := cL hb cX0_5; replace cX0_6 := cL hb cX0_6; replace cX0_7 := cL hb cX0_7; replace cX0_8 := cL hb cX0_8
  replace fX2_0 := fL hb cX2_0 fX2_0; replace fX2_1 := fL hb cX2_1 fX2_1; replace fX2_2 := fL hb cX2_2 fX2_2
  replace cX2_0 := cL hb cX2_0; replace cX2_1 := cL hb cX2_1; replace cX2_2 := cL hb cX2_2
  replace fX4_0 := fL hb cX4_0 fX4_0; replace fX4_1 := fL hb cX4_1 fX4_1
  replace cX4_0 := cL hb cX4_0; replace cX4_1 := cL hb cX4_1
  replace kk := bC kk hb
  clear hb
  clear nvp
  refine hK.out _ _ ⟨cX0_5, cX0_6, cX0_7, cX0_8, cX0_0, cX0_1, cX0_2, cX0_4, trivial⟩ (fun hHeld => ?_)
  clear hK K
  try simp only [zA, zB, zC, Act.put, zD, zE, zF]
  clear w16
  refine wpAnyH_take (i := 13) (v := ?vq27) rfl (by kernel_rfl) (by kernel_rfl) (by kernel_rfl) (fun _ _ _ h => h) (Or.inl ⟨by rfl, ?yq27⟩) hHeld ?rq27
  case yq27 => (intro wq hb; obtain ⟨lq0, lq1, lq2, lq3, lq4, lq5, lq6, lq7, _⟩ := hb; go_simp; try (with_reducible rfl))
  try simp only [zA, zB, zC, Act.put, zD, zE, zF]
  refine wpAnyH_take (i := 14) (v := ?vq28) rfl (by kernel_rfl) (by kernel_rfl) (by kernel_rfl) (fun _ _ _ h => h) (Or.inl ⟨by rfl, ?yq28⟩) hHeld ?rq28
  case yq28 => (intro wq hb; obtain ⟨lq0, lq1, lq2, lq3, lq4, lq5, lq6, lq7, _⟩ := hb; go_simp; try (with_reducible rfl))
  try simp only [zA, zB, zC, Act.put, zD, zE, zF]
  refine wpAnyH_take (i := 15) (v := ?vq29) rfl (by kernel_rfl) (by kernel_rfl) (by kernel_rfl) (fun _ _ _ h => h) (Or.inl ⟨by rfl, ?yq29⟩) hHeld ?rq29
  case yq29 => (intro wq hb; obtain ⟨lq0, lq1, lq2, lq3, lq4, lq5, lq6, lq7, _⟩ := hb; go_simp; try (with_reducible rfl))
  try simp only [zA, zB, zC, Act.put, zD, zE, zF]
  clear hHeld
  refine wpAnyH_ready (rs := [17]) (by kernel_rfl) (by simp) ?_
  refine AllReadyH.cons rfl (fun K hK => ?_) AllReadyH.nil
  go_simp
  have neX0 : ¬ (pp5 = w.heap.size) := by omega
  have nfX0 : ¬ (w.heap.size = pp5) := by omega
  have neX2 : ¬ (pp5 = w.heap.size + 1 + 1) := by omega
  have nfX2 : ¬ (w.heap.size + 1 + 1 = pp5) := by omega
  have KEY := Lib.hid (show (fun W => W.cell? ⟨w.heap.size, 0, none⟩ = some (.int .u8 f) ∧ W.cell? ⟨w.heap.size, 1, none⟩ = some (.int .i64 p) ∧ W.cell? ⟨w.heap.size, 2, none⟩ = some (.int .i64 em) ∧ W.cell? ⟨w.heap.size, 3, none⟩ = some (.bool ng) ∧ W.cell? ⟨w.heap.size, 4, none⟩ = some (.int .i64 ex) ∧ W.cell? ⟨w.heap.size, 5, none⟩ = some (.int .u64 x0) ∧ W.cell? ⟨w.heap.size, 6, none⟩ = some (.int .u64 x1) ∧ W.cell? ⟨w.heap.size, 7, none⟩ = some (.int .u64 x2) ∧ W.cell? ⟨w.heap.size, 8, none⟩ = some (.int .u64 x3) ∧ W.cell? ⟨w.heap.size + 1 + 1, 0, none⟩ = some (.int .u64 0) ∧ W.cell? ⟨w.heap.size + 1 + 1, 1, none⟩ = some (.int .u64 0) ∧ W.cell? ⟨w.heap.size + 1 + 1, 2, none⟩ = some (.int .u8 0) ∧ W.frozen? ⟨w.heap.size + 1 + 1, 0, none⟩ = false ∧ W.frozen? ⟨w.heap.size + 1 + 1, 1, none⟩ = false ∧ W.frozen? ⟨w.heap.size + 1 + 1, 2, none⟩ = false ∧ W.cell? ⟨pp5, 0, none⟩ = some (.int .u64 nh) ∧ W.cell? ⟨pp5, 1, none⟩ = some (.int .u64 nl) ∧ W.frozen? ⟨pp5, 0, none⟩ = false ∧ W.frozen? ⟨pp5, 1, none⟩ = false ∧ Below w.heap.size w W) ((w17.setCell ⟨pp5, 0, none⟩ (.int .u64 nh)).setCell ⟨pp5, 1, none⟩ (.int .u64 nl)) from ⟨by go_simp, by go_simp, by go_simp, by go_simp, by go_simp, by go_simp, by go_simp, by go_simp, by go_simp, by go_simp, by go_simp, by go_simp, by go_simp, by go_simp, by go_simp, by go_simp, by go_simp, by go_simp, by go_simp, ((kk.setCell (p := ⟨pp5, 0, none⟩) gX4 _).setCell (p := ⟨pp5, 1, none⟩) gX4 _)⟩)
  clear cX0_0 cX0_1 cX0_2 cX0_3 cX0_4 cX0_5 cX0_6 cX0_7 cX0_8 cX2_0 cX2_1 cX2_2 fX2_0 fX2_1 fX2_2 cX4_0 cX4_1 fX4_0 fX4_1 neX0 nfX0 neX2 nfX2 kk
  refine forget_at (fun W => W.cell? ⟨w.heap.size, 0, none⟩ = some (.int .u8 f) ∧ W.cell? ⟨w.heap.size, 1, none⟩ = some (.int .i64 p) ∧ W.cell? ⟨w.heap.size, 2, none⟩ = some (.int .i64 em) ∧ W.cell? ⟨w.heap.size, 3, none⟩ = some (.bool ng) ∧ W.cell? ⟨w.heap.size, 4, none⟩ = some (.int .i64 ex) ∧ W.cell? ⟨w.heap.size, 5, none⟩ = some (.int .u64 x0) ∧ W.cell? ⟨w.heap.size, 6, none⟩ = some (.int .u64 x1) ∧ W.cell? ⟨w.heap.size, 7, none⟩ = some (.int .u64 x2) ∧ W.cell? ⟨w.heap.size, 8, none⟩ = some (.int .u64 x3) ∧ W.cell? ⟨w.heap.size + 1 + 1, 0, none⟩ = some (.int .u64 0) ∧ W.cell? ⟨w.heap.size + 1 + 1, 1, none⟩ = some (.int .u64 0) ∧ W.cell? ⟨w.heap.size + 1 + 1, 2, none⟩ = some (.int .u8 0) ∧ W.frozen? ⟨w.heap.size + 1 + 1, 0, none⟩ = false ∧ W.frozen? ⟨w.heap.size + 1 + 1, 1, none⟩ = false ∧ W.frozen? ⟨w.heap.size + 1 + 1, 2, none⟩ = false ∧ W.cell? ⟨pp5, 0, none⟩ = some (.int .u64 nh) ∧ W.cell? ⟨pp5, 1, none⟩ = some (.int .u64 nl) ∧ W.frozen? ⟨pp5, 0, none⟩ = false ∧ W.frozen? ⟨pp5, 1, none⟩ = false ∧ Below w.heap.size w W) KEY.out (fun w18 hz => ?_)
  obtain ⟨cX0_0, cX0_1, cX0_2, cX0_3, cX0_4, cX0_5, cX0_6, cX0_7, cX0_8, cX2_0, cX2_1, cX2_2, fX2_0, fX2_1, fX2_2, cX4_0, cX4_1, fX4_0, fX4_1, kk⟩ := hz
  clear KEY
  refine hK.out _ _ ⟨cX0_5, cX0_6, cX0_7, cX0_8, cX0_0, cX0_1, cX0_2, cX0_4, trivial⟩ (fun hHeld => ?_)
  clear hK K
  try simp only [zA, zB, zC, Act.put, zD, zE, zF]
  clear w17
  refine wpAnyH_take (i := 18) (v := ?vq30) rfl (by kernel_rfl) (by kernel_rfl) (by kernel_rfl) (fun _ _ _ h => h) (Or.inl ⟨by rfl, ?yq30⟩) hHeld ?rq30
  case yq30 => (intro wq hb; obtain ⟨lq0, lq1, lq2, lq3, lq4, lq5, lq6, lq7, _⟩ := hb; go_simp; try (with_reducible rfl))
  try simp only [zA, zB, zC, Act.put, zD, zE, zF]
  clear hHeld
  refine wpAnyH_done (by kernel_rfl) ?_ _
  refine NoPanic.normal ?_
  revert kk; revert nX2_X4; revert nX0_X4; revert gX4; revert fX4_1; revert fX4_0; revert cX4_1; revert cX4_0; revert fX2_2; revert fX2_1; revert fX2_0; revert cX2_2; revert cX2_1; revert cX2_0; revert cX0_8; revert cX0_7; revert cX0_6; revert cX0_5; revert cX0_4; revert cX0_3; revert cX0_2; revert cX0_1; revert cX0_0; revert pp5; revert w18
  exact ?restw6
  go_simp
  have nX0_X4 : w.heap.size < w6.heap.size := bL cX0_0
  have nX2_X4 : w.heap.size + 1 + 1 < w6.heap.size := bL cX2_0
  have gX4 : w.heap.size ≤ w6.heap.size := kk.size
  have ha := bA (Below.refl _ w6) (.cells #[.int .u64 0, .int .u64 0] 30)
  have hx := HB.new w6 30 #[.int .u64 0, .int .u64 0]
  replace nvp := nvp.later ha
  replace cX0_0 := cL ha cX0_0; replace cX0_1 := cL ha cX0_1; replace cX0_2 := cL ha cX0_2; replace cX0_3 := cL ha cX0_3; replace cX0_4 := cL ha cX0_4; replace cX0_5 := cL ha cX0_5; replace cX0_6 := cL ha cX0_6; replace cX0_7 := cL ha cX0_7; replace cX0_8 := cL ha cX0_8
  replace fX2_0 := fL ha cX2_0 fX2_0; replace fX2_1 := fL ha cX2_1 fX2_1; replace fX2_2 := fL ha cX2_2 fX2_2
  replace cX2_0 := cL ha cX2_0; replace cX2_1 := cL ha cX2_1; replace cX2_2 := cL ha cX2_2
  replace kk := bC kk ha
  have cX4_0 := hx.cell 0; have fX4_0 := hx.frozen 0; have cX4_1 := hx.cell 1; have fX4_1 := hx.frozen 1; dsimp at cX4_0 cX4_1
  clear ha hx
  refine hK.out _ _ ⟨cX0_5, cX0_6, cX0_7, cX0_8, cX0_0, cX0_1, cX0_2, cX0_4, trivial⟩ (fun hHeld => ?_)
  clear hK K
  generalize w6.alloc (.cells #[.int .u64 0, .int .u64 0] 30) = w19 at *
  generalize w6.heap.size = pp5 at *
  try simp only [zA, zB, zC, Act.put, zD, zE, zF]
  clear w6
  clear hHeld
  refine wpAnyH_ready (rs := [7]) (by kernel_rfl) (by simp) ?_
  refine AllReadyH.cons rfl (fun K hK => ?_) AllReadyH.nil
  go_simp
  (with_reducible refine (h4.out _ (ft.later kk)).mono ?_); rintro e w20 ⟨rfl, hb⟩
  replace nvp := nvp.later hb
  replace cX0_0 := cL hb cX0_0; replace cX0_1 := cL hb cX0_1; replace cX0_2 := cL hb cX0_2; replace cX0_3 := cL hb cX0_3; replace cX0_4 := cL hb cX0_4; replace cX0_5 := cL hb cX0_5; replace cX0_6 := cL hb cX0_6; replace cX0_7 := cL hb cX0_7; replace cX0_8 := cL hb cX0_8
  replace fX2_0 := fL hb cX2_0 fX2_0; replace fX2_1 := fL hb cX2_1 fX2_1; replace fX2_2 := fL hb cX2_2 fX2_2
  replace cX2_0 := cL hb cX2_0; replace cX2_1 := cL hb cX2_1; replace cX2_2 := cL hb cX2_2
  replace fX4_0 := fL hb cX4_0 fX4_0; replace fX4_1 := fL hb cX4_1 fX4_1
  replace cX4_0 := cL hb cX4_0; replace cX4_1 := cL hb cX4_1
  replace kk := bC kk hb
  clear hb
  refine hK.out _ _ ⟨cX0_5, cX0_6, cX0_7, cX0_8, cX0_0, cX0_1, cX0_2, cX0_4, trivial⟩ (fun hHeld => ?_)
  clear hK K
  try simp only [zA, zB, zC, Act.put, zD, zE, zF]
  clear w19
  refine wpAnyH_take (i := 10) (v := ?vq31) rfl (by kernel_rfl) (by kernel_rfl) (by kernel_rfl) (fun _ _ _ h => h) (Or.inl ⟨by rfl, ?yq31⟩) hHeld ?rq31
  case yq31 => (intro wq hb; obtain ⟨lq0, lq1, lq2, lq3, lq4, lq5, lq6, lq7, _⟩ := hb; go_simp; try (with_reducible rfl))
  try simp only [zA, zB, zC, Act.put, zD, zE, zF]
  clear hHeld
  refine wpAnyH_ready (rs := [11]) (by kernel_rfl) (by simp) ?_
  refine AllReadyH.cons rfl (fun K hK => ?_) AllReadyH.nil
  go_simp
  (with_reducible refine (h5.out _).mono ?_); rintro e w21 ⟨rfl, hb⟩
  replace nvp := nvp.later hb
  replace cX0_0 := cL hb cX0_0; replace cX0_1 := cL hb cX0_1; replace cX0_2 := cL hb cX0_2; replace cX0_3 := cL hb cX0_3; replace cX0_4 := cL hb cX0_4; replace cX0_5 := cL hb cX0_5; replace cX0_6 := cL hb cX0_6; replace cX0_7 := cL hb cX0_7; replace cX0_8 := cL hb cX0_8
  replace fX2_0 := fL hb cX2_0 fX2_0; replace fX2_1 := fL hb cX2_1 fX2_1; replace fX2_2 := fL hb cX2_2 fX2_2
  replace cX2_0 := cL hb cX2_0; replace cX2_1 := cL hb cX2_1; replace cX2_2 := cL hb cX2_2
  replace fX4_0 := fL hb cX4_0 fX4_0; replace fX4_1 := fL hb cX4_1 fX4_1
  replace cX4_0 := cL hb cX4_0; replace cX4_1 := cL hb cX4_1
  replace kk := bC kk hb
  clear hb
  refine hK.out _ _ ⟨cX0_5, cX0_6, cX0_7, cX0_8, cX0_0, cX0_1, cX0_2, cX0_4, trivial⟩ (fun hHeld => ?_)
  clear hK K
  try simp only [zA, zB, zC, Act.put, zD, zE, zF]
  clear w20
  clear hHeld
  refine wpAnyH_ready (rs := [12]) (by kernel_rfl) (by simp) ?_
  refine AllReadyH.cons rfl (fun K hK => ?_) AllReadyH.nil
  go_simp
  (with_reducible refine (CN.out _ _ nvp).mono ?_); rintro e w22 ⟨rfl, hb⟩
  replace nvp := nvp.later hb
  replace cX0_0 := cL hb cX0_0; replace cX0_1 := cL hb cX0_1; replace cX0_2 := cL hb cX0_2; replace cX0_3 := cL hb cX0_3; replace cX0_4 := cL hb cX0_4; replace cX0_5 := cL hb cX0_5; replace cX0_6 := cL hb cX0_6; replace cX0_7 := cL hb cX0_7; replace cX0_8 := cL hb cX0_8
  replace fX2_0 := fL hb cX2_0 fX2_0; replace fX2_1 := fL hb cX2_1 fX2_1; replace fX2_2 := fL hb cX2_2 fX2_2
  replace cX2_0 := cL hb cX2_0; replace cX2_1 := cL hb cX2_1; replace cX2_2 := cL hb cX2_2
  replace fX4_0 := fL hb cX4_0 fX4_0; replace fX4_1 := fL hb cX4_1 fX4_1
  replace cX4_0 := cL hb cX4_0; replace cX4_1 := cL hb cX4_1
  replace kk := bC kk hb
  clear hb
  clear nvp
  refine hK.out _ _ ⟨cX0_5, cX0_6, cX0_7, cX0_8, cX0_0, cX0_1, cX0_2, cX0_4, trivial⟩ (fun hHeld => ?_)
  clear hK K
  try simp only [zA, zB, zC, Act.put, zD, zE, zF]
  clear w21
  refine wpAnyH_take (i := 13) (v := ?vq32) rfl (by kernel_rfl) (by kernel_rfl) (by kernel_rfl) (fun _ _ _ h => h) (Or.inl ⟨by rfl, ?yq32⟩) hHeld ?rq32
  case yq32 => (intro wq hb; obtain ⟨lq0, lq1, lq2, lq3, lq4, lq5, lq6, lq7, _⟩ := hb; go_simp; try (with_reducible rfl))
  try simp only [zA, zB, zC, Act.put, zD, zE, zF]
  refine wpAnyH_take (i := 14) (v := ?vq33) rfl (by kernel_rfl) (by kernel_rfl) (by kernel_rfl) (fun _ _ _ h => h) (Or.inl ⟨by rfl, ?yq33⟩) hHeld ?rq33
  case yq33 => (intro wq hb; obtain ⟨lq0, lq1, lq2, lq3, lq4, lq5, lq6, lq7, _⟩ := hb; go_simp; try (with_reducible rfl))
  try simp only [zA, zB, zC, Act.put, zD, zE, zF]
  refine wpAnyH_take (i := 15) (v := ?vq34) rfl (by kernel_rfl) (by kernel_rfl) (by kernel_rfl) (fun _ _ _ h => h) (Or.inl ⟨by rfl, ?yq34⟩) hHeld ?rq34
  case yq34 => (intro wq hb; obtain ⟨lq0, lq1, lq2, lq3, lq4, lq5, lq6, lq7, _⟩ := hb; go_simp; try (with_reducible rfl))
  try simp only [zA, zB, zC, Act.put, zD, zE, zF]
  clear hHeld
  refine wpAnyH_ready (rs := [17]) (by kernel_rfl) (by simp) ?_
  refine AllReadyH.cons rfl (fun K hK => ?_) AllReadyH.nil
  go_simp
  have neX0 : ¬ (pp5 = w.heap.size) := by omega
  have nfX0 : ¬ (w.heap.size = pp5) := by omega
  have neX2 : ¬ (pp5 = w.heap.size + 1 + 1) := by omega
  have nfX2 : ¬ (w.heap.size + 1 + 1 = pp5) := by omega
  have KEY := Lib.hid (show (fun W => W.cell? ⟨w.heap.size, 0, none⟩ = some (.int .u8 f) ∧ W.cell? ⟨w.heap.size, 1, none⟩ = some (.int .i64 p) ∧ W.cell? ⟨w.heap.size, 2, none⟩ = some (.int .i64 em) ∧ W.cell? ⟨w.heap.size, 3, none⟩ = some (.bool ng) ∧ W.cell? ⟨w.heap.size, 4, none⟩ = some (.int .i64 ex) ∧ W.cell? ⟨w.heap.size, 5, none⟩ = some (.int .u64 x0) ∧ W.cell? ⟨w.heap.size, 6, none⟩ = some (.int .u64 x1) ∧ W.cell? ⟨w.heap.size, 7, none⟩ = some (.int .u64 x2) ∧ W.cell? ⟨w.heap.size, 8, none⟩ = some (.int .u64 x3) ∧ W.cell? ⟨w.heap.size + 1 + 1, 0, none⟩ = some (.int .u64 0) ∧ W.cell? ⟨w.heap.size + 1 + 1, 1, none⟩ = some (.int .u64 0) ∧ W.cell? ⟨w.heap.size + 1 + 1, 2, none⟩ = some (.int .u8 0) ∧ W.frozen? ⟨w.heap.size + 1 + 1, 0, none⟩ = false ∧ W.frozen? ⟨w.heap.size + 1 + 1, 1, none⟩ = false ∧ W.frozen? ⟨w.heap.size + 1 + 1, 2, none⟩ = false ∧ W.cell? ⟨pp5, 0, none⟩ = some (.int .u64 nh) ∧ W.cell? ⟨pp5, 1, none⟩ = some (.int .u64 nl) ∧ W.frozen? ⟨pp5, 0, none⟩ = false ∧ W.frozen? ⟨pp5, 1, none⟩ = false ∧ Below w.heap.size w W) ((w22.setCell ⟨pp5, 0, none⟩ (.int .u64 nh)).setCell ⟨pp5, 1, none⟩ (.int .u64 nl)) from ⟨by go_simp, by go_simp, by go_simp, by go_simp, by go_simp, by go_simp, by go_simp, by go_simp, by go_simp, by go_simp, by go_simp, by go_simp, by go_simp, by go_simp, by go_simp, by go_simp, by go_simp, by go_simp, by go_simp, ((kk.setCell (p := ⟨pp5, 0, none⟩) gX4 _).setCell (p := ⟨pp5, 1, none⟩) gX4 _)⟩)
  clear cX0_0 cX0_1 cX0_2 cX0_3 cX0_4 cX0_5 cX0_6 cX0_7 cX0_8 cX2_0 cX2_1 cX2_2 fX2_0 fX2_1 fX2_2 cX4_0 cX4_1 fX4_0 fX4_1 neX0 nfX0 neX2 nfX2 kk
  refine forget_at (fun W => W.cell? ⟨w.heap.size, 0, none⟩ = some (.int .u8 f) ∧ W.cell? ⟨w.heap.size, 1, none⟩ = some (.int .i64 p) ∧ W.cell? ⟨w.heap.size, 2, none⟩ = some (.int .i64 em) ∧ W.cell? ⟨w.heap.size, 3, none⟩ = some (.bool ng) ∧ W.cell? ⟨w.heap.size, 4, none⟩ = some (.int .i64 ex) ∧ W.cell? ⟨w.heap.size, 5, none⟩ = some (.int .u64 x0) ∧ W.cell? ⟨w.heap.size, 6, none⟩ = some (.int .u64 x1) ∧ W.cell? ⟨w.heap.size, 7, none⟩ = some (.int .u64 x2) ∧ W.cell? ⟨w.heap.size, 8, none⟩ = some (.int .u64 x3) ∧ W.cell? ⟨w.heap.size + 1 + 1, 0, none⟩ = some (.int .u64 0) ∧ W.cell? ⟨w.heap.size + 1 + 1, 1, none⟩ = some (.int .u64 0) ∧ W.cell? ⟨w.heap.size + 1 + 1, 2, none⟩ = some (.int .u8 0) ∧ W.frozen? ⟨w.heap.size + 1 + 1, 0, none⟩ = false ∧ W.frozen? ⟨w.heap.size + 1 + 1, 1, none⟩ = false ∧ W.frozen? ⟨w.heap.size + 1 + 1, 2, none⟩ = false ∧ W.cell? ⟨pp5, 0, none⟩ = some (.int .u64 nh) ∧ W.cell? ⟨pp5, 1, none⟩ = some (.int .u64 nl) ∧ W.frozen? ⟨pp5, 0, none⟩ = false ∧ W.frozen? ⟨pp5, 1, none⟩ = false ∧ Below w.heap.size w W) KEY.out (fun w23 hz => ?_)
  obtain ⟨cX0_0, cX0_1, cX0_2, cX0_3, cX0_4, cX0_5, cX0_6, cX0_7, cX0_8, cX2_0, cX2_1, cX2_2, fX2_0, fX2_1, fX2_2, cX4_0, cX4_1, fX4_0, fX4_1, kk⟩ := hz
  clear KEY
  refine hK.out _ _ ⟨cX0_5, cX0_6, cX0_7, cX0_8, cX0_0, cX0_1, cX0_2, cX0_4, trivial⟩ (fun hHeld => ?_)
  clear hK K
  try simp only [zA, zB, zC, Act.put, zD, zE, zF]
  clear w22
  refine wpAnyH_take (i := 18) (v := ?vq35) rfl (by kernel_rfl) (by kernel_rfl) (by kernel_rfl) (fun _ _ _ h => h) (Or.inl ⟨by rfl, ?yq35⟩) hHeld ?rq35
  case yq35 => (intro wq hb; obtain ⟨lq0, lq1, lq2, lq3, lq4, lq5, lq6, lq7, _⟩ := hb; go_simp; try (with_reducible rfl))
  try simp only [zA, zB, zC, Act.put, zD, zE, zF]
  clear hHeld
  refine wpAnyH_done (by kernel_rfl) ?_ _
  refine NoPanic.normal ?_
  revert kk; revert nX2_X4; revert nX0_X4; revert gX4; revert fX4_1; revert fX4_0; revert cX4_1; revert cX4_0; revert fX2_2; revert fX2_1; revert fX2_0; revert cX2_2; revert cX2_1; revert cX2_0; revert cX0_8; revert cX0_7; revert cX0_6; revert cX0_5; revert cX0_4; revert cX0_3; revert cX0_2; revert cX0_1; revert cX0_0; revert pp5; revert w23
  exact ?restw6
  intro w24 pp5 cX0_0 cX0_1 cX0_2 cX0_3 cX0_4 cX0_5 cX0_6 cX0_7 cX0_8 cX2_0 cX2_1 cX2_2 fX2_0 fX2_1 fX2_2 cX4_0 cX4_1 fX4_0 fX4_1 gX4 nX0_X4 nX2_X4 kk
  have sX0 : w.heap.size < w24.heap.size := bL cX0_0
  have sX2 : w.heap.size + 1 + 1 < w24.heap.size ∧ w.heap.size + 1 < w24.heap.size := by have h : w.heap.size + 1 + 1 < w24.heap.size := bL cX2_0; exact ⟨h, by omega⟩
  have sX4 : pp5 < w24.heap.size := bL cX4_0
  clear fX4_0 fX4_1
  go_wp2_with fail
  (with_reducible refine (h7.out _ (ft.later kk)).mono ?_); rintro e w25 ⟨rfl, hb⟩
  clear cX0_0 cX0_1 cX0_2 cX0_3 cX0_4 cX0_5 cX0_6 cX0_7 cX0_8 sX0
  replace fX2_0 := fL hb cX2_0 fX2_0; replace fX2_1 := fL hb cX2_1 fX2_1; replace fX2_2 := fL hb cX2_2 fX2_2
  replace cX2_0 := cL hb cX2_0; replace cX2_1 := cL hb cX2_1; replace cX2_2 := cL hb cX2_2
  replace sX2 : w.heap.size + 1 + 1 < w25.heap.size ∧ w.heap.size + 1 < w25.heap.size := by have h : w.heap.size + 1 + 1 < w25.heap.size := bL cX2_0; exact ⟨h, by omega⟩
  clear cX4_0 cX4_1 sX4
  replace kk := bC kk hb
  clear hb
  have KEY : Hid ((fun W : World => W.cell? ⟨w.heap.size + 1 + 1, 0, none⟩ = some (.int .u64 rh) ∧ W.cell? ⟨w.heap.size + 1 + 1, 1, none⟩ = some (.int .u64 rl) ∧ W.cell? ⟨w.heap.size + 1 + 1, 2, none⟩ = some (.int .u8 0) ∧ Below w.heap.size w W) ((((w25.setCell ⟨w.heap.size + 1 + 1, 0, none⟩ (.int .u64 rh)).setCell ⟨w.heap.size + 1 + 1, 1, none⟩ (.int .u64 rl)).setCell ⟨w.heap.size + 1 + 1, 2, none⟩ (.int .u8 0)).alloc (.cells #[.int .u64 rh, .int .u64 rl, .int .u8 0] 33))) := Lib.hid ⟨by go_simp, by go_simp, by go_simp, (bA (((kk.setCell (p := ⟨w.heap.size + 1 + 1, 0, none⟩) gX2 _).setCell (p := ⟨w.heap.size + 1 + 1, 1, none⟩) gX2 _).setCell (p := ⟨w.heap.size + 1 + 1, 2, none⟩) gX2 _) _)⟩
  go_wp2_with fail
  obtain ⟨e0, e1, e2, kb⟩ := KEY.out
  clear KEY cX2_0 cX2_1 cX2_2 fX2_0 fX2_1 fX2_2
  refine bodyPost_ret (v := .agg #[.int .u64 rh, .int .u64 rl, .int .u8 0]) ?_ rfl ⟨rfl, kb⟩
  simp [results, Tryz.results20, go_sem, e0, e1, e2]

set_option maxHeartbeats 4000000 in
set_option maxRecDepth 100000 in
theorem pk_round_inexact (f p em ex m uh ul af l d nh nl rh rl fl x0 x1 x2 x3 j0 j1 j2 j3 : Int) (ng t i0 : Bool)
    (h2 : Hid (∀ w, FTab w → Calls Tryz.prog 43 #[.agg #[.int .u8 f, .int .i64 p, .int .i64 em], .int .i64 ex, .agg #[.int .u64 uh, .int .u64 ul]] w fun e w' => e = .returned (.int .i64 af) ∧ Below w.heap.size w w'))
    (h3 : Hid (∀ w, FTab w → Calls Tryz.prog 44 #[.agg #[.int .u8 f, .int .i64 p, .int .i64 em], .int .i64 af] w fun e w' => e = .returned (.bool false) ∧ Below w.heap.size w w'))
    (h4 : Hid (∀ w, FTab w → Calls Tryz.prog 47 #[.agg #[.int .u8 f, .int .i64 p, .int .i64 em], .int .i64 ex] w fun e w' => e = .returned (.int .i64 l) ∧ Below w.heap.size w w'))
    (h5 : Hid (∀ w, Calls Tryz.prog 46 #[.agg #[.int .u64 x0, .int .u64 x1, .int .u64 x2, .int .u64 x3], .int .i64 d] w fun e w' => e = .returned (.agg #[.int .u64 j0, .int .u64 j1, .int .u64 j2, .int .u64 j3]) ∧ Below w.heap.size w w'))
    (h7 : Hid (∀ w, FTab w → Calls Tryz.prog 48 #[.agg #[.int .u8 f, .int .i64 p, .int .i64 em, .bool ng, .int .i64 ex, .int .u64 x0, .int .u64 x1, .int .u64 x2, .int .u64 x3], .agg #[.int .u64 nh, .int .u64 nl]] w fun e w' => e = .returned (.agg #[.int .u64 rh, .int .u64 rl]) ∧ Below w.heap.size w w'))
    (h8 : Hid (∀ w, FTab w → Calls Tryz.prog 49 #[.agg #[.int .u8 f, .int .i64 p, .int .i64 em, .bool ng, .int .i64 ex, .int .u64 x0, .int .u64 x1, .int .u64 x2, .int .u64 x3], .agg #[.int .u8 m, .bool t], .int .i64 af] w fun e w' => e = .returned (.int .u8 fl) ∧ Below w.heap.size w w')) (RN : Hid (∀ w, Calls Tryz.prog 42 #[.int .i64 p, .int .u8 m, .bool ng] w fun e w' => ∃ vp, e = .returned (.func (.func 90) #[] #[.pointer (some ⟨vp.1, 0, none⟩), .pointer (some ⟨vp.2.1, 0, none⟩), .pointer (some ⟨vp.2.2, 0, none⟩)]) ∧ RoundIn w' p m ng vp ∧ Below w.heap.size w w')) (CU : Hid (∀ vp w, RoundIn w p m ng vp → Calls Tryz.prog 90 #[.agg #[.int .u64 x0, .int .u64 x1, .int .u64 x2, .int .u64 x3], .pointer (some ⟨vp.1, 0, none⟩), .pointer (some ⟨vp.2.1, 0, none⟩), .pointer (some ⟨vp.2.2, 0, none⟩)] w fun e w' => e = .returned (.tuple #[.agg #[.int .u64 uh, .int .u64 ul], .bool i0]) ∧ Below w.heap.size w w')) (CN : Hid (∀ vp w, RoundIn w p m ng vp → Calls Tryz.prog 90 #[.agg #[.int .u64 j0, .int .u64 j1, .int .u64 j2, .int .u64 j3], .pointer (some ⟨vp.1, 0, none⟩), .pointer (some ⟨vp.2.1, 0, none⟩), .pointer (some ⟨vp.2.2, 0, none⟩)] w fun e w' => e = .returned (.tuple #[.agg #[.int .u64 nh, .int .u64 nl], .bool true]) ∧ Below w.heap.size w w')) (w1 : IntKind.i64.wrap (l - ex) = d) (w : World) (ft : FTab w) :
    Calls Tryz.prog 20 #[.agg #[.int .u8 f, .int .i64 p, .int .i64 em, .bool ng, .int .i64 ex, .int .u64 x0, .int .u64 x1, .int .u64 x2, .int .u64 x3], .agg #[.int .u8 m, .bool t]] w fun e w' => e = .returned (.agg #[.int .u64 rh, .int .u64 rl, .int .u8 fl]) ∧ Below w.heap.size w w' := by
  go_enter Tryz.func20, Tryz.ntmps20
  go_wp2_with fail
  (with_reducible refine (RN.out _).mono ?_); rintro e w1 ⟨vp, rfl, nvp, hb⟩
  have hz := bC (bA (bA (bA (Below.refl _ _) _) _) _) hb
  have gX2 : w.heap.size ≤ w.heap.size + 1 + 1 := by omega
  have cX0_0 := cL hb (a := ⟨w.heap.size, 0, none⟩) (v := .int .u8 f) (by go_simp)
  have cX0_1 := cL hb (a := ⟨w.heap.size, 1, none⟩) (v := .int .i64 p) (by go_simp)
  have cX0_2 := cL hb (a := ⟨w.heap.size, 2, none⟩) (v := .int .i64 em) (by go_simp)
  have cX0_3 := cL hb (a := ⟨w.heap.size, 3, none⟩) (v := .bool ng) (by go_simp)
  have cX0_4 := cL hb (a := ⟨w.heap.size, 4, none⟩) (v := .int .i64 ex) (by go_simp)
  have cX0_5 := cL hb (a := ⟨w.heap.size, 5, none⟩) (v := .int .u64 x0) (by go_simp)
  have cX0_6 := cL hb (a := ⟨w.heap.size, 6, none⟩) (v := .int .u64 x1) (by go_simp)
  have cX0_7 := cL hb (a := ⟨w.heap.size, 7, none⟩) (v := .int .u64 x2) (by go_simp)
  have cX0_8 := cL hb (a := ⟨w.heap.size, 8, none⟩) (v := .int .u64 x3) (by go_simp)
  have sX0 : w.heap.size < w1.heap.size := bL cX0_0
  have cX1_0 := cL hb (a := ⟨w.heap.size + 1, 0, none⟩) (v := .int .u8 m) (by go_simp)
  have cX1_1 := cL hb (a := ⟨w.heap.size + 1, 1, none⟩) (v := .bool t) (by go_simp)
  have sX1 : w.heap.size + 1 < w1.heap.size ∧ w.heap.size < w1.heap.size := by have h : w.heap.size + 1 < w1.heap.size := bL cX1_0; exact ⟨h, by omega⟩
  have cX2_0 := cL hb (a := ⟨w.heap.size + 1 + 1, 0, none⟩) (v := .int .u64 0) (by go_simp)
  have cX2_1 := cL hb (a := ⟨w.heap.size + 1 + 1, 1, none⟩) (v := .int .u64 0) (by go_simp)
  have cX2_2 := cL hb (a := ⟨w.heap.size + 1 + 1, 2, none⟩) (v := .int .u8 0) (by go_simp)
  have sX2 : w.heap.size + 1 + 1 < w1.heap.size ∧ w.heap.size + 1 < w1.heap.size := by have h : w.heap.size + 1 + 1 < w1.heap.size := bL cX2_0; exact ⟨h, by omega⟩
  have fX2_0 := fL hb (a := ⟨w.heap.size + 1 + 1, 0, none⟩) (v := .int .u64 0) (by go_simp) (by go_simp)
  have fX2_1 := fL hb (a := ⟨w.heap.size + 1 + 1, 1, none⟩) (v := .int .u64 0) (by go_simp) (by go_simp)
  have fX2_2 := fL hb (a := ⟨w.heap.size + 1 + 1, 2, none⟩) (v := .int .u8 0) (by go_simp) (by go_simp)
  have kk := hz
  clear hb hz
  go_wp2_with fail
  (with_reducible refine (CU.out _ _ nvp).mono ?_); rintro e w2 ⟨rfl, hb⟩
  replace nvp := nvp.later hb
  replace cX0_0 := cL hb cX0_0; replace cX0_1 := cL hb cX0_1; replace cX0_2 := cL hb cX0_2; replace cX0_3 := cL hb cX0_3; replace cX0_4 := cL hb cX0_4; replace cX0_5 := cL hb cX0_5; replace cX0_6 := cL hb cX0_6; replace cX0_7 := cL hb cX0_7; replace cX0_8 := cL hb cX0_8
  replace sX0 : w.heap.size < w2.heap.size := bL cX0_0
  replace cX1_0 := cL hb cX1_0; replace cX1_1 := cL hb cX1_1
  replace sX1 : w.heap.size + 1 < w2.heap.size ∧ w.heap.size < w2.heap.size := by have h : w.heap.size + 1 < w2.heap.size := bL cX1_0; exact ⟨h, by omega⟩
  replace fX2_0 := fL hb cX2_0 fX2_0; replace fX2_1 := fL hb cX2_1 fX2_1; replace fX2_2 := fL hb cX2_2 fX2_2
  replace cX2_0 := cL hb cX2_0; replace cX2_1 := cL hb cX2_1; replace cX2_2 := cL hb cX2_2
  replace sX2 : w.heap.size + 1 + 1 < w2.heap.size ∧ w.heap.size + 1 < w2.heap.size := by have h : w.heap.size + 1 + 1 < w2.heap.size := bL cX2_0; exact ⟨h, by omega⟩
  replace kk := bC kk hb
  clear hb
  go_wp2_with fail
  (with_reducible refine (h2.out _ (ft.later (bC kk (bA (Below.refl _ _) _)))).mono ?_); rintro e w3 ⟨rfl, hb⟩
  have hz := bC (bA (Below.refl _ _) _) hb
  replace nvp := nvp.later hz
  replace cX0_0 := cL hz cX0_0; replace cX0_1 := cL hz cX0_1; replace cX0_2 := cL hz cX0_2; replace cX0_3 := cL hz cX0_3; replace cX0_4 := cL hz cX0_4; replace cX0_5 := cL hz cX0_5; replace cX0_6 := cL hz cX0_6; replace cX0_7 := cL hz cX0_7; replace cX0_8 := cL hz cX0_8
  replace sX0 : w.heap.size < w3.heap.size := bL cX0_0
  replace cX1_0 := cL hz cX1_0; replace cX1_1 := cL hz cX1_1
  replace sX1 : w.heap.size + 1 < w3.heap.size ∧ w.heap.size < w3.heap.size := by have h : w.heap.size + 1 < w3.heap.size := bL cX1_0; exact ⟨h, by omega⟩
  replace fX2_0 := fL hz cX2_0 fX2_0; replace fX2_1 := fL hz cX2_1 fX2_1; replace fX2_2 := fL hz cX2_2 fX2_2
  replace cX2_0 := cL hz cX2_0; replace cX2_1 := cL hz cX2_1; replace cX2_2 := cL hz cX2_2
  replace sX2 : w.heap.size + 1 + 1 < w3.heap.size ∧ w.heap.size + 1 < w3.heap.size := by have h : w.heap.size + 1 + 1 < w3.heap.size := bL cX2_0; exact ⟨h, by omega⟩
  replace kk := bC kk hz
  clear hb hz
  go_wp2_with fail
  (with_reducible refine (h3.out _ (ft.later kk)).mono ?_); rintro e w4 ⟨rfl, hb⟩
  replace nvp := nvp.later hb
  replace cX0_0 := cL hb cX0_0; replace cX0_1 := cL hb cX0_1; replace cX0_2 := cL hb cX0_2; replace cX0_3 := cL hb cX0_3; replace cX0_4 := cL hb cX0_4; replace cX0_5 := cL hb cX0_5; replace cX0_6 := cL hb cX0_6; replace cX0_7 := cL hb cX0_7; replace cX0_8 := cL hb cX0_8
  replace sX0 : w.heap.size < w4.heap.size := bL cX0_0
  replace cX1_0 := cL hb cX1_0; replace cX1_1 := cL hb cX1_1
  replace sX1 : w.heap.size + 1 < w4.heap.size ∧ w.heap.size < w4.heap.size := by have h : w.heap.size + 1 < w4.heap.size := bL cX1_0; exact ⟨h, by omega⟩
  replace fX2_0 := fL hb cX2_0 fX2_0; replace fX2_1 := fL hb cX2_1 fX2_1; replace fX2_2 := fL hb cX2_2 fX2_2
  replace cX2_0 := cL hb cX2_0; replace cX2_1 := cL hb cX2_1; replace cX2_2 := cL hb cX2_2
  replace sX2 : w.heap.size + 1 + 1 < w4.heap.size ∧ w.heap.size + 1 < w4.heap.size := by have h : w.heap.size + 1 + 1 < w4.heap.size := bL cX2_0; exact ⟨h, by omega⟩
  replace kk := bC kk hb
  clear hb
  go_wp2_with fail
  clear sX0
  clear sX1
  clear sX2
  refine wp_region_noPanic ?_
  refine wp_region_held_drew (S := fun w' => w'.cell? ⟨w.heap.size, 5, none⟩ = some (.int .u64 x0) ∧ w'.cell? ⟨w.heap.size, 6, none⟩ = some (.int .u64 x1) ∧ w'.cell? ⟨w.heap.size, 7, none⟩ = some (.int .u64 x2) ∧ w'.cell? ⟨w.heap.size, 8, none⟩ = some (.int .u64 x3) ∧ w'.cell? ⟨w.heap.size, 0, none⟩ = some (.int .u8 f) ∧ w'.cell? ⟨w.heap.size, 1, none⟩ = some (.int .i64 p) ∧ w'.cell? ⟨w.heap.size, 2, none⟩ = some (.int .i64 em) ∧ w'.cell? ⟨w.heap.size, 4, none⟩ = some (.int .i64 ex) ∧ True) (by kernel_rfl) ⟨cL (Below.refl _ _).drew cX0_5, cL (Below.refl _ _).drew cX0_6, cL (Below.refl _ _).drew cX0_7, cL (Below.refl _ _).drew cX0_8, cL (Below.refl _ _).drew cX0_0, cL (Below.refl _ _).drew cX0_1, cL (Below.refl _ _).drew cX0_2, cL (Below.refl _ _).drew cX0_4, trivial⟩ (fun hHeld => ?_)
  replace nvp := nvp.later (Below.refl _ _).drew
  replace cX0_0 := cL (Below.refl _ _).drew cX0_0; replace cX0_1 := cL (Below.refl _ _).drew cX0_1; replace cX0_2 := cL (Below.refl _ _).drew cX0_2; replace cX0_3 := cL (Below.refl _ _).drew cX0_3; replace cX0_4 := cL (Below.refl _ _).drew cX0_4; replace cX0_5 := cL (Below.refl _ _).drew cX0_5; replace cX0_6 := cL (Below.refl _ _).drew cX0_6; replace cX0_7 := cL (Below.refl _ _).drew cX0_7; replace cX0_8 := cL (Below.refl _ _).drew cX0_8
  replace cX1_0 := cL (Below.refl _ _).drew cX1_0; replace cX1_1 := cL (Below.refl _ _).drew cX1_1
  replace fX2_0 := fL (Below.refl _ _).drew cX2_0 fX2_0; replace fX2_1 := fL (Below.refl _ _).drew cX2_1 fX2_1; replace fX2_2 := fL (Below.refl _ _).drew cX2_2 fX2_2
  replace cX2_0 := cL (Below.refl _ _).drew cX2_0; replace cX2_1 := cL (Below.refl _ _).drew cX2_1; replace cX2_2 := cL (Below.refl _ _).drew cX2_2
  replace kk := bC kk (Below.refl _ _).drew
  generalize World.drew _ = w6 at *
  refine wpAnyH_take (i := 0) (v := ?vq36) rfl (by kernel_rfl) (by kernel_rfl) (by kernel_rfl) (fun _ _ _ h => h) (Or.inl ⟨by rfl, ?yq36⟩) hHeld ?rq36
  case yq36 => (intro wq hb; obtain ⟨lq0, lq1, lq2, lq3, lq4, lq5, lq6, lq7, _⟩ := hb; go_simp; try (with_reducible rfl))
  try simp only [zA, zB, zC, Act.put, zD, zE, zF]
  refine wpAnyH_take (i := 1) (v := ?vq37) rfl (by kernel_rfl) (by kernel_rfl) (by kernel_rfl) (fun _ _ _ h => h) (Or.inl ⟨by rfl, ?yq37⟩) hHeld ?rq37
  case yq37 => (intro wq hb; obtain ⟨lq0, lq1, lq2, lq3, lq4, lq5, lq6, lq7, _⟩ := hb; go_simp; try (with_reducible rfl))
  try simp only [zA, zB, zC, Act.put, zD, zE, zF]
  refine wpAnyH_take (i := 2) (v := ?vq38) rfl (by kernel_rfl) (by kernel_rfl) (by kernel_rfl) (fun _ _ _ h => h) (Or.inl ⟨by rfl, ?yq38⟩) hHeld ?rq38
  case yq38 => (intro wq hb; obtain ⟨lq0, lq1, lq2, lq3, lq4, lq5, lq6, lq7, _⟩ := hb; go_simp; try (with_reducible rfl))
  try simp only [zA, zB, zC, Act.put, zD, zE, zF]
  refine wpAnyH_take (i := 3) (v := ?vq39) rfl (by kernel_rfl) (by kernel_rfl) (by kernel_rfl) (fun _ _ _ h => h) (Or.inl ⟨by rfl, ?yq39⟩) hHeld ?rq39
  case yq39 => (intro wq hb; obtain ⟨lq0, lq1, lq2, lq3, lq4, lq5, lq6, lq7, _⟩ := hb; go_simp; try (with_reducible rfl))
  try simp only [zA, zB, zC, Act.put, zD, zE, zF]
  refine wpAnyH_take (i := 4) (v := ?vq40) rfl (by kernel_rfl) (by kernel_rfl) (by kernel_rfl) (fun _ _ _ h => h) (Or.inl ⟨by rfl, ?yq40⟩) hHeld ?rq40
  case yq40 => (intro wq hb; obtain ⟨lq0, lq1, lq2, lq3, lq4, lq5, lq6, lq7, _⟩ := hb; go_simp; try (with_reducible rfl))
  try simp only [zA, zB, zC, Act.put, zD, zE, zF]
  refine wpAnyH_take (i := 5) (v := ?vq41) rfl (by kernel_rfl) (by kernel_rfl) (by kernel_rfl) (fun _ _ _ h => h) (Or.inl ⟨by rfl, ?yq41⟩) hHeld ?rq41
  case yq41 => (intro wq hb; obtain ⟨lq0, lq1, lq2, lq3, lq4, lq5, lq6, lq7, _⟩ := hb; go_simp; try (with_reducible rfl))
  try simp only [zA, zB, zC, Act.put, zD, zE, zF]
  refine wpAnyH_take (i := 6) (v := ?vq42) rfl (by kernel_rfl) (by kernel_rfl) (by kernel_rfl) (fun _ _ _ h => h) (Or.inl ⟨by rfl, ?yq42⟩) hHeld ?rq42
  case yq42 => (intro wq hb; obtain ⟨lq0, lq1, lq2, lq3, lq4, lq5, lq6, lq7, _⟩ := hb; go_simp; try (with_reducible rfl))
  try simp only [zA, zB, zC, Act.put, zD, zE, zF]
  refine wpAnyH_take (i := 8) (v := ?vq43) rfl (by kernel_rfl) (by kernel_rfl) (by kernel_rfl) (fun _ _ _ h => h) (Or.inl ⟨by rfl, ?yq43⟩) hHeld ?rq43
  case yq43 => (intro wq hb; obtain ⟨lq0, lq1, lq2, lq3, lq4, lq5, lq6, lq7, _⟩ := hb; go_simp; try (with_reducible rfl))
  try simp only [zA, zB, zC, Act.put, zD, zE, zF]
  refine wpAnyH_take (i := 9) (v := ?vq44) rfl (by kernel_rfl) (by kernel_rfl) (by kernel_rfl) (fun _ _ _ h => h) (Or.inl ⟨by rfl, ?yq44⟩) hHeld ?rq44
  case yq44 => (intro wq hb; obtain ⟨lq0, lq1, lq2, lq3, lq4, lq5, lq6, lq7, _⟩ := hb; go_simp; try (with_reducible rfl))
  try simp only [zA, zB, zC, Act.put, zD, zE, zF]
  clear hHeld
  refine wpAnyH_ready (rs := [7, 16]) (by kernel_rfl) (by simp) ?_
  refine AllReadyH.cons rfl (fun K hK => ?_) (AllReadyH.cons rfl (fun K hK => ?_) AllReadyH.nil)
  go_simp
  (with_reducible refine (h4.out _ (ft.later kk)).mono ?_); rintro e w7 ⟨rfl, hb⟩
  replace nvp := nvp.later hb
  replace cX0_0 := cL hb cX0_0; replace cX0_1 := cL hb cX0_1; replace cX0_2 := cL hb cX0_2; replace cX0_3 := cL hb cX0_3; replace cX0_4 := cL hb cX0_4; replace cX0_5 := cL hb cX0_5; replace cX0_6 := cL hb cX0_6; replace cX0_7 := cL hb cX0_7; replace cX0_8 := cL hb cX0_8
  replace cX1_0 := cL hb cX1_0; replace cX1_1 := cL hb cX1_1
  replace fX2_0 := fL hb cX2_0 fX2_0; replace fX2_1 := fL hb cX2_1 fX2_1; replace fX2_2 := fL hb cX2_2 fX2_2
  replace cX2_0 := cL hb cX2_0; replace cX2_1 := cL hb cX2_1; replace cX2_2 := cL hb cX2_2
  replace kk := bC kk hb
  clear hb
  refine hK.out _ _ ⟨cX0_5, cX0_6, cX0_7, cX0_8, cX0_0, cX0_1, cX0_2, cX0_4, trivial⟩ (fun hHeld => ?_)
  clear hK K
  try simp only [zA, zB, zC, Act.put, zD, zE, zF]
  clear w6
  refine wpAnyH_take (i := 10) (v := ?vq45) rfl (by kernel_rfl) (by kernel_rfl) (by kernel_rfl) (fun _ _ _ h => h) (Or.inl ⟨by rfl, ?yq45⟩) hHeld ?rq45
  case yq45 => (intro wq hb; obtain ⟨lq0, lq1, lq2, lq3, lq4, lq5, lq6, lq7, _⟩ := hb; go_simp; try (with_reducible rfl))
  try simp only [zA, zB, zC, Act.put, zD, zE, zF]
  clear hHeld
  refine wpAnyH_ready (rs := [11, 16]) (by kernel_rfl) (by simp) ?_
  refine AllReadyH.cons rfl (fun K hK => ?_) (AllReadyH.cons rfl (fun K hK => ?_) AllReadyH.nil)
  go_simp
  (with_reducible refine (h5.out _).mono ?_); rintro e w8 ⟨rfl, hb⟩
  replace nvp := nvp.later hb
  replace cX0_0 := cL hb cX0_0; replace cX0_1 := cL hb cX0_1; replace cX0_2 := cL hb cX0_2; replace cX0_3 := cL hb cX0_3; replace cX0_4 := cL hb cX0_4; replace cX0_5 := cL hb cX0_5; replace cX0_6 := cL hb cX0_6; replace cX0_7 := cL hb cX0_7; replace cX0_8 := cL hb cX0_8
  replace cX1_0 := cL hb cX1_0; replace cX1_1 := cL hb cX1_1
  replace fX2_0 := fL hb cX2_0 fX2_0; replace fX2_1 := fL hb cX2_1 fX2_1; replace fX2_2 := fL hb cX2_2 fX2_2
  replace cX2_0 := cL hb cX2_0; replace cX2_1 := cL hb cX2_1; replace cX2_2 := cL hb cX2_2
  replace kk := bC kk hb
  clear hb
  refine hK.out _ _ ⟨cX0_5, cX0_6, cX0_7, cX0_8, cX0_0, cX0_1, cX0_2, cX0_4, trivial⟩ (fun hHeld => ?_)
  clear hK K
  try simp only [zA, zB, zC, Act.put, zD, zE, zF]
  clear w7
  clear hHeld
  refine wpAnyH_ready (rs := [12, 16]) (by kernel_rfl) (by simp) ?_
  refine AllReadyH.cons rfl (fun K hK => ?_) (AllReadyH.cons rfl (fun K hK => ?_) AllReadyH.nil)
  go_simp
  (with_reducible refine (CN.out _ _ nvp).mono ?_); rintro e w9 ⟨rfl, hb⟩
  replace nvp := nvp.later hb
  replace cX0_0 := cL hb cX0_0; replace cX0_1 := cL hb cX0_1; replace cX0_2 := cL hb cX0_2; replace cX0_3 := cL hb cX0_3; replace cX0_4 := cL hb cX0_4; replace cX0_5 := cL hb cX0_5; replace cX0_6 := cL hb cX0_6; replace cX0_7 := cL hb cX0_7; replace cX0_8 := cL hb cX0_8
  replace cX1_0 := cL hb cX1_0; replace cX1_1 := cL hb cX1_1
  replace fX2_0 := fL hb cX2_0 fX2_0; replace fX2_1 := fL hb cX2_1 fX2_1; replace fX2_2 := fL hb cX2_2 fX2_2
  replace cX2_0 := cL hb cX2_0; replace cX2_1 := cL hb cX2_1; replace cX2_2 := cL hb cX2_2
  replace kk := bC kk hb
  clear hb
  clear nvp
  refine hK.out _ _ ⟨cX0_5, cX0_6, cX0_7, cX0_8, cX0_0, cX0_1, cX0_2, cX0_4, trivial⟩ (fun hHeld => ?_)
  clear hK K
  try simp only [zA, zB, zC, Act.put, zD, zE, zF]
  clear w8
  refine wpAnyH_take (i := 13) (v := ?vq46) rfl (by kernel_rfl) (by kernel_rfl) (by kernel_rfl) (fun _ _ _ h => h) (Or.inl ⟨by rfl, ?yq46⟩) hHeld ?rq46
  case yq46 => (intro wq hb; obtain ⟨lq0, lq1, lq2, lq3, lq4, lq5, lq6, lq7, _⟩ := hb; go_simp; try (with_reducible rfl))
  try simp only [zA, zB, zC, Act.put, zD, zE, zF]
  refine wpAnyH_take (i := 14) (v := ?vq47) rfl (by kernel_rfl) (by kernel_rfl) (by kernel_rfl) (fun _ _ _ h => h) (Or.inl ⟨by rfl, ?yq47⟩) hHeld ?rq47
  case yq47 => (intro wq hb; obtain ⟨lq0, lq1, lq2, lq3, lq4, lq5, lq6, lq7, _⟩ := hb; go_simp; try (with_reducible rfl))
  try simp only [zA, zB, zC, Act.put, zD, zE, zF]
  refine wpAnyH_take (i := 15) (v := ?vq48) rfl (by kernel_rfl) (by kernel_rfl) (by kernel_rfl) (fun _ _ _ h => h) (Or.inl ⟨by rfl, ?yq48⟩) hHeld ?rq48
  case yq48 => (intro wq hb; obtain ⟨lq0, lq1, lq2, lq3, lq4, lq5, lq6, lq7, _⟩ := hb; go_simp; try (with_reducible rfl))
  try simp only [zA, zB, zC, Act.put, zD, zE, zF]
  clear hHeld
  refine wpAnyH_ready (rs := [16]) (by kernel_rfl) (by simp) ?_
  refine AllReadyH.cons rfl (fun K hK => ?_) AllReadyH.nil
  go_simp
  have nX0_X4 : w.heap.size < w9.heap.size := bL cX0_0
  have nX1_X4 : w.heap.size + 1 < w9.heap.size := bL cX1_0
  have nX2_X4 : w.heap.size + 1 + 1 < w9.heap.size := bL cX2_0
  have gX4 : w.heap.size ≤ w9.heap.size := kk.size
  have ha := bA (Below.refl _ w9) (.cells #[.int .u64 0, .int .u64 0] 30)
  have hx := HB.new w9 30 #[.int .u64 0, .int .u64 0]
  replace cX0_0 := cL ha cX0_0; replace cX0_1 := cL ha cX0_1; replace cX0_2 := cL ha cX0_2; replace cX0_3 := cL ha cX0_3; replace cX0_4 := cL ha cX0_4; replace cX0_5 := cL ha cX0_5; replace cX0_6 := cL ha cX0_6; replace cX0_7 := cL ha cX0_7; replace cX0_8 := cL ha cX0_8
  replace cX1_0 := cL ha cX1_0; replace cX1_1 := cL ha cX1_1
  replace fX2_0 := fL ha cX2_0 fX2_0; replace fX2_1 := fL ha cX2_1 fX2_1; replace fX2_2 := fL ha cX2_2 fX2_2
  replace cX2_0 := cL ha cX2_0; replace cX2_1 := cL ha cX2_1; replace cX2_2 := cL ha cX2_2
  replace kk := bC kk ha
  have cX4_0 := hx.cell 0; have fX4_0 := hx.frozen 0; have cX4_1 := hx.cell 1; have fX4_1 := hx.frozen 1; dsimp at cX4_0 cX4_1
  clear ha hx
  refine hK.out _ _ ⟨cX0_5, cX0_6, cX0_7, cX0_8, cX0_0, cX0_1, cX0_2, cX0_4, trivial⟩ (fun hHeld => ?_)
  clear hK K
  generalize w9.alloc (.cells #[.int .u64 0, .int .u64 0] 30) = w10 at *
  generalize w9.heap.size = pp5 at *
  try simp only [zA, zB, zC, Act.put, zD, zE, zF]
  clear w9
  clear hHeld
  refine wpAnyH_ready (rs := [17]) (by kernel_rfl) (by simp) ?_
  refine AllReadyH.cons rfl (fun K hK => ?_) AllReadyH.nil
  go_simp
  have neX0 : ¬ (pp5 = w.heap.size) := by omega
  have nfX0 : ¬ (w.heap.size = pp5) := by omega
  have neX1 : ¬ (pp5 = w.heap.size + 1) := by omega
  have nfX1 : ¬ (w.heap.size + 1 = pp5) := by omega
  have neX2 : ¬ (pp5 = w.heap.size + 1 + 1) := by omega
  have nfX2 : ¬ (w.heap.size + 1 + 1 = pp5) := by omega
  have KEY := Lib.hid (show (fun W => W.cell? ⟨w.heap.size, 0, none⟩ = some (.int .u8 f) ∧ W.cell? ⟨w.heap.size, 1, none⟩ = some (.int .i64 p) ∧ W.cell? ⟨w.heap.size, 2, none⟩ = some (.int .i64 em) ∧ W.cell? ⟨w.heap.size, 3, none⟩ = some (.bool ng) ∧ W.cell? ⟨w.heap.size, 4, none⟩ = some (.int .i64 ex) ∧ W.cell? ⟨w.heap.size, 5, none⟩ = some (.int .u64 x0) ∧ W.cell? ⟨w.heap.size, 6, none⟩ = some (.int .u64 x1) ∧ W.cell? ⟨w.heap.size, 7, none⟩ = some (.int .u64 x2) ∧ W.cell? ⟨w.heap.size, 8, none⟩ = some (.int .u64 x3) ∧ W.cell? ⟨w.heap.size + 1, 0, none⟩ = some (.int .u8 m) ∧ W.cell? ⟨w.heap.size + 1, 1, none⟩ = some (.bool t) ∧ W.cell? ⟨w.heap.size + 1 + 1, 0, none⟩ = some (.int .u64 0) ∧ W.cell? ⟨w.heap.size + 1 + 1, 1, none⟩ = some (.int .u64 0) ∧ W.cell? ⟨w.heap.size + 1 + 1, 2, none⟩ = some (.int .u8 0) ∧ W.frozen? ⟨w.heap.size + 1 + 1, 0, none⟩ = false ∧ W.frozen? ⟨w.heap.size + 1 + 1, 1, none⟩ = false ∧ W.frozen? ⟨w.heap.size + 1 + 1, 2, none⟩ = false ∧ W.cell? ⟨pp5, 0, none⟩ = some (.int .u64 nh) ∧ W.cell? ⟨pp5, 1, none⟩ = some (.int .u64 nl) ∧ W.frozen? ⟨pp5, 0, none⟩ = false ∧ W.frozen? ⟨pp5, 1, none⟩ = false ∧ Below w.heap.size w W) ((w10.setCell ⟨pp5, 0, none⟩ (.int .u64 nh)).setCell ⟨pp5, 1, none⟩ (.int .u64 nl)) from ⟨by go_simp, by go_simp, by go_simp, by go_simp, by go_simp, by go_simp, by go_simp, by go_simp, by go_simp, by go_simp, by go_simp, by go_simp, by go_simp, by go_simp, by go_simp, by go_simp, by go_simp, by go_simp, by go_simp, by go_simp, by go_simp, ((kk.setCell (p := ⟨pp5, 0, none⟩) gX4 _).setCell (p := ⟨pp5, 1, none⟩) gX4 _)⟩)
  clear cX0_0 cX0_1 cX0_2 cX0_3 cX0_4 cX0_5 cX0_6 cX0_7 cX0_8 cX1_0 cX1_1 cX2_0 cX2_1 cX2_2 fX2_0 fX2_1 fX2_2 cX4_0 cX4_1 fX4_0 fX4_1 neX0 nfX0 neX1 nfX1 neX2 nfX2 kk
  refine forget_at (fun W => W.cell? ⟨w.heap.size, 0, none⟩ = some (.int .u8 f) ∧ W.cell? ⟨w.heap.size, 1, none⟩ = some (.int .i64 p) ∧ W.cell? ⟨w.heap.size, 2, none⟩ = some (.int .i64 em) ∧ W.cell? ⟨w.heap.size, 3, none⟩ = some (.bool ng) ∧ W.cell? ⟨w.heap.size, 4, none⟩ = some (.int .i64 ex) ∧ W.cell? ⟨w.heap.size, 5, none⟩ = some (.int .u64 x0) ∧ W.cell? ⟨w.heap.size, 6, none⟩ = some (.int .u64 x1) ∧ W.cell? ⟨w.heap.size, 7, none⟩ = some (.int .u64 x2) ∧ W.cell? ⟨w.heap.size, 8, none⟩ = some (.int .u64 x3) ∧ W.cell? ⟨w.heap.size + 1, 0, none⟩ = some (.int .u8 m) ∧ W.cell? ⟨w.heap.size + 1, 1, none⟩ = some (.bool t) ∧ W.cell? ⟨w.heap.size + 1 + 1, 0, none⟩ = some (.int .u64 0) ∧ W.cell? ⟨w.heap.size + 1 + 1, 1, none⟩ = some (.int .u64 0) ∧ W.cell? ⟨w.heap.size + 1 + 1, 2, none⟩ = some (.int .u8 0) ∧ W.frozen? ⟨w.heap.size + 1 + 1, 0, none⟩ = false ∧ W.frozen? ⟨w.heap.size + 1 + 1, 1, none⟩ = false ∧ W.frozen? ⟨w.heap.size + 1 + 1, 2, none⟩ = false ∧ W.cell? ⟨pp5, 0, none⟩ = some (.int .u64 nh) ∧ W.cell? ⟨pp5, 1, none⟩ = some (.int .u64 nl) ∧ W.frozen? ⟨pp5, 0, none⟩ = false ∧ W.frozen? ⟨pp5, 1, none⟩ = false ∧ Below w.heap.size w W) KEY.out (fun w11 hz => ?_)
  obtain ⟨cX0_0, cX0_1, cX0_2, cX0_3, cX0_4, cX0_5, cX0_6, cX0_7, cX0_8, cX1_0, cX1_1, cX2_0, cX2_1, cX2_2, fX2_0, fX2_1, fX2_2, cX4_0, cX4_1, fX4_0, fX4_1, kk⟩ := hz
  clear KEY
  refine hK.out _ _ ⟨cX0_5, cX0_6, cX0_7, cX0_8, cX0_0, cX0_1, cX0_2, cX0_4, trivial⟩ (fun hHeld => ?_)
  clear hK K
  try simp only [zA, zB, zC, Act.put, zD, zE, zF]
  clear w10
  refine wpAnyH_take (i := 18) (v := ?vq49) rfl (by kernel_rfl) (by kernel_rfl) (by kernel_rfl) (fun _ _ _ h => h) (Or.inl ⟨by rfl, ?yq49⟩) hHeld ?rq49
  case yq49 => (intro wq hb; obtain ⟨lq0, lq1, lq2, lq3, lq4, lq5, lq6, lq7, _⟩ := hb; go_simp; try (with_reducible rfl))
  try simp only [zA, zB, zC, Act.put, zD, zE, zF]
  clear hHeld
  refine wpAnyH_done (by kernel_rfl) ?_ _
  refine NoPanic.normal ?_
  revert kk; revert nX2_X4; revert nX1_X4; revert nX0_X4; revert gX4; revert fX4_1; revert fX4_0; revert cX4_1; revert cX4_0; revert fX2_2; revert fX2_1; revert fX2_0; revert cX2_2; revert cX2_1; revert cX2_0; revert cX1_1; revert cX1_0; revert cX0_8; revert cX0_7; revert cX0_6; revert cX0_5; revert cX0_4; revert cX0_3; revert cX0_2; revert cX0_1; revert cX0_0; revert pp5; revert w11
  refine ?restw6
  rotate_left
  go_simp
  have nX0_X4 : w.heap.size < w8.heap.size := bL cX0_0
  have nX1_X4 : w.heap.size + 1 < w8.heap.size := bL cX1_0
  have nX2_X4 : w.heap.size + 1 + 1 < w8.heap.size := bL cX2_0
  have gX4 : w.heap.size ≤ w8.heap.size := kk.size
  have ha := bA (Below.refl _ w8) (.cells #[.int .u64 0, .int .u64 0] 30)
  have hx := HB.new w8 30 #[.int .u64 0, .int .u64 0]
  replace nvp := nvp.later ha
  replace cX0_0 := cL ha cX0_0; replace cX0_1 := cL ha cX0_1; replace cX0_2 := cL ha cX0_2; replace cX0_3 := cL ha cX0_3; replace cX0_4 := cL ha cX0_4; replace cX0_5 := cL ha cX0_5; replace cX0_6 := cL ha cX0_6; replace cX0_7 := cL ha cX0_7; replace cX0_8 := cL ha cX0_8
  replace cX1_0 := cL ha cX1_0; replace cX1_1 := cL ha cX1_1
  replace fX2_0 := fL ha cX2_0 fX2_0; replace fX2_1 := fL ha cX2_1 fX2_1; replace fX2_2 := fL ha cX2_2 fX2_2
  replace cX2_0 := cL ha cX2_0; replace cX2_1 := cL ha cX2_1; replace cX2_2 := cL ha cX2_2
  replace kk := bC kk ha
  have cX4_0 := hx.cell 0; have fX4_0 := hx.frozen 0; have cX4_1 := hx.cell 1; have fX4_1 := hx.frozen 1; dsimp at cX4_0 cX4_1
  clear ha hx
  refine hK.out _ _ ⟨cX0_5, cX0_6, cX0_7, cX0_8, cX0_0, cX0_1, cX0_2, cX0_4, trivial⟩ (fun hHeld => ?_)
  clear hK K
  generalize w8.alloc (.cells #[.int .u64 0, .int .u64 0] 30) = w12 at *
  generalize w8.heap.size = pp5 at *
  try simp only [zA, zB, zC, Act.put, zD, zE, zF]
  clear w8
  clear hHeld
  refine wpAnyH_ready (rs := [12]) (by kernel_rfl) (by simp) ?_
  refine AllReadyH.cons rfl (fun K hK => ?_) AllReadyH.nil
  go_simp
  (with_reducible refine (CN.out _ _ nvp).mono ?_); rintro e w13 ⟨rfl, hb⟩
  replace nvp := nvp.later hb
  replace cX0_0 := cL hb cX0_0; replace cX0_1 := cL hb cX0_1; replace cX0_2 := cL hb cX0_2; replace cX0_3 := cL hb cX0_3; replace cX0_4 := cL hb cX0_4; replace cX0_5 := cL hb cX0_5; replace cX0_6 := cL hb cX0_6; replace cX0_7 := cL hb cX0_7; replace cX0_8 := cL hb cX0_8
  replace cX1_0 := cL hb cX1_0; replace cX1_1 := cL hb cX1_1
  replace fX2_0 := fL hb cX2_0 fX2_0; replace fX2_1 := fL hb cX2_1 fX2_1; replace fX2_2 := fL hb cX2_2 fX2_2
  replace cX2_0 := cL hb cX2_0; replace cX2_1 := cL hb cX2_1; replace cX2_2 := cL hb cX2_2
  replace fX4_0 := fL hb cX4_0 fX4_0; replace fX4_1 := fL hb cX4_1 fX4_1
  replace cX4_0 := cL hb cX4_0; replace cX4_1 := cL hb cX4_1
  replace kk := bC kk hb
  clear hb
  clear nvp
  refine hK.out _ _ ⟨cX0_5, cX0_6, cX0_7, cX0_8, cX0_0, cX0_1, cX0_2, cX0_4, trivial⟩ (fun hHeld => ?_)
  clear hK K
  try simp only [zA, zB, zC, Act.put, zD, zE, zF]
  clear w12
  refine wpAnyH_take (i := 13) (v := ?vq50) rfl (by kernel_rfl) (by kernel_rfl) (by kernel_rfl) (fun _ _ _ h => h) (Or.inl ⟨by rfl, ?yq50⟩) hHeld ?rq50
  case yq50 => (intro wq hb; obtain ⟨lq0, lq1, lq2, lq3, lq4, lq5, lq6, lq7, _⟩ := hb; go_simp; try (with_reducible rfl))
  try simp only [zA, zB, zC, Act.put, zD, zE, zF]
  refine wpAnyH_take (i := 14) (v := ?vq51) rfl (by kernel_rfl) (by kernel_rfl) (by kernel_rfl) (fun _ _ _ h => h) (Or.inl ⟨by rfl, ?yq51⟩) hHeld ?rq51
  case yq51 => (intro wq hb; obtain ⟨lq0, lq1, lq2, lq3, lq4, lq5, lq6, lq7, _⟩ := hb; go_simp; try (with_reducible rfl))
  try simp only [zA, zB, zC, Act.put, zD, zE, zF]
  refine wpAnyH_take (i := 15) (v := ?vq52) rfl (by kernel_rfl) (by kernel_rfl) (by kernel_rfl) (fun _ _ _ h => h) (Or.inl ⟨by rfl, ?yq52⟩) hHeld ?rq52
  case yq52 => (intro wq hb; obtain ⟨lq0, lq1, lq2, lq3, lq4, lq5, lq6, lq7, _⟩ := hb; go_simp; try (with_reducible rfl))
  try simp only [zA, zB, zC, Act.put, zD, zE, zF]
  clear hHeld
  refine wpAnyH_ready (rs := [17]) (by kernel_rfl) (by simp) ?_
  refine AllReadyH.cons rfl (fun K hK => ?_) AllReadyH.nil
  go_simp
  have neX0 : ¬ (pp5 = w.heap.size) := by omega
  have nfX0 : ¬ (w.heap.size = pp5) := by omega
  have neX1 : ¬ (pp5 = w.heap.size + 1) := by omega
  have nfX1 : ¬ (w.heap.size + 1 = pp5) := by omega
  have neX2 : ¬ (pp5 = w.heap.size + 1 + 1) := by omega
  have nfX2 : ¬ (w.heap.size + 1 + 1 = pp5) := by omega
  have KEY := Lib.hid (show (fun W => W.cell? ⟨w.heap.size, 0, none⟩ = some (.int .u8 f) ∧ W.cell? ⟨w.heap.size, 1, none⟩ = some (.int .i64 p) ∧ W.cell? ⟨w.heap.size, 2, none⟩ = some (.int .i64 em) ∧ W.cell? ⟨w.heap.size, 3, none⟩ = some (.bool ng) ∧ W.cell? ⟨w.heap.size, 4, none⟩ = some (.int .i64 ex) ∧ W.cell? ⟨w.heap.size, 5, none⟩ = some (.int .u64 x0) ∧ W.cell? ⟨w.heap.size, 6, none⟩ = some (.int .u64 x1) ∧ W.cell? ⟨w.heap.size, 7, none⟩ = some (.int .u64 x2) ∧ W.cell? ⟨w.heap.size, 8, none⟩ = some (.int .u64 x3) ∧ W.cell? ⟨w.heap.size + 1, 0, none⟩ = some (.int .u8 m) ∧ W.cell? ⟨w.heap.size + 1, 1, none⟩ = some (.bool t) ∧ W.cell? ⟨w.heap.size + 1 + 1, 0, none⟩ = some (.int .u64 0) ∧ W.cell? ⟨w.heap.size + 1 + 1, 1, none⟩ = some (.int .u64 0) ∧ W.cell? ⟨w.heap.size + 1 + 1, 2, none⟩ = some (.int .u8 0) ∧ W.frozen? ⟨w.heap.size + 1 + 1, 0, none⟩ = false ∧ W.frozen? ⟨w.heap.size + 1 + 1, 1, none⟩ = false ∧ W.frozen? ⟨w.heap.size + 1 + 1, 2, none⟩ = false ∧ W.cell? ⟨pp5, 0, none⟩ = some (.int .u64 nh) ∧ W.cell? ⟨pp5, 1, none⟩ = some (.int .u64 nl) ∧ W.frozen? ⟨pp5, 0, none⟩ = false ∧ W.frozen? ⟨pp5, 1, none⟩ = false ∧ Below w.heap.size w W) ((w13.setCell ⟨pp5, 0, none⟩ (.int .u64 nh)).setCell ⟨pp5, 1, none⟩ (.int .u64 nl)) from ⟨by go_simp, by go_simp, by go_simp, by go_simp, by go_simp, by go_simp, by go_simp, by go_simp, by go_simp, by go_simp, by go_simp, by go_simp, by go_simp, by go_simp, by go_simp, by go_simp, by go_simp, by go_simp, by go_simp, by go_simp, by go_simp, ((kk.setCell (p := ⟨pp5, 0, none⟩) gX4 _).setCell (p := ⟨pp5, 1, none⟩) gX4 _)⟩)
  clear cX0_0 cX0_1 cX0_2 cX0_3 cX0_4 cX0_5 cX0_6 cX0_7 cX0_8 cX1_0 cX1_1 cX2_0 cX2_1 cX2_2 fX2_0 fX2_1 fX2_2 cX4_0 cX4_1 fX4_0 fX4_1 neX0 nfX0 neX1 nfX1 neX2 nfX2 kk
  refine forget_at (fun W => W.cell? ⟨w.heap.size, 0, none⟩ = some (.int .u8 f) ∧ W.cell? ⟨w.heap.size, 1, none⟩ = some (.int .i64 p) ∧ W.cell? ⟨w.heap.size, 2, none⟩ = some (.int .i64 em) ∧ W.cell? ⟨w.heap.size, 3, none⟩ = some (.bool ng) ∧ W.cell? ⟨w.heap.size, 4, none⟩ = some (.int .i64 ex) ∧ W.cell? ⟨w.heap.size, 5, none⟩ = some (.int .u64 x0) ∧ W.cell? ⟨w.heap.size, 6, none⟩ = some (.int .u64 x1) ∧ W.cell? ⟨w.heap.size, 7, none⟩ = some (.int .u64 x2) ∧ W.cell? ⟨w.heap.size, 8, none⟩ = some (.int .u64 x3) ∧ W.cell? ⟨w.heap.size + 1, 0, none⟩ = some (.int .u8 m) ∧ W.cell? ⟨w.heap.size + 1, 1, none⟩ = some (.bool t) ∧ W.cell? ⟨w.heap.size + 1 + 1, 0, none⟩ = some (.int .u64 0) ∧ W.cell? ⟨w.heap.size + 1 + 1, 1, none⟩ = some (.int .u64 0) ∧ W.cell? ⟨w.heap.size + 1 + 1, 2, none⟩ = some (.int .u8 0) ∧ W.frozen? ⟨w.heap.size + 1 + 1, 0, none⟩ = false ∧ W.frozen? ⟨w.heap.size + 1 + 1, 1, none⟩ = false ∧ W.frozen? ⟨w.heap.size + 1 + 1, 2, none⟩ = false ∧ W.cell? ⟨pp5, 0, none⟩ = some (.int .u64 nh) ∧ W.cell? ⟨pp5, 1, none⟩ = some (.int .u64 nl) ∧ W.frozen? ⟨pp5, 0, none⟩ = false ∧ W.frozen? ⟨pp5, 1, none⟩ = false ∧ Below w.heap.size w W) KEY.out (fun w14 hz => ?_)
  obtain ⟨cX0_0, cX0_1, cX0_2, cX0_3, cX0_4, cX0_5, cX0_6, cX0_7, cX0_8, cX1_0, cX1_1, cX2_0, cX2_1, cX2_2, fX2_0, fX2_1, fX2_2, cX4_0, cX4_1, fX4_0, fX4_1, kk⟩ := hz
  clear KEY
  refine hK.out _ _ ⟨cX0_5, cX0_6, cX0_7, cX0_8, cX0_0, cX0_1, cX0_2, cX0_4, trivial⟩ (fun hHeld => ?_)
  clear hK K
  try simp only [zA, zB, zC, Act.put, zD, zE, zF]
  clear w13
  refine wpAnyH_take (i := 18) (v := ?vq53) rfl (by kernel_rfl) (by kernel_rfl) (by kernel_rfl) (fun _ _ _ h => h) (Or.inl ⟨by rfl, ?yq53⟩) hHeld ?rq53
  case yq53 => (intro wq hb; obtain ⟨lq0, lq1, lq2, lq3, lq4, lq5, lq6, lq7, _⟩ := hb; go_simp; try (with_reducible rfl))
  try simp only [zA, zB, zC, Act.put, zD, zE, zF]
  clear hHeld
  refine wpAnyH_done (by kernel_rfl) ?_ _
  refine NoPanic.normal ?_
  revert kk; revert nX2_X4; revert nX1_X4; revert nX0_X4; revert gX4; revert fX4_1; revert fX4_0; revert cX4_1; revert cX4_0; revert fX2_2; revert fX2_1; revert fX2_0; revert cX2_2; revert cX2_1; revert cX2_0; revert cX1_1; revert cX1_0; revert cX0_8; revert cX0_7; revert cX0_6; revert cX0_5; revert cX0_4; revert cX0_3; revert cX0_2; revert cX0_1; revert cX0_0; revert pp5; revert w14
  exact ?restw6
  go_simp
  have nX0_X4 : w.heap.size < w7.heap.size := bL cX0_0
  have nX1_X4 : w.heap.size + 1 < w7.heap.size := bL cX1_0
  have nX2_X4 : w.heap.size + 1 + 1 < w7.heap.size := bL cX2_0
  have gX4 : w.heap.size ≤ w7.heap.size := kk.size
  have ha := bA (Below.refl _ w7) (.cells #[.int .u64 0, .int .u64 0] 30)
  have hx := HB.new w7 30 #[.int .u64 0, .int .u64 0]
  replace nvp := nvp.later ha
  replace cX0_0 := cL ha cX0_0; replace cX0_1 := cL ha cX0_1; replace cX0_2 := cL ha cX0_2; replace cX0_3 := cL ha cX0_3; replace cX0_4 := cL ha cX0_4; replace cX0_5 := cL ha cX0_5; replace cX0_6 := cL ha cX0_6; replace cX0_7 := cL ha cX0_7; replace cX0_8 := cL ha cX0_8
  replace cX1_0 := cL ha cX1_0; replace cX1_1 := cL ha cX1_1
  replace fX2_0 := fL ha cX2_0 fX2_0; replace fX2_1 := fL ha cX2_1 fX2_1; replace fX2_2 := fL ha cX2_2 fX2_2
  replace cX2_0 := cL ha cX2_0; replace cX2_1 := cL ha cX2_1; replace cX2_2 := cL ha cX2_2
  replace kk := bC kk ha
  have cX4_0 := hx.cell 0; have fX4_0 := hx.frozen 0; have cX4_1 := hx.cell 1; have fX4_1 := hx.frozen 1; dsimp at cX4_0 cX4_1
  clear ha hx
  refine hK.out _ _ ⟨cX0_5, cX0_6, cX0_7, cX0_8, cX0_0, cX0_1, cX0_2, cX0_4, trivial⟩ (fun hHeld => ?_)
  clear hK K
  generalize w7.alloc (.cells #[.int .u64 0, .int .u64 0] 30) = w15 at *
  generalize w7.heap.size = pp5 at *
  try simp only [zA, zB, zC, Act.put, zD, zE, zF]
  clear w7
  clear hHeld
  refine wpAnyH_ready (rs := [11]) (by kernel_rfl) (by simp) ?_
  refine AllReadyH.cons rfl (fun K hK => ?_) AllReadyH.nil
  go_simp
  (with_reducible refine (h5.out _).mono ?_); rintro e w16 ⟨rfl, hb⟩
  replace nvp := nvp.later hb
  replace cX0_0 := cL hb cX0_0; replace cX0_1 := cL hb cX0_1; replace cX0_2 := cL hb cX0_2; replace cX0_3 := cL hb cX0_3; replace cX0_4 := cL hb cX0_4; replace cX0_5 := cL hb cX0_5; replace cX0_6 := cL hb cX0_6; replace cX0_7 := cL hb cX0_7; replace cX0_8 := cL hb cX0_8
  replace cX1_0 := cL hb cX1_0; replace cX1_1 := cL hb cX1_1
  replace fX2_0 := fL hb cX2_0 fX2_0; replace fX2_1 := fL hb cX2_1 fX2_1; replace fX2_2 := fL hb cX2_2 fX2_2
  replace cX2_0 := cL hb cX2_0; replace cX2_1 := cL hb cX2_1; replace cX2_2 := cL hb cX2_2
  replace fX4_0 := fL hb cX4_0 fX4_0; replace fX4_1 := fL hb cX4_1 fX4_1
  replace cX4_0 := cL hb cX4_0; replace cX4_1 := cL hb cX4_1
  replace kk := bC kk hb
  clear hb
  refine hK.out _ _ ⟨cX0_5, cX0_6, cX0_7, cX0_8, cX0_0, cX0_1, cX0_2, cX0_4, trivial⟩ (fun hHeld => ?_)
  clear hK K
  try simp only [zA, zB, zC, Act.put, zD, zE, zF]
  clear w15
  clear hHeld
  refine wpAnyH_ready (rs := [12]) (by kernel_rfl) (by simp) ?_
  refine AllReadyH.cons rfl (fun K hK => ?_) AllReadyH.nil
  go_simp
  (with_reducible refine (CN.out _ _ nvp).mono ?_); rintro e w17 ⟨rfl, hb⟩
  replace nvp := nvp.later hb
  replace cX0_0 := cL hb cX0_0; replace cX0_1 := cL hb cX0_1; replace cX0_2 := cL hb cX0_2; replace cX0_3 := cL hb cX0_3; replace cX0_4 := cL hb cX0_4; replace cX0_5 := cL hb cX0_5; replace cX0_6 := cL hb cX0_6; replace cX0_7 := cL hb cX0_7; replace cX0_8 := cL hb cX0_8
  replace cX1_0 := cL hb cX1_0; replace cX1_1 := cL hb cX1_1
  replace fX2_0 := fL hb cX2_0 fX2_0; replace fX2_1 := fL hb cX2_1 fX2_1; replace fX2_2 := fL hb cX2_2 fX2_2
  replace cX2_0 := cL hb cX2_0; replace cX2_1 := cL hb cX2_1; replace cX2_2 := cL hb cX2_2
  replace fX4_0 := fL hb cX4_0 fX4_0; replace fX4_1 := fL hb cX4_1 fX4_1
  replace cX4_0 := cL hb cX4_0; replace cX4_1 := cL hb cX4_1
  replace kk := bC kk hb
  clear hb
  clear nvp
  refine hK.out _ _ ⟨cX0_5, cX0_6, cX0_7, cX0_8, cX0_0, cX0_1, cX0_2, cX0_4, trivial⟩ (fun hHeld => ?_)
  clear hK K
  try simp only [zA, zB, zC, Act.put, zD, zE, zF]
  clear w16
  refine wpAnyH_take (i := 13) (v := ?vq54) rfl (by kernel_rfl) (by kernel_rfl) (by kernel_rfl) (fun _ _ _ h => h) (Or.inl ⟨by rfl, ?yq54⟩) hHeld ?rq54
  case yq54 => (intro wq hb; obtain ⟨lq0, lq1, lq2, lq3, lq4, lq5, lq6, lq7, _⟩ := hb; go_simp; try (with_reducible rfl))
  try simp only [zA, zB, zC, Act.put, zD, zE, zF]
  refine wpAnyH_take (i := 14) (v := ?vq55) rfl (by kernel_rfl) (by kernel_rfl) (by kernel_rfl) (fun _ _ _ h => h) (Or.inl ⟨by rfl, ?yq55⟩) hHeld ?rq55
  case yq55 => (intro wq hb; obtain ⟨lq0, lq1, lq2, lq3, lq4, lq5, lq6, lq7, _⟩ := hb; go_simp; try (with_reducible rfl))
  try simp only [zA, zB, zC, Act.put, zD, zE, zF]
  refine wpAnyH_take (i := 15) (v := ?vq56) rfl (by kernel_rfl) (by kernel_rfl) (by kernel_rfl) (fun _ _ _ h => h) (Or.inl ⟨by rfl, ?yq56⟩) hHeld ?rq56
  case yq56 => (intro wq hb; obtain ⟨lq0, lq1, lq2, lq3, lq4, lq5, lq6, lq7, _⟩ := hb; go_simp; try (with_reducible rfl))
  try simp only [zA, zB, zC, Act.put, zD, zE, zF]
  clear hHeld
  refine wpAnyH_ready (rs := [17]) (by kernel_rfl) (by simp) ?_
  refine AllReadyH.cons rfl (fun K hK => ?_) AllReadyH.nil
  go_simp
  have neX0 : ¬ (pp5 = w.heap.size) := by omega
  have nfX0 : ¬ (w.heap.size = pp5) := by omega
  have neX1 : ¬ (pp5 = w.heap.size + 1) := by omega
  have nfX1 : ¬ (w.heap.size + 1 = pp5) := by omega
  have neX2 : ¬ (pp5 = w.heap.size + 1 + 1) := by omega
  have nfX2 : ¬ (w.heap.size + 1 + 1 = pp5) := by omega
  have KEY := Lib.hid (show (fun W => W.cell? ⟨w.heap.size, 0, none⟩ = some (.int .u8 f) ∧ W.cell? ⟨w.heap.size, 1, none⟩ = some (.int .i64 p) ∧ W.cell? ⟨w.heap.size, 2, none⟩ = some (.int .i64 em) ∧ W.cell? ⟨w.heap.size, 3, none⟩ = some (.bool ng) ∧ W.cell? ⟨w.heap.size, 4, none⟩ = some (.int .i64 ex) ∧ W.cell? ⟨w.heap.size, 5, none⟩ = some (.int .u64 x0) ∧ W.cell? ⟨w.heap.size, 6, none⟩ = some (.int .u64 x1) ∧ W.cell? ⟨w.heap.size, 7, none⟩ = some (.int .u64 x2) ∧ W.cell? ⟨w.heap.size, 8, none⟩ = some (.int .u64 x3) ∧ W.cell? ⟨w.heap.size + 1, 0, none⟩ = some (.int .u8 m) ∧ W.cell? ⟨w.heap.size + 1, 1, none⟩ = some (.bool t) ∧ W.cell? ⟨w.heap.size + 1 + 1, 0, none⟩ = some (.int .u64 0) ∧ W.cell? ⟨w.heap.size + 1 + 1, 1, none⟩ = some (.int .u64 0) ∧ W.cell? ⟨w.heap.size + 1 + 1, 2, none⟩ = some (.int .u8 0) ∧ W.frozen? ⟨w.heap.size + 1 + 1, 0, none⟩ = false ∧ W.frozen? ⟨w.heap.size + 1 + 1, 1, none⟩ = false ∧ W.frozen? ⟨w.heap.size + 1 + 1, 2, none⟩ = false ∧ W.cell? ⟨pp5, 0, none⟩ = some (.int .u64 nh) ∧ W.cell? ⟨pp5, 1, none⟩ = some (.int .u64 nl) ∧ W.frozen? ⟨pp5, 0, none⟩ = false ∧ W.frozen? ⟨pp5, 1, none⟩ = false ∧ Below w.heap.size w W) ((w17.setCell ⟨pp5, 0, none⟩ (.int .u64 nh)).setCell ⟨pp5, 1, none⟩ (.int .u64 nl)) from ⟨by go_simp, by go_simp, by go_simp, by go_simp, by go_simp, by go_simp, by go_simp, by go_simp, by go_simp, by go_simp, by go_simp, by go_simp, by go_simp, by go_simp, by go_simp, by go_simp, by go_simp, by go_simp, by go_simp, by go_simp, by go_simp, ((kk.setCell (p := ⟨pp5, 0, none⟩) gX4 _).setCell (p := ⟨pp5, 1, none⟩) gX4 _)⟩)
  clear cX0_0 cX0_1 cX0_2 cX0_3 cX0_4 cX0_5 cX0_6 cX0_7 cX0_8 cX1_0 cX1_1 cX2_0 cX2_1 cX2_2 fX2_0 fX2_1 fX2_2 cX4_0 cX4_1 fX4_0 fX4_1 neX0 nfX0 neX1 nfX1 neX2 nfX2 kk
  refine forget_at (fun W => W.cell? ⟨w.heap.size, 0, none⟩ = some (.int .u8 f) ∧ W.cell? ⟨w.heap.size, 1, none⟩ = some (.int .i64 p) ∧ W.cell? ⟨w.heap.size, 2, none⟩ = some (.int .i64 em) ∧ W.cell? ⟨w.heap.size, 3, none⟩ = some (.bool ng) ∧ W.cell? ⟨w.heap.size, 4, none⟩ = some (.int .i64 ex) ∧ W.cell? ⟨w.heap.size, 5, none⟩ = some (.int .u64 x0) ∧ W.cell? ⟨w.heap.size, 6, none⟩ = some (.int .u64 x1) ∧ W.cell? ⟨w.heap.size, 7, none⟩ = some (.int .u64 x2) ∧ W.cell? ⟨w.heap.size, 8, none⟩ = some (.int .u64 x3) ∧ W.cell? ⟨w.heap.size + 1, 0, none⟩ = some (.int .u8 m) ∧ W.cell? ⟨w.heap.size + 1, 1, none⟩ = some (.bool t) ∧ W.cell? ⟨w.heap.size + 1 + 1, 0, none⟩ = some (.int .u64 0) ∧ W.cell? ⟨w.heap.size + 1 + 1, 1, none⟩ = some (.int .u64 0) ∧ W.cell? ⟨w.heap.size + 1 + 1, 2, none⟩ = some (.int .u8 0) ∧ W.frozen? ⟨w.heap.size + 1 + 1, 0, none⟩ = false ∧ W.frozen? ⟨w.heap.size + 1 + 1, 1, none⟩ = false ∧ W.frozen? ⟨w.heap.size + 1 + 1, 2, none⟩ = false ∧ W.cell? ⟨pp5, 0, none⟩ = some (.int .u64 nh) ∧ W.cell? ⟨pp5, 1, none⟩ = some (.int .u64 nl) ∧ W.frozen? ⟨pp5, 0, none⟩ = false ∧ W.frozen? ⟨pp5, 1, none⟩ = false ∧ Below w.heap.size w W) KEY.out (fun w18 hz => ?_)
  obtain ⟨cX0_0, cX0_1, cX0_2, cX0_3, cX0_4, cX0_5, cX0_6, cX0_7, cX0_8, cX1_0, cX1_1, cX2_0, cX2_1, cX2_2, fX2_0, fX2_1, fX2_2, cX4_0, cX4_1, fX4_0, fX4_1, kk⟩ := hz
  clear KEY
  refine hK.out _ _ ⟨cX0_5, cX0_6, cX0_7, cX0_8, cX0_0, cX0_1, cX0_2, cX0_4, trivial⟩ (fun hHeld => ?_)
  clear hK K
  try simp only [zA, zB, zC, Act.put, zD, zE, zF]
  clear w17
  refine wpAnyH_take (i := 18) (v := ?vq57) rfl (by kernel_rfl) (by kernel_rfl) (by kernel_rfl) (fun _ _ _ h => h) (Or.inl ⟨by rfl, ?yq57⟩) hHeld ?rq57
  case yq57 => (intro wq hb; obtain ⟨lq0, lq1, lq2, lq3, lq4, lq5, lq6, lq7, _⟩ := hb; go_simp; try (with_reducible rfl))
  try simp only [zA, zB, zC, Act.put, zD, zE, zF]
  clear hHeld
  refine wpAnyH_done (by kernel_rfl) ?_ _
  refine NoPanic.normal ?_
  revert kk; revert nX2_X4; revert nX1_X4; revert nX0_X4; revert gX4; revert fX4_1; revert fX4_0; revert cX4_1; revert cX4_0; revert fX2_2; revert fX2_1; revert fX2_0; revert cX2_2; revert cX2_1; revert cX2_0; revert cX1_1; revert cX1_0; revert cX0_8; revert cX0_7; revert cX0_6; revert cX0_5; revert cX0_4; revert cX0_3; revert cX0_2; revert cX0_1; revert cX0_0; revert pp5; revert w18
  exact ?restw6
  go_simp
  have nX0_X4 : w.heap.size < w6.heap.size := bL cX0_0
  have nX1_X4 : w.heap.size + 1 < w6.heap.size := bL cX1_0
  have nX2_X4 : w.heap.size + 1 + 1 < w6.heap.size := bL cX2_0
  have gX4 : w.heap.size ≤ w6.heap.size := kk.size
  have ha := bA (Below.refl _ w6) (.cells #[.int .u64 0, .int .u64 0] 30)
  have hx := HB.new w6 30 #[.int .u64 0, .int .u64 0]
  replace nvp := nvp.later ha
  replace cX0_0 := cL ha cX0_0; replace cX0_1 := cL ha cX0_1; replace cX0_2 := cL ha cX0_2; replace cX0_3 := cL ha cX0_3; replace cX0_4 := cL ha cX0_4; replace cX0_5 := cL ha cX0_5; replace cX0_6 := cL ha cX0_6; replace cX0_7 := cL ha cX0_7; replace cX0_8 := cL ha cX0_8
  replace cX1_0 := cL ha cX1_0; replace cX1_1 := cL ha cX1_1
  replace fX2_0 := fL ha cX2_0 fX2_0; replace fX2_1 := fL ha cX2_1 fX2_1; replace fX2_2 := fL ha cX2_2 fX2_2
  replace cX2_0 := cL ha cX2_0; replace cX2_1 := cL ha cX2_1; replace cX2_2 := cL ha cX2_2
  replace kk := bC kk ha
  have cX4_0 := hx.cell 0; have fX4_0 := hx.frozen 0; have cX4_1 := hx.cell 1; have fX4_1 := hx.frozen 1; dsimp at cX4_0 cX4_1
  clear ha hx
  refine hK.out _ _ ⟨cX0_5, cX0_6, cX0_7, cX0_8, cX0_0, cX0_1, cX0_2, cX0_4, trivial⟩ (fun hHeld => ?_)
  clear hK K
  generalize w6.alloc (.cells #[.int .u64 0, .int .u64 0] 30) = w19 at *
  generalize w6.heap.size = pp5 at *
  try simp only [zA, zB, zC, Act.put, zD, zE, zF]
  clear w6
  clear hHeld
  refine wpAnyH_ready (rs := [7]) (by kernel_rfl) (by simp) ?_
  refine AllReadyH.cons rfl (fun K hK => ?_) AllReadyH.nil
  go_simp
  (with_reducible refine (h4.out _ (ft.later kk)).mono ?_); rintro e w20 ⟨rfl, hb⟩
  replace nvp := nvp.later hb
  replace cX0_0 := cL hb cX0_0; replace cX0_1 := cL hb cX0_1; replace cX0_2 := cL hb cX0_2; replace cX0_3 := cL hb cX0_3; replace cX0_4 := cL hb cX0_4; replace cX0_5 := cL hb cX0_5; replace cX0_6 := cL hb cX0_6; replace cX0_7 := cL hb cX0_7; replace cX0_8 := cL hb cX0_8
  replace cX1_0 := cL hb cX1_0; replace cX1_1 := cL hb cX1_1
  replace fX2_0 := fL hb cX2_0 fX2_0; replace fX2_1 := fL hb cX2_1 fX2_1; replace fX2_2 := fL hb cX2_2 fX2_2
  replace cX2_0 := cL hb cX2_0; replace cX2_1 := cL hb cX2_1; replace cX2_2 := cL hb cX2_2
  replace fX4_0 := fL hb cX4_0 fX4_0; replace fX4_1 := fL hb cX4_1 fX4_1
  replace cX4_0 := cL hb cX4_0; replace cX4_1 := cL hb cX4_1
  replace kk := bC kk hb
  clear hb
  refine hK.out _ _ ⟨cX0_5, cX0_6, cX0_7, cX0_8, cX0_0, cX0_1, cX0_2, cX0_4, trivial⟩ (fun hHeld => ?_)
  clear hK K
  try simp only [zA, zB, zC, Act.put, zD, zE, zF]
  clear w19
  refine wpAnyH_take (i := 10) (v := ?vq58) rfl (by kernel_rfl) (by kernel_rfl) (by kernel_rfl) (fun _ _ _ h => h) (Or.inl ⟨by rfl, ?yq58⟩) hHeld ?rq58
  case yq58 => (intro wq hb; obtain ⟨lq0, lq1, lq2, lq3, lq4, lq5, lq6, lq7, _⟩ := hb; go_simp; try (with_reducible rfl))
  try simp only [zA, zB, zC, Act.put, zD, zE, zF]
  clear hHeld
  refine wpAnyH_ready (rs := [11]) (by kernel_rfl) (by simp) ?_
  refine AllReadyH.cons rfl (fun K hK => ?_) AllReadyH.nil
  go_simp
  (with_reducible refine (h5.out _).mono ?_); rintro e w21 ⟨rfl, hb⟩
  replace nvp := nvp.later hb
  replace cX0_0 := cL hb cX0_0; replace cX0_1 := cL hb cX0_1; replace cX0_2 := cL hb cX0_2; replace cX0_3 := cL hb cX0_3; replace cX0_4 := cL hb cX0_4; replace cX0_5 := cL hb cX0_5; replace cX0_6 := cL hb cX0_6; replace cX0_7 := cL hb cX0_7; replace cX0_8 := cL hb cX0_8
  replace cX1_0 := cL hb cX1_0; replace cX1_1 := cL hb cX1_1
  replace fX2_0 := fL hb cX2_0 fX2_0; replace fX2_1 := fL hb cX2_1 fX2_1; replace fX2_2 := fL hb cX2_2 fX2_2
  replace cX2_0 := cL hb cX2_0; replace cX2_1 := cL hb cX2_1; replace cX2_2 := cL hb cX2_2
  replace fX4_0 := fL hb cX4_0 fX4_0; replace fX4_1 := fL hb cX4_1 fX4_1
  replace cX4_0 := cL hb cX4_0; replace cX4_1 := cL hb cX4_1
  replace kk := bC kk hb
  clear hb
  refine hK.out _ _ ⟨cX0_5, cX0_6, cX0_7, cX0_8, cX0_0, cX0_1, cX0_2, cX0_4, trivial⟩ (fun hHeld => ?_)
  clear hK K
  try simp only [zA, zB, zC, Act.put, zD, zE, zF]
  clear w20
  clear hHeld
  refine wpAnyH_ready (rs := [12]) (by kernel_rfl) (by simp) ?_
  refine AllReadyH.cons rfl (fun K hK => ?_) AllReadyH.nil
  go_simp
  (with_reducible refine (CN.out _ _ nvp).mono ?_); rintro e w22 ⟨rfl, hb⟩
  replace nvp := nvp.later hb
  replace cX0_0 := cL hb cX0_0; replace cX0_1 := cL hb cX0_1; replace cX0_2 := cL hb cX0_2; replace cX0_3 := cL hb cX0_3; replace cX0_4 := cL hb cX0_4; replace cX0_5 := cL hb cX0_5; replace cX0_6 := cL hb cX0_6; replace cX0_7 := cL hb cX0_7; replace cX0_8 := cL hb cX0_8
  replace cX1_0 := cL hb cX1_0; replace cX1_1 := cL hb cX1_1
  replace fX2_0 := fL hb cX2_0 fX2_0; replace fX2_1 := fL hb cX2_1 fX2_1; replace fX2_2 := fL hb cX2_2 fX2_2
  replace cX2_0 := cL hb cX2_0; replace cX2_1 := cL hb cX2_1; replace cX2_2 := cL hb cX2_2
  replace fX4_0 := fL hb cX4_0 fX4_0; replace fX4_1 := fL hb cX4_1 fX4_1
  replace cX4_0 := cL hb cX4_0; replace cX4_1 := cL hb cX4_1
  replace kk := bC kk hb
  clear hb
  clear nvp
  refine hK.out _ _ ⟨cX0_5, cX0_6, cX0_7, cX0_8, cX0_0, cX0_1, cX0_2, cX0_4, trivial⟩ (fun hHeld => ?_)
  clear hK K
  try simp only [zA, zB, zC, Act.put, zD, zE, zF]
  clear w21
  refine wpAnyH_take (i := 13) (v := ?vq59) rfl (by kernel_rfl) (by kernel_rfl) (by kernel_rfl) (fun _ _ _ h => h) (Or.inl ⟨by rfl, ?yq59⟩) hHeld ?rq59
  case yq59 => (intro wq hb; obtain ⟨lq0, lq1, lq2, lq3, lq4, lq5, lq6, lq7, _⟩ := hb; go_simp; try (with_reducible rfl))
  try simp only [zA, zB, zC, Act.put, zD, zE, zF]
  refine wpAnyH_take (i := 14) (v := ?vq60) rfl (by kernel_rfl) (by kernel_rfl) (by kernel_rfl) (fun _ _ _ h => h) (Or.inl ⟨by rfl, ?yq60⟩) hHeld ?rq60
  case yq60 => (intro wq hb; obtain ⟨lq0, lq1, lq2, lq3, lq4, lq5, lq6, lq7, _⟩ := hb; go_simp; try (with_reducible rfl))
  try simp only [zA, zB, zC, Act.put, zD, zE, zF]
  refine wpAnyH_take (i := 15) (v := ?vq61) rfl (by kernel_rfl) (by kernel_rfl) (by kernel_rfl) (fun _ _ _ h => h) (Or.inl ⟨by rfl, ?yq61⟩) hHeld ?rq61
  case yq61 => (intro wq hb; obtain ⟨lq0, lq1, lq2, lq3, lq4, lq5, lq6, lq7, _⟩ := hb; go_simp; try (with_reducible rfl))
  try simp only [zA, zB, zC, Act.put, zD, zE, zF]
  clear hHeld
  refine wpAnyH_ready (rs := [17]) (by kernel_rfl) (by simp) ?_
  refine AllReadyH.cons rfl (fun K hK => ?_) AllReadyH.nil
  go_simp
  have neX0 : ¬ (pp5 = w.heap.size) := by omega
  have nfX0 : ¬ (w.heap.size = pp5) := by omega
  have neX1 : ¬ (pp5 = w.heap.size + 1) := by omega
  have nfX1 : ¬ (w.heap.size + 1 = pp5) := by omega
  have neX2 : ¬ (pp5 = w.heap.size + 1 + 1) := by omega
  have nfX2 : ¬ (w.heap.size + 1 + 1 = pp5) := by omega
  have KEY := Lib.hid (show (fun W => W.cell? ⟨w.heap.size, 0, none⟩ = some (.int .u8 f) ∧ W.cell? ⟨w.heap.size, 1, none⟩ = some (.int .i64 p) ∧ W.cell? ⟨w.heap.size, 2, none⟩ = some (.int .i64 em) ∧ W.cell? ⟨w.heap.size, 3, none⟩ = some (.bool ng) ∧ W.cell? ⟨w.heap.size, 4, none⟩ = some (.int .i64 ex) ∧ W.cell? ⟨w.heap.size, 5, none⟩ = some (.int .u64 x0) ∧ W.cell? ⟨w.heap.size, 6, none⟩ = some (.int .u64 x1) ∧ W.cell? ⟨w.heap.size, 7, none⟩ = some (.int .u64 x2) ∧ W.cell? ⟨w.heap.size, 8, none⟩ = some (.int .u64 x3) ∧ W.cell? ⟨w.heap.size + 1, 0, none⟩ = some (.int .u8 m) ∧ W.cell? ⟨w.heap.size + 1, 1, none⟩ = some (.bool t) ∧ W.cell? ⟨w.heap.size + 1 + 1, 0, none⟩ = some (.int .u64 0) ∧ W.cell? ⟨w.heap.size + 1 + 1, 1, none⟩ = some (.int .u64 0) ∧ W.cell? ⟨w.heap.size + 1 + 1, 2, none⟩ = some (.int .u8 0) ∧ W.frozen? ⟨w.heap.size + 1 + 1, 0, none⟩ = false ∧ W.frozen? ⟨w.heap.size + 1 + 1, 1, none⟩ = false ∧ W.frozen? ⟨w.heap.size + 1 + 1, 2, none⟩ = false ∧ W.cell? ⟨pp5, 0, none⟩ = some (.int .u64 nh) ∧ W.cell? ⟨pp5, 1, none⟩ = some (.int .u64 nl) ∧ W.frozen? ⟨pp5, 0, none⟩ = false ∧ W.frozen? ⟨pp5, 1, none⟩ = false ∧ Below w.heap.size w W) ((w22.setCell ⟨pp5, 0, none⟩ (.int .u64 nh)).setCell ⟨pp5, 1, none⟩ (.int .u64 nl)) from ⟨by go_simp, by go_simp, by go_simp, by go_simp, by go_simp, by go_simp, by go_simp, by go_simp, by go_simp, by go_simp, by go_simp, by go_simp, by go_simp, by go_simp, by go_simp, by go_simp, by go_simp, by go_simp, by go_simp, by go_simp, by go_simp, ((kk.setCell (p := ⟨pp5, 0, none⟩) gX4 _).setCell (p := ⟨pp5, 1, none⟩) gX4 _)⟩)
  clear cX0_0 cX0_1 cX0_2 cX0_3 cX0_4 cX0_5 cX0_6 cX0_7 cX0_8 cX1_0 cX1_1 cX2_0 cX2_1 cX2_2 fX2_0 fX2_1 fX2_2 cX4_0 cX4_1 fX4_0 fX4_1 neX0 nfX0 neX1 nfX1 neX2 nfX2 kk
  refine forget_at (fun W => W.cell? ⟨w.heap.size, 0, none⟩ = some (.int .u8 f) ∧ W.cell? ⟨w.heap.size, 1, none⟩ = some (.int .i64 p) ∧ W.cell? ⟨w.heap.size, 2, none⟩ = some (.int .i64 em) ∧ W.cell? ⟨w.heap.size, 3, none⟩ = some (.bool ng) ∧ W.cell? ⟨w.heap.size, 4, none⟩ = some (.int .i64 ex) ∧ W.cell? ⟨w.heap.size, 5, none⟩ = some (.int .u64 x0) ∧ W.cell? ⟨w.heap.size, 6, none⟩ = some (.int .u64 x1) ∧ W.cell? ⟨w.heap.size, 7, none⟩ = some (.int .u64 x2) ∧ W.cell? ⟨w.heap.size, 8, none⟩ = some (.int .u64 x3) ∧ W.cell? ⟨w.heap.size + 1, 0, none⟩ = some (.int .u8 m) ∧ W.cell? ⟨w.heap.size + 1, 1, none⟩ = some (.bool t) ∧ W.cell? ⟨w.heap.size + 1 + 1, 0, none⟩ = some (.int .u64 0) ∧ W.cell? ⟨w.heap.size + 1 + 1, 1, none⟩ = some (.int .u64 0) ∧ W.cell? ⟨w.heap.size + 1 + 1, 2, none⟩ = some (.int .u8 0) ∧ W.frozen? ⟨w.heap.size + 1 + 1, 0, none⟩ = false ∧ W.frozen? ⟨w.heap.size + 1 + 1, 1, none⟩ = false ∧ W.frozen? ⟨w.heap.size + 1 + 1, 2, none⟩ = false ∧ W.cell? ⟨pp5, 0, none⟩ = some (.int .u64 nh) ∧ W.cell? ⟨pp5, 1, none⟩ = some (.int .u64 nl) ∧ W.frozen? ⟨pp5, 0, none⟩ = false ∧ W.frozen? ⟨pp5, 1, none⟩ = false ∧ Below w.heap.size w W) KEY.out (fun w23 hz => ?_)
  obtain ⟨cX0_0, cX0_1, cX0_2, cX0_3, cX0_4, cX0_5, cX0_6, cX0_7, cX0_8, cX1_0, cX1_1, cX2_0, cX2_1, cX2_2, fX2_0, fX2_1, fX2_2, cX4_0, cX4_1, fX4_0, fX4_1, kk⟩ := hz
  clear KEY
  refine hK.out _ _ ⟨cX0_5, cX0_6, cX0_7, cX0_8, cX0_0, cX0_1, cX0_2, cX0_4, trivial⟩ (fun hHeld => ?_)
  clear hK K
  try simp only [zA, zB, zC, Act.put, zD, zE, zF]
  clear w22
  refine wpAnyH_take (i := 18) (v := ?vq62) rfl (by kernel_rfl) (by kernel_rfl) (by kernel_rfl) (fun _ _ _ h => h) (Or.inl ⟨by rfl, ?yq62⟩) hHeld ?rq62
  case yq62 => (intro wq hb; obtain ⟨lq0, lq1, lq2, lq3, lq4, lq5, lq6, lq7, _⟩ := hb; go_simp; try (with_reducible rfl))
  try simp only [zA, zB, zC, Act.put, zD, zE, zF]
  clear hHeld
  refine wpAnyH_done (by kernel_rfl) ?_ _
  refine NoPanic.normal ?_
  revert kk; revert nX2_X4; revert nX1_X4; revert nX0_X4; revert gX4; revert fX4_1; revert fX4_0; revert cX4_1; revert cX4_0; revert fX2_2; revert fX2_1; revert fX2_0; revert cX2_2; revert cX2_1; revert cX2_0; revert cX1_1; revert cX1_0; revert cX0_8; revert cX0_7; revert cX0_6; revert cX0_5; revert cX0_4; revert cX0_3; revert cX0_2; revert cX0_1; revert cX0_0; revert pp5; revert w23
  exact ?restw6
  intro w24 pp5 cX0_0 cX0_1 cX0_2 cX0_3 cX0_4 cX0_5 cX0_6 cX0_7 cX0_8 cX1_0 cX1_1 cX2_0 cX2_1 cX2_2 fX2_0 fX2_1 fX2_2 cX4_0 cX4_1 fX4_0 fX4_1 gX4 nX0_X4 nX1_X4 nX2_X4 kk
  have sX0 : w.heap.size < w24.heap.size := bL cX0_0
  have sX1 : w.heap.size + 1 < w24.heap.size ∧ w.heap.size < w24.heap.size := by have h : w.heap.size + 1 < w24.heap.size := bL cX1_0; exact ⟨h, by omega⟩
  have sX2 : w.heap.size + 1 + 1 < w24.heap.size ∧ w.heap.size + 1 < w24.heap.size := by have h : w.heap.size + 1 + 1 < w24.heap.size := bL cX2_0; exact ⟨h, by omega⟩
  have sX4 : pp5 < w24.heap.size := bL cX4_0
  clear fX4_0 fX4_1
  go_wp2_with fail
  (with_reducible refine (h7.out _ (ft.later kk)).mono ?_); rintro e w25 ⟨rfl, hb⟩
  replace cX0_0 := cL hb cX0_0; replace cX0_1 := cL hb cX0_1; replace cX0_2 := cL hb cX0_2; replace cX0_3 := cL hb cX0_3; replace cX0_4 := cL hb cX0_4; replace cX0_5 := cL hb cX0_5; replace cX0_6 := cL hb cX0_6; replace cX0_7 := cL hb cX0_7; replace cX0_8 := cL hb cX0_8
  replace sX0 : w.heap.size < w25.heap.size := bL cX0_0
  replace cX1_0 := cL hb cX1_0; replace cX1_1 := cL hb cX1_1
  replace sX1 : w.heap.size + 1 < w25.heap.size ∧ w.heap.size < w25.heap.size := by have h : w.heap.size + 1 < w25.heap.size := bL cX1_0; exact ⟨h, by omega⟩
  replace fX2_0 := fL hb cX2_0 fX2_0; replace fX2_1 := fL hb cX2_1 fX2_1; replace fX2_2 := fL hb cX2_2 fX2_2
  replace cX2_0 := cL hb cX2_0; replace cX2_1 := cL hb cX2_1; replace cX2_2 := cL hb cX2_2
  replace sX2 : w.heap.size + 1 + 1 < w25.heap.size ∧ w.heap.size + 1 < w25.heap.size := by have h : w.heap.size + 1 + 1 < w25.heap.size := bL cX2_0; exact ⟨h, by omega⟩
  clear cX4_0 cX4_1 sX4
  replace kk := bC kk hb
  clear hb
  go_wp2_with fail
  (with_reducible refine (h8.out _ (ft.later (bC kk (bA (Below.refl _ _) _)))).mono ?_); rintro e w26 ⟨rfl, hb⟩
  have hz := bC (bA (Below.refl _ _) _) hb
  have nX2_X5 : w.heap.size + 1 + 1 < w25.heap.size := by omega
  have gX5 : w.heap.size ≤ w25.heap.size := by have := kk.size; omega
  clear cX0_0 cX0_1 cX0_2 cX0_3 cX0_4 cX0_5 cX0_6 cX0_7 cX0_8 sX0
  clear cX1_0 cX1_1 sX1
  replace fX2_0 := fL hz cX2_0 fX2_0; replace fX2_1 := fL hz cX2_1 fX2_1; replace fX2_2 := fL hz cX2_2 fX2_2
  replace cX2_0 := cL hz cX2_0; replace cX2_1 := cL hz cX2_1; replace cX2_2 := cL hz cX2_2
  replace sX2 : w.heap.size + 1 + 1 < w26.heap.size ∧ w.heap.size + 1 < w26.heap.size := by have h : w.heap.size + 1 + 1 < w26.heap.size := bL cX2_0; exact ⟨h, by omega⟩
  have cX5_0 := cL hb (a := ⟨w25.heap.size, 0, none⟩) (v := .int .u64 rh) (by go_simp)
  have cX5_1 := cL hb (a := ⟨w25.heap.size, 1, none⟩) (v := .int .u64 rl) (by go_simp)
  have cX5_2 := cL hb (a := ⟨w25.heap.size, 2, none⟩) (v := .int .u8 0) (by go_simp)
  have sX5 : w25.heap.size < w26.heap.size := bL cX5_0
  have fX5_0 := fL hb (a := ⟨w25.heap.size, 0, none⟩) (v := .int .u64 rh) (by go_simp) (by go_simp)
  have fX5_1 := fL hb (a := ⟨w25.heap.size, 1, none⟩) (v := .int .u64 rl) (by go_simp) (by go_simp)
  have fX5_2 := fL hb (a := ⟨w25.heap.size, 2, none⟩) (v := .int .u8 0) (by go_simp) (by go_simp)
  replace kk := bC kk hz
  clear hb hz
  have KEY : Hid ((fun W : World => W.cell? ⟨w.heap.size + 1 + 1, 0, none⟩ = some (.int .u64 rh) ∧ W.cell? ⟨w.heap.size + 1 + 1, 1, none⟩ = some (.int .u64 rl) ∧ W.cell? ⟨w.heap.size + 1 + 1, 2, none⟩ = some (.int .u8 fl) ∧ Below w.heap.size w W) ((((w26.setCell ⟨w25.heap.size, 2, none⟩ (.int .u8 fl)).setCell ⟨w.heap.size + 1 + 1, 0, none⟩ (.int .u64 rh)).setCell ⟨w.heap.size + 1 + 1, 1, none⟩ (.int .u64 rl)).setCell ⟨w.heap.size + 1 + 1, 2, none⟩ (.int .u8 fl))) := Lib.hid ⟨by go_simp, by go_simp, by go_simp, ((((kk.setCell (p := ⟨w25.heap.size, 2, none⟩) gX5 _).setCell (p := ⟨w.heap.size + 1 + 1, 0, none⟩) gX2 _).setCell (p := ⟨w.heap.size + 1 + 1, 1, none⟩) gX2 _).setCell (p := ⟨w.heap.size + 1 + 1, 2, none⟩) gX2 _)⟩
  go_wp2_with fail
  obtain ⟨e0, e1, e2, kb⟩ := KEY.out
  clear KEY cX2_0 cX2_1 cX2_2 fX2_0 fX2_1 fX2_2
  refine bodyPost_ret (v := .agg #[.int .u64 rh, .int .u64 rl, .int .u8 fl]) ?_ rfl ⟨rfl, kb⟩
  simp [results, Tryz.results20, go_sem, e0, e1, e2]

set_option maxHeartbeats 4000000 in
set_option maxRecDepth 100000 in
theorem pk_encode (f p em ex l y z uh ul nh nl rh rl x0 x1 x2 x3 : Int) (ng cy : Bool)
    (h0 : Hid (∀ w, FTab w → Calls Tryz.prog 47 #[.agg #[.int .u8 f, .int .i64 p, .int .i64 em], .int .i64 ex] w fun e w' => e = .returned (.int .i64 l) ∧ Below w.heap.size w w'))
    (h1 : Hid (∀ w, FTab w → Calls Tryz.prog 38 #[.int .u8 f, .bool ng, .int .i64 z, .agg #[.int .u64 0, .int .u64 0]] w fun e w' => e = .returned (.agg #[.int .u64 uh, .int .u64 ul]) ∧ Below w.heap.size w w'))
    (h2 : Hid (∀ w, Calls Tryz.prog 96 #[.agg #[.int .u64 uh, .int .u64 ul], .agg #[.int .u64 nh, .int .u64 nl]] w fun e w' => e = .returned (.tuple #[.agg #[.int .u64 rh, .int .u64 rl], .bool cy]) ∧ Below w.heap.size w w')) (w1 : IntKind.i64.wrap (l + em) = y) (w2 : IntKind.i64.wrap (y - 1) = z) (w2x : wrap64 (y - 1) = z) (w : World) (ft : FTab w) :
    Calls Tryz.prog 48 #[.agg #[.int .u8 f, .int .i64 p, .int .i64 em, .bool ng, .int .i64 ex, .int .u64 x0, .int .u64 x1, .int .u64 x2, .int .u64 x3], .agg #[.int .u64 nh, .int .u64 nl]] w fun e w' => e = .returned (.agg #[.int .u64 rh, .int .u64 rl]) ∧ Below w.heap.size w w' := by
  go_enter Tryz.func48, Tryz.ntmps48
  go_wp2_with fail
  have gX2 : w.heap.size ≤ w.heap.size + 1 + 1 := by omega
  refine wp_forget (fun W => W.cell? ⟨w.heap.size, 0, none⟩ = some (.int .u8 f) ∧ W.cell? ⟨w.heap.size, 1, none⟩ = some (.int .i64 p) ∧ W.cell? ⟨w.heap.size, 2, none⟩ = some (.int .i64 em) ∧ W.cell? ⟨w.heap.size, 3, none⟩ = some (.bool ng) ∧ W.cell? ⟨w.heap.size, 4, none⟩ = some (.int .i64 ex) ∧ W.cell? ⟨w.heap.size, 5, none⟩ = some (.int .u64 x0) ∧ W.cell? ⟨w.heap.size, 6, none⟩ = some (.int .u64 x1) ∧ W.cell? ⟨w.heap.size, 7, none⟩ = some (.int .u64 x2) ∧ W.cell? ⟨w.heap.size, 8, none⟩ = some (.int .u64 x3) ∧ W.cell? ⟨w.heap.size + 1, 0, none⟩ = some (.int .u64 nh) ∧ W.cell? ⟨w.heap.size + 1, 1, none⟩ = some (.int .u64 nl) ∧ W.cell? ⟨w.heap.size + 1 + 1, 0, none⟩ = some (.int .u64 0) ∧ W.cell? ⟨w.heap.size + 1 + 1, 1, none⟩ = some (.int .u64 0) ∧ W.frozen? ⟨w.heap.size + 1 + 1, 0, none⟩ = false ∧ W.frozen? ⟨w.heap.size + 1 + 1, 1, none⟩ = false ∧ Below w.heap.size w W) ⟨by go_simp, by go_simp, by go_simp, by go_simp, by go_simp, by go_simp, by go_simp, by go_simp, by go_simp, by go_simp, by go_simp, by go_simp, by go_simp, by go_simp, by go_simp, (bA (bA (bA (Below.refl _ _) _) _) _)⟩ (fun w1 hst => ?_)
  obtain ⟨cX0_0, cX0_1, cX0_2, cX0_3, cX0_4, cX0_5, cX0_6, cX0_7, cX0_8, cX1_0, cX1_1, cX2_0, cX2_1, fX2_0, fX2_1, kk⟩ := hst
  have sX0 : w.heap.size < w1.heap.size := bL cX0_0
  have sX1 : w.heap.size + 1 < w1.heap.size ∧ w.heap.size < w1.heap.size := by have h : w.heap.size + 1 < w1.heap.size := bL cX1_0; exact ⟨h, by omega⟩
  have sX2 : w.heap.size + 1 + 1 < w1.heap.size ∧ w.heap.size + 1 < w1.heap.size := by have h : w.heap.size + 1 + 1 < w1.heap.size := bL cX2_0; exact ⟨h, by omega⟩
  refine wp_region_noPanic ?_
  refine wp_region_F [18] [5] (LS w1 (AB w1) (ZB w1 uh ul)) (by kernel_rfl) (bs := [false]) (vs := [undef]) (by kernel_rfl) rfl (LS.before noBits_f (Below.refl _ _).drew (AB.start _ _)) ?_
  refine wpF_yield (i := 0) (v := ?vq63) rfl (by kernel_rfl) (by kernel_rfl) (fun _ _ _ h => h) (Or.inl ⟨by rfl, ?yq63⟩) ?rq63
  case yq63 => (intro wq; go_simp; try (with_reducible rfl))
  try simp only [zA, zB, zC, Act.put, zD, zE, zF]
  refine wpF_yield (i := 1) (v := ?vq64) rfl (by kernel_rfl) (by kernel_rfl) (fun _ _ _ h => h) (Or.inl ⟨by rfl, ?yq64⟩) ?rq64
  case yq64 => (intro wq; go_simp; try (with_reducible rfl))
  try simp only [zA, zB, zC, Act.put, zD, zE, zF]
  refine wpF_take3 (i := 2) (v := ?vq65) rfl (by kernel_rfl) (by kernel_rfl) (fun _ _ _ h => h) (LS.load (by rfl) ?yq65) ?rq65
  case yq65 => (intro wq hb; have lcX0_0 := cL hb cX0_0; go_simp; try (with_reducible rfl))
  try simp only [zA, zB, zC, Act.put, zD, zE, zF]
  refine wpF_yield (i := 3) (v := ?vq66) rfl (by kernel_rfl) (by kernel_rfl) (fun _ _ _ h => h) (Or.inl ⟨by rfl, ?yq66⟩) ?rq66
  case yq66 => (intro wq; go_simp; try (with_reducible rfl))
  try simp only [zA, zB, zC, Act.put, zD, zE, zF]
  refine wpF_take3 (i := 4) (v := ?vq67) rfl (by kernel_rfl) (by kernel_rfl) (fun _ _ _ h => h) (LS.load (by rfl) ?yq67) ?rq67
  case yq67 => (intro wq hb; have lcX0_3 := cL hb cX0_3; go_simp; try (with_reducible rfl))
  try simp only [zA, zB, zC, Act.put, zD, zE, zF]
  refine wpF_yield (i := 5) (v := ?vq68) rfl (by kernel_rfl) (by kernel_rfl) (fun _ _ _ h => h) (Or.inl ⟨by rfl, ?yq68⟩) ?rq68
  case yq68 => (intro wq; go_simp; try (with_reducible rfl))
  try simp only [zA, zB, zC, Act.put, zD, zE, zF]
  refine wpF_take3 (i := 6) (v := ?vq69) rfl (by kernel_rfl) (by kernel_rfl) (fun _ _ _ h => h) (LS.load (by rfl) ?yq69) ?rq69
  case yq69 => (intro wq hb; have lcX0_0 := cL hb cX0_0; have lcX0_1 := cL hb cX0_1; have lcX0_2 := cL hb cX0_2; go_simp; try (with_reducible rfl))
  try simp only [zA, zB, zC, Act.put, zD, zE, zF]
  refine wpF_yield (i := 7) (v := ?vq70) rfl (by kernel_rfl) (by kernel_rfl) (fun _ _ _ h => h) (Or.inl ⟨by rfl, ?yq70⟩) ?rq70
  case yq70 => (intro wq; go_simp; try (with_reducible rfl))
  try simp only [zA, zB, zC, Act.put, zD, zE, zF]
  refine wpF_take3 (i := 8) (v := ?vq71) rfl (by kernel_rfl) (by kernel_rfl) (fun _ _ _ h => h) (LS.load (by rfl) ?yq71) ?rq71
  case yq71 => (intro wq hb; have lcX0_4 := cL hb cX0_4; go_simp; try (with_reducible rfl))
  try simp only [zA, zB, zC, Act.put, zD, zE, zF]
  refine wpF_take3 (i := 9) (v := _) rfl (by kernel_rfl) (by kernel_rfl) (fun _ _ _ h => h) (LS.callW (AB.lasts w1) (by rfl) _ _ ?yq72 ((fun W hb => h0.out W (ft.later (bC kk hb))))) ?rq72
  case yq72 => (intro wq; go_simp; try (with_reducible rfl))
  try simp only [zA, zB, zC, Act.put, zD, zE, zF]
  refine wpF_yield (i := 10) (v := ?vq73) rfl (by kernel_rfl) (by kernel_rfl) (fun _ _ _ h => h) (Or.inl ⟨by rfl, ?yq73⟩) ?rq73
  case yq73 => (intro wq; go_simp; try (with_reducible rfl))
  try simp only [zA, zB, zC, Act.put, zD, zE, zF]
  refine wpF_yield (i := 11) (v := ?vq74) rfl (by kernel_rfl) (by kernel_rfl) (fun _ _ _ h => h) (Or.inl ⟨by rfl, ?yq74⟩) ?rq74
  case yq74 => (intro wq; go_simp; try (with_reducible rfl))
  try simp only [zA, zB, zC, Act.put, zD, zE, zF]
  refine wpF_take3 (i := 12) (v := ?vq75) rfl (by kernel_rfl) (by kernel_rfl) (fun _ _ _ h => h) (LS.load (by rfl) ?yq75) ?rq75
  case yq75 => (intro wq hb; have lcX0_2 := cL hb cX0_2; go_simp; try (with_reducible rfl))
  try simp only [zA, zB, zC, Act.put, zD, zE, zF]
  refine wpF_yield (i := 13) (v := ?vq76) rfl (by kernel_rfl) (by kernel_rfl) (fun _ _ _ h => h) (Or.inl ⟨by rfl, ?yq76⟩) ?rq76
  case yq76 => (intro wq; go_simp; try (with_reducible rfl))
  try simp only [zA, zB, zC, Act.put, zD, zE, zF]
  refine wpF_yield (i := 14) (v := ?vq77) rfl (by kernel_rfl) (by kernel_rfl) (fun _ _ _ h => h) (Or.inl ⟨by rfl, ?yq77⟩) ?rq77
  case yq77 => (intro wq; go_simp; try (with_reducible rfl))
  try simp only [zA, zB, zC, Act.put, zD, zE, zF]
  refine wpF_yield (i := 15) (v := ?vq78) rfl (by kernel_rfl) (by kernel_rfl) (fun _ _ _ h => h) (Or.inl ⟨by rfl, ?yq78⟩) ?rq78
  case yq78 => (intro wq; go_simp; try (with_reducible rfl))
  try simp only [zA, zB, zC, Act.put, zD, zE, zF]
  refine wpF_take3 (i := 16) (v := _) rfl (by kernel_rfl) (by kernel_rfl) (fun _ _ _ h => h) (LS.callW (AB.lasts w1) (by rfl) _ _ ?yq79 ((fun W hb => h1.out W (ft.later (bC kk hb))))) ?rq79
  case yq79 => (intro wq; go_simp; try (with_reducible rfl))
  try simp only [zA, zB, zC, Act.put, zD, zE, zF]
  refine wpF_step (i := 17) (bs := [false]) (bs' := [false]) (vs := [undef]) (by kernel_rfl) rfl (by kernel_rfl) rfl (by kernel_rfl) (fun wq hS K hK => ?_)
  obtain ⟨hb, hA⟩ := hS.1 noBits_f
  go_simp
  refine hK.out _ _ (LS.before noBits_f (bA hb _) (AB.new hb _ rfl)) ?_
  clear hK hA hb hS
  generalize wq.heap.size = pp1 at *
  try simp only [zA, zB, zC, Act.put, zD, zE, zF]
  refine wpF_step (i := 18) (bs := [false]) (bs' := [true]) (vs := [.pointer (some ⟨pp1, 0, none⟩)]) (by kernel_rfl) rfl (by kernel_rfl) rfl (by kernel_rfl) (fun wq hS K hK => ?_)
  obtain ⟨hb, hA⟩ := hS.1 noBits_f
  have ZZ := Lib.hid (ZB.of hb hA uh ul [true])
  obtain ⟨hp, ⟨⟨_, z0, z1⟩, f0, f1⟩⟩ := hA _ rfl
  go_simp
  refine hK.out _ _ (LS.behind bits_t ZZ.out) ?_
  clear hK hA hb ZZ hS z0 z1 f0 f1 hp
  try simp only [zA, zB, zC, Act.put, zD, zE, zF]
  refine wpF_done (bs := [true]) (vs := [.pointer (some ⟨pp1, 0, none⟩)]) (by kernel_rfl) (by kernel_rfl) rfl (fun w2 hS => ?_) _
  refine NoPanic.normal ?_
  obtain ⟨q, hpp, hge, hbox, hb⟩ := hS.2 bits_t
  obtain rfl := ptr_eq hpp rfl
  have nX2_X3 : w.heap.size + 1 + 1 < pp1 := by omega
  obtain ⟨⟨_, cX3_0, cX3_1⟩, fX3_0, fX3_1⟩ := hbox
  clear hS
  clear fX3_0 fX3_1
  clear cX0_0 cX0_1 cX0_2 cX0_3 cX0_4 cX0_5 cX0_6 cX0_7 cX0_8 sX0
  replace cX1_0 := cL hb cX1_0; replace cX1_1 := cL hb cX1_1
  replace sX1 : w.heap.size + 1 < w2.heap.size ∧ w.heap.size < w2.heap.size := by have h : w.heap.size + 1 < w2.heap.size := bL cX1_0; exact ⟨h, by omega⟩
  replace fX2_0 := fL hb cX2_0 fX2_0; replace fX2_1 := fL hb cX2_1 fX2_1
  replace cX2_0 := cL hb cX2_0; replace cX2_1 := cL hb cX2_1
  replace sX2 : w.heap.size + 1 + 1 < w2.heap.size ∧ w.heap.size + 1 < w2.heap.size := by have h : w.heap.size + 1 + 1 < w2.heap.size := bL cX2_0; exact ⟨h, by omega⟩
  have sX3 : pp1 < w2.heap.size := bL cX3_0
  replace kk := bC kk hb
  clear hb
  go_wp2_with fail
  (with_reducible refine (h2.out _).mono ?_); rintro e w3 ⟨rfl, hb⟩
  clear cX1_0 cX1_1 sX1
  replace fX2_0 := fL hb cX2_0 fX2_0; replace fX2_1 := fL hb cX2_1 fX2_1
  replace cX2_0 := cL hb cX2_0; replace cX2_1 := cL hb cX2_1
  replace sX2 : w.heap.size + 1 + 1 < w3.heap.size ∧ w.heap.size + 1 < w3.heap.size := by have h : w.heap.size + 1 + 1 < w3.heap.size := bL cX2_0; exact ⟨h, by omega⟩
  clear cX3_0 cX3_1 sX3
  replace kk := bC kk hb
  clear hb
  have NW := BoxF.set (⟨Box.of cX2_0 cX2_1, fX2_0, fX2_1⟩ : BoxF w3 (w.heap.size + 1 + 1) _ _) rh rl
  have KEY : Hid ((((w3.setCell ⟨w.heap.size + 1 + 1, 0, none⟩ (.int .u64 rh)).setCell ⟨w.heap.size + 1 + 1, 1, none⟩ (.int .u64 rl)).alloc (.cells #[.int .u64 rh, .int .u64 rl] 30)).cell? ⟨w.heap.size + 1 + 1, 0, none⟩ = some (.int .u64 rh) ∧ (((w3.setCell ⟨w.heap.size + 1 + 1, 0, none⟩ (.int .u64 rh)).setCell ⟨w.heap.size + 1 + 1, 1, none⟩ (.int .u64 rl)).alloc (.cells #[.int .u64 rh, .int .u64 rl] 30)).cell? ⟨w.heap.size + 1 + 1, 1, none⟩ = some (.int .u64 rl) ∧ Below w.heap.size w (((w3.setCell ⟨w.heap.size + 1 + 1, 0, none⟩ (.int .u64 rh)).setCell ⟨w.heap.size + 1 + 1, 1, none⟩ (.int .u64 rl)).alloc (.cells #[.int .u64 rh, .int .u64 rl] 30))) := Lib.hid ⟨(cL (bA (Below.refl _ _) _) NW.1.2.1), (cL (bA (Below.refl _ _) _) NW.1.2.2), (bA (bS kk gX2 _ _) _)⟩
  clear NW
  go_wp2_with fail
  obtain ⟨e0, e1, kb⟩ := KEY.out
  clear KEY
  refine bodyPost_ret (v := .agg #[.int .u64 rh, .int .u64 rl]) ?_ rfl ⟨rfl, kb⟩
  simp [results, Tryz.results48, go_sem, e0, e1]

set_option maxHeartbeats 4000000 in
set_option maxRecDepth 100000 in
theorem pk_inexact_00 (f p em ex m af x0 x1 x2 x3 : Int) (ng : Bool)
    (h0 : Hid (∀ w, FTab w → Calls Tryz.prog 97 #[.agg #[.int .u8 f, .int .i64 p, .int .i64 em], .int .i64 ex] w fun e w' => e = .returned (.bool false) ∧ Below w.heap.size w w')) (w : World) (ft : FTab w) :
    Calls Tryz.prog 49 #[.agg #[.int .u8 f, .int .i64 p, .int .i64 em, .bool ng, .int .i64 ex, .int .u64 x0, .int .u64 x1, .int .u64 x2, .int .u64 x3], .agg #[.int .u8 m, .bool false], .int .i64 af] w fun e w' => e = .returned (.int .u8 16) ∧ Below w.heap.size w w' := by
  go_enter Tryz.func49, Tryz.ntmps49
  go_wp2_with fail
  (with_reducible refine (h0.out _ (ft.later (bA (bA (Below.refl _ _) _) _))).mono ?_); rintro e w1 ⟨rfl, hb⟩
  have hz := bC (bA (bA (Below.refl _ _) _) _) hb
  have kk := hz
  clear hb hz
  go_wp2_with fail
  go_ret
  exact ⟨rfl, kk⟩

set_option maxHeartbeats 4000000 in
set_option maxRecDepth 100000 in
theorem pk_inexact_01 (f p em ex m af x0 x1 x2 x3 : Int) (ng : Bool)
    (h0 : Hid (∀ w, FTab w → Calls Tryz.prog 97 #[.agg #[.int .u8 f, .int .i64 p, .int .i64 em], .int .i64 ex] w fun e w' => e = .returned (.bool true) ∧ Below w.heap.size w w')) (w : World) (ft : FTab w) :
    Calls Tryz.prog 49 #[.agg #[.int .u8 f, .int .i64 p, .int .i64 em, .bool ng, .int .i64 ex, .int .u64 x0, .int .u64 x1, .int .u64 x2, .int .u64 x3], .agg #[.int .u8 m, .bool false], .int .i64 af] w fun e w' => e = .returned (.int .u8 24) ∧ Below w.heap.size w w' := by
  go_enter Tryz.func49, Tryz.ntmps49
  go_wp2_with fail
  (with_reducible refine (h0.out _ (ft.later (bA (bA (Below.refl _ _) _) _))).mono ?_); rintro e w1 ⟨rfl, hb⟩
  have hz := bC (bA (bA (Below.refl _ _) _) _) hb
  have kk := hz
  clear hb hz
  go_wp2_with fail
  go_ret
  exact ⟨rfl, kk⟩

set_option maxHeartbeats 4000000 in
set_option maxRecDepth 100000 in
theorem pk_inexact_10 (f p em ex m af x0 x1 x2 x3 : Int) (ng : Bool)
    (h0 : Hid (∀ w, FTab w → Calls Tryz.prog 97 #[.agg #[.int .u8 f, .int .i64 p, .int .i64 em], .int .i64 af] w fun e w' => e = .returned (.bool false) ∧ Below w.heap.size w w')) (w : World) (ft : FTab w) :
    Calls Tryz.prog 49 #[.agg #[.int .u8 f, .int .i64 p, .int .i64 em, .bool ng, .int .i64 ex, .int .u64 x0, .int .u64 x1, .int .u64 x2, .int .u64 x3], .agg #[.int .u8 m, .bool true], .int .i64 af] w fun e w' => e = .returned (.int .u8 16) ∧ Below w.heap.size w w' := by
  go_enter Tryz.func49, Tryz.ntmps49
  go_wp2_with fail
  (with_reducible refine (h0.out _ (ft.later (bA (bA (Below.refl _ _) _) _))).mono ?_); rintro e w1 ⟨rfl, hb⟩
  have hz := bC (bA (bA (Below.refl _ _) _) _) hb
  have kk := hz
  clear hb hz
  go_wp2_with fail
  go_ret
  exact ⟨rfl, kk⟩

set_option maxHeartbeats 4000000 in
set_option maxRecDepth 100000 in
theorem pk_inexact_11 (f p em ex m af x0 x1 x2 x3 : Int) (ng : Bool)
    (h0 : Hid (∀ w, FTab w → Calls Tryz.prog 97 #[.agg #[.int .u8 f, .int .i64 p, .int .i64 em], .int .i64 af] w fun e w' => e = .returned (.bool true) ∧ Below w.heap.size w w')) (w : World) (ft : FTab w) :
    Calls Tryz.prog 49 #[.agg #[.int .u8 f, .int .i64 p, .int .i64 em, .bool ng, .int .i64 ex, .int .u64 x0, .int .u64 x1, .int .u64 x2, .int .u64 x3], .agg #[.int .u8 m, .bool true], .int .i64 af] w fun e w' => e = .returned (.int .u8 24) ∧ Below w.heap.size w w' := by
  go_enter Tryz.func49, Tryz.ntmps49
  go_wp2_with fail
  (with_reducible refine (h0.out _ (ft.later (bA (bA (Below.refl _ _) _) _))).mono ?_); rintro e w1 ⟨rfl, hb⟩
  have hz := bC (bA (bA (Below.refl _ _) _) _) hb
  have kk := hz
  clear hb hz
  go_wp2_with fail
  go_ret
  exact ⟨rfl, kk⟩

set_option maxHeartbeats 4000000 in
set_option maxRecDepth 100000 in
theorem pk_Round_no1 (f m ex x0 x1 x2 x3 : Int) (t ng : Bool)
    (h0 : Hid (∀ w, FTab w → Calls Tryz.prog 11 #[.int .u8 f] w fun e w' => e = .returned (.bool false) ∧ Below w.heap.size w w')) (w : World) (ft : FTab w) :
    Calls Tryz.prog 6 #[.int .u8 f, .agg #[.int .u8 m, .bool t], .bool ng, .int .i64 ex, .agg #[.int .u64 x0, .int .u64 x1, .int .u64 x2, .int .u64 x3]] w fun e w' => e = .returned (.agg #[.int .u64 0, .int .u64 0, .int .u8 0]) ∧ Below w.heap.size w w' := by
  go_enter Tryz.func6, Tryz.ntmps6
  go_wp2_with fail
  (with_reducible refine (h0.out _ (ft.later (bA (bA (bA (Below.refl _ _) _) _) _))).mono ?_); rintro e w1 ⟨rfl, hb⟩
  have hz := bC (bA (bA (bA (Below.refl _ _) _) _) _) hb
  have gX2 : w.heap.size ≤ w.heap.size + 1 + 1 := by omega
  have cX0_0 := cL hb (a := ⟨w.heap.size, 0, none⟩) (v := .int .u8 m) (by go_simp)
  have cX0_1 := cL hb (a := ⟨w.heap.size, 1, none⟩) (v := .bool t) (by go_simp)
  have sX0 : w.heap.size < w1.heap.size := bL cX0_0
  have cX2_0 := cL hb (a := ⟨w.heap.size + 1 + 1, 0, none⟩) (v := .int .u64 0) (by go_simp)
  have cX2_1 := cL hb (a := ⟨w.heap.size + 1 + 1, 1, none⟩) (v := .int .u64 0) (by go_simp)
  have cX2_2 := cL hb (a := ⟨w.heap.size + 1 + 1, 2, none⟩) (v := .int .u8 0) (by go_simp)
  have sX2 : w.heap.size + 1 + 1 < w1.heap.size ∧ w.heap.size + 1 < w1.heap.size := by have h : w.heap.size + 1 + 1 < w1.heap.size := bL cX2_0; exact ⟨h, by omega⟩
  have fX2_0 := fL hb (a := ⟨w.heap.size + 1 + 1, 0, none⟩) (v := .int .u64 0) (by go_simp) (by go_simp)
  have fX2_1 := fL hb (a := ⟨w.heap.size + 1 + 1, 1, none⟩) (v := .int .u64 0) (by go_simp) (by go_simp)
  have fX2_2 := fL hb (a := ⟨w.heap.size + 1 + 1, 2, none⟩) (v := .int .u8 0) (by go_simp) (by go_simp)
  have kk := hz
  clear hb hz
  have KEY : Hid ((fun W : World => W.cell? ⟨w.heap.size + 1 + 1, 0, none⟩ = some (.int .u64 0) ∧ W.cell? ⟨w.heap.size + 1 + 1, 1, none⟩ = some (.int .u64 0) ∧ W.cell? ⟨w.heap.size + 1 + 1, 2, none⟩ = some (.int .u8 0) ∧ Below w.heap.size w W) (((w1.setCell ⟨w.heap.size + 1 + 1, 0, none⟩ (.int .u64 0)).setCell ⟨w.heap.size + 1 + 1, 1, none⟩ (.int .u64 0)).setCell ⟨w.heap.size + 1 + 1, 2, none⟩ (.int .u8 0))) := Lib.hid ⟨by go_simp, by go_simp, by go_simp, (((kk.setCell (p := ⟨w.heap.size + 1 + 1, 0, none⟩) gX2 _).setCell (p := ⟨w.heap.size + 1 + 1, 1, none⟩) gX2 _).setCell (p := ⟨w.heap.size + 1 + 1, 2, none⟩) gX2 _)⟩
  go_wp2_with fail
  obtain ⟨e0, e1, e2, kb⟩ := KEY.out
  clear KEY cX2_0 cX2_1 cX2_2 fX2_0 fX2_1 fX2_2
  refine bodyPost_ret (v := .agg #[.int .u64 0, .int .u64 0, .int .u8 0]) ?_ rfl ⟨rfl, kb⟩
  simp [results, Tryz.results6, go_sem, e0, e1, e2]

set_option maxHeartbeats 4000000 in
set_option maxRecDepth 100000 in
theorem pk_Round_no2 (f m ex x0 x1 x2 x3 : Int) (t ng : Bool)
    (h0 : Hid (∀ w, FTab w → Calls Tryz.prog 11 #[.int .u8 f] w fun e w' => e = .returned (.bool true) ∧ Below w.heap.size w w'))
    (h1 : Hid (∀ w, Calls Tryz.prog 16 #[.int .u8 m] w fun e w' => e = .returned (.bool false) ∧ Below w.heap.size w w')) (w : World) (ft : FTab w) :
    Calls Tryz.prog 6 #[.int .u8 f, .agg #[.int .u8 m, .bool t], .bool ng, .int .i64 ex, .agg #[.int .u64 x0, .int .u64 x1, .int .u64 x2, .int .u64 x3]] w fun e w' => e = .returned (.agg #[.int .u64 0, .int .u64 0, .int .u8 0]) ∧ Below w.heap.size w w' := by
  go_enter Tryz.func6, Tryz.ntmps6
  go_wp2_with fail
  (with_reducible refine (h0.out _ (ft.later (bA (bA (bA (Below.refl _ _) _) _) _))).mono ?_); rintro e w1 ⟨rfl, hb⟩
  have hz := bC (bA (bA (bA (Below.refl _ _) _) _) _) hb
  have gX2 : w.heap.size ≤ w.heap.size + 1 + 1 := by omega
  have cX0_0 := cL hb (a := ⟨w.heap.size, 0, none⟩) (v := .int .u8 m) (by go_simp)
  have cX0_1 := cL hb (a := ⟨w.heap.size, 1, none⟩) (v := .bool t) (by go_simp)
  have sX0 : w.heap.size < w1.heap.size := bL cX0_0
  have cX2_0 := cL hb (a := ⟨w.heap.size + 1 + 1, 0, none⟩) (v := .int .u64 0) (by go_simp)
  have cX2_1 := cL hb (a := ⟨w.heap.size + 1 + 1, 1, none⟩) (v := .int .u64 0) (by go_simp)
  have cX2_2 := cL hb (a := ⟨w.heap.size + 1 + 1, 2, none⟩) (v := .int .u8 0) (by go_simp)
  have sX2 : w.heap.size + 1 + 1 < w1.heap.size ∧ w.heap.size + 1 < w1.heap.size := by have h : w.heap.size + 1 + 1 < w1.heap.size := bL cX2_0; exact ⟨h, by omega⟩
  have fX2_0 := fL hb (a := ⟨w.heap.size + 1 + 1, 0, none⟩) (v := .int .u64 0) (by go_simp) (by go_simp)
  have fX2_1 := fL hb (a := ⟨w.heap.size + 1 + 1, 1, none⟩) (v := .int .u64 0) (by go_simp) (by go_simp)
  have fX2_2 := fL hb (a := ⟨w.heap.size + 1 + 1, 2, none⟩) (v := .int .u8 0) (by go_simp) (by go_simp)
  have kk := hz
  clear hb hz
  go_wp2_with fail
  (with_reducible refine (h1.out _).mono ?_); rintro e w2 ⟨rfl, hb⟩
  clear cX0_0 cX0_1 sX0
  replace fX2_0 := fL hb cX2_0 fX2_0; replace fX2_1 := fL hb cX2_1 fX2_1; replace fX2_2 := fL hb cX2_2 fX2_2
  replace cX2_0 := cL hb cX2_0; replace cX2_1 := cL hb cX2_1; replace cX2_2 := cL hb cX2_2
  replace sX2 : w.heap.size + 1 + 1 < w2.heap.size ∧ w.heap.size + 1 < w2.heap.size := by have h : w.heap.size + 1 + 1 < w2.heap.size := bL cX2_0; exact ⟨h, by omega⟩
  replace kk := bC kk hb
  clear hb
  have KEY : Hid ((fun W : World => W.cell? ⟨w.heap.size + 1 + 1, 0, none⟩ = some (.int .u64 0) ∧ W.cell? ⟨w.heap.size + 1 + 1, 1, none⟩ = some (.int .u64 0) ∧ W.cell? ⟨w.heap.size + 1 + 1, 2, none⟩ = some (.int .u8 0) ∧ Below w.heap.size w W) (((w2.setCell ⟨w.heap.size + 1 + 1, 0, none⟩ (.int .u64 0)).setCell ⟨w.heap.size + 1 + 1, 1, none⟩ (.int .u64 0)).setCell ⟨w.heap.size + 1 + 1, 2, none⟩ (.int .u8 0))) := Lib.hid ⟨by go_simp, by go_simp, by go_simp, (((kk.setCell (p := ⟨w.heap.size + 1 + 1, 0, none⟩) gX2 _).setCell (p := ⟨w.heap.size + 1 + 1, 1, none⟩) gX2 _).setCell (p := ⟨w.heap.size + 1 + 1, 2, none⟩) gX2 _)⟩
  go_wp2_with fail
  obtain ⟨e0, e1, e2, kb⟩ := KEY.out
  clear KEY cX2_0 cX2_1 cX2_2 fX2_0 fX2_1 fX2_2
  refine bodyPost_ret (v := .agg #[.int .u64 0, .int .u64 0, .int .u8 0]) ?_ rfl ⟨rfl, kb⟩
  simp [results, Tryz.results6, go_sem, e0, e1, e2]

set_option maxHeartbeats 4000000 in
set_option maxRecDepth 100000 in
theorem pk_Round_zero (f m ex x0 x1 x2 x3 rh rl : Int) (t ng : Bool)
    (h0 : Hid (∀ w, FTab w → Calls Tryz.prog 11 #[.int .u8 f] w fun e w' => e = .returned (.bool true) ∧ Below w.heap.size w w'))
    (h1 : Hid (∀ w, Calls Tryz.prog 16 #[.int .u8 m] w fun e w' => e = .returned (.bool true) ∧ Below w.heap.size w w'))
    (h2 : Hid (∀ w, Calls Tryz.prog 17 #[.agg #[.int .u64 x0, .int .u64 x1, .int .u64 x2, .int .u64 x3]] w fun e w' => e = .returned (.bool true) ∧ Below w.heap.size w w'))
    (h3 : Hid (∀ w, FTab w → Calls Tryz.prog 18 #[.int .u8 f, .bool ng] w fun e w' => e = .returned (.agg #[.int .u64 rh, .int .u64 rl]) ∧ Below w.heap.size w w')) (w : World) (ft : FTab w) :
    Calls Tryz.prog 6 #[.int .u8 f, .agg #[.int .u8 m, .bool t], .bool ng, .int .i64 ex, .agg #[.int .u64 x0, .int .u64 x1, .int .u64 x2, .int .u64 x3]] w fun e w' => e = .returned (.agg #[.int .u64 rh, .int .u64 rl, .int .u8 0]) ∧ Below w.heap.size w w' := by
  go_enter Tryz.func6, Tryz.ntmps6
  go_wp2_with fail
  (with_reducible refine (h0.out _ (ft.later (bA (bA (bA (Below.refl _ _) _) _) _))).mono ?_); rintro e w1 ⟨rfl, hb⟩
  have hz := bC (bA (bA (bA (Below.refl _ _) _) _) _) hb
  have gX2 : w.heap.size ≤ w.heap.size + 1 + 1 := by omega
  have cX0_0 := cL hb (a := ⟨w.heap.size, 0, none⟩) (v := .int .u8 m) (by go_simp)
  have cX0_1 := cL hb (a := ⟨w.heap.size, 1, none⟩) (v := .bool t) (by go_simp)
  have sX0 : w.heap.size < w1.heap.size := bL cX0_0
  have cX1_0 := cL hb (a := ⟨w.heap.size + 1, 0, none⟩) (v := .int .u64 x0) (by go_simp)
  have cX1_1 := cL hb (a := ⟨w.heap.size + 1, 1, none⟩) (v := .int .u64 x1) (by go_simp)
  have cX1_2 := cL hb (a := ⟨w.heap.size + 1, 2, none⟩) (v := .int .u64 x2) (by go_simp)
  have cX1_3 := cL hb (a := ⟨w.heap.size + 1, 3, none⟩) (v := .int .u64 x3) (by go_simp)
  have sX1 : w.heap.size + 1 < w1.heap.size ∧ w.heap.size < w1.heap.size := by have h : w.heap.size + 1 < w1.heap.size := bL cX1_0; exact ⟨h, by omega⟩
  have cX2_0 := cL hb (a := ⟨w.heap.size + 1 + 1, 0, none⟩) (v := .int .u64 0) (by go_simp)
  have cX2_1 := cL hb (a := ⟨w.heap.size + 1 + 1, 1, none⟩) (v := .int .u64 0) (by go_simp)
  have cX2_2 := cL hb (a := ⟨w.heap.size + 1 + 1, 2, none⟩) (v := .int .u8 0) (by go_simp)
  have sX2 : w.heap.size + 1 + 1 < w1.heap.size ∧ w.heap.size + 1 < w1.heap.size := by have h : w.heap.size + 1 + 1 < w1.heap.size := bL cX2_0; exact ⟨h, by omega⟩
  have fX2_0 := fL hb (a := ⟨w.heap.size + 1 + 1, 0, none⟩) (v := .int .u64 0) (by go_simp) (by go_simp)
  have fX2_1 := fL hb (a := ⟨w.heap.size + 1 + 1, 1, none⟩) (v := .int .u64 0) (by go_simp) (by go_simp)
  have fX2_2 := fL hb (a := ⟨w.heap.size + 1 + 1, 2, none⟩) (v := .int .u8 0) (by go_simp) (by go_simp)
  have kk := hz
  clear hb hz
  go_wp2_with fail
  (with_reducible refine (h1.out _).mono ?_); rintro e w2 ⟨rfl, hb⟩
  clear cX0_0 cX0_1 sX0
  replace cX1_0 := cL hb cX1_0; replace cX1_1 := cL hb cX1_1; replace cX1_2 := cL hb cX1_2; replace cX1_3 := cL hb cX1_3
  replace sX1 : w.heap.size + 1 < w2.heap.size ∧ w.heap.size < w2.heap.size := by have h : w.heap.size + 1 < w2.heap.size := bL cX1_0; exact ⟨h, by omega⟩
  replace fX2_0 := fL hb cX2_0 fX2_0; replace fX2_1 := fL hb cX2_1 fX2_1; replace fX2_2 := fL hb cX2_2 fX2_2
  replace cX2_0 := cL hb cX2_0; replace cX2_1 := cL hb cX2_1; replace cX2_2 := cL hb cX2_2
  replace sX2 : w.heap.size + 1 + 1 < w2.heap.size ∧ w.heap.size + 1 < w2.heap.size := by have h : w.heap.size + 1 + 1 < w2.heap.size := bL cX2_0; exact ⟨h, by omega⟩
  replace kk := bC kk hb
  clear hb
  go_wp2_with fail
  (with_reducible refine (h2.out _).mono ?_); rintro e w3 ⟨rfl, hb⟩
  clear cX1_0 cX1_1 cX1_2 cX1_3 sX1
  replace fX2_0 := fL hb cX2_0 fX2_0; replace fX2_1 := fL hb cX2_1 fX2_1; replace fX2_2 := fL hb cX2_2 fX2_2
  replace cX2_0 := cL hb cX2_0; replace cX2_1 := cL hb cX2_1; replace cX2_2 := cL hb cX2_2
  replace sX2 : w.heap.size + 1 + 1 < w3.heap.size ∧ w.heap.size + 1 < w3.heap.size := by have h : w.heap.size + 1 + 1 < w3.heap.size := bL cX2_0; exact ⟨h, by omega⟩
  replace kk := bC kk hb
  clear hb
  go_wp2_with fail
  (with_reducible refine (h3.out _ (ft.later kk)).mono ?_); rintro e w4 ⟨rfl, hb⟩
  replace fX2_0 := fL hb cX2_0 fX2_0; replace fX2_1 := fL hb cX2_1 fX2_1; replace fX2_2 := fL hb cX2_2 fX2_2
  replace cX2_0 := cL hb cX2_0; replace cX2_1 := cL hb cX2_1; replace cX2_2 := cL hb cX2_2
  replace sX2 : w.heap.size + 1 + 1 < w4.heap.size ∧ w.heap.size + 1 < w4.heap.size := by have h : w.heap.size + 1 + 1 < w4.heap.size := bL cX2_0; exact ⟨h, by omega⟩
  replace kk := bC kk hb
  clear hb
  have KEY : Hid ((fun W : World => W.cell? ⟨w.heap.size + 1 + 1, 0, none⟩ = some (.int .u64 rh) ∧ W.cell? ⟨w.heap.size + 1 + 1, 1, none⟩ = some (.int .u64 rl) ∧ W.cell? ⟨w.heap.size + 1 + 1, 2, none⟩ = some (.int .u8 0) ∧ Below w.heap.size w W) (((w4.setCell ⟨w.heap.size + 1 + 1, 0, none⟩ (.int .u64 rh)).setCell ⟨w.heap.size + 1 + 1, 1, none⟩ (.int .u64 rl)).setCell ⟨w.heap.size + 1 + 1, 2, none⟩ (.int .u8 0))) := Lib.hid ⟨by go_simp, by go_simp, by go_simp, (((kk.setCell (p := ⟨w.heap.size + 1 + 1, 0, none⟩) gX2 _).setCell (p := ⟨w.heap.size + 1 + 1, 1, none⟩) gX2 _).setCell (p := ⟨w.heap.size + 1 + 1, 2, none⟩) gX2 _)⟩
  go_wp2_with fail
  obtain ⟨e0, e1, e2, kb⟩ := KEY.out
  clear KEY cX2_0 cX2_1 cX2_2 fX2_0 fX2_1 fX2_2
  refine bodyPost_ret (v := .agg #[.int .u64 rh, .int .u64 rl, .int .u8 0]) ?_ rfl ⟨rfl, kb⟩
  simp [results, Tryz.results6, go_sem, e0, e1, e2]

set_option maxHeartbeats 4000000 in
set_option maxRecDepth 100000 in
theorem pk_Round_main (f m ex x0 x1 x2 x3 p em c rh rl fl y0 y1 y2 y3 : Int) (t ng : Bool)
    (h0 : Hid (∀ w, FTab w → Calls Tryz.prog 11 #[.int .u8 f] w fun e w' => e = .returned (.bool true) ∧ Below w.heap.size w w'))
    (h1 : Hid (∀ w, Calls Tryz.prog 16 #[.int .u8 m] w fun e w' => e = .returned (.bool true) ∧ Below w.heap.size w w'))
    (h2 : Hid (∀ w, Calls Tryz.prog 17 #[.agg #[.int .u64 x0, .int .u64 x1, .int .u64 x2, .int .u64 x3]] w fun e w' => e = .returned (.bool false) ∧ Below w.heap.size w w'))
    (h3 : Hid (∀ w, FTab w → Calls Tryz.prog 19 #[.int .u8 f, .bool ng, .int .i64 ex, .agg #[.int .u64 x0, .int .u64 x1, .int .u64 x2, .int .u64 x3]] w fun e w' => e = .returned (.agg #[.int .u8 f, .int .i64 p, .int .i64 em, .bool ng, .int .i64 c, .int .u64 y0, .int .u64 y1, .int .u64 y2, .int .u64 y3]) ∧ Below w.heap.size w w'))
    (h4 : Hid (∀ w, FTab w → Calls Tryz.prog 20 #[.agg #[.int .u8 f, .int .i64 p, .int .i64 em, .bool ng, .int .i64 c, .int .u64 y0, .int .u64 y1, .int .u64 y2, .int .u64 y3], .agg #[.int .u8 m, .bool t]] w fun e w' => e = .returned (.agg #[.int .u64 rh, .int .u64 rl, .int .u8 fl]) ∧ Below w.heap.size w w')) (w : World) (ft : FTab w) :
    Calls Tryz.prog 6 #[.int .u8 f, .agg #[.int .u8 m, .bool t], .bool ng, .int .i64 ex, .agg #[.int .u64 x0, .int .u64 x1, .int .u64 x2, .int .u64 x3]] w fun e w' => e = .returned (.agg #[.int .u64 rh, .int .u64 rl, .int .u8 fl]) ∧ Below w.heap.size w w' := by
  go_enter Tryz.func6, Tryz.ntmps6
  go_wp2_with fail
  (with_reducible refine (h0.out _ (ft.later (bA (bA (bA (Below.refl _ _) _) _) _))).mono ?_); rintro e w1 ⟨rfl, hb⟩
  have hz := bC (bA (bA (bA (Below.refl _ _) _) _) _) hb
  have gX2 : w.heap.size ≤ w.heap.size + 1 + 1 := by omega
  have cX0_0 := cL hb (a := ⟨w.heap.size, 0, none⟩) (v := .int .u8 m) (by go_simp)
  have cX0_1 := cL hb (a := ⟨w.heap.size, 1, none⟩) (v := .bool t) (by go_simp)
  have sX0 : w.heap.size < w1.heap.size := bL cX0_0
  have cX1_0 := cL hb (a := ⟨w.heap.size + 1, 0, none⟩) (v := .int .u64 x0) (by go_simp)
  have cX1_1 := cL hb (a := ⟨w.heap.size + 1, 1, none⟩) (v := .int .u64 x1) (by go_simp)
  have cX1_2 := cL hb (a := ⟨w.heap.size + 1, 2, none⟩) (v := .int .u64 x2) (by go_simp)
  have cX1_3 := cL hb (a := ⟨w.heap.size + 1, 3, none⟩) (v := .int .u64 x3) (by go_simp)
  have sX1 : w.heap.size + 1 < w1.heap.size ∧ w.heap.size < w1.heap.size := by have h : w.heap.size + 1 < w1.heap.size := bL cX1_0; exact ⟨h, by omega⟩
  have cX2_0 := cL hb (a := ⟨w.heap.size + 1 + 1, 0, none⟩) (v := .int .u64 0) (by go_simp)
  have cX2_1 := cL hb (a := ⟨w.heap.size + 1 + 1, 1, none⟩) (v := .int .u64 0) (by go_simp)
  have cX2_2 := cL hb (a := ⟨w.heap.size + 1 + 1, 2, none⟩) (v := .int .u8 0) (by go_simp)
  have sX2 : w.heap.size + 1 + 1 < w1.heap.size ∧ w.heap.size + 1 < w1.heap.size := by have h : w.heap.size + 1 + 1 < w1.heap.size := bL cX2_0; exact ⟨h, by omega⟩
  have fX2_0 := fL hb (a := ⟨w.heap.size + 1 + 1, 0, none⟩) (v := .int .u64 0) (by go_simp) (by go_simp)
  have fX2_1 := fL hb (a := ⟨w.heap.size + 1 + 1, 1, none⟩) (v := .int .u64 0) (by go_simp) (by go_simp)
  have fX2_2 := fL hb (a := ⟨w.heap.size + 1 + 1, 2, none⟩) (v := .int .u8 0) (by go_simp) (by go_simp)
  have kk := hz
  clear hb hz
  go_wp2_with fail
  (with_reducible refine (h1.out _).mono ?_); rintro e w2 ⟨rfl, hb⟩
  replace cX0_0 := cL hb cX0_0; replace cX0_1 := cL hb cX0_1
  replace sX0 : w.heap.size < w2.heap.size := bL cX0_0
  replace cX1_0 := cL hb cX1_0; replace cX1_1 := cL hb cX1_1; replace cX1_2 := cL hb cX1_2; replace cX1_3 := cL hb cX1_3
  replace sX1 : w.heap.size + 1 < w2.heap.size ∧ w.heap.size < w2.heap.size := by have h : w.heap.size + 1 < w2.heap.size := bL cX1_0; exact ⟨h, by omega⟩
  replace fX2_0 := fL hb cX2_0 fX2_0; replace fX2_1 := fL hb cX2_1 fX2_1; replace fX2_2 := fL hb cX2_2 fX2_2
  replace cX2_0 := cL hb cX2_0; replace cX2_1 := cL hb cX2_1; replace cX2_2 := cL hb cX2_2
  replace sX2 : w.heap.size + 1 + 1 < w2.heap.size ∧ w.heap.size + 1 < w2.heap.size := by have h : w.heap.size + 1 + 1 < w2.heap.size := bL cX2_0; exact ⟨h, by omega⟩
  replace kk := bC kk hb
  clear hb
  go_wp2_with fail
  (with_reducible refine (h2.out _).mono ?_); rintro e w3 ⟨rfl, hb⟩
  replace cX0_0 := cL hb cX0_0; replace cX0_1 := cL hb cX0_1
  replace sX0 : w.heap.size < w3.heap.size := bL cX0_0
  replace cX1_0 := cL hb cX1_0; replace cX1_1 := cL hb cX1_1; replace cX1_2 := cL hb cX1_2; replace cX1_3 := cL hb cX1_3
  replace sX1 : w.heap.size + 1 < w3.heap.size ∧ w.heap.size < w3.heap.size := by have h : w.heap.size + 1 < w3.heap.size := bL cX1_0; exact ⟨h, by omega⟩
  replace fX2_0 := fL hb cX2_0 fX2_0; replace fX2_1 := fL hb cX2_1 fX2_1; replace fX2_2 := fL hb cX2_2 fX2_2
  replace cX2_0 := cL hb cX2_0; replace cX2_1 := cL hb cX2_1; replace cX2_2 := cL hb cX2_2
  replace sX2 : w.heap.size + 1 + 1 < w3.heap.size ∧ w.heap.size + 1 < w3.heap.size := by have h : w.heap.size + 1 + 1 < w3.heap.size := bL cX2_0; exact ⟨h, by omega⟩
  replace kk := bC kk hb
  clear hb
  go_wp2_with fail
  refine wp_region_noPanic ?_
  refine wp_region_held_drew (S := fun w' => w'.cell? ⟨w.heap.size + 1, 0, none⟩ = some (.int .u64 x0) ∧ w'.cell? ⟨w.heap.size + 1, 1, none⟩ = some (.int .u64 x1) ∧ w'.cell? ⟨w.heap.size + 1, 2, none⟩ = some (.int .u64 x2) ∧ w'.cell? ⟨w.heap.size + 1, 3, none⟩ = some (.int .u64 x3) ∧ w'.cell? ⟨w.heap.size, 0, none⟩ = some (.int .u8 m) ∧ w'.cell? ⟨w.heap.size, 1, none⟩ = some (.bool t) ∧ True) (by kernel_rfl) ⟨cL (Below.refl _ _).drew cX1_0, cL (Below.refl _ _).drew cX1_1, cL (Below.refl _ _).drew cX1_2, cL (Below.refl _ _).drew cX1_3, cL (Below.refl _ _).drew cX0_0, cL (Below.refl _ _).drew cX0_1, trivial⟩ (fun hHeld => ?_)
  replace cX0_0 := cL (Below.refl _ _).drew cX0_0; replace cX0_1 := cL (Below.refl _ _).drew cX0_1
  replace cX1_0 := cL (Below.refl _ _).drew cX1_0; replace cX1_1 := cL (Below.refl _ _).drew cX1_1; replace cX1_2 := cL (Below.refl _ _).drew cX1_2; replace cX1_3 := cL (Below.refl _ _).drew cX1_3
  replace fX2_0 := fL (Below.refl _ _).drew cX2_0 fX2_0; replace fX2_1 := fL (Below.refl _ _).drew cX2_1 fX2_1; replace fX2_2 := fL (Below.refl _ _).drew cX2_2 fX2_2
  replace cX2_0 := cL (Below.refl _ _).drew cX2_0; replace cX2_1 := cL (Below.refl _ _).drew cX2_1; replace cX2_2 := cL (Below.refl _ _).drew cX2_2
  replace kk := bC kk (Below.refl _ _).drew
  refine wpAnyH_take (i := 0) (v := ?vq80) rfl (by kernel_rfl) (by kernel_rfl) (by kernel_rfl) (fun _ _ _ h => h) (Or.inl ⟨by rfl, ?yq80⟩) hHeld ?rq80
  case yq80 => (intro wq hb; obtain ⟨lq0, lq1, lq2, lq3, lq4, lq5, _⟩ := hb; go_simp; try (with_reducible rfl))
  try simp only [zA, zB, zC, Act.put, zD, zE, zF]
  refine wpAnyH_take (i := 1) (v := ?vq81) rfl (by kernel_rfl) (by kernel_rfl) (by kernel_rfl) (fun _ _ _ h => h) (Or.inl ⟨by rfl, ?yq81⟩) hHeld ?rq81
  case yq81 => (intro wq hb; obtain ⟨lq0, lq1, lq2, lq3, lq4, lq5, _⟩ := hb; go_simp; try (with_reducible rfl))
  try simp only [zA, zB, zC, Act.put, zD, zE, zF]
  refine wpAnyH_take (i := 2) (v := ?vq82) rfl (by kernel_rfl) (by kernel_rfl) (by kernel_rfl) (fun _ _ _ h => h) (Or.inl ⟨by rfl, ?yq82⟩) hHeld ?rq82
  case yq82 => (intro wq hb; obtain ⟨lq0, lq1, lq2, lq3, lq4, lq5, _⟩ := hb; go_simp; try (with_reducible rfl))
  try simp only [zA, zB, zC, Act.put, zD, zE, zF]
  refine wpAnyH_take (i := 3) (v := ?vq83) rfl (by kernel_rfl) (by kernel_rfl) (by kernel_rfl) (fun _ _ _ h => h) (Or.inl ⟨by rfl, ?yq83⟩) hHeld ?rq83
  case yq83 => (intro wq hb; obtain ⟨lq0, lq1, lq2, lq3, lq4, lq5, _⟩ := hb; go_simp; try (with_reducible rfl))
  try simp only [zA, zB, zC, Act.put, zD, zE, zF]
  refine wpAnyH_take (i := 5) (v := ?vq84) rfl (by kernel_rfl) (by kernel_rfl) (by kernel_rfl) (fun _ _ _ h => h) (Or.inl ⟨by rfl, ?yq84⟩) hHeld ?rq84
  case yq84 => (intro wq hb; obtain ⟨lq0, lq1, lq2, lq3, lq4, lq5, _⟩ := hb; go_simp; try (with_reducible rfl))
  try simp only [zA, zB, zC, Act.put, zD, zE, zF]
  clear hHeld
  refine wpAnyH_ready (rs := [4]) (by kernel_rfl) (by simp) ?_
  refine AllReadyH.cons rfl (fun K hK => ?_) AllReadyH.nil
  go_simp
  (with_reducible refine (h3.out _ (ft.later kk)).mono ?_); rintro e w5 ⟨rfl, hb⟩
  replace cX0_0 := cL hb cX0_0; replace cX0_1 := cL hb cX0_1
  replace cX1_0 := cL hb cX1_0; replace cX1_1 := cL hb cX1_1; replace cX1_2 := cL hb cX1_2; replace cX1_3 := cL hb cX1_3
  replace fX2_0 := fL hb cX2_0 fX2_0; replace fX2_1 := fL hb cX2_1 fX2_1; replace fX2_2 := fL hb cX2_2 fX2_2
  replace cX2_0 := cL hb cX2_0; replace cX2_1 := cL hb cX2_1; replace cX2_2 := cL hb cX2_2
  replace kk := bC kk hb
  clear hb
  refine hK.out _ _ ⟨cX1_0, cX1_1, cX1_2, cX1_3, cX0_0, cX0_1, trivial⟩ (fun hHeld => ?_)
  clear hK K
  try simp only [zA, zB, zC, Act.put, zD, zE, zF]
  clear hHeld
  refine wpAnyH_ready (rs := [6]) (by kernel_rfl) (by simp) ?_
  refine AllReadyH.cons rfl (fun K hK => ?_) AllReadyH.nil
  go_simp
  (with_reducible refine (h4.out _ (ft.later kk)).mono ?_); rintro e w6 ⟨rfl, hb⟩
  replace cX0_0 := cL hb cX0_0; replace cX0_1 := cL hb cX0_1
  replace cX1_0 := cL hb cX1_0; replace cX1_1 := cL hb cX1_1; replace cX1_2 := cL hb cX1_2; replace cX1_3 := cL hb cX1_3
  replace fX2_0 := fL hb cX2_0 fX2_0; replace fX2_1 := fL hb cX2_1 fX2_1; replace fX2_2 := fL hb cX2_2 fX2_2
  replace cX2_0 := cL hb cX2_0; replace cX2_1 := cL hb cX2_1; replace cX2_2 := cL hb cX2_2
  replace kk := bC kk hb
  clear hb
  refine hK.out _ _ ⟨cX1_0, cX1_1, cX1_2, cX1_3, cX0_0, cX0_1, trivial⟩ (fun hHeld => ?_)
  clear hK K
  try simp only [zA, zB, zC, Act.put, zD, zE, zF]
  clear hHeld
  refine wpAnyH_ready (rs := [7]) (by kernel_rfl) (by simp) ?_
  refine AllReadyH.cons rfl (fun K hK => ?_) AllReadyH.nil
  go_simp
  have neX0 : ¬ (w.heap.size + 1 + 1 = w.heap.size) := by omega
  have nfX0 : ¬ (w.heap.size = w.heap.size + 1 + 1) := by omega
  have neX1 : ¬ (w.heap.size + 1 + 1 = w.heap.size + 1) := by omega
  have nfX1 : ¬ (w.heap.size + 1 = w.heap.size + 1 + 1) := by omega
  have KEY := Lib.hid (show (fun W => W.cell? ⟨w.heap.size, 0, none⟩ = some (.int .u8 m) ∧ W.cell? ⟨w.heap.size, 1, none⟩ = some (.bool t) ∧ W.cell? ⟨w.heap.size + 1, 0, none⟩ = some (.int .u64 x0) ∧ W.cell? ⟨w.heap.size + 1, 1, none⟩ = some (.int .u64 x1) ∧ W.cell? ⟨w.heap.size + 1, 2, none⟩ = some (.int .u64 x2) ∧ W.cell? ⟨w.heap.size + 1, 3, none⟩ = some (.int .u64 x3) ∧ W.cell? ⟨w.heap.size + 1 + 1, 0, none⟩ = some (.int .u64 rh) ∧ W.cell? ⟨w.heap.size + 1 + 1, 1, none⟩ = some (.int .u64 rl) ∧ W.cell? ⟨w.heap.size + 1 + 1, 2, none⟩ = some (.int .u8 fl) ∧ W.frozen? ⟨w.heap.size + 1 + 1, 0, none⟩ = false ∧ W.frozen? ⟨w.heap.size + 1 + 1, 1, none⟩ = false ∧ W.frozen? ⟨w.heap.size + 1 + 1, 2, none⟩ = false ∧ Below w.heap.size w W) (((w6.setCell ⟨w.heap.size + 1 + 1, 0, none⟩ (.int .u64 rh)).setCell ⟨w.heap.size + 1 + 1, 1, none⟩ (.int .u64 rl)).setCell ⟨w.heap.size + 1 + 1, 2, none⟩ (.int .u8 fl)) from ⟨by go_simp, by go_simp, by go_simp, by go_simp, by go_simp, by go_simp, by go_simp, by go_simp, by go_simp, by go_simp, by go_simp, by go_simp, (((kk.setCell (p := ⟨w.heap.size + 1 + 1, 0, none⟩) gX2 _).setCell (p := ⟨w.heap.size + 1 + 1, 1, none⟩) gX2 _).setCell (p := ⟨w.heap.size + 1 + 1, 2, none⟩) gX2 _)⟩)
  clear cX0_0 cX0_1 cX1_0 cX1_1 cX1_2 cX1_3 cX2_0 cX2_1 cX2_2 fX2_0 fX2_1 fX2_2 neX0 nfX0 neX1 nfX1 kk
  refine forget_at (fun W => W.cell? ⟨w.heap.size, 0, none⟩ = some (.int .u8 m) ∧ W.cell? ⟨w.heap.size, 1, none⟩ = some (.bool t) ∧ W.cell? ⟨w.heap.size + 1, 0, none⟩ = some (.int .u64 x0) ∧ W.cell? ⟨w.heap.size + 1, 1, none⟩ = some (.int .u64 x1) ∧ W.cell? ⟨w.heap.size + 1, 2, none⟩ = some (.int .u64 x2) ∧ W.cell? ⟨w.heap.size + 1, 3, none⟩ = some (.int .u64 x3) ∧ W.cell? ⟨w.heap.size + 1 + 1, 0, none⟩ = some (.int .u64 rh) ∧ W.cell? ⟨w.heap.size + 1 + 1, 1, none⟩ = some (.int .u64 rl) ∧ W.cell? ⟨w.heap.size + 1 + 1, 2, none⟩ = some (.int .u8 fl) ∧ W.frozen? ⟨w.heap.size + 1 + 1, 0, none⟩ = false ∧ W.frozen? ⟨w.heap.size + 1 + 1, 1, none⟩ = false ∧ W.frozen? ⟨w.heap.size + 1 + 1, 2, none⟩ = false ∧ Below w.heap.size w W) KEY.out (fun w7 hz => ?_)
  obtain ⟨cX0_0, cX0_1, cX1_0, cX1_1, cX1_2, cX1_3, cX2_0, cX2_1, cX2_2, fX2_0, fX2_1, fX2_2, kk⟩ := hz
  clear KEY
  refine hK.out _ _ ⟨cX1_0, cX1_1, cX1_2, cX1_3, cX0_0, cX0_1, trivial⟩ (fun hHeld => ?_)
  clear hK K
  try simp only [zA, zB, zC, Act.put, zD, zE, zF]
  clear hHeld
  refine wpAnyH_done (by kernel_rfl) ?_ _
  refine NoPanic.normal ?_
  clear cX0_0 cX0_1 sX0
  clear cX1_0 cX1_1 cX1_2 cX1_3 sX1
  replace sX2 : w.heap.size + 1 + 1 < w7.heap.size ∧ w.heap.size + 1 < w7.heap.size := by have h : w.heap.size + 1 + 1 < w7.heap.size := bL cX2_0; exact ⟨h, by omega⟩
  go_wp2_with fail
  refine bodyPost_ret (v := .agg #[.int .u64 rh, .int .u64 rl, .int .u8 fl]) ?_ rfl ⟨rfl, kk⟩
  simp [results, Tryz.results6, go_sem, cX2_0, cX2_1, cX2_2]

set_option maxHeartbeats 4000000 in
set_option maxRecDepth 100000 in
theorem pk_Exact_no (f ex x0 x1 x2 x3 : Int) (ng : Bool)
    (h0 : Hid (∀ w, FTab w → Calls Tryz.prog 11 #[.int .u8 f] w fun e w' => e = .returned (.bool false) ∧ Below w.heap.size w w')) (w : World) (ft : FTab w) :
    Calls Tryz.prog 10 #[.int .u8 f, .bool ng, .int .i64 ex, .agg #[.int .u64 x0, .int .u64 x1, .int .u64 x2, .int .u64 x3]] w fun e w' => e = .returned (.tuple #[.agg #[.int .u64 0, .int .u64 0], .bool false]) ∧ Below w.heap.size w w' := by
  go_enter Tryz.func10, Tryz.ntmps10
  go_wp2_with fail
  (with_reducible refine (h0.out _ (ft.later (bA (bA (Below.refl _ _) _) _))).mono ?_); rintro e w1 ⟨rfl, hb⟩
  have hz := bC (bA (bA (Below.refl _ _) _) _) hb
  have gX1 : w.heap.size ≤ w.heap.size + 1 := by omega
  have cX1_0 := cL hb (a := ⟨w.heap.size + 1, 0, none⟩) (v := .int .u64 0) (by go_simp)
  have cX1_1 := cL hb (a := ⟨w.heap.size + 1, 1, none⟩) (v := .int .u64 0) (by go_simp)
  have sX1 : w.heap.size + 1 < w1.heap.size ∧ w.heap.size < w1.heap.size := by have h : w.heap.size + 1 < w1.heap.size := bL cX1_0; exact ⟨h, by omega⟩
  have fX1_0 := fL hb (a := ⟨w.heap.size + 1, 0, none⟩) (v := .int .u64 0) (by go_simp) (by go_simp)
  have fX1_1 := fL hb (a := ⟨w.heap.size + 1, 1, none⟩) (v := .int .u64 0) (by go_simp) (by go_simp)
  have kk := hz
  clear hb hz
  have NW := BoxF.set (⟨Box.of cX1_0 cX1_1, fX1_0, fX1_1⟩ : BoxF w1 (w.heap.size + 1) _ _) 0 0
  have KEY : Hid (((w1.setCell ⟨w.heap.size + 1, 0, none⟩ (.int .u64 0)).setCell ⟨w.heap.size + 1, 1, none⟩ (.int .u64 0)).cell? ⟨w.heap.size + 1, 0, none⟩ = some (.int .u64 0) ∧ ((w1.setCell ⟨w.heap.size + 1, 0, none⟩ (.int .u64 0)).setCell ⟨w.heap.size + 1, 1, none⟩ (.int .u64 0)).cell? ⟨w.heap.size + 1, 1, none⟩ = some (.int .u64 0) ∧ Below w.heap.size w ((w1.setCell ⟨w.heap.size + 1, 0, none⟩ (.int .u64 0)).setCell ⟨w.heap.size + 1, 1, none⟩ (.int .u64 0))) := Lib.hid ⟨NW.1.2.1, NW.1.2.2, (bS kk gX1 _ _)⟩
  clear NW
  go_wp2_with fail
  obtain ⟨e0, e1, kb⟩ := KEY.out
  clear KEY
  refine bodyPost_ret (v := .tuple #[.agg #[.int .u64 0, .int .u64 0], .bool false]) ?_ rfl ⟨rfl, kb⟩
  simp [results, Tryz.results10, go_sem, e0, e1]

set_option maxHeartbeats 4000000 in
set_option maxRecDepth 100000 in
theorem pk_Exact_flag (f ex x0 x1 x2 x3 rh rl fl : Int) (ng : Bool)
    (h0 : Hid (∀ w, FTab w → Calls Tryz.prog 11 #[.int .u8 f] w fun e w' => e = .returned (.bool true) ∧ Below w.heap.size w w'))
    (h1 : Hid (∀ w, FTab w → Calls Tryz.prog 6 #[.int .u8 f, .agg #[.int .u8 4, .bool false], .bool ng, .int .i64 ex, .agg #[.int .u64 x0, .int .u64 x1, .int .u64 x2, .int .u64 x3]] w fun e w' => e = .returned (.agg #[.int .u64 rh, .int .u64 rl, .int .u8 fl]) ∧ Below w.heap.size w w')) (g1 : (fl != 0) = true) (w : World) (ft : FTab w) :
    Calls Tryz.prog 10 #[.int .u8 f, .bool ng, .int .i64 ex, .agg #[.int .u64 x0, .int .u64 x1, .int .u64 x2, .int .u64 x3]] w fun e w' => e = .returned (.tuple #[.agg #[.int .u64 0, .int .u64 0], .bool false]) ∧ Below w.heap.size w w' := by
  go_enter Tryz.func10, Tryz.ntmps10
  go_wp2_with fail
  (with_reducible refine (h0.out _ (ft.later (bA (bA (Below.refl _ _) _) _))).mono ?_); rintro e w1 ⟨rfl, hb⟩
  have hz := bC (bA (bA (Below.refl _ _) _) _) hb
  have gX1 : w.heap.size ≤ w.heap.size + 1 := by omega
  have cX0_0 := cL hb (a := ⟨w.heap.size, 0, none⟩) (v := .int .u64 x0) (by go_simp)
  have cX0_1 := cL hb (a := ⟨w.heap.size, 1, none⟩) (v := .int .u64 x1) (by go_simp)
  have cX0_2 := cL hb (a := ⟨w.heap.size, 2, none⟩) (v := .int .u64 x2) (by go_simp)
  have cX0_3 := cL hb (a := ⟨w.heap.size, 3, none⟩) (v := .int .u64 x3) (by go_simp)
  have sX0 : w.heap.size < w1.heap.size := bL cX0_0
  have cX1_0 := cL hb (a := ⟨w.heap.size + 1, 0, none⟩) (v := .int .u64 0) (by go_simp)
  have cX1_1 := cL hb (a := ⟨w.heap.size + 1, 1, none⟩) (v := .int .u64 0) (by go_simp)
  have sX1 : w.heap.size + 1 < w1.heap.size ∧ w.heap.size < w1.heap.size := by have h : w.heap.size + 1 < w1.heap.size := bL cX1_0; exact ⟨h, by omega⟩
  have fX1_0 := fL hb (a := ⟨w.heap.size + 1, 0, none⟩) (v := .int .u64 0) (by go_simp) (by go_simp)
  have fX1_1 := fL hb (a := ⟨w.heap.size + 1, 1, none⟩) (v := .int .u64 0) (by go_simp) (by go_simp)
  have kk := hz
  clear hb hz
  go_wp2_with fail
  (with_reducible refine (h1.out _ (ft.later kk)).mono ?_); rintro e w2 ⟨rfl, hb⟩
  clear cX0_0 cX0_1 cX0_2 cX0_3 sX0
  replace fX1_0 := fL hb cX1_0 fX1_0; replace fX1_1 := fL hb cX1_1 fX1_1
  replace cX1_0 := cL hb cX1_0; replace cX1_1 := cL hb cX1_1
  replace sX1 : w.heap.size + 1 < w2.heap.size ∧ w.heap.size < w2.heap.size := by have h : w.heap.size + 1 < w2.heap.size := bL cX1_0; exact ⟨h, by omega⟩
  replace kk := bC kk hb
  clear hb
  have NW := BoxF.set (⟨Box.of cX1_0 cX1_1, fX1_0, fX1_1⟩ : BoxF w2 (w.heap.size + 1) _ _) 0 0
  have KEY : Hid ((((w2.setCell ⟨w.heap.size + 1, 0, none⟩ (.int .u64 0)).setCell ⟨w.heap.size + 1, 1, none⟩ (.int .u64 0)).alloc (.cells #[.int .u64 rh, .int .u64 rl, .int .u8 fl] 33)).cell? ⟨w.heap.size + 1, 0, none⟩ = some (.int .u64 0) ∧ (((w2.setCell ⟨w.heap.size + 1, 0, none⟩ (.int .u64 0)).setCell ⟨w.heap.size + 1, 1, none⟩ (.int .u64 0)).alloc (.cells #[.int .u64 rh, .int .u64 rl, .int .u8 fl] 33)).cell? ⟨w.heap.size + 1, 1, none⟩ = some (.int .u64 0) ∧ Below w.heap.size w (((w2.setCell ⟨w.heap.size + 1, 0, none⟩ (.int .u64 0)).setCell ⟨w.heap.size + 1, 1, none⟩ (.int .u64 0)).alloc (.cells #[.int .u64 rh, .int .u64 rl, .int .u8 fl] 33))) := Lib.hid ⟨(cL (bA (Below.refl _ _) _) NW.1.2.1), (cL (bA (Below.refl _ _) _) NW.1.2.2), (bA (bS kk gX1 _ _) _)⟩
  clear NW
  go_wp2_with fail
  obtain ⟨e0, e1, kb⟩ := KEY.out
  clear KEY
  refine bodyPost_ret (v := .tuple #[.agg #[.int .u64 0, .int .u64 0], .bool false]) ?_ rfl ⟨rfl, kb⟩
  simp [results, Tryz.results10, go_sem, e0, e1]

set_option maxHeartbeats 4000000 in
set_option maxRecDepth 100000 in
theorem pk_Exact_yes (f ex x0 x1 x2 x3 rh rl : Int) (ng : Bool)
    (h0 : Hid (∀ w, FTab w → Calls Tryz.prog 11 #[.int .u8 f] w fun e w' => e = .returned (.bool true) ∧ Below w.heap.size w w'))
    (h1 : Hid (∀ w, FTab w → Calls Tryz.prog 6 #[.int .u8 f, .agg #[.int .u8 4, .bool false], .bool ng, .int .i64 ex, .agg #[.int .u64 x0, .int .u64 x1, .int .u64 x2, .int .u64 x3]] w fun e w' => e = .returned (.agg #[.int .u64 rh, .int .u64 rl, .int .u8 0]) ∧ Below w.heap.size w w')) (w : World) (ft : FTab w) :
    Calls Tryz.prog 10 #[.int .u8 f, .bool ng, .int .i64 ex, .agg #[.int .u64 x0, .int .u64 x1, .int .u64 x2, .int .u64 x3]] w fun e w' => e = .returned (.tuple #[.agg #[.int .u64 rh, .int .u64 rl], .bool true]) ∧ Below w.heap.size w w' := by
  go_enter Tryz.func10, Tryz.ntmps10
  go_wp2_with fail
  (with_reducible refine (h0.out _ (ft.later (bA (bA (Below.refl _ _) _) _))).mono ?_); rintro e w1 ⟨rfl, hb⟩
  have hz := bC (bA (bA (Below.refl _ _) _) _) hb
  have gX1 : w.heap.size ≤ w.heap.size + 1 := by omega
  have cX0_0 := cL hb (a := ⟨w.heap.size, 0, none⟩) (v := .int .u64 x0) (by go_simp)
  have cX0_1 := cL hb (a := ⟨w.heap.size, 1, none⟩) (v := .int .u64 x1) (by go_simp)
  have cX0_2 := cL hb (a := ⟨w.heap.size, 2, none⟩) (v := .int .u64 x2) (by go_simp)
  have cX0_3 := cL hb (a := ⟨w.heap.size, 3, none⟩) (v := .int .u64 x3) (by go_simp)
  have sX0 : w.heap.size < w1.heap.size := bL cX0_0
  have cX1_0 := cL hb (a := ⟨w.heap.size + 1, 0, none⟩) (v := .int .u64 0) (by go_simp)
  have cX1_1 := cL hb (a := ⟨w.heap.size + 1, 1, none⟩) (v := .int .u64 0) (by go_simp)
  have sX1 : w.heap.size + 1 < w1.heap.size ∧ w.heap.size < w1.heap.size := by have h : w.heap.size + 1 < w1.heap.size := bL cX1_0; exact ⟨h, by omega⟩
  have fX1_0 := fL hb (a := ⟨w.heap.size + 1, 0, none⟩) (v := .int .u64 0) (by go_simp) (by go_simp)
  have fX1_1 := fL hb (a := ⟨w.heap.size + 1, 1, none⟩) (v := .int .u64 0) (by go_simp) (by go_simp)
  have kk := hz
  clear hb hz
  go_wp2_with fail
  (with_reducible refine (h1.out _ (ft.later kk)).mono ?_); rintro e w2 ⟨rfl, hb⟩
  clear cX0_0 cX0_1 cX0_2 cX0_3 sX0
  replace fX1_0 := fL hb cX1_0 fX1_0; replace fX1_1 := fL hb cX1_1 fX1_1
  replace cX1_0 := cL hb cX1_0; replace cX1_1 := cL hb cX1_1
  replace sX1 : w.heap.size + 1 < w2.heap.size ∧ w.heap.size < w2.heap.size := by have h : w.heap.size + 1 < w2.heap.size := bL cX1_0; exact ⟨h, by omega⟩
  replace kk := bC kk hb
  clear hb
  have NW := BoxF.set (⟨Box.of cX1_0 cX1_1, fX1_0, fX1_1⟩ : BoxF w2 (w.heap.size + 1) _ _) rh rl
  have KEY : Hid ((((w2.setCell ⟨w.heap.size + 1, 0, none⟩ (.int .u64 rh)).setCell ⟨w.heap.size + 1, 1, none⟩ (.int .u64 rl)).alloc (.cells #[.int .u64 rh, .int .u64 rl, .int .u8 0] 33)).cell? ⟨w.heap.size + 1, 0, none⟩ = some (.int .u64 rh) ∧ (((w2.setCell ⟨w.heap.size + 1, 0, none⟩ (.int .u64 rh)).setCell ⟨w.heap.size + 1, 1, none⟩ (.int .u64 rl)).alloc (.cells #[.int .u64 rh, .int .u64 rl, .int .u8 0] 33)).cell? ⟨w.heap.size + 1, 1, none⟩ = some (.int .u64 rl) ∧ Below w.heap.size w (((w2.setCell ⟨w.heap.size + 1, 0, none⟩ (.int .u64 rh)).setCell ⟨w.heap.size + 1, 1, none⟩ (.int .u64 rl)).alloc (.cells #[.int .u64 rh, .int .u64 rl, .int .u8 0] 33))) := Lib.hid ⟨(cL (bA (Below.refl _ _) _) NW.1.2.1), (cL (bA (Below.refl _ _) _) NW.1.2.2), (bA (bS kk gX1 _ _) _)⟩
  clear NW
  go_wp2_with fail
  obtain ⟨e0, e1, kb⟩ := KEY.out
  clear KEY
  refine bodyPost_ret (v := .tuple #[.agg #[.int .u64 rh, .int .u64 rl], .bool true]) ?_ rfl ⟨rfl, kb⟩
  simp [results, Tryz.results10, go_sem, e0, e1]



end Go.Proofs.YtbcjboaihahemaaGreatDoor
