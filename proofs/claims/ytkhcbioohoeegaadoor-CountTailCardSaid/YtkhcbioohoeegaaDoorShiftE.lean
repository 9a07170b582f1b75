/-
  Contracts of package shift: left, right.
-/
import Derived.Test.YtkhcbioohoeegaaDoorShiftD
import Derived.Conc.MuLone
set_option linter.unusedVariables false
set_option linter.unusedSimpArgs false
set_option maxRecDepth 100000
namespace Go.Proofs.YtkhcbioohoeegaaDoor
open Go.RowKit
attribute [local go_sem ↓] Go.wp_at_zero Go.wp_at_succ

theorem enter_of {P : Program} {f : FuncId} {fn : Func} (hf : P.funcs[f]? = some fn) (hname : (fn.name == "runtime.NumGoroutine") = false) (hb : fn.body.isSome = true) (args : Array Value) (w : World) : (callFunc f args).run P w = .ok (.enter f args) w := by
  obtain ⟨c, hc⟩ := Option.isSome_iff_exists.1 hb
  exact Go.MuLone.run_callFunc_enter hf hname hc args w

set_option maxHeartbeats 4000000 in
set_option maxRecDepth 100000 in
theorem left2_any (a0 a1 n : Int) (u0 : U64 a0) (u1 : U64 a1) (n0 : -9223372036854775808 ≤ n) (n1 : n ≤ 9223372036854775807) (w : World) :
    Calls Tryd.prog 55 #[.agg #[.int .u64 a0, .int .u64 a1], .int .i64 n] w fun e w' => e = .returned (.agg #[.int .u64 (lft2 a0 a1 ((n.toNat / 64 : Nat) : Int) (n.toNat % 64) 0), .int .u64 (lft2 a0 a1 ((n.toNat / 64 : Nat) : Int) (n.toNat % 64) 1)]) ∧ Below w.heap.size w w' := by
  have S1 := Lib.hid (split_any n n0 n1)
  have hN : n.toNat / 64 ≤ 1000000000000000000 := by omega
  have hP : n.toNat % 64 ≤ 64 := by omega
  clear n0 n1
  generalize n.toNat / 64 = wh at *
  generalize n.toNat % 64 = p at *
  go_enter Tryd.func55, Tryd.ntmps55
  go_wp2_with fail
  (with_reducible refine (S1.out _).mono ?_); rintro e w1 ⟨rfl, hb⟩
  have kk := bC (bA (bA (Below.refl _ _) _) _) hb
  have xa : HB w1 w.heap.size 69 #[.int .u64 a0, .int .u64 a1] := ((HB.new w _ _).alloc _).later hb
  have xr : HB w1 (w.heap.size + 1) 69 #[.int .u64 0, .int .u64 0] := (HB.newAt (by simp) _ _).later hb
  clear S1 hb
  have s1 := xr.lt
  go_wp2_with fail
  (with_reducible refine (build2_any 66 (enter_of Tryd.func66 (by kernel_rfl) (by kernel_rfl)) (lft2 a0 a1 (wh : Int) p 0) (lft2 a0 a1 (wh : Int) p 1) ((w1.alloc (.cells #[.int .i64 (wh : Int)] 3)).alloc (.cells #[.int .i64 (p : Int)] 3)) (Lib.hid fun W hb => left2_fun a0 a1 0 wh p u0 u1 hP (by omega) (by omega) hN W ((((xa.alloc _).alloc _).later hb).cell 0) ((((xa.alloc _).alloc _).later hb).cell 1) (cell_later hb (by go_simp)) (cell_later hb (by go_simp))) (Lib.hid fun W hb => left2_fun a0 a1 1 wh p u0 u1 hP (by omega) (by omega) hN W ((((xa.alloc _).alloc _).later hb).cell 0) ((((xa.alloc _).alloc _).later hb).cell 1) (cell_later hb (by go_simp)) (cell_later hb (by go_simp)))).mono ?_)
  rintro e w2 ⟨rfl, hb⟩
  replace xr := ((xr.alloc _).alloc _).later hb
  replace kk := bC (bA (bA kk _) _) hb
  clear xa hb s1
  have KEY : Hid (HB ((w2.setCell ⟨w.heap.size + 1, 0, none⟩ (.int .u64 (lft2 a0 a1 (wh : Int) p 0))).setCell ⟨w.heap.size + 1, 1, none⟩ (.int .u64 (lft2 a0 a1 (wh : Int) p 1))) (w.heap.size + 1) 69 #[.int .u64 (lft2 a0 a1 (wh : Int) p 0), .int .u64 (lft2 a0 a1 (wh : Int) p 1)] ∧ Below w.heap.size w ((w2.setCell ⟨w.heap.size + 1, 0, none⟩ (.int .u64 (lft2 a0 a1 (wh : Int) p 0))).setCell ⟨w.heap.size + 1, 1, none⟩ (.int .u64 (lft2 a0 a1 (wh : Int) p 1)))) := Lib.hid ⟨((xr.set 0 _).set 1 _), ((kk.setCell (p := ⟨w.heap.size + 1, 0, none⟩) (by simp) _).setCell (p := ⟨w.heap.size + 1, 1, none⟩) (by simp) _)⟩
  have z0 := xr.cell 0; have f0 := xr.frozen 0; dsimp at z0; have z1 := xr.cell 1; have f1 := xr.frozen 1; dsimp at z1
  clear xr kk
  go_wp2_with fail
  obtain ⟨hE, kb⟩ := KEY.out
  have e0 := hE.cell 0; have e1 := hE.cell 1
  dsimp at e0 e1
  refine bodyPost_ret (v := .agg #[.int .u64 (lft2 a0 a1 (wh : Int) p 0), .int .u64 (lft2 a0 a1 (wh : Int) p 1)]) ?_ rfl ⟨rfl, kb⟩
  clear z0 f0 z1 f1 kb hE
  simp [results, Tryd.results55, go_sem, e0, e1]

set_option maxHeartbeats 4000000 in
set_option maxRecDepth 100000 in
theorem right2_any (a0 a1 n : Int) (u0 : U64 a0) (u1 : U64 a1) (n0 : -9223372036854775808 ≤ n) (n1 : n ≤ 9223372036854775807) (w : World) :
    Calls Tryd.prog 51 #[.agg #[.int .u64 a0, .int .u64 a1], .int .i64 n] w fun e w' => e = .returned (.agg #[.int .u64 (rgt2 a0 a1 ((n.toNat / 64 : Nat) : Int) (n.toNat % 64) 0), .int .u64 (rgt2 a0 a1 ((n.toNat / 64 : Nat) : Int) (n.toNat % 64) 1)]) ∧ Below w.heap.size w w' := by
  have S1 := Lib.hid (split_any n n0 n1)
  have hN : n.toNat / 64 ≤ 1000000000000000000 := by omega
  have hP : n.toNat % 64 ≤ 64 := by omega
  clear n0 n1
  generalize n.toNat / 64 = wh at *
  generalize n.toNat % 64 = p at *
  go_enter Tryd.func51, Tryd.ntmps51
  go_wp2_with fail
  (with_reducible refine (S1.out _).mono ?_); rintro e w1 ⟨rfl, hb⟩
  have kk := bC (bA (bA (Below.refl _ _) _) _) hb
  have xa : HB w1 w.heap.size 69 #[.int .u64 a0, .int .u64 a1] := ((HB.new w _ _).alloc _).later hb
  have xr : HB w1 (w.heap.size + 1) 69 #[.int .u64 0, .int .u64 0] := (HB.newAt (by simp) _ _).later hb
  clear S1 hb
  have s1 := xr.lt
  go_wp2_with fail
  (with_reducible refine (build2_any 63 (enter_of Tryd.func63 (by kernel_rfl) (by kernel_rfl)) (rgt2 a0 a1 (wh : Int) p 0) (rgt2 a0 a1 (wh : Int) p 1) ((w1.alloc (.cells #[.int .i64 (wh : Int)] 3)).alloc (.cells #[.int .i64 (p : Int)] 3)) (Lib.hid fun W hb => right2_fun a0 a1 0 wh p u0 u1 hP (by omega) (by omega) hN W ((((xa.alloc _).alloc _).later hb).cell 0) ((((xa.alloc _).alloc _).later hb).cell 1) (cell_later hb (by go_simp)) (cell_later hb (by go_simp))) (Lib.hid fun W hb => right2_fun a0 a1 1 wh p u0 u1 hP (by omega) (by omega) hN W ((((xa.alloc _).alloc _).later hb).cell 0) ((((xa.alloc _).alloc _).later hb).cell 1) (cell_later hb (by go_simp)) (cell_later hb (by go_simp)))).mono ?_)
  rintro e w2 ⟨rfl, hb⟩
  replace xr := ((xr.alloc _).alloc _).later hb
  replace kk := bC (bA (bA kk _) _) hb
  clear xa hb s1
  have KEY : Hid (HB ((w2.setCell ⟨w.heap.size + 1, 0, none⟩ (.int .u64 (rgt2 a0 a1 (wh : Int) p 0))).setCell ⟨w.heap.size + 1, 1, none⟩ (.int .u64 (rgt2 a0 a1 (wh : Int) p 1))) (w.heap.size + 1) 69 #[.int .u64 (rgt2 a0 a1 (wh : Int) p 0), .int .u64 (rgt2 a0 a1 (wh : Int) p 1)] ∧ Below w.heap.size w ((w2.setCell ⟨w.heap.size + 1, 0, none⟩ (.int .u64 (rgt2 a0 a1 (wh : Int) p 0))).setCell ⟨w.heap.size + 1, 1, none⟩ (.int .u64 (rgt2 a0 a1 (wh : Int) p 1)))) := Lib.hid ⟨((xr.set 0 _).set 1 _), ((kk.setCell (p := ⟨w.heap.size + 1, 0, none⟩) (by simp) _).setCell (p := ⟨w.heap.size + 1, 1, none⟩) (by simp) _)⟩
  have z0 := xr.cell 0; have f0 := xr.frozen 0; dsimp at z0; have z1 := xr.cell 1; have f1 := xr.frozen 1; dsimp at z1
  clear xr kk
  go_wp2_with fail
  obtain ⟨hE, kb⟩ := KEY.out
  have e0 := hE.cell 0; have e1 := hE.cell 1
  dsimp at e0 e1
  refine bodyPost_ret (v := .agg #[.int .u64 (rgt2 a0 a1 (wh : Int) p 0), .int .u64 (rgt2 a0 a1 (wh : Int) p 1)]) ?_ rfl ⟨rfl, kb⟩
  clear z0 f0 z1 f1 kb hE
  simp [results, Tryd.results51, go_sem, e0, e1]

set_option maxHeartbeats 4000000 in
set_option maxRecDepth 100000 in
theorem left4_any (a0 a1 a2 a3 n : Int) (u0 : U64 a0) (u1 : U64 a1) (u2 : U64 a2) (u3 : U64 a3) (n0 : -9223372036854775808 ≤ n) (n1 : n ≤ 9223372036854775807) (w : World) :
    Calls Tryd.prog 48 #[.agg #[.int .u64 a0, .int .u64 a1, .int .u64 a2, .int .u64 a3], .int .i64 n] w fun e w' => e = .returned (.agg #[.int .u64 (lft a0 a1 a2 a3 ((n.toNat / 64 : Nat) : Int) (n.toNat % 64) 0), .int .u64 (lft a0 a1 a2 a3 ((n.toNat / 64 : Nat) : Int) (n.toNat % 64) 1), .int .u64 (lft a0 a1 a2 a3 ((n.toNat / 64 : Nat) : Int) (n.toNat % 64) 2), .int .u64 (lft a0 a1 a2 a3 ((n.toNat / 64 : Nat) : Int) (n.toNat % 64) 3)]) ∧ Below w.heap.size w w' := by
  have S1 := Lib.hid (split_any n n0 n1)
  have hN : n.toNat / 64 ≤ 1000000000000000000 := by omega
  have hP : n.toNat % 64 ≤ 64 := by omega
  clear n0 n1
  generalize n.toNat / 64 = wh at *
  generalize n.toNat % 64 = p at *
  go_enter Tryd.func48, Tryd.ntmps48
  go_wp2_with fail
  (with_reducible refine (S1.out _).mono ?_); rintro e w1 ⟨rfl, hb⟩
  have kk := bC (bA (bA (Below.refl _ _) _) _) hb
  have xa : HB w1 w.heap.size 38 #[.int .u64 a0, .int .u64 a1, .int .u64 a2, .int .u64 a3] := ((HB.new w _ _).alloc _).later hb
  have xr : HB w1 (w.heap.size + 1) 38 #[.int .u64 0, .int .u64 0, .int .u64 0, .int .u64 0] := (HB.newAt (by simp) _ _).later hb
  clear S1 hb
  have s1 := xr.lt
  go_wp2_with fail
  (with_reducible refine (build4_any 60 (enter_of Tryd.func60 (by kernel_rfl) (by kernel_rfl)) (lft a0 a1 a2 a3 (wh : Int) p 0) (lft a0 a1 a2 a3 (wh : Int) p 1) (lft a0 a1 a2 a3 (wh : Int) p 2) (lft a0 a1 a2 a3 (wh : Int) p 3) ((w1.alloc (.cells #[.int .i64 (wh : Int)] 3)).alloc (.cells #[.int .i64 (p : Int)] 3)) (Lib.hid fun W hb => left4_fun a0 a1 a2 a3 0 wh p u0 u1 u2 u3 hP (by omega) (by omega) hN W ((((xa.alloc _).alloc _).later hb).cell 0) ((((xa.alloc _).alloc _).later hb).cell 1) ((((xa.alloc _).alloc _).later hb).cell 2) ((((xa.alloc _).alloc _).later hb).cell 3) (cell_later hb (by go_simp)) (cell_later hb (by go_simp))) (Lib.hid fun W hb => left4_fun a0 a1 a2 a3 1 wh p u0 u1 u2 u3 hP (by omega) (by omega) hN W ((((xa.alloc _).alloc _).later hb).cell 0) ((((xa.alloc _).alloc _).later hb).cell 1) ((((xa.alloc _).alloc _).later hb).cell 2) ((((xa.alloc _).alloc _).later hb).cell 3) (cell_later hb (by go_simp)) (cell_later hb (by go_simp))) (Lib.hid fun W hb => left4_fun a0 a1 a2 a3 2 wh p u0 u1 u2 u3 hP (by omega) (by omega) hN W ((((xa.alloc _).alloc _).later hb).cell 0) ((((xa.alloc _).alloc _).later hb).cell 1) ((((xa.alloc _).alloc _).later hb).cell 2) ((((xa.alloc _).alloc _).later hb).cell 3) (cell_later hb (by go_simp)) (cell_later hb (by go_simp))) (Lib.hid fun W hb => left4_fun a0 a1 a2 a3 3 wh p u0 u1 u2 u3 hP (by omega) (by omega) hN W ((((xa.alloc _).alloc _).later hb).cell 0) ((((xa.alloc _).alloc _).later hb).cell 1) ((((xa.alloc _).alloc _).later hb).cell 2) ((((xa.alloc _).alloc _).later hb).cell 3) (cell_later hb (by go_simp)) (cell_later hb (by go_simp)))).mono ?_)
  rintro e w2 ⟨rfl, hb⟩
  replace xr := ((xr.alloc _).alloc _).later hb
  replace kk := bC (bA (bA kk _) _) hb
  clear xa hb s1
  have KEY : Hid (HB ((((w2.setCell ⟨w.heap.size + 1, 0, none⟩ (.int .u64 (lft a0 a1 a2 a3 (wh : Int) p 0))).setCell ⟨w.heap.size + 1, 1, none⟩ (.int .u64 (lft a0 a1 a2 a3 (wh : Int) p 1))).setCell ⟨w.heap.size + 1, 2, none⟩ (.int .u64 (lft a0 a1 a2 a3 (wh : Int) p 2))).setCell ⟨w.heap.size + 1, 3, none⟩ (.int .u64 (lft a0 a1 a2 a3 (wh : Int) p 3))) (w.heap.size + 1) 38 #[.int .u64 (lft a0 a1 a2 a3 (wh : Int) p 0), .int .u64 (lft a0 a1 a2 a3 (wh : Int) p 1), .int .u64 (lft a0 a1 a2 a3 (wh : Int) p 2), .int .u64 (lft a0 a1 a2 a3 (wh : Int) p 3)] ∧ Below w.heap.size w ((((w2.setCell ⟨w.heap.size + 1, 0, none⟩ (.int .u64 (lft a0 a1 a2 a3 (wh : Int) p 0))).setCell ⟨w.heap.size + 1, 1, none⟩ (.int .u64 (lft a0 a1 a2 a3 (wh : Int) p 1))).setCell ⟨w.heap.size + 1, 2, none⟩ (.int .u64 (lft a0 a1 a2 a3 (wh : Int) p 2))).setCell ⟨w.heap.size + 1, 3, none⟩ (.int .u64 (lft a0 a1 a2 a3 (wh : Int) p 3)))) := Lib.hid ⟨((((xr.set 0 _).set 1 _).set 2 _).set 3 _), ((((kk.setCell (p := ⟨w.heap.size + 1, 0, none⟩) (by simp) _).setCell (p := ⟨w.heap.size + 1, 1, none⟩) (by simp) _).setCell (p := ⟨w.heap.size + 1, 2, none⟩) (by simp) _).setCell (p := ⟨w.heap.size + 1, 3, none⟩) (by simp) _)⟩
  have z0 := xr.cell 0; have f0 := xr.frozen 0; dsimp at z0; have z1 := xr.cell 1; have f1 := xr.frozen 1; dsimp at z1; have z2 := xr.cell 2; have f2 := xr.frozen 2; dsimp at z2; have z3 := xr.cell 3; have f3 := xr.frozen 3; dsimp at z3
  clear xr kk
  go_wp2_with fail
  obtain ⟨hE, kb⟩ := KEY.out
  have e0 := hE.cell 0; have e1 := hE.cell 1; have e2 := hE.cell 2; have e3 := hE.cell 3
  dsimp at e0 e1 e2 e3
  refine bodyPost_ret (v := .agg #[.int .u64 (lft a0 a1 a2 a3 (wh : Int) p 0), .int .u64 (lft a0 a1 a2 a3 (wh : Int) p 1), .int .u64 (lft a0 a1 a2 a3 (wh : Int) p 2), .int .u64 (lft a0 a1 a2 a3 (wh : Int) p 3)]) ?_ rfl ⟨rfl, kb⟩
  clear z0 f0 z1 f1 z2 f2 z3 f3 kb hE
  simp [results, Tryd.results48, go_sem, e0, e1, e2, e3]

set_option maxHeartbeats 4000000 in
set_option maxRecDepth 100000 in
theorem right4_any (a0 a1 a2 a3 n : Int) (u0 : U64 a0) (u1 : U64 a1) (u2 : U64 a2) (u3 : U64 a3) (n0 : -9223372036854775808 ≤ n) (n1 : n ≤ 9223372036854775807) (w : World) :
    Calls Tryd.prog 54 #[.agg #[.int .u64 a0, .int .u64 a1, .int .u64 a2, .int .u64 a3], .int .i64 n] w fun e w' => e = .returned (.agg #[.int .u64 (rgt a0 a1 a2 a3 ((n.toNat / 64 : Nat) : Int) (n.toNat % 64) 0), .int .u64 (rgt a0 a1 a2 a3 ((n.toNat / 64 : Nat) : Int) (n.toNat % 64) 1), .int .u64 (rgt a0 a1 a2 a3 ((n.toNat / 64 : Nat) : Int) (n.toNat % 64) 2), .int .u64 (rgt a0 a1 a2 a3 ((n.toNat / 64 : Nat) : Int) (n.toNat % 64) 3)]) ∧ Below w.heap.size w w' := by
  have S1 := Lib.hid (split_any n n0 n1)
  have hN : n.toNat / 64 ≤ 1000000000000000000 := by omega
  have hP : n.toNat % 64 ≤ 64 := by omega
  clear n0 n1
  generalize n.toNat / 64 = wh at *
  generalize n.toNat % 64 = p at *
  go_enter Tryd.func54, Tryd.ntmps54
  go_wp2_with fail
  (with_reducible refine (S1.out _).mono ?_); rintro e w1 ⟨rfl, hb⟩
  have kk := bC (bA (bA (Below.refl _ _) _) _) hb
  have xa : HB w1 w.heap.size 38 #[.int .u64 a0, .int .u64 a1, .int .u64 a2, .int .u64 a3] := ((HB.new w _ _).alloc _).later hb
  have xr : HB w1 (w.heap.size + 1) 38 #[.int .u64 0, .int .u64 0, .int .u64 0, .int .u64 0] := (HB.newAt (by simp) _ _).later hb
  clear S1 hb
  have s1 := xr.lt
  go_wp2_with fail
  (with_reducible refine (build4_any 65 (enter_of Tryd.func65 (by kernel_rfl) (by kernel_rfl)) (rgt a0 a1 a2 a3 (wh : Int) p 0) (rgt a0 a1 a2 a3 (wh : Int) p 1) (rgt a0 a1 a2 a3 (wh : Int) p 2) (rgt a0 a1 a2 a3 (wh : Int) p 3) ((w1.alloc (.cells #[.int .i64 (wh : Int)] 3)).alloc (.cells #[.int .i64 (p : Int)] 3)) (Lib.hid fun W hb => right4_fun a0 a1 a2 a3 0 wh p u0 u1 u2 u3 hP (by omega) (by omega) hN W ((((xa.alloc _).alloc _).later hb).cell 0) ((((xa.alloc _).alloc _).later hb).cell 1) ((((xa.alloc _).alloc _).later hb).cell 2) ((((xa.alloc _).alloc _).later hb).cell 3) (cell_later hb (by go_simp)) (cell_later hb (by go_simp))) (Lib.hid fun W hb => right4_fun a0 a1 a2 a3 1 wh p u0 u1 u2 u3 hP (by omega) (by omega) hN W ((((xa.alloc _).alloc _).later hb).cell 0) ((((xa.alloc _).alloc _).later hb).cell 1) ((((xa.alloc _).alloc _).later hb).cell 2) ((((xa.alloc _).alloc _).later hb).cell 3) (cell_later hb (by go_simp)) (cell_later hb (by go_simp))) (Lib.hid fun W hb => right4_fun a0 a1 a2 a3 2 wh p u0 u1 u2 u3 hP (by omega) (by omega) hN W ((((xa.alloc _).alloc _).later hb).cell 0) ((((xa.alloc _).alloc _).later hb).cell 1) ((((xa.alloc _).alloc _).later hb).cell 2) ((((xa.alloc _).alloc _).later hb).cell 3) (cell_later hb (by go_simp)) (cell_later hb (by go_simp))) (Lib.hid fun W hb => right4_fun a0 a1 a2 a3 3 wh p u0 u1 u2 u3 hP (by omega) (by omega) hN W ((((xa.alloc _).alloc _).later hb).cell 0) ((((xa.alloc _).alloc _).later hb).cell 1) ((((xa.alloc _).alloc _).later hb).cell 2) ((((xa.alloc _).alloc _).later hb).cell 3) (cell_later hb (by go_simp)) (cell_later hb (by go_simp)))).mono ?_)
  rintro e w2 ⟨rfl, hb⟩
  replace xr := ((xr.alloc _).alloc _).later hb
  replace kk := bC (bA (bA kk _) _) hb
  clear xa hb s1
  have KEY : Hid (HB ((((w2.setCell ⟨w.heap.size + 1, 0, none⟩ (.int .u64 (rgt a0 a1 a2 a3 (wh : Int) p 0))).setCell ⟨w.heap.size + 1, 1, none⟩ (.int .u64 (rgt a0 a1 a2 a3 (wh : Int) p 1))).setCell ⟨w.heap.size + 1, 2, none⟩ (.int .u64 (rgt a0 a1 a2 a3 (wh : Int) p 2))).setCell ⟨w.heap.size + 1, 3, none⟩ (.int .u64 (rgt a0 a1 a2 a3 (wh : Int) p 3))) (w.heap.size + 1) 38 #[.int .u64 (rgt a0 a1 a2 a3 (wh : Int) p 0), .int .u64 (rgt a0 a1 a2 a3 (wh : Int) p 1), .int .u64 (rgt a0 a1 a2 a3 (wh : Int) p 2), .int .u64 (rgt a0 a1 a2 a3 (wh : Int) p 3)] ∧ Below w.heap.size w ((((w2.setCell ⟨w.heap.size + 1, 0, none⟩ (.int .u64 (rgt a0 a1 a2 a3 (wh : Int) p 0))).setCell ⟨w.heap.size + 1, 1, none⟩ (.int .u64 (rgt a0 a1 a2 a3 (wh : Int) p 1))).setCell ⟨w.heap.size + 1, 2, none⟩ (.int .u64 (rgt a0 a1 a2 a3 (wh : Int) p 2))).setCell ⟨w.heap.size + 1, 3, none⟩ (.int .u64 (rgt a0 a1 a2 a3 (wh : Int) p 3)))) := Lib.hid ⟨((((xr.set 0 _).set 1 _).set 2 _).set 3 _), ((((kk.setCell (p := ⟨w.heap.size + 1, 0, none⟩) (by simp) _).setCell (p := ⟨w.heap.size + 1, 1, none⟩) (by simp) _).setCell (p := ⟨w.heap.size + 1, 2, none⟩) (by simp) _).setCell (p := ⟨w.heap.size + 1, 3, none⟩) (by simp) _)⟩
  have z0 := xr.cell 0; have f0 := xr.frozen 0; dsimp at z0; have z1 := xr.cell 1; have f1 := xr.frozen 1; dsimp at z1; have z2 := xr.cell 2; have f2 := xr.frozen 2; dsimp at z2; have z3 := xr.cell 3; have f3 := xr.frozen 3; dsimp at z3
  clear xr kk
  go_wp2_with fail
  obtain ⟨hE, kb⟩ := KEY.out
  have e0 := hE.cell 0; have e1 := hE.cell 1; have e2 := hE.cell 2; have e3 := hE.cell 3
  dsimp at e0 e1 e2 e3
  refine bodyPost_ret (v := .agg #[.int .u64 (rgt a0 a1 a2 a3 (wh : Int) p 0), .int .u64 (rgt a0 a1 a2 a3 (wh : Int) p 1), .int .u64 (rgt a0 a1 a2 a3 (wh : Int) p 2), .int .u64 (rgt a0 a1 a2 a3 (wh : Int) p 3)]) ?_ rfl ⟨rfl, kb⟩
  clear z0 f0 z1 f1 z2 f2 z3 f3 kb hE
  simp [results, Tryd.results54, go_sem, e0, e1, e2, e3]

end Go.Proofs.YtkhcbioohoeegaaDoor
