/-
  Contracts of package shift: lost, jam, the exported functions.
-/
import Derived.Test.YtkhcbioohoeegaaDoorShiftE
set_option linter.unusedVariables false
set_option linter.unusedSimpArgs false
set_option maxRecDepth 100000
namespace Go.Proofs.YtkhcbioohoeegaaDoor
open Go.RowKit
attribute [local go_sem ↓] Go.wp_at_zero Go.wp_at_succ

theorem eql_two (a0 a1 b0 b1 : Int) (w : World) : (binOp .eql 69 (.agg #[.int .u64 a0, .int .u64 a1]) (.agg #[.int .u64 b0, .int .u64 b1])).run Tryd.prog w = .ok (.bool (decide (a0 = b0 ∧ a1 = b1))) w := by
  have hi0 : (Tryd.prog.info? 22).isSome = true := by kernel_rfl
  obtain ⟨i, hi⟩ := Option.isSome_iff_exists.1 hi0
  have hc : Tryd.prog.cellsOf 22 = 1 := by kernel_rfl
  rw [run_eql_struct, run_equalIn_array _ 9999 _ _ Tryd.underlying69 hi, hc]
  rw [show List.range 2 = [0, 1] from rfl]
  by_cases h0 : a0 = b0
  · subst h0
    by_cases h1 : a1 = b1
    · subst h1
      simp [Op.eqItems, go_sem]
    · simp [Op.eqItems, go_sem, h1]
  · simp [Op.eqItems, go_sem, h0]
theorem neq_of_eql {t : TypeId} {x y : Array Value} {b : Bool} {w : World} (h : (binOp .eql t (.agg x) (.agg y)).run Tryd.prog w = .ok (.bool b) w) : (binOp .neq t (.agg x) (.agg y)).run Tryd.prog w = .ok (.bool (!b)) w := by
  rw [run_eql_struct] at h
  rw [run_neq_struct]
  revert h
  generalize (Op.equalIn 10000 t (.agg x) (.agg y)).run Tryd.prog w = r
  intro h
  cases r with
  | ok b' w'' => cases h; rfl
  | halt x w'' => cases h
set_option maxHeartbeats 4000000 in
set_option maxRecDepth 100000 in
theorem digitsOf_any (x0 x1 : Int) (w : World) :
    Calls Tryd.prog 52 #[.agg #[.int .u64 x0, .int .u64 x1]] w fun e w' => e = .returned (.agg #[.int .u64 x1, .int .u64 x0]) ∧ Below w.heap.size w w' := by
  go_enter Tryd.func52, Tryd.ntmps52
  go_wp2_with fail
  exact bodyPost_ret (v := .agg #[.int .u64 x1, .int .u64 x0]) (by simp [results, Tryd.results52, go_sem]) rfl ⟨rfl, bA (bA (Below.refl _ _) _) _⟩

set_option maxHeartbeats 4000000 in
set_option maxRecDepth 100000 in
theorem bitsOf_any (x0 x1 : Int) (w : World) :
    Calls Tryd.prog 50 #[.agg #[.int .u64 x0, .int .u64 x1]] w fun e w' => e = .returned (.agg #[.int .u64 x1, .int .u64 x0]) ∧ Below w.heap.size w w' := by
  go_enter Tryd.func50, Tryd.ntmps50
  go_wp2_with fail
  exact bodyPost_ret (v := .agg #[.int .u64 x1, .int .u64 x0]) (by simp [results, Tryd.results50, go_sem]) rfl ⟨rfl, bA (bA (Below.refl _ _) _) _⟩

set_option maxHeartbeats 4000000 in
set_option maxRecDepth 100000 in
theorem lost4_core (a0 a1 a2 a3 r0 r1 r2 r3 l0 l1 l2 l3 n : Int) (b : Bool)
    (h0 : Hid (∀ w, Calls Tryd.prog 54 #[.agg #[.int .u64 a0, .int .u64 a1, .int .u64 a2, .int .u64 a3], .int .i64 n] w fun e w' => e = .returned (.agg #[.int .u64 r0, .int .u64 r1, .int .u64 r2, .int .u64 r3]) ∧ Below w.heap.size w w'))
    (h1 : Hid (∀ w, Calls Tryd.prog 48 #[.agg #[.int .u64 r0, .int .u64 r1, .int .u64 r2, .int .u64 r3], .int .i64 n] w fun e w' => e = .returned (.agg #[.int .u64 l0, .int .u64 l1, .int .u64 l2, .int .u64 l3]) ∧ Below w.heap.size w w')) (hE : ∀ w, (binOp .neq 38 (.agg #[.int .u64 l0, .int .u64 l1, .int .u64 l2, .int .u64 l3]) (.agg #[.int .u64 a0, .int .u64 a1, .int .u64 a2, .int .u64 a3])).run Tryd.prog w = .ok (.bool b) w) (w : World) :
    Calls Tryd.prog 53 #[.agg #[.int .u64 a0, .int .u64 a1, .int .u64 a2, .int .u64 a3], .int .i64 n] w fun e w' => e = .returned (.bool b) ∧ Below w.heap.size w w' := by
  go_enter Tryd.func53, Tryd.ntmps53
  go_wp2_with fail
  refine wp_forget (fun W => W.cell? ⟨w.heap.size, 0, none⟩ = some (.int .u64 a0) ∧ W.cell? ⟨w.heap.size, 1, none⟩ = some (.int .u64 a1) ∧ W.cell? ⟨w.heap.size, 2, none⟩ = some (.int .u64 a2) ∧ W.cell? ⟨w.heap.size, 3, none⟩ = some (.int .u64 a3) ∧ Below w.heap.size w W) ⟨by go_simp, by go_simp, by go_simp, by go_simp, (bA (Below.refl _ _) _)⟩ (fun w1 hst => ?_)
  obtain ⟨cX0_0, cX0_1, cX0_2, cX0_3, kk⟩ := hst
  have sX0 : w.heap.size < w1.heap.size := World.block_lt_of_cell? _ _ cX0_0
  refine wp_region_noPanic ?_
  refine wp_region_F [] [] (LS w1 (fun _ _ => True) (fun _ _ _ => True)) (by kernel_rfl) (bs := []) (vs := []) (by kernel_rfl) rfl (LS.before noBits_nil (Below.refl _ _).drew trivial) ?_
  refine wpF_take (i := 0) (v := ?vq9) rfl (by kernel_rfl) (by kernel_rfl) (fun _ _ _ h => h) (LS.load (by rfl) ?yq9) ?rq9
  case yq9 => (intro wq hb; have lcX0_0 := cell_later hb cX0_0; have lcX0_1 := cell_later hb cX0_1; have lcX0_2 := cell_later hb cX0_2; have lcX0_3 := cell_later hb cX0_3; go_simp; try (with_reducible rfl))
  try simp only [List.getElem_toArray, List.getElem_cons_zero, List.getElem_cons_succ, Act.put, List.setIfInBounds_toArray, List.set_cons_zero, List.set_cons_succ]
  refine wpF_yield (i := 1) (v := ?vq10) rfl (by kernel_rfl) (by kernel_rfl) (fun _ _ _ h => h) (Or.inl ⟨by rfl, ?yq10⟩) ?rq10
  case yq10 => (intro wq; go_simp; try (with_reducible rfl))
  try simp only [List.getElem_toArray, List.getElem_cons_zero, List.getElem_cons_succ, Act.put, List.setIfInBounds_toArray, List.set_cons_zero, List.set_cons_succ]
  refine wpF_take (i := 2) (v := _) rfl (by kernel_rfl) (by kernel_rfl) (fun _ _ _ h => h) (LS.call lasts_true (by rfl) _ _ ?yq11 (h0.out)) ?rq11
  case yq11 => (intro wq; go_simp; try (with_reducible rfl))
  try simp only [List.getElem_toArray, List.getElem_cons_zero, List.getElem_cons_succ, Act.put, List.setIfInBounds_toArray, List.set_cons_zero, List.set_cons_succ]
  refine wpF_yield (i := 3) (v := ?vq12) rfl (by kernel_rfl) (by kernel_rfl) (fun _ _ _ h => h) (Or.inl ⟨by rfl, ?yq12⟩) ?rq12
  case yq12 => (intro wq; go_simp; try (with_reducible rfl))
  try simp only [List.getElem_toArray, List.getElem_cons_zero, List.getElem_cons_succ, Act.put, List.setIfInBounds_toArray, List.set_cons_zero, List.set_cons_succ]
  refine wpF_take (i := 4) (v := _) rfl (by kernel_rfl) (by kernel_rfl) (fun _ _ _ h => h) (LS.call lasts_true (by rfl) _ _ ?yq13 (h1.out)) ?rq13
  case yq13 => (intro wq; go_simp; try (with_reducible rfl))
  try simp only [List.getElem_toArray, List.getElem_cons_zero, List.getElem_cons_succ, Act.put, List.setIfInBounds_toArray, List.set_cons_zero, List.set_cons_succ]
  refine wpF_take (i := 5) (v := ?vq14) rfl (by kernel_rfl) (by kernel_rfl) (fun _ _ _ h => h) (LS.load (by rfl) ?yq14) ?rq14
  case yq14 => (intro wq hb; have lcX0_0 := cell_later hb cX0_0; have lcX0_1 := cell_later hb cX0_1; have lcX0_2 := cell_later hb cX0_2; have lcX0_3 := cell_later hb cX0_3; go_simp; try (with_reducible rfl))
  try simp only [List.getElem_toArray, List.getElem_cons_zero, List.getElem_cons_succ, Act.put, List.setIfInBounds_toArray, List.set_cons_zero, List.set_cons_succ]
  refine wpF_yield (i := 6) (v := ?vq15) rfl (by kernel_rfl) (by kernel_rfl) (fun _ _ _ h => h) (Or.inl ⟨by rfl, ?yq15⟩) ?rq15
  case yq15 => (intro wq; go_simp; try (with_reducible rfl))
  try simp only [List.getElem_toArray, List.getElem_cons_zero, List.getElem_cons_succ, Act.put, List.setIfInBounds_toArray, List.set_cons_zero, List.set_cons_succ]
  refine wpF_yield (i := 7) (v := ?vq16) rfl (by kernel_rfl) (by kernel_rfl) (fun _ _ _ h => h) (Or.inl ⟨by rfl, ?yq16⟩) ?rq16
  case yq16 => (intro wq; go_simp; try (with_reducible rfl))
  try simp only [List.getElem_toArray, List.getElem_cons_zero, List.getElem_cons_succ, Act.put, List.setIfInBounds_toArray, List.set_cons_zero, List.set_cons_succ]
  refine wpF_done (bs := []) (vs := []) (by kernel_rfl) (by kernel_rfl) rfl (fun w2 hS => ?_) _
  refine NoPanic.normal ?_
  obtain ⟨hb, _⟩ := hS.1 noBits_nil
  clear hS
  clear cX0_0 cX0_1 cX0_2 cX0_3 sX0
  replace kk := bC kk hb
  clear hb
  go_wp2_with fail
  go_ret
  exact ⟨rfl, kk⟩

set_option maxHeartbeats 4000000 in
set_option maxRecDepth 100000 in
theorem xleft_core (ah al n h0 h1 : Int)
    (H1 : Hid (∀ w, Calls Tryd.prog 55 #[.agg #[.int .u64 al, .int .u64 ah], .int .i64 n] w fun e w' => e = .returned (.agg #[.int .u64 h0, .int .u64 h1]) ∧ Below w.heap.size w w')) (w : World) :
    Calls Tryd.prog 38 #[.agg #[.int .u64 ah, .int .u64 al], .int .i64 n] w fun e w' => e = .returned (.agg #[.int .u64 h1, .int .u64 h0]) ∧ Below w.heap.size w w' := by
  go_enter Tryd.func38, Tryd.ntmps38
  have D1 := Lib.hid (digitsOf_any ah al)
  have D2 := Lib.hid (bitsOf_any h0 h1)
  go_wp2_with fail
  (with_reducible refine (D1.out _).mono ?_); rintro e w1 ⟨rfl, hb⟩
  have kk := bC (bA (bA (Below.refl _ _) _) _) hb
  have xr : HB w1 (w.heap.size + 1) 24 #[.int .u64 0, .int .u64 0] := (HB.newAt (by simp) _ _).later hb
  clear hb D1
  go_wp2_with fail
  (with_reducible refine (H1.out _).mono ?_); rintro e w2 ⟨rfl, hb⟩
  replace kk := bC kk hb
  replace xr := xr.later hb
  clear hb H1
  go_wp2_with fail
  (with_reducible refine (D2.out _).mono ?_); rintro e w3 ⟨rfl, hb⟩
  replace kk := bC kk hb
  replace xr := xr.later hb
  clear hb D2
  have KEY : Hid (HB ((w3.setCell ⟨w.heap.size + 1, 0, none⟩ (.int .u64 h1)).setCell ⟨w.heap.size + 1, 1, none⟩ (.int .u64 h0)) (w.heap.size + 1) 24 #[.int .u64 h1, .int .u64 h0] ∧ Below w.heap.size w ((w3.setCell ⟨w.heap.size + 1, 0, none⟩ (.int .u64 h1)).setCell ⟨w.heap.size + 1, 1, none⟩ (.int .u64 h0))) := Lib.hid ⟨((xr.set 0 _).set 1 _), ((kk.setCell (p := ⟨w.heap.size + 1, 0, none⟩) (by simp) _).setCell (p := ⟨w.heap.size + 1, 1, none⟩) (by simp) _)⟩
  have z0 := xr.cell 0; have f0 := xr.frozen 0; dsimp at z0; have z1 := xr.cell 1; have f1 := xr.frozen 1; dsimp at z1
  clear xr kk
  go_wp2_with fail
  obtain ⟨hE, kb⟩ := KEY.out
  have e0 := hE.cell 0; have e1 := hE.cell 1
  dsimp at e0 e1
  refine bodyPost_ret (v := .agg #[.int .u64 h1, .int .u64 h0]) ?_ rfl ⟨rfl, kb⟩
  clear z0 f0 z1 f1 kb hE
  simp [results, Tryd.results38, go_sem, e0, e1]

set_option maxHeartbeats 4000000 in
set_option maxRecDepth 100000 in
theorem xwideleft_core (a0 a1 a2 a3 r0 r1 r2 r3 n : Int)
    (H1 : Hid (∀ w, Calls Tryd.prog 48 #[.agg #[.int .u64 a0, .int .u64 a1, .int .u64 a2, .int .u64 a3], .int .i64 n] w fun e w' => e = .returned (.agg #[.int .u64 r0, .int .u64 r1, .int .u64 r2, .int .u64 r3]) ∧ Below w.heap.size w w')) (w : World) :
    Calls Tryd.prog 25 #[.agg #[.int .u64 a0, .int .u64 a1, .int .u64 a2, .int .u64 a3], .int .i64 n] w fun e w' => e = .returned (.agg #[.int .u64 r0, .int .u64 r1, .int .u64 r2, .int .u64 r3]) ∧ Below w.heap.size w w' := by
  go_enter Tryd.func25, Tryd.ntmps25
  go_wp2_with fail
  (with_reducible refine (H1.out _).mono ?_); rintro e w1 ⟨rfl, hb⟩
  have kk := bC (bA (bA (Below.refl _ _) _) _) hb
  have xr : HB w1 (w.heap.size + 1) 38 #[.int .u64 0, .int .u64 0, .int .u64 0, .int .u64 0] := (HB.newAt (by simp) _ _).later hb
  clear hb H1
  have KEY : Hid (HB ((((w1.setCell ⟨w.heap.size + 1, 0, none⟩ (.int .u64 r0)).setCell ⟨w.heap.size + 1, 1, none⟩ (.int .u64 r1)).setCell ⟨w.heap.size + 1, 2, none⟩ (.int .u64 r2)).setCell ⟨w.heap.size + 1, 3, none⟩ (.int .u64 r3)) (w.heap.size + 1) 38 #[.int .u64 r0, .int .u64 r1, .int .u64 r2, .int .u64 r3] ∧ Below w.heap.size w ((((w1.setCell ⟨w.heap.size + 1, 0, none⟩ (.int .u64 r0)).setCell ⟨w.heap.size + 1, 1, none⟩ (.int .u64 r1)).setCell ⟨w.heap.size + 1, 2, none⟩ (.int .u64 r2)).setCell ⟨w.heap.size + 1, 3, none⟩ (.int .u64 r3))) := Lib.hid ⟨((((xr.set 0 _).set 1 _).set 2 _).set 3 _), ((((kk.setCell (p := ⟨w.heap.size + 1, 0, none⟩) (by simp) _).setCell (p := ⟨w.heap.size + 1, 1, none⟩) (by simp) _).setCell (p := ⟨w.heap.size + 1, 2, none⟩) (by simp) _).setCell (p := ⟨w.heap.size + 1, 3, none⟩) (by simp) _)⟩
  have z0 := xr.cell 0; have f0 := xr.frozen 0; dsimp at z0; have z1 := xr.cell 1; have f1 := xr.frozen 1; dsimp at z1; have z2 := xr.cell 2; have f2 := xr.frozen 2; dsimp at z2; have z3 := xr.cell 3; have f3 := xr.frozen 3; dsimp at z3
  clear xr kk
  go_wp2_with fail
  obtain ⟨hE, kb⟩ := KEY.out
  have e0 := hE.cell 0; have e1 := hE.cell 1; have e2 := hE.cell 2; have e3 := hE.cell 3
  dsimp at e0 e1 e2 e3
  refine bodyPost_ret (v := .agg #[.int .u64 r0, .int .u64 r1, .int .u64 r2, .int .u64 r3]) ?_ rfl ⟨rfl, kb⟩
  clear z0 f0 z1 f1 z2 f2 z3 f3 kb hE
  simp [results, Tryd.results25, go_sem, e0, e1, e2, e3]

set_option maxHeartbeats 4000000 in
set_option maxRecDepth 100000 in
theorem xright_core (ah al n h0 h1 : Int)
    (H1 : Hid (∀ w, Calls Tryd.prog 51 #[.agg #[.int .u64 al, .int .u64 ah], .int .i64 n] w fun e w' => e = .returned (.agg #[.int .u64 h0, .int .u64 h1]) ∧ Below w.heap.size w w')) (w : World) :
    Calls Tryd.prog 29 #[.agg #[.int .u64 ah, .int .u64 al], .int .i64 n] w fun e w' => e = .returned (.agg #[.int .u64 h1, .int .u64 h0]) ∧ Below w.heap.size w w' := by
  go_enter Tryd.func29, Tryd.ntmps29
  have D1 := Lib.hid (digitsOf_any ah al)
  have D2 := Lib.hid (bitsOf_any h0 h1)
  go_wp2_with fail
  (with_reducible refine (D1.out _).mono ?_); rintro e w1 ⟨rfl, hb⟩
  have kk := bC (bA (bA (Below.refl _ _) _) _) hb
  have xr : HB w1 (w.heap.size + 1) 24 #[.int .u64 0, .int .u64 0] := (HB.newAt (by simp) _ _).later hb
  clear hb D1
  go_wp2_with fail
  (with_reducible refine (H1.out _).mono ?_); rintro e w2 ⟨rfl, hb⟩
  replace kk := bC kk hb
  replace xr := xr.later hb
  clear hb H1
  go_wp2_with fail
  (with_reducible refine (D2.out _).mono ?_); rintro e w3 ⟨rfl, hb⟩
  replace kk := bC kk hb
  replace xr := xr.later hb
  clear hb D2
  have KEY : Hid (HB ((w3.setCell ⟨w.heap.size + 1, 0, none⟩ (.int .u64 h1)).setCell ⟨w.heap.size + 1, 1, none⟩ (.int .u64 h0)) (w.heap.size + 1) 24 #[.int .u64 h1, .int .u64 h0] ∧ Below w.heap.size w ((w3.setCell ⟨w.heap.size + 1, 0, none⟩ (.int .u64 h1)).setCell ⟨w.heap.size + 1, 1, none⟩ (.int .u64 h0))) := Lib.hid ⟨((xr.set 0 _).set 1 _), ((kk.setCell (p := ⟨w.heap.size + 1, 0, none⟩) (by simp) _).setCell (p := ⟨w.heap.size + 1, 1, none⟩) (by simp) _)⟩
  have z0 := xr.cell 0; have f0 := xr.frozen 0; dsimp at z0; have z1 := xr.cell 1; have f1 := xr.frozen 1; dsimp at z1
  clear xr kk
  go_wp2_with fail
  obtain ⟨hE, kb⟩ := KEY.out
  have e0 := hE.cell 0; have e1 := hE.cell 1
  dsimp at e0 e1
  refine bodyPost_ret (v := .agg #[.int .u64 h1, .int .u64 h0]) ?_ rfl ⟨rfl, kb⟩
  clear z0 f0 z1 f1 kb hE
  simp [results, Tryd.results29, go_sem, e0, e1]

set_option maxHeartbeats 4000000 in
set_option maxRecDepth 100000 in
theorem xwideright_core (a0 a1 a2 a3 r0 r1 r2 r3 n : Int)
    (H1 : Hid (∀ w, Calls Tryd.prog 54 #[.agg #[.int .u64 a0, .int .u64 a1, .int .u64 a2, .int .u64 a3], .int .i64 n] w fun e w' => e = .returned (.agg #[.int .u64 r0, .int .u64 r1, .int .u64 r2, .int .u64 r3]) ∧ Below w.heap.size w w')) (w : World) :
    Calls Tryd.prog 33 #[.agg #[.int .u64 a0, .int .u64 a1, .int .u64 a2, .int .u64 a3], .int .i64 n] w fun e w' => e = .returned (.agg #[.int .u64 r0, .int .u64 r1, .int .u64 r2, .int .u64 r3]) ∧ Below w.heap.size w w' := by
  go_enter Tryd.func33, Tryd.ntmps33
  go_wp2_with fail
  (with_reducible refine (H1.out _).mono ?_); rintro e w1 ⟨rfl, hb⟩
  have kk := bC (bA (bA (Below.refl _ _) _) _) hb
  have xr : HB w1 (w.heap.size + 1) 38 #[.int .u64 0, .int .u64 0, .int .u64 0, .int .u64 0] := (HB.newAt (by simp) _ _).later hb
  clear hb H1
  have KEY : Hid (HB ((((w1.setCell ⟨w.heap.size + 1, 0, none⟩ (.int .u64 r0)).setCell ⟨w.heap.size + 1, 1, none⟩ (.int .u64 r1)).setCell ⟨w.heap.size + 1, 2, none⟩ (.int .u64 r2)).setCell ⟨w.heap.size + 1, 3, none⟩ (.int .u64 r3)) (w.heap.size + 1) 38 #[.int .u64 r0, .int .u64 r1, .int .u64 r2, .int .u64 r3] ∧ Below w.heap.size w ((((w1.setCell ⟨w.heap.size + 1, 0, none⟩ (.int .u64 r0)).setCell ⟨w.heap.size + 1, 1, none⟩ (.int .u64 r1)).setCell ⟨w.heap.size + 1, 2, none⟩ (.int .u64 r2)).setCell ⟨w.heap.size + 1, 3, none⟩ (.int .u64 r3))) := Lib.hid ⟨((((xr.set 0 _).set 1 _).set 2 _).set 3 _), ((((kk.setCell (p := ⟨w.heap.size + 1, 0, none⟩) (by simp) _).setCell (p := ⟨w.heap.size + 1, 1, none⟩) (by simp) _).setCell (p := ⟨w.heap.size + 1, 2, none⟩) (by simp) _).setCell (p := ⟨w.heap.size + 1, 3, none⟩) (by simp) _)⟩
  have z0 := xr.cell 0; have f0 := xr.frozen 0; dsimp at z0; have z1 := xr.cell 1; have f1 := xr.frozen 1; dsimp at z1; have z2 := xr.cell 2; have f2 := xr.frozen 2; dsimp at z2; have z3 := xr.cell 3; have f3 := xr.frozen 3; dsimp at z3
  clear xr kk
  go_wp2_with fail
  obtain ⟨hE, kb⟩ := KEY.out
  have e0 := hE.cell 0; have e1 := hE.cell 1; have e2 := hE.cell 2; have e3 := hE.cell 3
  dsimp at e0 e1 e2 e3
  refine bodyPost_ret (v := .agg #[.int .u64 r0, .int .u64 r1, .int .u64 r2, .int .u64 r3]) ?_ rfl ⟨rfl, kb⟩
  clear z0 f0 z1 f1 z2 f2 z3 f3 kb hE
  simp [results, Tryd.results33, go_sem, e0, e1, e2, e3]

set_option maxHeartbeats 4000000 in
set_option maxRecDepth 100000 in
theorem xlost_core (a0 a1 a2 a3 n : Int) (b : Bool)
    (H1 : Hid (∀ w, Calls Tryd.prog 53 #[.agg #[.int .u64 a0, .int .u64 a1, .int .u64 a2, .int .u64 a3], .int .i64 n] w fun e w' => e = .returned (.bool b) ∧ Below w.heap.size w w')) (w : World) :
    Calls Tryd.prog 32 #[.agg #[.int .u64 a0, .int .u64 a1, .int .u64 a2, .int .u64 a3], .int .i64 n] w fun e w' => e = .returned (.bool b) ∧ Below w.heap.size w w' := by
  go_enter Tryd.func32, Tryd.ntmps32
  go_wp2_with fail
  (with_reducible refine (H1.out _).mono ?_); rintro e w1 ⟨rfl, hb⟩
  have kk := bC (bA (Below.refl _ _) _) hb
  clear hb H1
  go_wp2_with fail
  go_ret
  exact ⟨rfl, kk⟩


end Go.Proofs.YtkhcbioohoeegaaDoor
