/-
  The walk of the statement MagScale.
-/
import Derived.BigRegion
import Derived.Test.YtamigjdankkmjaaMag17M
import Derived.Test.YtamigjdankkmjaaGaB
import Derived.Test.YtamigjdankkmjaaGhA
import Derived.Test.YtamigjdankkmjaaGaA
import Derived.Test.YtamigjdankkmjaaGoes17
set_option linter.unusedVariables false
set_option linter.unusedSimpArgs false
set_option maxRecDepth 100000
namespace Go.Proofs.Ytamigjdankkmjaa
open Go.RowKit
attribute [local go_sem ↓] Go.wp_at_zero Go.wp_at_succ

set_option maxHeartbeats 4000000 in
set_option maxRecDepth 100000 in
theorem scale17_core (ea eb s a0 a1 b0 b1 c1 d1 m m2 l l2 r x0 x1 x2 x3 y0 y1 y2 y3 p0 p1 p2 p3 q0 q1 q2 q3 : Int) (t : Bool)
    (h0 : Hid (∀ w, Calls Try.prog 12 #[.agg #[.int .i64 a1, .int .u64 x0, .int .u64 x1, .int .u64 x2, .int .u64 x3], .agg #[.int .i64 b1, .int .u64 y0, .int .u64 y1, .int .u64 y2, .int .u64 y3]] w fun e w' => e = .returned (.agg #[.int .i64 m, .int .u64 p0, .int .u64 p1, .int .u64 p2, .int .u64 p3]) ∧ Below w.heap.size w w'))
    (h1 : Hid (∀ w, Calls Try.prog 12 #[.agg #[.int .i64 c1, .int .u64 x0, .int .u64 x1, .int .u64 x2, .int .u64 x3], .agg #[.int .i64 d1, .int .u64 y0, .int .u64 y1, .int .u64 y2, .int .u64 y3]] w fun e w' => e = .returned (.agg #[.int .i64 m2, .int .u64 p0, .int .u64 p1, .int .u64 p2, .int .u64 p3]) ∧ Below w.heap.size w w'))
    (h2 : Hid (∀ w, Calls Try.prog 11 #[.agg #[.int .i64 a1, .int .u64 x0, .int .u64 x1, .int .u64 x2, .int .u64 x3], .agg #[.int .i64 b1, .int .u64 y0, .int .u64 y1, .int .u64 y2, .int .u64 y3]] w fun e w' => e = .returned (.tuple #[.agg #[.int .i64 l, .int .u64 q0, .int .u64 q1, .int .u64 q2, .int .u64 q3], .bool t]) ∧ Below w.heap.size w w'))
    (h3 : Hid (∀ w, Calls Try.prog 11 #[.agg #[.int .i64 c1, .int .u64 x0, .int .u64 x1, .int .u64 x2, .int .u64 x3], .agg #[.int .i64 d1, .int .u64 y0, .int .u64 y1, .int .u64 y2, .int .u64 y3]] w fun e w' => e = .returned (.tuple #[.agg #[.int .i64 l2, .int .u64 q0, .int .u64 q1, .int .u64 q2, .int .u64 q3], .bool t]) ∧ Below w.heap.size w w'))
    (h4 : Hid (∀ w, Calls Try.prog 13 #[.agg #[.int .i64 a1, .int .u64 x0, .int .u64 x1, .int .u64 x2, .int .u64 x3], .agg #[.int .i64 b1, .int .u64 y0, .int .u64 y1, .int .u64 y2, .int .u64 y3]] w fun e w' => e = .returned (.int .i64 r) ∧ Below w.heap.size w w'))
    (h5 : Hid (∀ w, Calls Try.prog 13 #[.agg #[.int .i64 c1, .int .u64 x0, .int .u64 x1, .int .u64 x2, .int .u64 x3], .agg #[.int .i64 d1, .int .u64 y0, .int .u64 y1, .int .u64 y2, .int .u64 y3]] w fun e w' => e = .returned (.int .i64 r) ∧ Below w.heap.size w w'))
    (h6 : Hid (∀ w, Calls Try.prog 17 #[] w fun e w' => e = .returned (.bool true) ∧ Below w.heap.size w w')) (ja : (if 1073741824 < ea then 1073741824 else ea) = a0) (ja' : (if ea > 1073741824 then 1073741824 else ea) = a0) (jay : (if a0 > (-1073741824) then a0 else (-1073741824)) = a1) (jay' : (if (-1073741824) < a0 then a0 else (-1073741824)) = a1) (jb : (if 1073741824 < eb then 1073741824 else eb) = b0) (jb' : (if eb > 1073741824 then 1073741824 else eb) = b0) (jby : (if b0 > (-1073741824) then b0 else (-1073741824)) = b1) (jby' : (if (-1073741824) < b0 then b0 else (-1073741824)) = b1) (k1 : IntKind.i64.wrap s = s) (w1 : IntKind.i64.wrap (a1 + s) = c1) (w1x : wrap64 (a1 + s) = c1) (w2 : IntKind.i64.wrap (b1 + s) = d1) (w2x : wrap64 (b1 + s) = d1) (w3 : IntKind.i64.wrap (m + s) = m2) (w3x : wrap64 (m + s) = m2) (w4 : IntKind.i64.wrap (l + s) = l2) (w4x : wrap64 (l + s) = l2) (w : World) :
    Calls Try.prog 7 #[.agg #[.int .i64 ea, .int .u64 x0, .int .u64 x1, .int .u64 x2, .int .u64 x3], .agg #[.int .i64 eb, .int .u64 y0, .int .u64 y1, .int .u64 y2, .int .u64 y3], .int .i16 s] w fun e w' => e = .returned (.bool true) ∧ Below w.heap.size w w' := by
  have E1 := eqw17 p0 p1 p2 p3
  have E2 := eqw17 q0 q1 q2 q3
  go_enter Try.func7, Try.ntmps7
  go_wp2_with fail
  go_region
  go_wp2_with fail
  refine wp_forget (fun W => W.cell? ⟨w.heap.size, 0, none⟩ = some (.int .i64 a1) ∧ W.cell? ⟨w.heap.size, 1, none⟩ = some (.int .u64 x0) ∧ W.cell? ⟨w.heap.size, 2, none⟩ = some (.int .u64 x1) ∧ W.cell? ⟨w.heap.size, 3, none⟩ = some (.int .u64 x2) ∧ W.cell? ⟨w.heap.size, 4, none⟩ = some (.int .u64 x3) ∧ W.cell? ⟨w.heap.size + 1, 0, none⟩ = some (.int .i64 b1) ∧ W.cell? ⟨w.heap.size + 1, 1, none⟩ = some (.int .u64 y0) ∧ W.cell? ⟨w.heap.size + 1, 2, none⟩ = some (.int .u64 y1) ∧ W.cell? ⟨w.heap.size + 1, 3, none⟩ = some (.int .u64 y2) ∧ W.cell? ⟨w.heap.size + 1, 4, none⟩ = some (.int .u64 y3) ∧ Below w.heap.size w W) ⟨by go_simp, by go_simp, by go_simp, by go_simp, by go_simp, by go_simp, by go_simp, by go_simp, by go_simp, by go_simp, ((bA (bA (Below.refl _ _) _) _)).drew⟩ (fun w1 hst => ?_)
  obtain ⟨cX0_0, cX0_1, cX0_2, cX0_3, cX0_4, cX1_0, cX1_1, cX1_2, cX1_3, cX1_4, kk⟩ := hst
  have sX0 : w.heap.size < w1.heap.size := World.block_lt_of_cell? _ _ cX0_0
  have sX1 : w.heap.size + 1 < w1.heap.size ∧ w.heap.size < w1.heap.size := by have h : w.heap.size + 1 < w1.heap.size := World.block_lt_of_cell? _ _ cX1_0; exact ⟨h, by omega⟩
  clear sX0
  clear sX1
  refine wp_region_noPanic ?_
  refine wp_region_held_drew (S := fun w' => w'.cell? ⟨w.heap.size, 0, none⟩ = some (.int .i64 a1) ∧ w'.cell? ⟨w.heap.size, 1, none⟩ = some (.int .u64 x0) ∧ w'.cell? ⟨w.heap.size, 2, none⟩ = some (.int .u64 x1) ∧ w'.cell? ⟨w.heap.size, 3, none⟩ = some (.int .u64 x2) ∧ w'.cell? ⟨w.heap.size, 4, none⟩ = some (.int .u64 x3) ∧ w'.cell? ⟨w.heap.size + 1, 0, none⟩ = some (.int .i64 b1) ∧ w'.cell? ⟨w.heap.size + 1, 1, none⟩ = some (.int .u64 y0) ∧ w'.cell? ⟨w.heap.size + 1, 2, none⟩ = some (.int .u64 y1) ∧ w'.cell? ⟨w.heap.size + 1, 3, none⟩ = some (.int .u64 y2) ∧ w'.cell? ⟨w.heap.size + 1, 4, none⟩ = some (.int .u64 y3) ∧ True) (by kernel_rfl) ⟨cell_later (Below.refl _ _).drew cX0_0, cell_later (Below.refl _ _).drew cX0_1, cell_later (Below.refl _ _).drew cX0_2, cell_later (Below.refl _ _).drew cX0_3, cell_later (Below.refl _ _).drew cX0_4, cell_later (Below.refl _ _).drew cX1_0, cell_later (Below.refl _ _).drew cX1_1, cell_later (Below.refl _ _).drew cX1_2, cell_later (Below.refl _ _).drew cX1_3, cell_later (Below.refl _ _).drew cX1_4, trivial⟩ (fun hHeld => ?_)
  replace cX0_0 := cell_later (Below.refl _ _).drew cX0_0; replace cX0_1 := cell_later (Below.refl _ _).drew cX0_1; replace cX0_2 := cell_later (Below.refl _ _).drew cX0_2; replace cX0_3 := cell_later (Below.refl _ _).drew cX0_3; replace cX0_4 := cell_later (Below.refl _ _).drew cX0_4
  replace cX1_0 := cell_later (Below.refl _ _).drew cX1_0; replace cX1_1 := cell_later (Below.refl _ _).drew cX1_1; replace cX1_2 := cell_later (Below.refl _ _).drew cX1_2; replace cX1_3 := cell_later (Below.refl _ _).drew cX1_3; replace cX1_4 := cell_later (Below.refl _ _).drew cX1_4
  replace kk := bC kk (Below.refl _ _).drew
  generalize World.drew _ = w2 at *
  refine wpAnyH_take (i := 0) (v := ?vq1) rfl (by kernel_rfl) (by kernel_rfl) (by kernel_rfl) (fun _ _ _ h => h) (Or.inl ⟨by rfl, ?yq1⟩) hHeld ?rq1
  case yq1 => (intro wq hb; obtain ⟨lq0, lq1, lq2, lq3, lq4, lq5, lq6, lq7, lq8, lq9, _⟩ := hb; go_simp; try (with_reducible rfl))
  try simp only [List.getElem_toArray, List.getElem_cons_zero, List.getElem_cons_succ, Act.put, List.setIfInBounds_toArray, List.set_cons_zero, List.set_cons_succ]
  refine wpAnyH_take (i := 1) (v := ?vq2) rfl (by kernel_rfl) (by kernel_rfl) (by kernel_rfl) (fun _ _ _ h => h) (Or.inl ⟨by rfl, ?yq2⟩) hHeld ?rq2
  case yq2 => (intro wq hb; obtain ⟨lq0, lq1, lq2, lq3, lq4, lq5, lq6, lq7, lq8, lq9, _⟩ := hb; go_simp; try (with_reducible rfl))
  try simp only [List.getElem_toArray, List.getElem_cons_zero, List.getElem_cons_succ, Act.put, List.setIfInBounds_toArray, List.set_cons_zero, List.set_cons_succ]
  clear hHeld
  refine wpAnyH_ready (rs := [2, 3]) (by kernel_rfl) (by simp) ?_
  refine AllReadyH.cons rfl (fun K hK => ?_) (AllReadyH.cons rfl (fun K hK => ?_) AllReadyH.nil)
  go_simp
  have nX0_X2 : w.heap.size < w2.heap.size := World.block_lt_of_cell? _ _ cX0_0
  have nX1_X2 : w.heap.size + 1 < w2.heap.size := World.block_lt_of_cell? _ _ cX1_0
  have gX2 : w.heap.size ≤ w2.heap.size := kk.size
  have ha := bA (Below.refl _ w2) (.cells #[.int .i64 0, .int .u64 0, .int .u64 0, .int .u64 0, .int .u64 0] 26)
  have hx := HB.new w2 26 #[.int .i64 0, .int .u64 0, .int .u64 0, .int .u64 0, .int .u64 0]
  replace cX0_0 := cell_later ha cX0_0; replace cX0_1 := cell_later ha cX0_1; replace cX0_2 := cell_later ha cX0_2; replace cX0_3 := cell_later ha cX0_3; replace cX0_4 := cell_later ha cX0_4
  replace cX1_0 := cell_later ha cX1_0; replace cX1_1 := cell_later ha cX1_1; replace cX1_2 := cell_later ha cX1_2; replace cX1_3 := cell_later ha cX1_3; replace cX1_4 := cell_later ha cX1_4
  replace kk := bC kk ha
  have cX2_0 := hx.cell 0; have fX2_0 := hx.frozen 0; have cX2_1 := hx.cell 1; have fX2_1 := hx.frozen 1; have cX2_2 := hx.cell 2; have fX2_2 := hx.frozen 2; have cX2_3 := hx.cell 3; have fX2_3 := hx.frozen 3; have cX2_4 := hx.cell 4; have fX2_4 := hx.frozen 4; dsimp at cX2_0 cX2_1 cX2_2 cX2_3 cX2_4
  clear ha hx
  refine hK.out _ _ ⟨cX0_0, cX0_1, cX0_2, cX0_3, cX0_4, cX1_0, cX1_1, cX1_2, cX1_3, cX1_4, trivial⟩ (fun hHeld => ?_)
  clear hK K
  generalize w2.alloc (.cells #[.int .i64 0, .int .u64 0, .int .u64 0, .int .u64 0, .int .u64 0] 26) = w3 at *
  generalize w2.heap.size = pp1 at *
  try simp only [List.getElem_toArray, List.getElem_cons_zero, List.getElem_cons_succ, Act.put, List.setIfInBounds_toArray, List.set_cons_zero, List.set_cons_succ]
  clear w2
  clear hHeld
  refine wpAnyH_ready (rs := [3]) (by kernel_rfl) (by simp) ?_
  refine AllReadyH.cons rfl (fun K hK => ?_) AllReadyH.nil
  go_simp
  have nX0_X3 : w.heap.size < w3.heap.size := World.block_lt_of_cell? _ _ cX0_0
  have nX1_X3 : w.heap.size + 1 < w3.heap.size := World.block_lt_of_cell? _ _ cX1_0
  have nX2_X3 : pp1 < w3.heap.size := World.block_lt_of_cell? _ _ cX2_0
  have gX3 : w.heap.size ≤ w3.heap.size := kk.size
  have ha := bA (Below.refl _ w3) (.cells #[.int .i64 0, .int .u64 0, .int .u64 0, .int .u64 0, .int .u64 0] 26)
  have hx := HB.new w3 26 #[.int .i64 0, .int .u64 0, .int .u64 0, .int .u64 0, .int .u64 0]
  replace cX0_0 := cell_later ha cX0_0; replace cX0_1 := cell_later ha cX0_1; replace cX0_2 := cell_later ha cX0_2; replace cX0_3 := cell_later ha cX0_3; replace cX0_4 := cell_later ha cX0_4
  replace cX1_0 := cell_later ha cX1_0; replace cX1_1 := cell_later ha cX1_1; replace cX1_2 := cell_later ha cX1_2; replace cX1_3 := cell_later ha cX1_3; replace cX1_4 := cell_later ha cX1_4
  replace fX2_0 := frozen_later ha cX2_0 fX2_0; replace fX2_1 := frozen_later ha cX2_1 fX2_1; replace fX2_2 := frozen_later ha cX2_2 fX2_2; replace fX2_3 := frozen_later ha cX2_3 fX2_3; replace fX2_4 := frozen_later ha cX2_4 fX2_4
  replace cX2_0 := cell_later ha cX2_0; replace cX2_1 := cell_later ha cX2_1; replace cX2_2 := cell_later ha cX2_2; replace cX2_3 := cell_later ha cX2_3; replace cX2_4 := cell_later ha cX2_4
  replace kk := bC kk ha
  have cX3_0 := hx.cell 0; have fX3_0 := hx.frozen 0; have cX3_1 := hx.cell 1; have fX3_1 := hx.frozen 1; have cX3_2 := hx.cell 2; have fX3_2 := hx.frozen 2; have cX3_3 := hx.cell 3; have fX3_3 := hx.frozen 3; have cX3_4 := hx.cell 4; have fX3_4 := hx.frozen 4; dsimp at cX3_0 cX3_1 cX3_2 cX3_3 cX3_4
  clear ha hx
  refine hK.out _ _ ⟨cX0_0, cX0_1, cX0_2, cX0_3, cX0_4, cX1_0, cX1_1, cX1_2, cX1_3, cX1_4, trivial⟩ (fun hHeld => ?_)
  clear hK K
  generalize w3.alloc (.cells #[.int .i64 0, .int .u64 0, .int .u64 0, .int .u64 0, .int .u64 0] 26) = w4 at *
  generalize w3.heap.size = qq1 at *
  try simp only [List.getElem_toArray, List.getElem_cons_zero, List.getElem_cons_succ, Act.put, List.setIfInBounds_toArray, List.set_cons_zero, List.set_cons_succ]
  clear w3
  clear hHeld
  refine wpAnyH_ready (rs := [4]) (by kernel_rfl) (by simp) ?_
  refine AllReadyH.cons rfl (fun K hK => ?_) AllReadyH.nil
  go_simp
  have neX0 : ¬ (pp1 = w.heap.size) := by omega
  have nfX0 : ¬ (w.heap.size = pp1) := by omega
  have neX1 : ¬ (pp1 = w.heap.size + 1) := by omega
  have nfX1 : ¬ (w.heap.size + 1 = pp1) := by omega
  have neX3 : ¬ (pp1 = qq1) := by omega
  have nfX3 : ¬ (qq1 = pp1) := by omega
  have KEY := Lib.hid (show (fun W => W.cell? ⟨w.heap.size, 0, none⟩ = some (.int .i64 a1) ∧ W.cell? ⟨w.heap.size, 1, none⟩ = some (.int .u64 x0) ∧ W.cell? ⟨w.heap.size, 2, none⟩ = some (.int .u64 x1) ∧ W.cell? ⟨w.heap.size, 3, none⟩ = some (.int .u64 x2) ∧ W.cell? ⟨w.heap.size, 4, none⟩ = some (.int .u64 x3) ∧ W.cell? ⟨w.heap.size + 1, 0, none⟩ = some (.int .i64 b1) ∧ W.cell? ⟨w.heap.size + 1, 1, none⟩ = some (.int .u64 y0) ∧ W.cell? ⟨w.heap.size + 1, 2, none⟩ = some (.int .u64 y1) ∧ W.cell? ⟨w.heap.size + 1, 3, none⟩ = some (.int .u64 y2) ∧ W.cell? ⟨w.heap.size + 1, 4, none⟩ = some (.int .u64 y3) ∧ W.cell? ⟨pp1, 0, none⟩ = some (.int .i64 a1) ∧ W.cell? ⟨pp1, 1, none⟩ = some (.int .u64 x0) ∧ W.cell? ⟨pp1, 2, none⟩ = some (.int .u64 x1) ∧ W.cell? ⟨pp1, 3, none⟩ = some (.int .u64 x2) ∧ W.cell? ⟨pp1, 4, none⟩ = some (.int .u64 x3) ∧ W.frozen? ⟨pp1, 0, none⟩ = false ∧ W.frozen? ⟨pp1, 1, none⟩ = false ∧ W.frozen? ⟨pp1, 2, none⟩ = false ∧ W.frozen? ⟨pp1, 3, none⟩ = false ∧ W.frozen? ⟨pp1, 4, none⟩ = false ∧ W.cell? ⟨qq1, 0, none⟩ = some (.int .i64 0) ∧ W.cell? ⟨qq1, 1, none⟩ = some (.int .u64 0) ∧ W.cell? ⟨qq1, 2, none⟩ = some (.int .u64 0) ∧ W.cell? ⟨qq1, 3, none⟩ = some (.int .u64 0) ∧ W.cell? ⟨qq1, 4, none⟩ = some (.int .u64 0) ∧ W.frozen? ⟨qq1, 0, none⟩ = false ∧ W.frozen? ⟨qq1, 1, none⟩ = false ∧ W.frozen? ⟨qq1, 2, none⟩ = false ∧ W.frozen? ⟨qq1, 3, none⟩ = false ∧ W.frozen? ⟨qq1, 4, none⟩ = false ∧ Below w.heap.size w W) (((((w4.setCell ⟨pp1, 0, none⟩ (.int .i64 a1)).setCell ⟨pp1, 1, none⟩ (.int .u64 x0)).setCell ⟨pp1, 2, none⟩ (.int .u64 x1)).setCell ⟨pp1, 3, none⟩ (.int .u64 x2)).setCell ⟨pp1, 4, none⟩ (.int .u64 x3)) from ⟨by go_simp, by go_simp, by go_simp, by go_simp, by go_simp, by go_simp, by go_simp, by go_simp, by go_simp, by go_simp, by go_simp, by go_simp, by go_simp, by go_simp, by go_simp, by go_simp, by go_simp, by go_simp, by go_simp, by go_simp, by go_simp, by go_simp, by go_simp, by go_simp, by go_simp, by go_simp, by go_simp, by go_simp, by go_simp, by go_simp, (((((kk.setCell (p := ⟨pp1, 0, none⟩) gX2 _).setCell (p := ⟨pp1, 1, none⟩) gX2 _).setCell (p := ⟨pp1, 2, none⟩) gX2 _).setCell (p := ⟨pp1, 3, none⟩) gX2 _).setCell (p := ⟨pp1, 4, none⟩) gX2 _)⟩)
  clear cX0_0 cX0_1 cX0_2 cX0_3 cX0_4 cX1_0 cX1_1 cX1_2 cX1_3 cX1_4 cX2_0 cX2_1 cX2_2 cX2_3 cX2_4 fX2_0 fX2_1 fX2_2 fX2_3 fX2_4 cX3_0 cX3_1 cX3_2 cX3_3 cX3_4 fX3_0 fX3_1 fX3_2 fX3_3 fX3_4 neX0 nfX0 neX1 nfX1 neX3 nfX3 kk
  refine forget_at (fun W => W.cell? ⟨w.heap.size, 0, none⟩ = some (.int .i64 a1) ∧ W.cell? ⟨w.heap.size, 1, none⟩ = some (.int .u64 x0) ∧ W.cell? ⟨w.heap.size, 2, none⟩ = some (.int .u64 x1) ∧ W.cell? ⟨w.heap.size, 3, none⟩ = some (.int .u64 x2) ∧ W.cell? ⟨w.heap.size, 4, none⟩ = some (.int .u64 x3) ∧ W.cell? ⟨w.heap.size + 1, 0, none⟩ = some (.int .i64 b1) ∧ W.cell? ⟨w.heap.size + 1, 1, none⟩ = some (.int .u64 y0) ∧ W.cell? ⟨w.heap.size + 1, 2, none⟩ = some (.int .u64 y1) ∧ W.cell? ⟨w.heap.size + 1, 3, none⟩ = some (.int .u64 y2) ∧ W.cell? ⟨w.heap.size + 1, 4, none⟩ = some (.int .u64 y3) ∧ W.cell? ⟨pp1, 0, none⟩ = some (.int .i64 a1) ∧ W.cell? ⟨pp1, 1, none⟩ = some (.int .u64 x0) ∧ W.cell? ⟨pp1, 2, none⟩ = some (.int .u64 x1) ∧ W.cell? ⟨pp1, 3, none⟩ = some (.int .u64 x2) ∧ W.cell? ⟨pp1, 4, none⟩ = some (.int .u64 x3) ∧ W.frozen? ⟨pp1, 0, none⟩ = false ∧ W.frozen? ⟨pp1, 1, none⟩ = false ∧ W.frozen? ⟨pp1, 2, none⟩ = false ∧ W.frozen? ⟨pp1, 3, none⟩ = false ∧ W.frozen? ⟨pp1, 4, none⟩ = false ∧ W.cell? ⟨qq1, 0, none⟩ = some (.int .i64 0) ∧ W.cell? ⟨qq1, 1, none⟩ = some (.int .u64 0) ∧ W.cell? ⟨qq1, 2, none⟩ = some (.int .u64 0) ∧ W.cell? ⟨qq1, 3, none⟩ = some (.int .u64 0) ∧ W.cell? ⟨qq1, 4, none⟩ = some (.int .u64 0) ∧ W.frozen? ⟨qq1, 0, none⟩ = false ∧ W.frozen? ⟨qq1, 1, none⟩ = false ∧ W.frozen? ⟨qq1, 2, none⟩ = false ∧ W.frozen? ⟨qq1, 3, none⟩ = false ∧ W.frozen? ⟨qq1, 4, none⟩ = false ∧ Below w.heap.size w W) KEY.out (fun w5 hz => ?_)
  obtain ⟨cX0_0, cX0_1, cX0_2, cX0_3, cX0_4, cX1_0, cX1_1, cX1_2, cX1_3, cX1_4, cX2_0, cX2_1, cX2_2, cX2_3, cX2_4, fX2_0, fX2_1, fX2_2, fX2_3, fX2_4, cX3_0, cX3_1, cX3_2, cX3_3, cX3_4, fX3_0, fX3_1, fX3_2, fX3_3, fX3_4, kk⟩ := hz
  clear KEY
  refine hK.out _ _ ⟨cX0_0, cX0_1, cX0_2, cX0_3, cX0_4, cX1_0, cX1_1, cX1_2, cX1_3, cX1_4, trivial⟩ (fun hHeld => ?_)
  clear hK K
  try simp only [List.getElem_toArray, List.getElem_cons_zero, List.getElem_cons_succ, Act.put, List.setIfInBounds_toArray, List.set_cons_zero, List.set_cons_succ]
  clear w4
  clear hHeld
  refine wpAnyH_ready (rs := [5]) (by kernel_rfl) (by simp) ?_
  refine AllReadyH.cons rfl (fun K hK => ?_) AllReadyH.nil
  go_simp
  have neX0 : ¬ (qq1 = w.heap.size) := by omega
  have nfX0 : ¬ (w.heap.size = qq1) := by omega
  have neX1 : ¬ (qq1 = w.heap.size + 1) := by omega
  have nfX1 : ¬ (w.heap.size + 1 = qq1) := by omega
  have neX2 : ¬ (qq1 = pp1) := by omega
  have nfX2 : ¬ (pp1 = qq1) := by omega
  have KEY := Lib.hid (show (fun W => W.cell? ⟨w.heap.size, 0, none⟩ = some (.int .i64 a1) ∧ W.cell? ⟨w.heap.size, 1, none⟩ = some (.int .u64 x0) ∧ W.cell? ⟨w.heap.size, 2, none⟩ = some (.int .u64 x1) ∧ W.cell? ⟨w.heap.size, 3, none⟩ = some (.int .u64 x2) ∧ W.cell? ⟨w.heap.size, 4, none⟩ = some (.int .u64 x3) ∧ W.cell? ⟨w.heap.size + 1, 0, none⟩ = some (.int .i64 b1) ∧ W.cell? ⟨w.heap.size + 1, 1, none⟩ = some (.int .u64 y0) ∧ W.cell? ⟨w.heap.size + 1, 2, none⟩ = some (.int .u64 y1) ∧ W.cell? ⟨w.heap.size + 1, 3, none⟩ = some (.int .u64 y2) ∧ W.cell? ⟨w.heap.size + 1, 4, none⟩ = some (.int .u64 y3) ∧ W.cell? ⟨pp1, 0, none⟩ = some (.int .i64 a1) ∧ W.cell? ⟨pp1, 1, none⟩ = some (.int .u64 x0) ∧ W.cell? ⟨pp1, 2, none⟩ = some (.int .u64 x1) ∧ W.cell? ⟨pp1, 3, none⟩ = some (.int .u64 x2) ∧ W.cell? ⟨pp1, 4, none⟩ = some (.int .u64 x3) ∧ W.frozen? ⟨pp1, 0, none⟩ = false ∧ W.frozen? ⟨pp1, 1, none⟩ = false ∧ W.frozen? ⟨pp1, 2, none⟩ = false ∧ W.frozen? ⟨pp1, 3, none⟩ = false ∧ W.frozen? ⟨pp1, 4, none⟩ = false ∧ W.cell? ⟨qq1, 0, none⟩ = some (.int .i64 b1) ∧ W.cell? ⟨qq1, 1, none⟩ = some (.int .u64 y0) ∧ W.cell? ⟨qq1, 2, none⟩ = some (.int .u64 y1) ∧ W.cell? ⟨qq1, 3, none⟩ = some (.int .u64 y2) ∧ W.cell? ⟨qq1, 4, none⟩ = some (.int .u64 y3) ∧ W.frozen? ⟨qq1, 0, none⟩ = false ∧ W.frozen? ⟨qq1, 1, none⟩ = false ∧ W.frozen? ⟨qq1, 2, none⟩ = false ∧ W.frozen? ⟨qq1, 3, none⟩ = false ∧ W.frozen? ⟨qq1, 4, none⟩ = false ∧ Below w.heap.size w W) (((((w5.setCell ⟨qq1, 0, none⟩ (.int .i64 b1)).setCell ⟨qq1, 1, none⟩ (.int .u64 y0)).setCell ⟨qq1, 2, none⟩ (.int .u64 y1)).setCell ⟨qq1, 3, none⟩ (.int .u64 y2)).setCell ⟨qq1, 4, none⟩ (.int .u64 y3)) from ⟨by go_simp, by go_simp, by go_simp, by go_simp, by go_simp, by go_simp, by go_simp, by go_simp, by go_simp, by go_simp, by go_simp, by go_simp, by go_simp, by go_simp, by go_simp, by go_simp, by go_simp, by go_simp, by go_simp, by go_simp, by go_simp, by go_simp, by go_simp, by go_simp, by go_simp, by go_simp, by go_simp, by go_simp, by go_simp, by go_simp, (((((kk.setCell (p := ⟨qq1, 0, none⟩) gX3 _).setCell (p := ⟨qq1, 1, none⟩) gX3 _).setCell (p := ⟨qq1, 2, none⟩) gX3 _).setCell (p := ⟨qq1, 3, none⟩) gX3 _).setCell (p := ⟨qq1, 4, none⟩) gX3 _)⟩)
  clear cX0_0 cX0_1 cX0_2 cX0_3 cX0_4 cX1_0 cX1_1 cX1_2 cX1_3 cX1_4 cX2_0 cX2_1 cX2_2 cX2_3 cX2_4 fX2_0 fX2_1 fX2_2 fX2_3 fX2_4 cX3_0 cX3_1 cX3_2 cX3_3 cX3_4 fX3_0 fX3_1 fX3_2 fX3_3 fX3_4 neX0 nfX0 neX1 nfX1 neX2 nfX2 kk
  refine forget_at (fun W => W.cell? ⟨w.heap.size, 0, none⟩ = some (.int .i64 a1) ∧ W.cell? ⟨w.heap.size, 1, none⟩ = some (.int .u64 x0) ∧ W.cell? ⟨w.heap.size, 2, none⟩ = some (.int .u64 x1) ∧ W.cell? ⟨w.heap.size, 3, none⟩ = some (.int .u64 x2) ∧ W.cell? ⟨w.heap.size, 4, none⟩ = some (.int .u64 x3) ∧ W.cell? ⟨w.heap.size + 1, 0, none⟩ = some (.int .i64 b1) ∧ W.cell? ⟨w.heap.size + 1, 1, none⟩ = some (.int .u64 y0) ∧ W.cell? ⟨w.heap.size + 1, 2, none⟩ = some (.int .u64 y1) ∧ W.cell? ⟨w.heap.size + 1, 3, none⟩ = some (.int .u64 y2) ∧ W.cell? ⟨w.heap.size + 1, 4, none⟩ = some (.int .u64 y3) ∧ W.cell? ⟨pp1, 0, none⟩ = some (.int .i64 a1) ∧ W.cell? ⟨pp1, 1, none⟩ = some (.int .u64 x0) ∧ W.cell? ⟨pp1, 2, none⟩ = some (.int .u64 x1) ∧ W.cell? ⟨pp1, 3, none⟩ = some (.int .u64 x2) ∧ W.cell? ⟨pp1, 4, none⟩ = some (.int .u64 x3) ∧ W.frozen? ⟨pp1, 0, none⟩ = false ∧ W.frozen? ⟨pp1, 1, none⟩ = false ∧ W.frozen? ⟨pp1, 2, none⟩ = false ∧ W.frozen? ⟨pp1, 3, none⟩ = false ∧ W.frozen? ⟨pp1, 4, none⟩ = false ∧ W.cell? ⟨qq1, 0, none⟩ = some (.int .i64 b1) ∧ W.cell? ⟨qq1, 1, none⟩ = some (.int .u64 y0) ∧ W.cell? ⟨qq1, 2, none⟩ = some (.int .u64 y1) ∧ W.cell? ⟨qq1, 3, none⟩ = some (.int .u64 y2) ∧ W.cell? ⟨qq1, 4, none⟩ = some (.int .u64 y3) ∧ W.frozen? ⟨qq1, 0, none⟩ = false ∧ W.frozen? ⟨qq1, 1, none⟩ = false ∧ W.frozen? ⟨qq1, 2, none⟩ = false ∧ W.frozen? ⟨qq1, 3, none⟩ = false ∧ W.frozen? ⟨qq1, 4, none⟩ = false ∧ Below w.heap.size w W) KEY.out (fun w6 hz => ?_)
  obtain ⟨cX0_0, cX0_1, cX0_2, cX0_3, cX0_4, cX1_0, cX1_1, cX1_2, cX1_3, cX1_4, cX2_0, cX2_1, cX2_2, cX2_3, cX2_4, fX2_0, fX2_1, fX2_2, fX2_3, fX2_4, cX3_0, cX3_1, cX3_2, cX3_3, cX3_4, fX3_0, fX3_1, fX3_2, fX3_3, fX3_4, kk⟩ := hz
  clear KEY
  refine hK.out _ _ ⟨cX0_0, cX0_1, cX0_2, cX0_3, cX0_4, cX1_0, cX1_1, cX1_2, cX1_3, cX1_4, trivial⟩ (fun hHeld => ?_)
  clear hK K
  try simp only [List.getElem_toArray, List.getElem_cons_zero, List.getElem_cons_succ, Act.put, List.setIfInBounds_toArray, List.set_cons_zero, List.set_cons_succ]
  clear w5
  clear hHeld
  refine wpAnyH_done (by kernel_rfl) ?_ _
  refine NoPanic.normal ?_
  have ndX2_X3 : ¬ (pp1 = qq1) := by omega
  clear nX2_X3
  revert kk; revert ndX2_X3; revert nX1_X3; revert nX1_X2; revert nX0_X3; revert nX0_X2; revert gX3; revert gX2; revert fX3_4; revert fX3_3; revert fX3_2; revert fX3_1; revert fX3_0; revert cX3_4; revert cX3_3; revert cX3_2; revert cX3_1; revert cX3_0; revert fX2_4; revert fX2_3; revert fX2_2; revert fX2_1; revert fX2_0; revert cX2_4; revert cX2_3; revert cX2_2; revert cX2_1; revert cX2_0; revert cX1_4; revert cX1_3; revert cX1_2; revert cX1_1; revert cX1_0; revert cX0_4; revert cX0_3; revert cX0_2; revert cX0_1; revert cX0_0; revert qq1; revert pp1; revert w6
  refine ?restw2
  rotate_left
  go_simp
  have nX0_X3 : w.heap.size < w2.heap.size := World.block_lt_of_cell? _ _ cX0_0
  have nX1_X3 : w.heap.size + 1 < w2.heap.size := World.block_lt_of_cell? _ _ cX1_0
  have gX3 : w.heap.size ≤ w2.heap.size := kk.size
  have ha := bA (Below.refl _ w2) (.cells #[.int .i64 0, .int .u64 0, .int .u64 0, .int .u64 0, .int .u64 0] 26)
  have hx := HB.new w2 26 #[.int .i64 0, .int .u64 0, .int .u64 0, .int .u64 0, .int .u64 0]
  replace cX0_0 := cell_later ha cX0_0; replace cX0_1 := cell_later ha cX0_1; replace cX0_2 := cell_later ha cX0_2; replace cX0_3 := cell_later ha cX0_3; replace cX0_4 := cell_later ha cX0_4
  replace cX1_0 := cell_later ha cX1_0; replace cX1_1 := cell_later ha cX1_1; replace cX1_2 := cell_later ha cX1_2; replace cX1_3 := cell_later ha cX1_3; replace cX1_4 := cell_later ha cX1_4
  replace kk := bC kk ha
  have cX3_0 := hx.cell 0; have fX3_0 := hx.frozen 0; have cX3_1 := hx.cell 1; have fX3_1 := hx.frozen 1; have cX3_2 := hx.cell 2; have fX3_2 := hx.frozen 2; have cX3_3 := hx.cell 3; have fX3_3 := hx.frozen 3; have cX3_4 := hx.cell 4; have fX3_4 := hx.frozen 4; dsimp at cX3_0 cX3_1 cX3_2 cX3_3 cX3_4
  clear ha hx
  refine hK.out _ _ ⟨cX0_0, cX0_1, cX0_2, cX0_3, cX0_4, cX1_0, cX1_1, cX1_2, cX1_3, cX1_4, trivial⟩ (fun hHeld => ?_)
  clear hK K
  generalize w2.alloc (.cells #[.int .i64 0, .int .u64 0, .int .u64 0, .int .u64 0, .int .u64 0] 26) = w7 at *
  generalize w2.heap.size = qq1 at *
  try simp only [List.getElem_toArray, List.getElem_cons_zero, List.getElem_cons_succ, Act.put, List.setIfInBounds_toArray, List.set_cons_zero, List.set_cons_succ]
  clear w2
  clear hHeld
  refine wpAnyH_ready (rs := [2]) (by kernel_rfl) (by simp) ?_
  refine AllReadyH.cons rfl (fun K hK => ?_) AllReadyH.nil
  go_simp
  have nX0_X2 : w.heap.size < w7.heap.size := World.block_lt_of_cell? _ _ cX0_0
  have nX1_X2 : w.heap.size + 1 < w7.heap.size := World.block_lt_of_cell? _ _ cX1_0
  have nX3_X2 : qq1 < w7.heap.size := World.block_lt_of_cell? _ _ cX3_0
  have gX2 : w.heap.size ≤ w7.heap.size := kk.size
  have ha := bA (Below.refl _ w7) (.cells #[.int .i64 0, .int .u64 0, .int .u64 0, .int .u64 0, .int .u64 0] 26)
  have hx := HB.new w7 26 #[.int .i64 0, .int .u64 0, .int .u64 0, .int .u64 0, .int .u64 0]
  replace cX0_0 := cell_later ha cX0_0; replace cX0_1 := cell_later ha cX0_1; replace cX0_2 := cell_later ha cX0_2; replace cX0_3 := cell_later ha cX0_3; replace cX0_4 := cell_later ha cX0_4
  replace cX1_0 := cell_later ha cX1_0; replace cX1_1 := cell_later ha cX1_1; replace cX1_2 := cell_later ha cX1_2; replace cX1_3 := cell_later ha cX1_3; replace cX1_4 := cell_later ha cX1_4
  replace fX3_0 := frozen_later ha cX3_0 fX3_0; replace fX3_1 := frozen_later ha cX3_1 fX3_1; replace fX3_2 := frozen_later ha cX3_2 fX3_2; replace fX3_3 := frozen_later ha cX3_3 fX3_3; replace fX3_4 := frozen_later ha cX3_4 fX3_4
  replace cX3_0 := cell_later ha cX3_0; replace cX3_1 := cell_later ha cX3_1; replace cX3_2 := cell_later ha cX3_2; replace cX3_3 := cell_later ha cX3_3; replace cX3_4 := cell_later ha cX3_4
  replace kk := bC kk ha
  have cX2_0 := hx.cell 0; have fX2_0 := hx.frozen 0; have cX2_1 := hx.cell 1; have fX2_1 := hx.frozen 1; have cX2_2 := hx.cell 2; have fX2_2 := hx.frozen 2; have cX2_3 := hx.cell 3; have fX2_3 := hx.frozen 3; have cX2_4 := hx.cell 4; have fX2_4 := hx.frozen 4; dsimp at cX2_0 cX2_1 cX2_2 cX2_3 cX2_4
  clear ha hx
  refine hK.out _ _ ⟨cX0_0, cX0_1, cX0_2, cX0_3, cX0_4, cX1_0, cX1_1, cX1_2, cX1_3, cX1_4, trivial⟩ (fun hHeld => ?_)
  clear hK K
  generalize w7.alloc (.cells #[.int .i64 0, .int .u64 0, .int .u64 0, .int .u64 0, .int .u64 0] 26) = w8 at *
  generalize w7.heap.size = pp1 at *
  try simp only [List.getElem_toArray, List.getElem_cons_zero, List.getElem_cons_succ, Act.put, List.setIfInBounds_toArray, List.set_cons_zero, List.set_cons_succ]
  clear w7
  clear hHeld
  refine wpAnyH_ready (rs := [4]) (by kernel_rfl) (by simp) ?_
  refine AllReadyH.cons rfl (fun K hK => ?_) AllReadyH.nil
  go_simp
  have neX0 : ¬ (pp1 = w.heap.size) := by omega
  have nfX0 : ¬ (w.heap.size = pp1) := by omega
  have neX1 : ¬ (pp1 = w.heap.size + 1) := by omega
  have nfX1 : ¬ (w.heap.size + 1 = pp1) := by omega
  have neX3 : ¬ (pp1 = qq1) := by omega
  have nfX3 : ¬ (qq1 = pp1) := by omega
  have KEY := Lib.hid (show (fun W => W.cell? ⟨w.heap.size, 0, none⟩ = some (.int .i64 a1) ∧ W.cell? ⟨w.heap.size, 1, none⟩ = some (.int .u64 x0) ∧ W.cell? ⟨w.heap.size, 2, none⟩ = some (.int .u64 x1) ∧ W.cell? ⟨w.heap.size, 3, none⟩ = some (.int .u64 x2) ∧ W.cell? ⟨w.heap.size, 4, none⟩ = some (.int .u64 x3) ∧ W.cell? ⟨w.heap.size + 1, 0, none⟩ = some (.int .i64 b1) ∧ W.cell? ⟨w.heap.size + 1, 1, none⟩ = some (.int .u64 y0) ∧ W.cell? ⟨w.heap.size + 1, 2, none⟩ = some (.int .u64 y1) ∧ W.cell? ⟨w.heap.size + 1, 3, none⟩ = some (.int .u64 y2) ∧ W.cell? ⟨w.heap.size + 1, 4, none⟩ = some (.int .u64 y3) ∧ W.cell? ⟨qq1, 0, none⟩ = some (.int .i64 0) ∧ W.cell? ⟨qq1, 1, none⟩ = some (.int .u64 0) ∧ W.cell? ⟨qq1, 2, none⟩ = some (.int .u64 0) ∧ W.cell? ⟨qq1, 3, none⟩ = some (.int .u64 0) ∧ W.cell? ⟨qq1, 4, none⟩ = some (.int .u64 0) ∧ W.frozen? ⟨qq1, 0, none⟩ = false ∧ W.frozen? ⟨qq1, 1, none⟩ = false ∧ W.frozen? ⟨qq1, 2, none⟩ = false ∧ W.frozen? ⟨qq1, 3, none⟩ = false ∧ W.frozen? ⟨qq1, 4, none⟩ = false ∧ W.cell? ⟨pp1, 0, none⟩ = some (.int .i64 a1) ∧ W.cell? ⟨pp1, 1, none⟩ = some (.int .u64 x0) ∧ W.cell? ⟨pp1, 2, none⟩ = some (.int .u64 x1) ∧ W.cell? ⟨pp1, 3, none⟩ = some (.int .u64 x2) ∧ W.cell? ⟨pp1, 4, none⟩ = some (.int .u64 x3) ∧ W.frozen? ⟨pp1, 0, none⟩ = false ∧ W.frozen? ⟨pp1, 1, none⟩ = false ∧ W.frozen? ⟨pp1, 2, none⟩ = false ∧ W.frozen? ⟨pp1, 3, none⟩ = false ∧ W.frozen? ⟨pp1, 4, none⟩ = false ∧ Below w.heap.size w W) (((((w8.setCell ⟨pp1, 0, none⟩ (.int .i64 a1)).setCell ⟨pp1, 1, none⟩ (.int .u64 x0)).setCell ⟨pp1, 2, none⟩ (.int .u64 x1)).setCell ⟨pp1, 3, none⟩ (.int .u64 x2)).setCell ⟨pp1, 4, none⟩ (.int .u64 x3)) from ⟨by go_simp, by go_simp, by go_simp, by go_simp, by go_simp, by go_simp, by go_simp, by go_simp, by go_simp, by go_simp, by go_simp, by go_simp, by go_simp, by go_simp, by go_simp, by go_simp, by go_simp, by go_simp, by go_simp, by go_simp, by go_simp, by go_simp, by go_simp, by go_simp, by go_simp, by go_simp, by go_simp, by go_simp, by go_simp, by go_simp, (((((kk.setCell (p := ⟨pp1, 0, none⟩) gX2 _).setCell (p := ⟨pp1, 1, none⟩) gX2 _).setCell (p := ⟨pp1, 2, none⟩) gX2 _).setCell (p := ⟨pp1, 3, none⟩) gX2 _).setCell (p := ⟨pp1, 4, none⟩) gX2 _)⟩)
  clear cX0_0 cX0_1 cX0_2 cX0_3 cX0_4 cX1_0 cX1_1 cX1_2 cX1_3 cX1_4 cX3_0 cX3_1 cX3_2 cX3_3 cX3_4 fX3_0 fX3_1 fX3_2 fX3_3 fX3_4 cX2_0 cX2_1 cX2_2 cX2_3 cX2_4 fX2_0 fX2_1 fX2_2 fX2_3 fX2_4 neX0 nfX0 neX1 nfX1 neX3 nfX3 kk
  refine forget_at (fun W => W.cell? ⟨w.heap.size, 0, none⟩ = some (.int .i64 a1) ∧ W.cell? ⟨w.heap.size, 1, none⟩ = some (.int .u64 x0) ∧ W.cell? ⟨w.heap.size, 2, none⟩ = some (.int .u64 x1) ∧ W.cell? ⟨w.heap.size, 3, none⟩ = some (.int .u64 x2) ∧ W.cell? ⟨w.heap.size, 4, none⟩ = some (.int .u64 x3) ∧ W.cell? ⟨w.heap.size + 1, 0, none⟩ = some (.int .i64 b1) ∧ W.cell? ⟨w.heap.size + 1, 1, none⟩ = some (.int .u64 y0) ∧ W.cell? ⟨w.heap.size + 1, 2, none⟩ = some (.int .u64 y1) ∧ W.cell? ⟨w.heap.size + 1, 3, none⟩ = some (.int .u64 y2) ∧ W.cell? ⟨w.heap.size + 1, 4, none⟩ = some (.int .u64 y3) ∧ W.cell? ⟨qq1, 0, none⟩ = some (.int .i64 0) ∧ W.cell? ⟨qq1, 1, none⟩ = some (.int .u64 0) ∧ W.cell? ⟨qq1, 2, none⟩ = some (.int .u64 0) ∧ W.cell? ⟨qq1, 3, none⟩ = some (.int .u64 0) ∧ W.cell? ⟨qq1, 4, none⟩ = some (.int .u64 0) ∧ W.frozen? ⟨qq1, 0, none⟩ = false ∧ W.frozen? ⟨qq1, 1, none⟩ = false ∧ W.frozen? ⟨qq1, 2, none⟩ = false ∧ W.frozen? ⟨qq1, 3, none⟩ = false ∧ W.frozen? ⟨qq1, 4, none⟩ = false ∧ W.cell? ⟨pp1, 0, none⟩ = some (.int .i64 a1) ∧ W.cell? ⟨pp1, 1, none⟩ = some (.int .u64 x0) ∧ W.cell? ⟨pp1, 2, none⟩ = some (.int .u64 x1) ∧ W.cell? ⟨pp1, 3, none⟩ = some (.int .u64 x2) ∧ W.cell? ⟨pp1, 4, none⟩ = some (.int .u64 x3) ∧ W.frozen? ⟨pp1, 0, none⟩ = false ∧ W.frozen? ⟨pp1, 1, none⟩ = false ∧ W.frozen? ⟨pp1, 2, none⟩ = false ∧ W.frozen? ⟨pp1, 3, none⟩ = false ∧ W.frozen? ⟨pp1, 4, none⟩ = false ∧ Below w.heap.size w W) KEY.out (fun w9 hz => ?_)
  obtain ⟨cX0_0, cX0_1, cX0_2, cX0_3, cX0_4, cX1_0, cX1_1, cX1_2, cX1_3, cX1_4, cX3_0, cX3_1, cX3_2, cX3_3, cX3_4, fX3_0, fX3_1, fX3_2, fX3_3, fX3_4, cX2_0, cX2_1, cX2_2, cX2_3, cX2_4, fX2_0, fX2_1, fX2_2, fX2_3, fX2_4, kk⟩ := hz
  clear KEY
  refine hK.out _ _ ⟨cX0_0, cX0_1, cX0_2, cX0_3, cX0_4, cX1_0, cX1_1, cX1_2, cX1_3, cX1_4, trivial⟩ (fun hHeld => ?_)
  clear hK K
  try simp only [List.getElem_toArray, List.getElem_cons_zero, List.getElem_cons_succ, Act.put, List.setIfInBounds_toArray, List.set_cons_zero, List.set_cons_succ]
  clear w8
  clear hHeld
  refine wpAnyH_ready (rs := [5]) (by kernel_rfl) (by simp) ?_
  refine AllReadyH.cons rfl (fun K hK => ?_) AllReadyH.nil
  go_simp
  have neX0 : ¬ (qq1 = w.heap.size) := by omega
  have nfX0 : ¬ (w.heap.size = qq1) := by omega
  have neX1 : ¬ (qq1 = w.heap.size + 1) := by omega
  have nfX1 : ¬ (w.heap.size + 1 = qq1) := by omega
  have neX2 : ¬ (qq1 = pp1) := by omega
  have nfX2 : ¬ (pp1 = qq1) := by omega
  have KEY := Lib.hid (show (fun W => W.cell? ⟨w.heap.size, 0, none⟩ = some (.int .i64 a1) ∧ W.cell? ⟨w.heap.size, 1, none⟩ = some (.int .u64 x0) ∧ W.cell? ⟨w.heap.size, 2, none⟩ = some (.int .u64 x1) ∧ W.cell? ⟨w.heap.size, 3, none⟩ = some (.int .u64 x2) ∧ W.cell? ⟨w.heap.size, 4, none⟩ = some (.int .u64 x3) ∧ W.cell? ⟨w.heap.size + 1, 0, none⟩ = some (.int .i64 b1) ∧ W.cell? ⟨w.heap.size + 1, 1, none⟩ = some (.int .u64 y0) ∧ W.cell? ⟨w.heap.size + 1, 2, none⟩ = some (.int .u64 y1) ∧ W.cell? ⟨w.heap.size + 1, 3, none⟩ = some (.int .u64 y2) ∧ W.cell? ⟨w.heap.size + 1, 4, none⟩ = some (.int .u64 y3) ∧ W.cell? ⟨qq1, 0, none⟩ = some (.int .i64 b1) ∧ W.cell? ⟨qq1, 1, none⟩ = some (.int .u64 y0) ∧ W.cell? ⟨qq1, 2, none⟩ = some (.int .u64 y1) ∧ W.cell? ⟨qq1, 3, none⟩ = some (.int .u64 y2) ∧ W.cell? ⟨qq1, 4, none⟩ = some (.int .u64 y3) ∧ W.frozen? ⟨qq1, 0, none⟩ = false ∧ W.frozen? ⟨qq1, 1, none⟩ = false ∧ W.frozen? ⟨qq1, 2, none⟩ = false ∧ W.frozen? ⟨qq1, 3, none⟩ = false ∧ W.frozen? ⟨qq1, 4, none⟩ = false ∧ W.cell? ⟨pp1, 0, none⟩ = some (.int .i64 a1) ∧ W.cell? ⟨pp1, 1, none⟩ = some (.int .u64 x0) ∧ W.cell? ⟨pp1, 2, none⟩ = some (.int .u64 x1) ∧ W.cell? ⟨pp1, 3, none⟩ = some (.int .u64 x2) ∧ W.cell? ⟨pp1, 4, none⟩ = some (.int .u64 x3) ∧ W.frozen? ⟨pp1, 0, none⟩ = false ∧ W.frozen? ⟨pp1, 1, none⟩ = false ∧ W.frozen? ⟨pp1, 2, none⟩ = false ∧ W.frozen? ⟨pp1, 3, none⟩ = false ∧ W.frozen? ⟨pp1, 4, none⟩ = false ∧ Below w.heap.size w W) (((((w9.setCell ⟨qq1, 0, none⟩ (.int .i64 b1)).setCell ⟨qq1, 1, none⟩ (.int .u64 y0)).setCell ⟨qq1, 2, none⟩ (.int .u64 y1)).setCell ⟨qq1, 3, none⟩ (.int .u64 y2)).setCell ⟨qq1, 4, none⟩ (.int .u64 y3)) from ⟨by go_simp, by go_simp, by go_simp, by go_simp, by go_simp, by go_simp, by go_simp, by go_simp, by go_simp, by go_simp, by go_simp, by go_simp, by go_simp, by go_simp, by go_simp, by go_simp, by go_simp, by go_simp, by go_simp, by go_simp, by go_simp, by go_simp, by go_simp, by go_simp, by go_simp, by go_simp, by go_simp, by go_simp, by go_simp, by go_simp, (((((kk.setCell (p := ⟨qq1, 0, none⟩) gX3 _).setCell (p := ⟨qq1, 1, none⟩) gX3 _).setCell (p := ⟨qq1, 2, none⟩) gX3 _).setCell (p := ⟨qq1, 3, none⟩) gX3 _).setCell (p := ⟨qq1, 4, none⟩) gX3 _)⟩)
  clear cX0_0 cX0_1 cX0_2 cX0_3 cX0_4 cX1_0 cX1_1 cX1_2 cX1_3 cX1_4 cX3_0 cX3_1 cX3_2 cX3_3 cX3_4 fX3_0 fX3_1 fX3_2 fX3_3 fX3_4 cX2_0 cX2_1 cX2_2 cX2_3 cX2_4 fX2_0 fX2_1 fX2_2 fX2_3 fX2_4 neX0 nfX0 neX1 nfX1 neX2 nfX2 kk
  refine forget_at (fun W => W.cell? ⟨w.heap.size, 0, none⟩ = some (.int .i64 a1) ∧ W.cell? ⟨w.heap.size, 1, none⟩ = some (.int .u64 x0) ∧ W.cell? ⟨w.heap.size, 2, none⟩ = some (.int .u64 x1) ∧ W.cell? ⟨w.heap.size, 3, none⟩ = some (.int .u64 x2) ∧ W.cell? ⟨w.heap.size, 4, none⟩ = some (.int .u64 x3) ∧ W.cell? ⟨w.heap.size + 1, 0, none⟩ = some (.int .i64 b1) ∧ W.cell? ⟨w.heap.size + 1, 1, none⟩ = some (.int .u64 y0) ∧ W.cell? ⟨w.heap.size + 1, 2, none⟩ = some (.int .u64 y1) ∧ W.cell? ⟨w.heap.size + 1, 3, none⟩ = some (.int .u64 y2) ∧ W.cell? ⟨w.heap.size + 1, 4, none⟩ = some (.int .u64 y3) ∧ W.cell? ⟨qq1, 0, none⟩ = some (.int .i64 b1) ∧ W.cell? ⟨qq1, 1, none⟩ = some (.int .u64 y0) ∧ W.cell? ⟨qq1, 2, none⟩ = some (.int .u64 y1) ∧ W.cell? ⟨qq1, 3, none⟩ = some (.int .u64 y2) ∧ W.cell? ⟨qq1, 4, none⟩ = some (.int .u64 y3) ∧ W.frozen? ⟨qq1, 0, none⟩ = false ∧ W.frozen? ⟨qq1, 1, none⟩ = false ∧ W.frozen? ⟨qq1, 2, none⟩ = false ∧ W.frozen? ⟨qq1, 3, none⟩ = false ∧ W.frozen? ⟨qq1, 4, none⟩ = false ∧ W.cell? ⟨pp1, 0, none⟩ = some (.int .i64 a1) ∧ W.cell? ⟨pp1, 1, none⟩ = some (.int .u64 x0) ∧ W.cell? ⟨pp1, 2, none⟩ = some (.int .u64 x1) ∧ W.cell? ⟨pp1, 3, none⟩ = some (.int .u64 x2) ∧ W.cell? ⟨pp1, 4, none⟩ = some (.int .u64 x3) ∧ W.frozen? ⟨pp1, 0, none⟩ = false ∧ W.frozen? ⟨pp1, 1, none⟩ = false ∧ W.frozen? ⟨pp1, 2, none⟩ = false ∧ W.frozen? ⟨pp1, 3, none⟩ = false ∧ W.frozen? ⟨pp1, 4, none⟩ = false ∧ Below w.heap.size w W) KEY.out (fun w10 hz => ?_)
  obtain ⟨cX0_0, cX0_1, cX0_2, cX0_3, cX0_4, cX1_0, cX1_1, cX1_2, cX1_3, cX1_4, cX3_0, cX3_1, cX3_2, cX3_3, cX3_4, fX3_0, fX3_1, fX3_2, fX3_3, fX3_4, cX2_0, cX2_1, cX2_2, cX2_3, cX2_4, fX2_0, fX2_1, fX2_2, fX2_3, fX2_4, kk⟩ := hz
  clear KEY
  refine hK.out _ _ ⟨cX0_0, cX0_1, cX0_2, cX0_3, cX0_4, cX1_0, cX1_1, cX1_2, cX1_3, cX1_4, trivial⟩ (fun hHeld => ?_)
  clear hK K
  try simp only [List.getElem_toArray, List.getElem_cons_zero, List.getElem_cons_succ, Act.put, List.setIfInBounds_toArray, List.set_cons_zero, List.set_cons_succ]
  clear w9
  clear hHeld
  refine wpAnyH_done (by kernel_rfl) ?_ _
  refine NoPanic.normal ?_
  have ndX2_X3 : ¬ (pp1 = qq1) := by omega
  clear nX3_X2
  revert kk; revert ndX2_X3; revert nX1_X3; revert nX1_X2; revert nX0_X3; revert nX0_X2; revert gX3; revert gX2; revert fX3_4; revert fX3_3; revert fX3_2; revert fX3_1; revert fX3_0; revert cX3_4; revert cX3_3; revert cX3_2; revert cX3_1; revert cX3_0; revert fX2_4; revert fX2_3; revert fX2_2; revert fX2_1; revert fX2_0; revert cX2_4; revert cX2_3; revert cX2_2; revert cX2_1; revert cX2_0; revert cX1_4; revert cX1_3; revert cX1_2; revert cX1_1; revert cX1_0; revert cX0_4; revert cX0_3; revert cX0_2; revert cX0_1; revert cX0_0; revert qq1; revert pp1; revert w10
  exact ?restw2
  intro w11 pp1 qq1 cX0_0 cX0_1 cX0_2 cX0_3 cX0_4 cX1_0 cX1_1 cX1_2 cX1_3 cX1_4 cX2_0 cX2_1 cX2_2 cX2_3 cX2_4 fX2_0 fX2_1 fX2_2 fX2_3 fX2_4 cX3_0 cX3_1 cX3_2 cX3_3 cX3_4 fX3_0 fX3_1 fX3_2 fX3_3 fX3_4 gX2 gX3 nX0_X2 nX0_X3 nX1_X2 nX1_X3 ndX2_X3 kk
  have sX0 : w.heap.size < w11.heap.size := World.block_lt_of_cell? _ _ cX0_0
  have sX1 : w.heap.size + 1 < w11.heap.size ∧ w.heap.size < w11.heap.size := by have h : w.heap.size + 1 < w11.heap.size := World.block_lt_of_cell? _ _ cX1_0; exact ⟨h, by omega⟩
  have sX2 : pp1 < w11.heap.size := World.block_lt_of_cell? _ _ cX2_0
  have sX3 : qq1 < w11.heap.size := World.block_lt_of_cell? _ _ cX3_0
  go_wp2_with fail
  refine wp_region_noPanic ?_
  refine wp_region_held_drew (S := fun w' => w'.cell? ⟨w.heap.size, 0, none⟩ = some (.int .i64 a1) ∧ w'.cell? ⟨w.heap.size + 1, 0, none⟩ = some (.int .i64 b1) ∧ True) (by kernel_rfl) ⟨cell_later (Below.refl _ _).drew cX0_0, cell_later (Below.refl _ _).drew cX1_0, trivial⟩ (fun hHeld => ?_)
  replace cX0_0 := cell_later (Below.refl _ _).drew cX0_0; replace cX0_1 := cell_later (Below.refl _ _).drew cX0_1; replace cX0_2 := cell_later (Below.refl _ _).drew cX0_2; replace cX0_3 := cell_later (Below.refl _ _).drew cX0_3; replace cX0_4 := cell_later (Below.refl _ _).drew cX0_4
  replace cX1_0 := cell_later (Below.refl _ _).drew cX1_0; replace cX1_1 := cell_later (Below.refl _ _).drew cX1_1; replace cX1_2 := cell_later (Below.refl _ _).drew cX1_2; replace cX1_3 := cell_later (Below.refl _ _).drew cX1_3; replace cX1_4 := cell_later (Below.refl _ _).drew cX1_4
  replace fX2_0 := frozen_later (Below.refl _ _).drew cX2_0 fX2_0; replace fX2_1 := frozen_later (Below.refl _ _).drew cX2_1 fX2_1; replace fX2_2 := frozen_later (Below.refl _ _).drew cX2_2 fX2_2; replace fX2_3 := frozen_later (Below.refl _ _).drew cX2_3 fX2_3; replace fX2_4 := frozen_later (Below.refl _ _).drew cX2_4 fX2_4
  replace cX2_0 := cell_later (Below.refl _ _).drew cX2_0; replace cX2_1 := cell_later (Below.refl _ _).drew cX2_1; replace cX2_2 := cell_later (Below.refl _ _).drew cX2_2; replace cX2_3 := cell_later (Below.refl _ _).drew cX2_3; replace cX2_4 := cell_later (Below.refl _ _).drew cX2_4
  replace fX3_0 := frozen_later (Below.refl _ _).drew cX3_0 fX3_0; replace fX3_1 := frozen_later (Below.refl _ _).drew cX3_1 fX3_1; replace fX3_2 := frozen_later (Below.refl _ _).drew cX3_2 fX3_2; replace fX3_3 := frozen_later (Below.refl _ _).drew cX3_3 fX3_3; replace fX3_4 := frozen_later (Below.refl _ _).drew cX3_4 fX3_4
  replace cX3_0 := cell_later (Below.refl _ _).drew cX3_0; replace cX3_1 := cell_later (Below.refl _ _).drew cX3_1; replace cX3_2 := cell_later (Below.refl _ _).drew cX3_2; replace cX3_3 := cell_later (Below.refl _ _).drew cX3_3; replace cX3_4 := cell_later (Below.refl _ _).drew cX3_4
  replace kk := bC kk (Below.refl _ _).drew
  generalize World.drew _ = w13 at *
  refine wpAnyH_take (i := 0) (v := ?vq3) rfl (by kernel_rfl) (by kernel_rfl) (by kernel_rfl) (fun _ _ _ h => h) (Or.inl ⟨by rfl, ?yq3⟩) hHeld ?rq3
  case yq3 => (intro wq hb; obtain ⟨lq0, lq1, _⟩ := hb; go_simp; try (with_reducible rfl))
  try simp only [List.getElem_toArray, List.getElem_cons_zero, List.getElem_cons_succ, Act.put, List.setIfInBounds_toArray, List.set_cons_zero, List.set_cons_succ]
  refine wpAnyH_take (i := 1) (v := ?vq4) rfl (by kernel_rfl) (by kernel_rfl) (by kernel_rfl) (fun _ _ _ h => h) (Or.inl ⟨by rfl, ?yq4⟩) hHeld ?rq4
  case yq4 => (intro wq hb; obtain ⟨lq0, lq1, _⟩ := hb; go_simp; try (with_reducible rfl))
  try simp only [List.getElem_toArray, List.getElem_cons_zero, List.getElem_cons_succ, Act.put, List.setIfInBounds_toArray, List.set_cons_zero, List.set_cons_succ]
  refine wpAnyH_take (i := 2) (v := ?vq5) rfl (by kernel_rfl) (by kernel_rfl) (by kernel_rfl) (fun _ _ _ h => h) (Or.inl ⟨by rfl, ?yq5⟩) hHeld ?rq5
  case yq5 => (intro wq hb; obtain ⟨lq0, lq1, _⟩ := hb; go_simp; try (with_reducible rfl))
  try simp only [List.getElem_toArray, List.getElem_cons_zero, List.getElem_cons_succ, Act.put, List.setIfInBounds_toArray, List.set_cons_zero, List.set_cons_succ]
  refine wpAnyH_take (i := 3) (v := ?vq6) rfl (by kernel_rfl) (by kernel_rfl) (by kernel_rfl) (fun _ _ _ h => h) (Or.inl ⟨by rfl, ?yq6⟩) hHeld ?rq6
  case yq6 => (intro wq hb; obtain ⟨lq0, lq1, _⟩ := hb; go_simp; try (with_reducible rfl))
  try simp only [List.getElem_toArray, List.getElem_cons_zero, List.getElem_cons_succ, Act.put, List.setIfInBounds_toArray, List.set_cons_zero, List.set_cons_succ]
  refine wpAnyH_take (i := 4) (v := ?vq7) rfl (by kernel_rfl) (by kernel_rfl) (by kernel_rfl) (fun _ _ _ h => h) (Or.inl ⟨by rfl, ?yq7⟩) hHeld ?rq7
  case yq7 => (intro wq hb; obtain ⟨lq0, lq1, _⟩ := hb; go_simp; try (with_reducible rfl))
  try simp only [List.getElem_toArray, List.getElem_cons_zero, List.getElem_cons_succ, Act.put, List.setIfInBounds_toArray, List.set_cons_zero, List.set_cons_succ]
  refine wpAnyH_take (i := 5) (v := ?vq8) rfl (by kernel_rfl) (by kernel_rfl) (by kernel_rfl) (fun _ _ _ h => h) (Or.inl ⟨by rfl, ?yq8⟩) hHeld ?rq8
  case yq8 => (intro wq hb; obtain ⟨lq0, lq1, _⟩ := hb; go_simp; try (with_reducible rfl))
  try simp only [List.getElem_toArray, List.getElem_cons_zero, List.getElem_cons_succ, Act.put, List.setIfInBounds_toArray, List.set_cons_zero, List.set_cons_succ]
  refine wpAnyH_take (i := 6) (v := ?vq9) rfl (by kernel_rfl) (by kernel_rfl) (by kernel_rfl) (fun _ _ _ h => h) (Or.inl ⟨by rfl, ?yq9⟩) hHeld ?rq9
  case yq9 => (intro wq hb; obtain ⟨lq0, lq1, _⟩ := hb; go_simp; try (with_reducible rfl))
  try simp only [List.getElem_toArray, List.getElem_cons_zero, List.getElem_cons_succ, Act.put, List.setIfInBounds_toArray, List.set_cons_zero, List.set_cons_succ]
  refine wpAnyH_take (i := 7) (v := ?vq10) rfl (by kernel_rfl) (by kernel_rfl) (by kernel_rfl) (fun _ _ _ h => h) (Or.inl ⟨by rfl, ?yq10⟩) hHeld ?rq10
  case yq10 => (intro wq hb; obtain ⟨lq0, lq1, _⟩ := hb; go_simp; try (with_reducible rfl))
  try simp only [List.getElem_toArray, List.getElem_cons_zero, List.getElem_cons_succ, Act.put, List.setIfInBounds_toArray, List.set_cons_zero, List.set_cons_succ]
  refine wpAnyH_take (i := 8) (v := ?vq11) rfl (by kernel_rfl) (by kernel_rfl) (by kernel_rfl) (fun _ _ _ h => h) (Or.inl ⟨by rfl, ?yq11⟩) hHeld ?rq11
  case yq11 => (intro wq hb; obtain ⟨lq0, lq1, _⟩ := hb; go_simp; try (with_reducible rfl))
  try simp only [List.getElem_toArray, List.getElem_cons_zero, List.getElem_cons_succ, Act.put, List.setIfInBounds_toArray, List.set_cons_zero, List.set_cons_succ]
  refine wpAnyH_take (i := 9) (v := ?vq12) rfl (by kernel_rfl) (by kernel_rfl) (by kernel_rfl) (fun _ _ _ h => h) (Or.inl ⟨by rfl, ?yq12⟩) hHeld ?rq12
  case yq12 => (intro wq hb; obtain ⟨lq0, lq1, _⟩ := hb; go_simp; try (with_reducible rfl))
  try simp only [List.getElem_toArray, List.getElem_cons_zero, List.getElem_cons_succ, Act.put, List.setIfInBounds_toArray, List.set_cons_zero, List.set_cons_succ]
  refine wpAnyH_take (i := 10) (v := ?vq13) rfl (by kernel_rfl) (by kernel_rfl) (by kernel_rfl) (fun _ _ _ h => h) (Or.inl ⟨by rfl, ?yq13⟩) hHeld ?rq13
  case yq13 => (intro wq hb; obtain ⟨lq0, lq1, _⟩ := hb; go_simp; try (with_reducible rfl))
  try simp only [List.getElem_toArray, List.getElem_cons_zero, List.getElem_cons_succ, Act.put, List.setIfInBounds_toArray, List.set_cons_zero, List.set_cons_succ]
  clear hHeld
  refine wpAnyH_ready (rs := [11]) (by kernel_rfl) (by simp) ?_
  refine AllReadyH.cons rfl (fun K hK => ?_) AllReadyH.nil
  go_simp
  have neX0 : ¬ (pp1 = w.heap.size) := by omega
  have nfX0 : ¬ (w.heap.size = pp1) := by omega
  have neX1 : ¬ (pp1 = w.heap.size + 1) := by omega
  have nfX1 : ¬ (w.heap.size + 1 = pp1) := by omega
  have neX3 : ¬ (pp1 = qq1) := by omega
  have nfX3 : ¬ (qq1 = pp1) := by omega
  have KEY := Lib.hid (show (fun W => W.cell? ⟨w.heap.size, 0, none⟩ = some (.int .i64 a1) ∧ W.cell? ⟨w.heap.size, 1, none⟩ = some (.int .u64 x0) ∧ W.cell? ⟨w.heap.size, 2, none⟩ = some (.int .u64 x1) ∧ W.cell? ⟨w.heap.size, 3, none⟩ = some (.int .u64 x2) ∧ W.cell? ⟨w.heap.size, 4, none⟩ = some (.int .u64 x3) ∧ W.cell? ⟨w.heap.size + 1, 0, none⟩ = some (.int .i64 b1) ∧ W.cell? ⟨w.heap.size + 1, 1, none⟩ = some (.int .u64 y0) ∧ W.cell? ⟨w.heap.size + 1, 2, none⟩ = some (.int .u64 y1) ∧ W.cell? ⟨w.heap.size + 1, 3, none⟩ = some (.int .u64 y2) ∧ W.cell? ⟨w.heap.size + 1, 4, none⟩ = some (.int .u64 y3) ∧ W.cell? ⟨pp1, 0, none⟩ = some (.int .i64 c1) ∧ W.cell? ⟨pp1, 1, none⟩ = some (.int .u64 x0) ∧ W.cell? ⟨pp1, 2, none⟩ = some (.int .u64 x1) ∧ W.cell? ⟨pp1, 3, none⟩ = some (.int .u64 x2) ∧ W.cell? ⟨pp1, 4, none⟩ = some (.int .u64 x3) ∧ W.frozen? ⟨pp1, 0, none⟩ = false ∧ W.frozen? ⟨pp1, 1, none⟩ = false ∧ W.frozen? ⟨pp1, 2, none⟩ = false ∧ W.frozen? ⟨pp1, 3, none⟩ = false ∧ W.frozen? ⟨pp1, 4, none⟩ = false ∧ W.cell? ⟨qq1, 0, none⟩ = some (.int .i64 b1) ∧ W.cell? ⟨qq1, 1, none⟩ = some (.int .u64 y0) ∧ W.cell? ⟨qq1, 2, none⟩ = some (.int .u64 y1) ∧ W.cell? ⟨qq1, 3, none⟩ = some (.int .u64 y2) ∧ W.cell? ⟨qq1, 4, none⟩ = some (.int .u64 y3) ∧ W.frozen? ⟨qq1, 0, none⟩ = false ∧ W.frozen? ⟨qq1, 1, none⟩ = false ∧ W.frozen? ⟨qq1, 2, none⟩ = false ∧ W.frozen? ⟨qq1, 3, none⟩ = false ∧ W.frozen? ⟨qq1, 4, none⟩ = false ∧ Below w.heap.size w W) (w13.setCell ⟨pp1, 0, none⟩ (.int .i64 c1)) from ⟨by go_simp, by go_simp, by go_simp, by go_simp, by go_simp, by go_simp, by go_simp, by go_simp, by go_simp, by go_simp, by go_simp, by go_simp, by go_simp, by go_simp, by go_simp, by go_simp, by go_simp, by go_simp, by go_simp, by go_simp, by go_simp, by go_simp, by go_simp, by go_simp, by go_simp, by go_simp, by go_simp, by go_simp, by go_simp, by go_simp, (kk.setCell (p := ⟨pp1, 0, none⟩) gX2 _)⟩)
  clear cX0_0 cX0_1 cX0_2 cX0_3 cX0_4 cX1_0 cX1_1 cX1_2 cX1_3 cX1_4 cX2_0 cX2_1 cX2_2 cX2_3 cX2_4 fX2_0 fX2_1 fX2_2 fX2_3 fX2_4 cX3_0 cX3_1 cX3_2 cX3_3 cX3_4 fX3_0 fX3_1 fX3_2 fX3_3 fX3_4 neX0 nfX0 neX1 nfX1 neX3 nfX3 kk
  refine forget_at (fun W => W.cell? ⟨w.heap.size, 0, none⟩ = some (.int .i64 a1) ∧ W.cell? ⟨w.heap.size, 1, none⟩ = some (.int .u64 x0) ∧ W.cell? ⟨w.heap.size, 2, none⟩ = some (.int .u64 x1) ∧ W.cell? ⟨w.heap.size, 3, none⟩ = some (.int .u64 x2) ∧ W.cell? ⟨w.heap.size, 4, none⟩ = some (.int .u64 x3) ∧ W.cell? ⟨w.heap.size + 1, 0, none⟩ = some (.int .i64 b1) ∧ W.cell? ⟨w.heap.size + 1, 1, none⟩ = some (.int .u64 y0) ∧ W.cell? ⟨w.heap.size + 1, 2, none⟩ = some (.int .u64 y1) ∧ W.cell? ⟨w.heap.size + 1, 3, none⟩ = some (.int .u64 y2) ∧ W.cell? ⟨w.heap.size + 1, 4, none⟩ = some (.int .u64 y3) ∧ W.cell? ⟨pp1, 0, none⟩ = some (.int .i64 c1) ∧ W.cell? ⟨pp1, 1, none⟩ = some (.int .u64 x0) ∧ W.cell? ⟨pp1, 2, none⟩ = some (.int .u64 x1) ∧ W.cell? ⟨pp1, 3, none⟩ = some (.int .u64 x2) ∧ W.cell? ⟨pp1, 4, none⟩ = some (.int .u64 x3) ∧ W.frozen? ⟨pp1, 0, none⟩ = false ∧ W.frozen? ⟨pp1, 1, none⟩ = false ∧ W.frozen? ⟨pp1, 2, none⟩ = false ∧ W.frozen? ⟨pp1, 3, none⟩ = false ∧ W.frozen? ⟨pp1, 4, none⟩ = false ∧ W.cell? ⟨qq1, 0, none⟩ = some (.int .i64 b1) ∧ W.cell? ⟨qq1, 1, none⟩ = some (.int .u64 y0) ∧ W.cell? ⟨qq1, 2, none⟩ = some (.int .u64 y1) ∧ W.cell? ⟨qq1, 3, none⟩ = some (.int .u64 y2) ∧ W.cell? ⟨qq1, 4, none⟩ = some (.int .u64 y3) ∧ W.frozen? ⟨qq1, 0, none⟩ = false ∧ W.frozen? ⟨qq1, 1, none⟩ = false ∧ W.frozen? ⟨qq1, 2, none⟩ = false ∧ W.frozen? ⟨qq1, 3, none⟩ = false ∧ W.frozen? ⟨qq1, 4, none⟩ = false ∧ Below w.heap.size w W) KEY.out (fun w14 hz => ?_)
  obtain ⟨cX0_0, cX0_1, cX0_2, cX0_3, cX0_4, cX1_0, cX1_1, cX1_2, cX1_3, cX1_4, cX2_0, cX2_1, cX2_2, cX2_3, cX2_4, fX2_0, fX2_1, fX2_2, fX2_3, fX2_4, cX3_0, cX3_1, cX3_2, cX3_3, cX3_4, fX3_0, fX3_1, fX3_2, fX3_3, fX3_4, kk⟩ := hz
  clear KEY
  refine hK.out _ _ ⟨cX0_0, cX1_0, trivial⟩ (fun hHeld => ?_)
  clear hK K
  try simp only [List.getElem_toArray, List.getElem_cons_zero, List.getElem_cons_succ, Act.put, List.setIfInBounds_toArray, List.set_cons_zero, List.set_cons_succ]
  refine wpAnyH_take (i := 12) (v := ?vq14) rfl (by kernel_rfl) (by kernel_rfl) (by kernel_rfl) (fun _ _ _ h => h) (Or.inl ⟨by rfl, ?yq14⟩) hHeld ?rq14
  case yq14 => (intro wq hb; obtain ⟨lq0, lq1, _⟩ := hb; go_simp; try (with_reducible rfl))
  try simp only [List.getElem_toArray, List.getElem_cons_zero, List.getElem_cons_succ, Act.put, List.setIfInBounds_toArray, List.set_cons_zero, List.set_cons_succ]
  clear hHeld
  refine wpAnyH_ready (rs := [13]) (by kernel_rfl) (by simp) ?_
  refine AllReadyH.cons rfl (fun K hK => ?_) AllReadyH.nil
  go_simp
  have neX0 : ¬ (qq1 = w.heap.size) := by omega
  have nfX0 : ¬ (w.heap.size = qq1) := by omega
  have neX1 : ¬ (qq1 = w.heap.size + 1) := by omega
  have nfX1 : ¬ (w.heap.size + 1 = qq1) := by omega
  have neX2 : ¬ (qq1 = pp1) := by omega
  have nfX2 : ¬ (pp1 = qq1) := by omega
  have KEY := Lib.hid (show (fun W => W.cell? ⟨w.heap.size, 0, none⟩ = some (.int .i64 a1) ∧ W.cell? ⟨w.heap.size, 1, none⟩ = some (.int .u64 x0) ∧ W.cell? ⟨w.heap.size, 2, none⟩ = some (.int .u64 x1) ∧ W.cell? ⟨w.heap.size, 3, none⟩ = some (.int .u64 x2) ∧ W.cell? ⟨w.heap.size, 4, none⟩ = some (.int .u64 x3) ∧ W.cell? ⟨w.heap.size + 1, 0, none⟩ = some (.int .i64 b1) ∧ W.cell? ⟨w.heap.size + 1, 1, none⟩ = some (.int .u64 y0) ∧ W.cell? ⟨w.heap.size + 1, 2, none⟩ = some (.int .u64 y1) ∧ W.cell? ⟨w.heap.size + 1, 3, none⟩ = some (.int .u64 y2) ∧ W.cell? ⟨w.heap.size + 1, 4, none⟩ = some (.int .u64 y3) ∧ W.cell? ⟨pp1, 0, none⟩ = some (.int .i64 c1) ∧ W.cell? ⟨pp1, 1, none⟩ = some (.int .u64 x0) ∧ W.cell? ⟨pp1, 2, none⟩ = some (.int .u64 x1) ∧ W.cell? ⟨pp1, 3, none⟩ = some (.int .u64 x2) ∧ W.cell? ⟨pp1, 4, none⟩ = some (.int .u64 x3) ∧ W.frozen? ⟨pp1, 0, none⟩ = false ∧ W.frozen? ⟨pp1, 1, none⟩ = false ∧ W.frozen? ⟨pp1, 2, none⟩ = false ∧ W.frozen? ⟨pp1, 3, none⟩ = false ∧ W.frozen? ⟨pp1, 4, none⟩ = false ∧ W.cell? ⟨qq1, 0, none⟩ = some (.int .i64 d1) ∧ W.cell? ⟨qq1, 1, none⟩ = some (.int .u64 y0) ∧ W.cell? ⟨qq1, 2, none⟩ = some (.int .u64 y1) ∧ W.cell? ⟨qq1, 3, none⟩ = some (.int .u64 y2) ∧ W.cell? ⟨qq1, 4, none⟩ = some (.int .u64 y3) ∧ W.frozen? ⟨qq1, 0, none⟩ = false ∧ W.frozen? ⟨qq1, 1, none⟩ = false ∧ W.frozen? ⟨qq1, 2, none⟩ = false ∧ W.frozen? ⟨qq1, 3, none⟩ = false ∧ W.frozen? ⟨qq1, 4, none⟩ = false ∧ Below w.heap.size w W) (w14.setCell ⟨qq1, 0, none⟩ (.int .i64 d1)) from ⟨by go_simp, by go_simp, by go_simp, by go_simp, by go_simp, by go_simp, by go_simp, by go_simp, by go_simp, by go_simp, by go_simp, by go_simp, by go_simp, by go_simp, by go_simp, by go_simp, by go_simp, by go_simp, by go_simp, by go_simp, by go_simp, by go_simp, by go_simp, by go_simp, by go_simp, by go_simp, by go_simp, by go_simp, by go_simp, by go_simp, (kk.setCell (p := ⟨qq1, 0, none⟩) gX3 _)⟩)
  clear cX0_0 cX0_1 cX0_2 cX0_3 cX0_4 cX1_0 cX1_1 cX1_2 cX1_3 cX1_4 cX2_0 cX2_1 cX2_2 cX2_3 cX2_4 fX2_0 fX2_1 fX2_2 fX2_3 fX2_4 cX3_0 cX3_1 cX3_2 cX3_3 cX3_4 fX3_0 fX3_1 fX3_2 fX3_3 fX3_4 neX0 nfX0 neX1 nfX1 neX2 nfX2 kk
  refine forget_at (fun W => W.cell? ⟨w.heap.size, 0, none⟩ = some (.int .i64 a1) ∧ W.cell? ⟨w.heap.size, 1, none⟩ = some (.int .u64 x0) ∧ W.cell? ⟨w.heap.size, 2, none⟩ = some (.int .u64 x1) ∧ W.cell? ⟨w.heap.size, 3, none⟩ = some (.int .u64 x2) ∧ W.cell? ⟨w.heap.size, 4, none⟩ = some (.int .u64 x3) ∧ W.cell? ⟨w.heap.size + 1, 0, none⟩ = some (.int .i64 b1) ∧ W.cell? ⟨w.heap.size + 1, 1, none⟩ = some (.int .u64 y0) ∧ W.cell? ⟨w.heap.size + 1, 2, none⟩ = some (.int .u64 y1) ∧ W.cell? ⟨w.heap.size + 1, 3, none⟩ = some (.int .u64 y2) ∧ W.cell? ⟨w.heap.size + 1, 4, none⟩ = some (.int .u64 y3) ∧ W.cell? ⟨pp1, 0, none⟩ = some (.int .i64 c1) ∧ W.cell? ⟨pp1, 1, none⟩ = some (.int .u64 x0) ∧ W.cell? ⟨pp1, 2, none⟩ = some (.int .u64 x1) ∧ W.cell? ⟨pp1, 3, none⟩ = some (.int .u64 x2) ∧ W.cell? ⟨pp1, 4, none⟩ = some (.int .u64 x3) ∧ W.frozen? ⟨pp1, 0, none⟩ = false ∧ W.frozen? ⟨pp1, 1, none⟩ = false ∧ W.frozen? ⟨pp1, 2, none⟩ = false ∧ W.frozen? ⟨pp1, 3, none⟩ = false ∧ W.frozen? ⟨pp1, 4, none⟩ = false ∧ W.cell? ⟨qq1, 0, none⟩ = some (.int .i64 d1) ∧ W.cell? ⟨qq1, 1, none⟩ = some (.int .u64 y0) ∧ W.cell? ⟨qq1, 2, none⟩ = some (.int .u64 y1) ∧ W.cell? ⟨qq1, 3, none⟩ = some (.int .u64 y2) ∧ W.cell? ⟨qq1, 4, none⟩ = some (.int .u64 y3) ∧ W.frozen? ⟨qq1, 0, none⟩ = false ∧ W.frozen? ⟨qq1, 1, none⟩ = false ∧ W.frozen? ⟨qq1, 2, none⟩ = false ∧ W.frozen? ⟨qq1, 3, none⟩ = false ∧ W.frozen? ⟨qq1, 4, none⟩ = false ∧ Below w.heap.size w W) KEY.out (fun w15 hz => ?_)
  obtain ⟨cX0_0, cX0_1, cX0_2, cX0_3, cX0_4, cX1_0, cX1_1, cX1_2, cX1_3, cX1_4, cX2_0, cX2_1, cX2_2, cX2_3, cX2_4, fX2_0, fX2_1, fX2_2, fX2_3, fX2_4, cX3_0, cX3_1, cX3_2, cX3_3, cX3_4, fX3_0, fX3_1, fX3_2, fX3_3, fX3_4, kk⟩ := hz
  clear KEY
  refine hK.out _ _ ⟨cX0_0, cX1_0, trivial⟩ (fun hHeld => ?_)
  clear hK K
  try simp only [List.getElem_toArray, List.getElem_cons_zero, List.getElem_cons_succ, Act.put, List.setIfInBounds_toArray, List.set_cons_zero, List.set_cons_succ]
  clear hHeld
  refine wpAnyH_done (by kernel_rfl) ?_ _
  refine NoPanic.normal ?_
  replace sX0 : w.heap.size < w15.heap.size := World.block_lt_of_cell? _ _ cX0_0
  replace sX1 : w.heap.size + 1 < w15.heap.size ∧ w.heap.size < w15.heap.size := by have h : w.heap.size + 1 < w15.heap.size := World.block_lt_of_cell? _ _ cX1_0; exact ⟨h, by omega⟩
  replace sX2 : pp1 < w15.heap.size := World.block_lt_of_cell? _ _ cX2_0
  replace sX3 : qq1 < w15.heap.size := World.block_lt_of_cell? _ _ cX3_0
  go_wp2_with fail
  refine wp_region_noPanic ?_
  refine wp_region_F [8, 9] [9, 10] (LS w15 (ANN w15 26 #[.int .i64 0, .int .u64 0, .int .u64 0, .int .u64 0, .int .u64 0]) (ZNN w15 26 #[.int .i64 0, .int .u64 0, .int .u64 0, .int .u64 0, .int .u64 0] (.int .i64 m) (.int .u64 p0) (.int .u64 p1) (.int .u64 p2) (.int .u64 p3) (.int .i64 m2) (.int .u64 p0) (.int .u64 p1) (.int .u64 p2) (.int .u64 p3))) (by kernel_rfl) (bs := [false, false]) (vs := [undef, undef]) (by kernel_rfl) rfl (LS.before noBits_ff (Below.refl _ _).drew (ANN.start _ _ _ _)) ?_
  refine wpF_take3 (i := 0) (v := ?vq15) rfl (by kernel_rfl) (by kernel_rfl) (fun _ _ _ h => h) (LS.load (by rfl) ?yq15) ?rq15
  case yq15 => (intro wq hb; have lcX0_0 := cell_later hb cX0_0; have lcX0_1 := cell_later hb cX0_1; have lcX0_2 := cell_later hb cX0_2; have lcX0_3 := cell_later hb cX0_3; have lcX0_4 := cell_later hb cX0_4; go_simp; try (with_reducible rfl))
  try simp only [List.getElem_toArray, List.getElem_cons_zero, List.getElem_cons_succ, Act.put, List.setIfInBounds_toArray, List.set_cons_zero, List.set_cons_succ]
  refine wpF_take3 (i := 1) (v := ?vq16) rfl (by kernel_rfl) (by kernel_rfl) (fun _ _ _ h => h) (LS.load (by rfl) ?yq16) ?rq16
  case yq16 => (intro wq hb; have lcX1_0 := cell_later hb cX1_0; have lcX1_1 := cell_later hb cX1_1; have lcX1_2 := cell_later hb cX1_2; have lcX1_3 := cell_later hb cX1_3; have lcX1_4 := cell_later hb cX1_4; go_simp; try (with_reducible rfl))
  try simp only [List.getElem_toArray, List.getElem_cons_zero, List.getElem_cons_succ, Act.put, List.setIfInBounds_toArray, List.set_cons_zero, List.set_cons_succ]
  refine wpF_take3 (i := 2) (v := _) rfl (by kernel_rfl) (by kernel_rfl) (fun _ _ _ h => h) (LS.call (ANN.lasts w15 _ _) (by rfl) _ _ ?yq17 (h0.out)) ?rq17
  case yq17 => (intro wq; go_simp; try (with_reducible rfl))
  try simp only [List.getElem_toArray, List.getElem_cons_zero, List.getElem_cons_succ, Act.put, List.setIfInBounds_toArray, List.set_cons_zero, List.set_cons_succ]
  refine wpF_take3 (i := 3) (v := ?vq18) rfl (by kernel_rfl) (by kernel_rfl) (fun _ _ _ h => h) (LS.load (by rfl) ?yq18) ?rq18
  case yq18 => (intro wq hb; have lcX2_0 := cell_later hb cX2_0; have lcX2_1 := cell_later hb cX2_1; have lcX2_2 := cell_later hb cX2_2; have lcX2_3 := cell_later hb cX2_3; have lcX2_4 := cell_later hb cX2_4; go_simp; try (with_reducible rfl))
  try simp only [List.getElem_toArray, List.getElem_cons_zero, List.getElem_cons_succ, Act.put, List.setIfInBounds_toArray, List.set_cons_zero, List.set_cons_succ]
  refine wpF_take3 (i := 4) (v := ?vq19) rfl (by kernel_rfl) (by kernel_rfl) (fun _ _ _ h => h) (LS.load (by rfl) ?yq19) ?rq19
  case yq19 => (intro wq hb; have lcX3_0 := cell_later hb cX3_0; have lcX3_1 := cell_later hb cX3_1; have lcX3_2 := cell_later hb cX3_2; have lcX3_3 := cell_later hb cX3_3; have lcX3_4 := cell_later hb cX3_4; go_simp; try (with_reducible rfl))
  try simp only [List.getElem_toArray, List.getElem_cons_zero, List.getElem_cons_succ, Act.put, List.setIfInBounds_toArray, List.set_cons_zero, List.set_cons_succ]
  refine wpF_take3 (i := 5) (v := _) rfl (by kernel_rfl) (by kernel_rfl) (fun _ _ _ h => h) (LS.call (ANN.lasts w15 _ _) (by rfl) _ _ ?yq20 (h1.out)) ?rq20
  case yq20 => (intro wq; go_simp; try (with_reducible rfl))
  try simp only [List.getElem_toArray, List.getElem_cons_zero, List.getElem_cons_succ, Act.put, List.setIfInBounds_toArray, List.set_cons_zero, List.set_cons_succ]
  refine wpF_two (i := 6) (j := 7) (bs := [false, false]) (bi := [false, false]) (bj := [false, false]) (vs := [undef, undef]) (by kernel_rfl) rfl rfl (by kernel_rfl) rfl (by kernel_rfl) (by kernel_rfl) (fun wq hS K hK => ?_) (fun wq hS K hK => ?_)
  obtain ⟨hb, hA⟩ := hS.1 noBits_ff
  go_simp
  refine hK.out _ _ (LS.before noBits_ff (bA hb _) (ANN.first hb rfl)) ?_
  clear hK hA hb hS
  generalize wq.heap.size = pp16 at *
  try simp only [List.getElem_toArray, List.getElem_cons_zero, List.getElem_cons_succ, Act.put, List.setIfInBounds_toArray, List.set_cons_zero, List.set_cons_succ]
  clear K wq
  refine wpF_step (i := 7) (bs := [false, false]) (bs' := [false, false]) (vs := [.pointer (some ⟨pp16, 0, none⟩), undef]) (by kernel_rfl) rfl (by kernel_rfl) rfl (by kernel_rfl) (fun wq hS K hK => ?_)
  obtain ⟨hb, hA⟩ := hS.1 noBits_ff
  go_simp
  refine hK.out _ _ (LS.before noBits_ff (bA hb _) (ANN.second hb hA rfl)) ?_
  clear hK hA hb hS
  generalize wq.heap.size = qq16 at *
  try simp only [List.getElem_toArray, List.getElem_cons_zero, List.getElem_cons_succ, Act.put, List.setIfInBounds_toArray, List.set_cons_zero, List.set_cons_succ]
  clear K wq
  revert pp16 qq16
  refine ?rest
  rotate_left
  obtain ⟨hb, hA⟩ := hS.1 noBits_ff
  go_simp
  refine hK.out _ _ (LS.before noBits_ff (bA hb _) (ANN.first' hb rfl)) ?_
  clear hK hA hb hS
  generalize wq.heap.size = qq16 at *
  try simp only [List.getElem_toArray, List.getElem_cons_zero, List.getElem_cons_succ, Act.put, List.setIfInBounds_toArray, List.set_cons_zero, List.set_cons_succ]
  clear K wq
  refine wpF_step (i := 6) (bs := [false, false]) (bs' := [false, false]) (vs := [undef, .pointer (some ⟨qq16, 0, none⟩)]) (by kernel_rfl) rfl (by kernel_rfl) rfl (by kernel_rfl) (fun wq hS K hK => ?_)
  obtain ⟨hb, hA⟩ := hS.1 noBits_ff
  go_simp
  refine hK.out _ _ (LS.before noBits_ff (bA hb _) (ANN.second' hb hA rfl)) ?_
  clear hK hA hb hS
  generalize wq.heap.size = pp16 at *
  try simp only [List.getElem_toArray, List.getElem_cons_zero, List.getElem_cons_succ, Act.put, List.setIfInBounds_toArray, List.set_cons_zero, List.set_cons_succ]
  clear K wq
  rw [Array.setIfInBounds_comm true true (i := 7) (j := 6) (by decide)]
  exact ?rest pp16 qq16
  intro pp16 qq16
  refine wpF_step (i := 8) (bs := [false, false]) (bs' := [true, false]) (vs := [.pointer (some ⟨pp16, 0, none⟩), .pointer (some ⟨qq16, 0, none⟩)]) (by kernel_rfl) rfl (by kernel_rfl) rfl (by kernel_rfl) (fun wq hS K hK => ?_)
  obtain ⟨hb, hA⟩ := hS.1 noBits_ff
  have ZZ := Lib.hid (ZNN.one hb hA (.int .i64 m) (.int .u64 p0) (.int .u64 p1) (.int .u64 p2) (.int .u64 p3) (.int .i64 m2) (.int .u64 p0) (.int .u64 p1) (.int .u64 p2) (.int .u64 p3))
  obtain ⟨⟨hp, x⟩, _, _⟩ := hA.both
  obtain ⟨z0, z1, z2, z3, z4⟩ := x.five
  have f0 := x.frozen 0; have f1 := x.frozen 1; have f2 := x.frozen 2; have f3 := x.frozen 3; have f4 := x.frozen 4
  go_simp
  refine hK.out _ _ (LS.behind bits_tf' ZZ.out) ?_
  clear hK hA hb ZZ hS hp x z0 z1 z2 z3 z4 f0 f1 f2 f3 f4
  try simp only [List.getElem_toArray, List.getElem_cons_zero, List.getElem_cons_succ, Act.put, List.setIfInBounds_toArray, List.set_cons_zero, List.set_cons_succ]
  refine wpF_step (i := 9) (bs := [true, false]) (bs' := [true, true]) (vs := [.pointer (some ⟨pp16, 0, none⟩), .pointer (some ⟨qq16, 0, none⟩)]) (by kernel_rfl) rfl (by kernel_rfl) rfl (by kernel_rfl) (fun wq hS K hK => ?_)
  have hZ := hS.2 bits_tf'
  have ZZ := Lib.hid hZ.two
  have x := hZ.cells
  obtain ⟨z0, z1, z2, z3, z4⟩ := x.five
  have f0 := x.frozen 0; have f1 := x.frozen 1; have f2 := x.frozen 2; have f3 := x.frozen 3; have f4 := x.frozen 4
  go_simp
  refine hK.out _ _ (LS.behind bits_tt' ZZ.out) ?_
  clear hK hZ ZZ hS x z0 z1 z2 z3 z4 f0 f1 f2 f3 f4
  try simp only [List.getElem_toArray, List.getElem_cons_zero, List.getElem_cons_succ, Act.put, List.setIfInBounds_toArray, List.set_cons_zero, List.set_cons_succ]
  refine wpF_done (bs := [true, true]) (vs := [.pointer (some ⟨pp16, 0, none⟩), .pointer (some ⟨qq16, 0, none⟩)]) (by kernel_rfl) (by kernel_rfl) rfl (fun w17 hS => ?_) _
  refine NoPanic.normal ?_
  obtain ⟨hge, hge2, hne, hbox, hbox2, hb⟩ := (hS.2 bits_tt').done
  have nX2_X4 : pp1 < pp16 := by omega
  have nX3_X4 : qq1 < pp16 := by omega
  have nX2_X5 : pp1 < qq16 := by omega
  have nX3_X5 : qq1 < qq16 := by omega
  obtain ⟨cX4_0, cX4_1, cX4_2, cX4_3, cX4_4⟩ := hbox.five
  obtain ⟨cX5_0, cX5_1, cX5_2, cX5_3, cX5_4⟩ := hbox2.five
  clear hge hge2 hne hbox hbox2
  clear hS
  replace cX0_0 := cell_later hb cX0_0; replace cX0_1 := cell_later hb cX0_1; replace cX0_2 := cell_later hb cX0_2; replace cX0_3 := cell_later hb cX0_3; replace cX0_4 := cell_later hb cX0_4
  replace sX0 : w.heap.size < w17.heap.size := World.block_lt_of_cell? _ _ cX0_0
  replace cX1_0 := cell_later hb cX1_0; replace cX1_1 := cell_later hb cX1_1; replace cX1_2 := cell_later hb cX1_2; replace cX1_3 := cell_later hb cX1_3; replace cX1_4 := cell_later hb cX1_4
  replace sX1 : w.heap.size + 1 < w17.heap.size ∧ w.heap.size < w17.heap.size := by have h : w.heap.size + 1 < w17.heap.size := World.block_lt_of_cell? _ _ cX1_0; exact ⟨h, by omega⟩
  replace fX2_0 := frozen_later hb cX2_0 fX2_0; replace fX2_1 := frozen_later hb cX2_1 fX2_1; replace fX2_2 := frozen_later hb cX2_2 fX2_2; replace fX2_3 := frozen_later hb cX2_3 fX2_3; replace fX2_4 := frozen_later hb cX2_4 fX2_4
  replace cX2_0 := cell_later hb cX2_0; replace cX2_1 := cell_later hb cX2_1; replace cX2_2 := cell_later hb cX2_2; replace cX2_3 := cell_later hb cX2_3; replace cX2_4 := cell_later hb cX2_4
  replace sX2 : pp1 < w17.heap.size := World.block_lt_of_cell? _ _ cX2_0
  replace fX3_0 := frozen_later hb cX3_0 fX3_0; replace fX3_1 := frozen_later hb cX3_1 fX3_1; replace fX3_2 := frozen_later hb cX3_2 fX3_2; replace fX3_3 := frozen_later hb cX3_3 fX3_3; replace fX3_4 := frozen_later hb cX3_4 fX3_4
  replace cX3_0 := cell_later hb cX3_0; replace cX3_1 := cell_later hb cX3_1; replace cX3_2 := cell_later hb cX3_2; replace cX3_3 := cell_later hb cX3_3; replace cX3_4 := cell_later hb cX3_4
  replace sX3 : qq1 < w17.heap.size := World.block_lt_of_cell? _ _ cX3_0
  have sX4 : pp16 < w17.heap.size := World.block_lt_of_cell? _ _ cX4_0
  have sX5 : qq16 < w17.heap.size := World.block_lt_of_cell? _ _ cX5_0
  replace kk := bC kk hb
  clear hb
  go_wp2_with fail
  (with_reducible refine (h2.out _).mono ?_); rintro e w18 ⟨rfl, hb⟩
  replace cX0_0 := cell_later hb cX0_0; replace cX0_1 := cell_later hb cX0_1; replace cX0_2 := cell_later hb cX0_2; replace cX0_3 := cell_later hb cX0_3; replace cX0_4 := cell_later hb cX0_4
  replace sX0 : w.heap.size < w18.heap.size := World.block_lt_of_cell? _ _ cX0_0
  replace cX1_0 := cell_later hb cX1_0; replace cX1_1 := cell_later hb cX1_1; replace cX1_2 := cell_later hb cX1_2; replace cX1_3 := cell_later hb cX1_3; replace cX1_4 := cell_later hb cX1_4
  replace sX1 : w.heap.size + 1 < w18.heap.size ∧ w.heap.size < w18.heap.size := by have h : w.heap.size + 1 < w18.heap.size := World.block_lt_of_cell? _ _ cX1_0; exact ⟨h, by omega⟩
  replace fX2_0 := frozen_later hb cX2_0 fX2_0; replace fX2_1 := frozen_later hb cX2_1 fX2_1; replace fX2_2 := frozen_later hb cX2_2 fX2_2; replace fX2_3 := frozen_later hb cX2_3 fX2_3; replace fX2_4 := frozen_later hb cX2_4 fX2_4
  replace cX2_0 := cell_later hb cX2_0; replace cX2_1 := cell_later hb cX2_1; replace cX2_2 := cell_later hb cX2_2; replace cX2_3 := cell_later hb cX2_3; replace cX2_4 := cell_later hb cX2_4
  replace sX2 : pp1 < w18.heap.size := World.block_lt_of_cell? _ _ cX2_0
  replace fX3_0 := frozen_later hb cX3_0 fX3_0; replace fX3_1 := frozen_later hb cX3_1 fX3_1; replace fX3_2 := frozen_later hb cX3_2 fX3_2; replace fX3_3 := frozen_later hb cX3_3 fX3_3; replace fX3_4 := frozen_later hb cX3_4 fX3_4
  replace cX3_0 := cell_later hb cX3_0; replace cX3_1 := cell_later hb cX3_1; replace cX3_2 := cell_later hb cX3_2; replace cX3_3 := cell_later hb cX3_3; replace cX3_4 := cell_later hb cX3_4
  replace sX3 : qq1 < w18.heap.size := World.block_lt_of_cell? _ _ cX3_0
  replace cX4_0 := cell_later hb cX4_0; replace cX4_1 := cell_later hb cX4_1; replace cX4_2 := cell_later hb cX4_2; replace cX4_3 := cell_later hb cX4_3; replace cX4_4 := cell_later hb cX4_4
  replace sX4 : pp16 < w18.heap.size := World.block_lt_of_cell? _ _ cX4_0
  replace cX5_0 := cell_later hb cX5_0; replace cX5_1 := cell_later hb cX5_1; replace cX5_2 := cell_later hb cX5_2; replace cX5_3 := cell_later hb cX5_3; replace cX5_4 := cell_later hb cX5_4
  replace sX5 : qq16 < w18.heap.size := World.block_lt_of_cell? _ _ cX5_0
  replace kk := bC kk hb
  clear hb
  go_wp2_with fail
  (with_reducible refine (h3.out _).mono ?_); rintro e w19 ⟨rfl, hb⟩
  have hz := bC (bA (Below.refl _ _) _) hb
  have nX2_X6 : pp1 < w18.heap.size := by omega
  have nX3_X6 : qq1 < w18.heap.size := by omega
  replace cX0_0 := cell_later hz cX0_0; replace cX0_1 := cell_later hz cX0_1; replace cX0_2 := cell_later hz cX0_2; replace cX0_3 := cell_later hz cX0_3; replace cX0_4 := cell_later hz cX0_4
  replace sX0 : w.heap.size < w19.heap.size := World.block_lt_of_cell? _ _ cX0_0
  replace cX1_0 := cell_later hz cX1_0; replace cX1_1 := cell_later hz cX1_1; replace cX1_2 := cell_later hz cX1_2; replace cX1_3 := cell_later hz cX1_3; replace cX1_4 := cell_later hz cX1_4
  replace sX1 : w.heap.size + 1 < w19.heap.size ∧ w.heap.size < w19.heap.size := by have h : w.heap.size + 1 < w19.heap.size := World.block_lt_of_cell? _ _ cX1_0; exact ⟨h, by omega⟩
  replace fX2_0 := frozen_later hz cX2_0 fX2_0; replace fX2_1 := frozen_later hz cX2_1 fX2_1; replace fX2_2 := frozen_later hz cX2_2 fX2_2; replace fX2_3 := frozen_later hz cX2_3 fX2_3; replace fX2_4 := frozen_later hz cX2_4 fX2_4
  replace cX2_0 := cell_later hz cX2_0; replace cX2_1 := cell_later hz cX2_1; replace cX2_2 := cell_later hz cX2_2; replace cX2_3 := cell_later hz cX2_3; replace cX2_4 := cell_later hz cX2_4
  replace sX2 : pp1 < w19.heap.size := World.block_lt_of_cell? _ _ cX2_0
  replace fX3_0 := frozen_later hz cX3_0 fX3_0; replace fX3_1 := frozen_later hz cX3_1 fX3_1; replace fX3_2 := frozen_later hz cX3_2 fX3_2; replace fX3_3 := frozen_later hz cX3_3 fX3_3; replace fX3_4 := frozen_later hz cX3_4 fX3_4
  replace cX3_0 := cell_later hz cX3_0; replace cX3_1 := cell_later hz cX3_1; replace cX3_2 := cell_later hz cX3_2; replace cX3_3 := cell_later hz cX3_3; replace cX3_4 := cell_later hz cX3_4
  replace sX3 : qq1 < w19.heap.size := World.block_lt_of_cell? _ _ cX3_0
  replace cX4_0 := cell_later hz cX4_0; replace cX4_1 := cell_later hz cX4_1; replace cX4_2 := cell_later hz cX4_2; replace cX4_3 := cell_later hz cX4_3; replace cX4_4 := cell_later hz cX4_4
  replace sX4 : pp16 < w19.heap.size := World.block_lt_of_cell? _ _ cX4_0
  replace cX5_0 := cell_later hz cX5_0; replace cX5_1 := cell_later hz cX5_1; replace cX5_2 := cell_later hz cX5_2; replace cX5_3 := cell_later hz cX5_3; replace cX5_4 := cell_later hz cX5_4
  replace sX5 : qq16 < w19.heap.size := World.block_lt_of_cell? _ _ cX5_0
  have cX6_0 := cell_later hb (a := ⟨w18.heap.size, 0, none⟩) (v := .int .i64 l) (by go_simp)
  have cX6_1 := cell_later hb (a := ⟨w18.heap.size, 1, none⟩) (v := .int .u64 q0) (by go_simp)
  have cX6_2 := cell_later hb (a := ⟨w18.heap.size, 2, none⟩) (v := .int .u64 q1) (by go_simp)
  have cX6_3 := cell_later hb (a := ⟨w18.heap.size, 3, none⟩) (v := .int .u64 q2) (by go_simp)
  have cX6_4 := cell_later hb (a := ⟨w18.heap.size, 4, none⟩) (v := .int .u64 q3) (by go_simp)
  have sX6 : w18.heap.size < w19.heap.size := World.block_lt_of_cell? _ _ cX6_0
  replace kk := bC kk hz
  clear hb hz
  go_wp2_with fail
  have nX2_X7 : pp1 < w19.heap.size := by omega
  have nX3_X7 : qq1 < w19.heap.size := by omega
  refine wp_forget (fun W => W.cell? ⟨w.heap.size, 0, none⟩ = some (.int .i64 a1) ∧ W.cell? ⟨w.heap.size, 1, none⟩ = some (.int .u64 x0) ∧ W.cell? ⟨w.heap.size, 2, none⟩ = some (.int .u64 x1) ∧ W.cell? ⟨w.heap.size, 3, none⟩ = some (.int .u64 x2) ∧ W.cell? ⟨w.heap.size, 4, none⟩ = some (.int .u64 x3) ∧ W.cell? ⟨w.heap.size + 1, 0, none⟩ = some (.int .i64 b1) ∧ W.cell? ⟨w.heap.size + 1, 1, none⟩ = some (.int .u64 y0) ∧ W.cell? ⟨w.heap.size + 1, 2, none⟩ = some (.int .u64 y1) ∧ W.cell? ⟨w.heap.size + 1, 3, none⟩ = some (.int .u64 y2) ∧ W.cell? ⟨w.heap.size + 1, 4, none⟩ = some (.int .u64 y3) ∧ W.cell? ⟨pp1, 0, none⟩ = some (.int .i64 c1) ∧ W.cell? ⟨pp1, 1, none⟩ = some (.int .u64 x0) ∧ W.cell? ⟨pp1, 2, none⟩ = some (.int .u64 x1) ∧ W.cell? ⟨pp1, 3, none⟩ = some (.int .u64 x2) ∧ W.cell? ⟨pp1, 4, none⟩ = some (.int .u64 x3) ∧ W.cell? ⟨qq1, 0, none⟩ = some (.int .i64 d1) ∧ W.cell? ⟨qq1, 1, none⟩ = some (.int .u64 y0) ∧ W.cell? ⟨qq1, 2, none⟩ = some (.int .u64 y1) ∧ W.cell? ⟨qq1, 3, none⟩ = some (.int .u64 y2) ∧ W.cell? ⟨qq1, 4, none⟩ = some (.int .u64 y3) ∧ W.cell? ⟨pp16, 0, none⟩ = some (.int .i64 m) ∧ W.cell? ⟨pp16, 1, none⟩ = some (.int .u64 p0) ∧ W.cell? ⟨pp16, 2, none⟩ = some (.int .u64 p1) ∧ W.cell? ⟨pp16, 3, none⟩ = some (.int .u64 p2) ∧ W.cell? ⟨pp16, 4, none⟩ = some (.int .u64 p3) ∧ W.cell? ⟨qq16, 0, none⟩ = some (.int .i64 m2) ∧ W.cell? ⟨qq16, 1, none⟩ = some (.int .u64 p0) ∧ W.cell? ⟨qq16, 2, none⟩ = some (.int .u64 p1) ∧ W.cell? ⟨qq16, 3, none⟩ = some (.int .u64 p2) ∧ W.cell? ⟨qq16, 4, none⟩ = some (.int .u64 p3) ∧ W.cell? ⟨w18.heap.size, 0, none⟩ = some (.int .i64 l) ∧ W.cell? ⟨w18.heap.size, 1, none⟩ = some (.int .u64 q0) ∧ W.cell? ⟨w18.heap.size, 2, none⟩ = some (.int .u64 q1) ∧ W.cell? ⟨w18.heap.size, 3, none⟩ = some (.int .u64 q2) ∧ W.cell? ⟨w18.heap.size, 4, none⟩ = some (.int .u64 q3) ∧ W.cell? ⟨w19.heap.size, 0, none⟩ = some (.int .i64 l2) ∧ W.cell? ⟨w19.heap.size, 1, none⟩ = some (.int .u64 q0) ∧ W.cell? ⟨w19.heap.size, 2, none⟩ = some (.int .u64 q1) ∧ W.cell? ⟨w19.heap.size, 3, none⟩ = some (.int .u64 q2) ∧ W.cell? ⟨w19.heap.size, 4, none⟩ = some (.int .u64 q3) ∧ W.frozen? ⟨pp1, 0, none⟩ = false ∧ W.frozen? ⟨pp1, 1, none⟩ = false ∧ W.frozen? ⟨pp1, 2, none⟩ = false ∧ W.frozen? ⟨pp1, 3, none⟩ = false ∧ W.frozen? ⟨pp1, 4, none⟩ = false ∧ W.frozen? ⟨qq1, 0, none⟩ = false ∧ W.frozen? ⟨qq1, 1, none⟩ = false ∧ W.frozen? ⟨qq1, 2, none⟩ = false ∧ W.frozen? ⟨qq1, 3, none⟩ = false ∧ W.frozen? ⟨qq1, 4, none⟩ = false ∧ Below w.heap.size w W) ⟨cell_later (bA (Below.refl _ _) _) cX0_0, cell_later (bA (Below.refl _ _) _) cX0_1, cell_later (bA (Below.refl _ _) _) cX0_2, cell_later (bA (Below.refl _ _) _) cX0_3, cell_later (bA (Below.refl _ _) _) cX0_4, cell_later (bA (Below.refl _ _) _) cX1_0, cell_later (bA (Below.refl _ _) _) cX1_1, cell_later (bA (Below.refl _ _) _) cX1_2, cell_later (bA (Below.refl _ _) _) cX1_3, cell_later (bA (Below.refl _ _) _) cX1_4, cell_later (bA (Below.refl _ _) _) cX2_0, cell_later (bA (Below.refl _ _) _) cX2_1, cell_later (bA (Below.refl _ _) _) cX2_2, cell_later (bA (Below.refl _ _) _) cX2_3, cell_later (bA (Below.refl _ _) _) cX2_4, cell_later (bA (Below.refl _ _) _) cX3_0, cell_later (bA (Below.refl _ _) _) cX3_1, cell_later (bA (Below.refl _ _) _) cX3_2, cell_later (bA (Below.refl _ _) _) cX3_3, cell_later (bA (Below.refl _ _) _) cX3_4, cell_later (bA (Below.refl _ _) _) cX4_0, cell_later (bA (Below.refl _ _) _) cX4_1, cell_later (bA (Below.refl _ _) _) cX4_2, cell_later (bA (Below.refl _ _) _) cX4_3, cell_later (bA (Below.refl _ _) _) cX4_4, cell_later (bA (Below.refl _ _) _) cX5_0, cell_later (bA (Below.refl _ _) _) cX5_1, cell_later (bA (Below.refl _ _) _) cX5_2, cell_later (bA (Below.refl _ _) _) cX5_3, cell_later (bA (Below.refl _ _) _) cX5_4, cell_later (bA (Below.refl _ _) _) cX6_0, cell_later (bA (Below.refl _ _) _) cX6_1, cell_later (bA (Below.refl _ _) _) cX6_2, cell_later (bA (Below.refl _ _) _) cX6_3, cell_later (bA (Below.refl _ _) _) cX6_4, by go_simp, by go_simp, by go_simp, by go_simp, by go_simp, frozen_later (bA (Below.refl _ _) _) cX2_0 fX2_0, frozen_later (bA (Below.refl _ _) _) cX2_1 fX2_1, frozen_later (bA (Below.refl _ _) _) cX2_2 fX2_2, frozen_later (bA (Below.refl _ _) _) cX2_3 fX2_3, frozen_later (bA (Below.refl _ _) _) cX2_4 fX2_4, frozen_later (bA (Below.refl _ _) _) cX3_0 fX3_0, frozen_later (bA (Below.refl _ _) _) cX3_1 fX3_1, frozen_later (bA (Below.refl _ _) _) cX3_2 fX3_2, frozen_later (bA (Below.refl _ _) _) cX3_3 fX3_3, frozen_later (bA (Below.refl _ _) _) cX3_4 fX3_4, bC kk (bA (Below.refl _ _) _)⟩ (fun w20 hst => ?_)
  clear cX0_0 cX0_1 cX0_2 cX0_3 cX0_4 sX0 cX1_0 cX1_1 cX1_2 cX1_3 cX1_4 sX1 cX2_0 cX2_1 cX2_2 cX2_3 cX2_4 sX2 fX2_0 fX2_1 fX2_2 fX2_3 fX2_4 cX3_0 cX3_1 cX3_2 cX3_3 cX3_4 sX3 fX3_0 fX3_1 fX3_2 fX3_3 fX3_4 cX4_0 cX4_1 cX4_2 cX4_3 cX4_4 sX4 cX5_0 cX5_1 cX5_2 cX5_3 cX5_4 sX5 cX6_0 cX6_1 cX6_2 cX6_3 cX6_4 sX6 kk
  obtain ⟨cX0_0, cX0_1, cX0_2, cX0_3, cX0_4, cX1_0, cX1_1, cX1_2, cX1_3, cX1_4, cX2_0, cX2_1, cX2_2, cX2_3, cX2_4, cX3_0, cX3_1, cX3_2, cX3_3, cX3_4, cX4_0, cX4_1, cX4_2, cX4_3, cX4_4, cX5_0, cX5_1, cX5_2, cX5_3, cX5_4, cX6_0, cX6_1, cX6_2, cX6_3, cX6_4, cX7_0, cX7_1, cX7_2, cX7_3, cX7_4, fX2_0, fX2_1, fX2_2, fX2_3, fX2_4, fX3_0, fX3_1, fX3_2, fX3_3, fX3_4, kk⟩ := hst
  have sX0 : w.heap.size < w20.heap.size := World.block_lt_of_cell? _ _ cX0_0
  have sX1 : w.heap.size + 1 < w20.heap.size ∧ w.heap.size < w20.heap.size := by have h : w.heap.size + 1 < w20.heap.size := World.block_lt_of_cell? _ _ cX1_0; exact ⟨h, by omega⟩
  have sX2 : pp1 < w20.heap.size := World.block_lt_of_cell? _ _ cX2_0
  have sX3 : qq1 < w20.heap.size := World.block_lt_of_cell? _ _ cX3_0
  have sX4 : pp16 < w20.heap.size := World.block_lt_of_cell? _ _ cX4_0
  have sX5 : qq16 < w20.heap.size := World.block_lt_of_cell? _ _ cX5_0
  have sX6 : w18.heap.size < w20.heap.size := World.block_lt_of_cell? _ _ cX6_0
  have sX7 : w19.heap.size < w20.heap.size := World.block_lt_of_cell? _ _ cX7_0
  refine wp_region_noPanic ?_
  refine wp_region_F [] [] (LS w20 (fun _ _ => True) (fun _ _ _ => True)) (by kernel_rfl) (bs := []) (vs := []) (by kernel_rfl) rfl (LS.before noBits_nil (Below.refl _ _).drew trivial) ?_
  refine wpF_yield (i := 0) (v := ?vq21) rfl (by kernel_rfl) (by kernel_rfl) (fun _ _ _ h => h) (Or.inl ⟨by rfl, ?yq21⟩) ?rq21
  case yq21 => (intro wq; go_simp; try (with_reducible rfl))
  try simp only [List.getElem_toArray, List.getElem_cons_zero, List.getElem_cons_succ, Act.put, List.setIfInBounds_toArray, List.set_cons_zero, List.set_cons_succ]
  refine wpF_take (i := 1) (v := ?vq22) rfl (by kernel_rfl) (by kernel_rfl) (fun _ _ _ h => h) (LS.load (by rfl) ?yq22) ?rq22
  case yq22 => (intro wq hb; have lcX5_0 := cell_later hb cX5_0; go_simp; try (with_reducible rfl))
  try simp only [List.getElem_toArray, List.getElem_cons_zero, List.getElem_cons_succ, Act.put, List.setIfInBounds_toArray, List.set_cons_zero, List.set_cons_succ]
  refine wpF_yield (i := 2) (v := ?vq23) rfl (by kernel_rfl) (by kernel_rfl) (fun _ _ _ h => h) (Or.inl ⟨by rfl, ?yq23⟩) ?rq23
  case yq23 => (intro wq; go_simp; try (with_reducible rfl))
  try simp only [List.getElem_toArray, List.getElem_cons_zero, List.getElem_cons_succ, Act.put, List.setIfInBounds_toArray, List.set_cons_zero, List.set_cons_succ]
  refine wpF_take (i := 3) (v := ?vq24) rfl (by kernel_rfl) (by kernel_rfl) (fun _ _ _ h => h) (LS.load (by rfl) ?yq24) ?rq24
  case yq24 => (intro wq hb; have lcX4_0 := cell_later hb cX4_0; go_simp; try (with_reducible rfl))
  try simp only [List.getElem_toArray, List.getElem_cons_zero, List.getElem_cons_succ, Act.put, List.setIfInBounds_toArray, List.set_cons_zero, List.set_cons_succ]
  refine wpF_yield (i := 4) (v := ?vq25) rfl (by kernel_rfl) (by kernel_rfl) (fun _ _ _ h => h) (Or.inl ⟨by rfl, ?yq25⟩) ?rq25
  case yq25 => (intro wq; go_simp; try (with_reducible rfl))
  try simp only [List.getElem_toArray, List.getElem_cons_zero, List.getElem_cons_succ, Act.put, List.setIfInBounds_toArray, List.set_cons_zero, List.set_cons_succ]
  refine wpF_yield (i := 5) (v := ?vq26) rfl (by kernel_rfl) (by kernel_rfl) (fun _ _ _ h => h) (Or.inl ⟨by rfl, ?yq26⟩) ?rq26
  case yq26 => (intro wq; go_simp; try (with_reducible rfl))
  try simp only [List.getElem_toArray, List.getElem_cons_zero, List.getElem_cons_succ, Act.put, List.setIfInBounds_toArray, List.set_cons_zero, List.set_cons_succ]
  refine wpF_yield (i := 6) (v := ?vq27) rfl (by kernel_rfl) (by kernel_rfl) (fun _ _ _ h => h) (Or.inl ⟨by rfl, ?yq27⟩) ?rq27
  case yq27 => (intro wq; go_simp; try (with_reducible rfl))
  try simp only [List.getElem_toArray, List.getElem_cons_zero, List.getElem_cons_succ, Act.put, List.setIfInBounds_toArray, List.set_cons_zero, List.set_cons_succ]
  refine wpF_yield (i := 7) (v := ?vq28) rfl (by kernel_rfl) (by kernel_rfl) (fun _ _ _ h => h) (Or.inl ⟨by rfl, ?yq28⟩) ?rq28
  case yq28 => (intro wq; go_simp; try (with_reducible rfl))
  try simp only [List.getElem_toArray, List.getElem_cons_zero, List.getElem_cons_succ, Act.put, List.setIfInBounds_toArray, List.set_cons_zero, List.set_cons_succ]
  refine wpF_yield (i := 8) (v := ?vq29) rfl (by kernel_rfl) (by kernel_rfl) (fun _ _ _ h => h) (Or.inl ⟨by rfl, ?yq29⟩) ?rq29
  case yq29 => (intro wq; go_simp; try (with_reducible rfl))
  try simp only [List.getElem_toArray, List.getElem_cons_zero, List.getElem_cons_succ, Act.put, List.setIfInBounds_toArray, List.set_cons_zero, List.set_cons_succ]
  refine wpF_yield (i := 9) (v := ?vq30) rfl (by kernel_rfl) (by kernel_rfl) (fun _ _ _ h => h) (Or.inl ⟨by rfl, ?yq30⟩) ?rq30
  case yq30 => (intro wq; go_simp; try (with_reducible rfl))
  try simp only [List.getElem_toArray, List.getElem_cons_zero, List.getElem_cons_succ, Act.put, List.setIfInBounds_toArray, List.set_cons_zero, List.set_cons_succ]
  refine wpF_take (i := 10) (v := ?vq31) rfl (by kernel_rfl) (by kernel_rfl) (fun _ _ _ h => h) (LS.load (by rfl) ?yq31) ?rq31
  case yq31 => (intro wq hb; have lcX5_1 := cell_later hb cX5_1; have lcX5_2 := cell_later hb cX5_2; have lcX5_3 := cell_later hb cX5_3; have lcX5_4 := cell_later hb cX5_4; go_simp; try (with_reducible rfl))
  try simp only [List.getElem_toArray, List.getElem_cons_zero, List.getElem_cons_succ, Act.put, List.setIfInBounds_toArray, List.set_cons_zero, List.set_cons_succ]
  refine wpF_yield (i := 11) (v := ?vq32) rfl (by kernel_rfl) (by kernel_rfl) (fun _ _ _ h => h) (Or.inl ⟨by rfl, ?yq32⟩) ?rq32
  case yq32 => (intro wq; go_simp; try (with_reducible rfl))
  try simp only [List.getElem_toArray, List.getElem_cons_zero, List.getElem_cons_succ, Act.put, List.setIfInBounds_toArray, List.set_cons_zero, List.set_cons_succ]
  refine wpF_take (i := 12) (v := ?vq33) rfl (by kernel_rfl) (by kernel_rfl) (fun _ _ _ h => h) (LS.load (by rfl) ?yq33) ?rq33
  case yq33 => (intro wq hb; have lcX4_1 := cell_later hb cX4_1; have lcX4_2 := cell_later hb cX4_2; have lcX4_3 := cell_later hb cX4_3; have lcX4_4 := cell_later hb cX4_4; go_simp; try (with_reducible rfl))
  try simp only [List.getElem_toArray, List.getElem_cons_zero, List.getElem_cons_succ, Act.put, List.setIfInBounds_toArray, List.set_cons_zero, List.set_cons_succ]
  refine wpF_yield (i := 13) (v := ?vq34) rfl (by kernel_rfl) (by kernel_rfl) (fun _ _ _ h => h) (Or.inl ⟨by rfl, ?yq34⟩) ?rq34
  case yq34 => (intro wq; go_simp; try (with_reducible rfl))
  try simp only [List.getElem_toArray, List.getElem_cons_zero, List.getElem_cons_succ, Act.put, List.setIfInBounds_toArray, List.set_cons_zero, List.set_cons_succ]
  refine wpF_yield (i := 14) (v := ?vq35) rfl (by kernel_rfl) (by kernel_rfl) (fun _ _ _ h => h) (Or.inl ⟨by rfl, ?yq35⟩) ?rq35
  case yq35 => (intro wq; go_simp; try (with_reducible rfl))
  try simp only [List.getElem_toArray, List.getElem_cons_zero, List.getElem_cons_succ, Act.put, List.setIfInBounds_toArray, List.set_cons_zero, List.set_cons_succ]
  refine wpF_yield (i := 15) (v := ?vq36) rfl (by kernel_rfl) (by kernel_rfl) (fun _ _ _ h => h) (Or.inl ⟨by rfl, ?yq36⟩) ?rq36
  case yq36 => (intro wq; go_simp; try (with_reducible rfl))
  try simp only [List.getElem_toArray, List.getElem_cons_zero, List.getElem_cons_succ, Act.put, List.setIfInBounds_toArray, List.set_cons_zero, List.set_cons_succ]
  refine wpF_yield (i := 16) (v := ?vq37) rfl (by kernel_rfl) (by kernel_rfl) (fun _ _ _ h => h) (Or.inl ⟨by rfl, ?yq37⟩) ?rq37
  case yq37 => (intro wq; go_simp; try (with_reducible rfl))
  try simp only [List.getElem_toArray, List.getElem_cons_zero, List.getElem_cons_succ, Act.put, List.setIfInBounds_toArray, List.set_cons_zero, List.set_cons_succ]
  refine wpF_take (i := 17) (v := ?vq38) rfl (by kernel_rfl) (by kernel_rfl) (fun _ _ _ h => h) (LS.load (by rfl) ?yq38) ?rq38
  case yq38 => (intro wq hb; have lcX7_0 := cell_later hb cX7_0; go_simp; try (with_reducible rfl))
  try simp only [List.getElem_toArray, List.getElem_cons_zero, List.getElem_cons_succ, Act.put, List.setIfInBounds_toArray, List.set_cons_zero, List.set_cons_succ]
  refine wpF_yield (i := 18) (v := ?vq39) rfl (by kernel_rfl) (by kernel_rfl) (fun _ _ _ h => h) (Or.inl ⟨by rfl, ?yq39⟩) ?rq39
  case yq39 => (intro wq; go_simp; try (with_reducible rfl))
  try simp only [List.getElem_toArray, List.getElem_cons_zero, List.getElem_cons_succ, Act.put, List.setIfInBounds_toArray, List.set_cons_zero, List.set_cons_succ]
  refine wpF_take (i := 19) (v := ?vq40) rfl (by kernel_rfl) (by kernel_rfl) (fun _ _ _ h => h) (LS.load (by rfl) ?yq40) ?rq40
  case yq40 => (intro wq hb; have lcX6_0 := cell_later hb cX6_0; go_simp; try (with_reducible rfl))
  try simp only [List.getElem_toArray, List.getElem_cons_zero, List.getElem_cons_succ, Act.put, List.setIfInBounds_toArray, List.set_cons_zero, List.set_cons_succ]
  refine wpF_yield (i := 20) (v := ?vq41) rfl (by kernel_rfl) (by kernel_rfl) (fun _ _ _ h => h) (Or.inl ⟨by rfl, ?yq41⟩) ?rq41
  case yq41 => (intro wq; go_simp; try (with_reducible rfl))
  try simp only [List.getElem_toArray, List.getElem_cons_zero, List.getElem_cons_succ, Act.put, List.setIfInBounds_toArray, List.set_cons_zero, List.set_cons_succ]
  refine wpF_yield (i := 21) (v := ?vq42) rfl (by kernel_rfl) (by kernel_rfl) (fun _ _ _ h => h) (Or.inl ⟨by rfl, ?yq42⟩) ?rq42
  case yq42 => (intro wq; go_simp; try (with_reducible rfl))
  try simp only [List.getElem_toArray, List.getElem_cons_zero, List.getElem_cons_succ, Act.put, List.setIfInBounds_toArray, List.set_cons_zero, List.set_cons_succ]
  refine wpF_yield (i := 22) (v := ?vq43) rfl (by kernel_rfl) (by kernel_rfl) (fun _ _ _ h => h) (Or.inl ⟨by rfl, ?yq43⟩) ?rq43
  case yq43 => (intro wq; go_simp; try (with_reducible rfl))
  try simp only [List.getElem_toArray, List.getElem_cons_zero, List.getElem_cons_succ, Act.put, List.setIfInBounds_toArray, List.set_cons_zero, List.set_cons_succ]
  refine wpF_yield (i := 23) (v := ?vq44) rfl (by kernel_rfl) (by kernel_rfl) (fun _ _ _ h => h) (Or.inl ⟨by rfl, ?yq44⟩) ?rq44
  case yq44 => (intro wq; go_simp; try (with_reducible rfl))
  try simp only [List.getElem_toArray, List.getElem_cons_zero, List.getElem_cons_succ, Act.put, List.setIfInBounds_toArray, List.set_cons_zero, List.set_cons_succ]
  refine wpF_yield (i := 24) (v := ?vq45) rfl (by kernel_rfl) (by kernel_rfl) (fun _ _ _ h => h) (Or.inl ⟨by rfl, ?yq45⟩) ?rq45
  case yq45 => (intro wq; go_simp; try (with_reducible rfl))
  try simp only [List.getElem_toArray, List.getElem_cons_zero, List.getElem_cons_succ, Act.put, List.setIfInBounds_toArray, List.set_cons_zero, List.set_cons_succ]
  refine wpF_yield (i := 25) (v := ?vq46) rfl (by kernel_rfl) (by kernel_rfl) (fun _ _ _ h => h) (Or.inl ⟨by rfl, ?yq46⟩) ?rq46
  case yq46 => (intro wq; go_simp; try (with_reducible rfl))
  try simp only [List.getElem_toArray, List.getElem_cons_zero, List.getElem_cons_succ, Act.put, List.setIfInBounds_toArray, List.set_cons_zero, List.set_cons_succ]
  refine wpF_yield (i := 26) (v := ?vq47) rfl (by kernel_rfl) (by kernel_rfl) (fun _ _ _ h => h) (Or.inl ⟨by rfl, ?yq47⟩) ?rq47
  case yq47 => (intro wq; go_simp; try (with_reducible rfl))
  try simp only [List.getElem_toArray, List.getElem_cons_zero, List.getElem_cons_succ, Act.put, List.setIfInBounds_toArray, List.set_cons_zero, List.set_cons_succ]
  refine wpF_take (i := 27) (v := ?vq48) rfl (by kernel_rfl) (by kernel_rfl) (fun _ _ _ h => h) (LS.load (by rfl) ?yq48) ?rq48
  case yq48 => (intro wq hb; have lcX7_1 := cell_later hb cX7_1; have lcX7_2 := cell_later hb cX7_2; have lcX7_3 := cell_later hb cX7_3; have lcX7_4 := cell_later hb cX7_4; go_simp; try (with_reducible rfl))
  try simp only [List.getElem_toArray, List.getElem_cons_zero, List.getElem_cons_succ, Act.put, List.setIfInBounds_toArray, List.set_cons_zero, List.set_cons_succ]
  refine wpF_yield (i := 28) (v := ?vq49) rfl (by kernel_rfl) (by kernel_rfl) (fun _ _ _ h => h) (Or.inl ⟨by rfl, ?yq49⟩) ?rq49
  case yq49 => (intro wq; go_simp; try (with_reducible rfl))
  try simp only [List.getElem_toArray, List.getElem_cons_zero, List.getElem_cons_succ, Act.put, List.setIfInBounds_toArray, List.set_cons_zero, List.set_cons_succ]
  refine wpF_take (i := 29) (v := ?vq50) rfl (by kernel_rfl) (by kernel_rfl) (fun _ _ _ h => h) (LS.load (by rfl) ?yq50) ?rq50
  case yq50 => (intro wq hb; have lcX6_1 := cell_later hb cX6_1; have lcX6_2 := cell_later hb cX6_2; have lcX6_3 := cell_later hb cX6_3; have lcX6_4 := cell_later hb cX6_4; go_simp; try (with_reducible rfl))
  try simp only [List.getElem_toArray, List.getElem_cons_zero, List.getElem_cons_succ, Act.put, List.setIfInBounds_toArray, List.set_cons_zero, List.set_cons_succ]
  refine wpF_yield (i := 30) (v := ?vq51) rfl (by kernel_rfl) (by kernel_rfl) (fun _ _ _ h => h) (Or.inl ⟨by rfl, ?yq51⟩) ?rq51
  case yq51 => (intro wq; go_simp; try (with_reducible rfl))
  try simp only [List.getElem_toArray, List.getElem_cons_zero, List.getElem_cons_succ, Act.put, List.setIfInBounds_toArray, List.set_cons_zero, List.set_cons_succ]
  refine wpF_yield (i := 31) (v := ?vq52) rfl (by kernel_rfl) (by kernel_rfl) (fun _ _ _ h => h) (Or.inl ⟨by rfl, ?yq52⟩) ?rq52
  case yq52 => (intro wq; go_simp; try (with_reducible rfl))
  try simp only [List.getElem_toArray, List.getElem_cons_zero, List.getElem_cons_succ, Act.put, List.setIfInBounds_toArray, List.set_cons_zero, List.set_cons_succ]
  refine wpF_yield (i := 32) (v := ?vq53) rfl (by kernel_rfl) (by kernel_rfl) (fun _ _ _ h => h) (Or.inl ⟨by rfl, ?yq53⟩) ?rq53
  case yq53 => (intro wq; go_simp; try (with_reducible rfl))
  try simp only [List.getElem_toArray, List.getElem_cons_zero, List.getElem_cons_succ, Act.put, List.setIfInBounds_toArray, List.set_cons_zero, List.set_cons_succ]
  refine wpF_yield (i := 33) (v := ?vq54) rfl (by kernel_rfl) (by kernel_rfl) (fun _ _ _ h => h) (Or.inl ⟨by rfl, ?yq54⟩) ?rq54
  case yq54 => (intro wq; go_simp; try (with_reducible rfl))
  try simp only [List.getElem_toArray, List.getElem_cons_zero, List.getElem_cons_succ, Act.put, List.setIfInBounds_toArray, List.set_cons_zero, List.set_cons_succ]
  refine wpF_yield (i := 34) (v := ?vq55) rfl (by kernel_rfl) (by kernel_rfl) (fun _ _ _ h => h) (Or.inl ⟨by rfl, ?yq55⟩) ?rq55
  case yq55 => (intro wq; go_simp; try (with_reducible rfl))
  try simp only [List.getElem_toArray, List.getElem_cons_zero, List.getElem_cons_succ, Act.put, List.setIfInBounds_toArray, List.set_cons_zero, List.set_cons_succ]
  refine wpF_yield (i := 35) (v := ?vq56) rfl (by kernel_rfl) (by kernel_rfl) (fun _ _ _ h => h) (Or.inl ⟨by rfl, ?yq56⟩) ?rq56
  case yq56 => (intro wq; go_simp; try (with_reducible rfl))
  try simp only [List.getElem_toArray, List.getElem_cons_zero, List.getElem_cons_succ, Act.put, List.setIfInBounds_toArray, List.set_cons_zero, List.set_cons_succ]
  refine wpF_yield (i := 36) (v := ?vq57) rfl (by kernel_rfl) (by kernel_rfl) (fun _ _ _ h => h) (Or.inl ⟨by rfl, ?yq57⟩) ?rq57
  case yq57 => (intro wq; go_simp; try (with_reducible rfl))
  try simp only [List.getElem_toArray, List.getElem_cons_zero, List.getElem_cons_succ, Act.put, List.setIfInBounds_toArray, List.set_cons_zero, List.set_cons_succ]
  refine wpF_yield (i := 37) (v := ?vq58) rfl (by kernel_rfl) (by kernel_rfl) (fun _ _ _ h => h) (Or.inl ⟨by rfl, ?yq58⟩) ?rq58
  case yq58 => (intro wq; go_simp; try (with_reducible rfl))
  try simp only [List.getElem_toArray, List.getElem_cons_zero, List.getElem_cons_succ, Act.put, List.setIfInBounds_toArray, List.set_cons_zero, List.set_cons_succ]
  refine wpF_take (i := 38) (v := ?vq59) rfl (by kernel_rfl) (by kernel_rfl) (fun _ _ _ h => h) (LS.load (by rfl) ?yq59) ?rq59
  case yq59 => (intro wq hb; have lcX0_0 := cell_later hb cX0_0; have lcX0_1 := cell_later hb cX0_1; have lcX0_2 := cell_later hb cX0_2; have lcX0_3 := cell_later hb cX0_3; have lcX0_4 := cell_later hb cX0_4; go_simp; try (with_reducible rfl))
  try simp only [List.getElem_toArray, List.getElem_cons_zero, List.getElem_cons_succ, Act.put, List.setIfInBounds_toArray, List.set_cons_zero, List.set_cons_succ]
  refine wpF_take (i := 39) (v := ?vq60) rfl (by kernel_rfl) (by kernel_rfl) (fun _ _ _ h => h) (LS.load (by rfl) ?yq60) ?rq60
  case yq60 => (intro wq hb; have lcX1_0 := cell_later hb cX1_0; have lcX1_1 := cell_later hb cX1_1; have lcX1_2 := cell_later hb cX1_2; have lcX1_3 := cell_later hb cX1_3; have lcX1_4 := cell_later hb cX1_4; go_simp; try (with_reducible rfl))
  try simp only [List.getElem_toArray, List.getElem_cons_zero, List.getElem_cons_succ, Act.put, List.setIfInBounds_toArray, List.set_cons_zero, List.set_cons_succ]
  refine wpF_take (i := 40) (v := _) rfl (by kernel_rfl) (by kernel_rfl) (fun _ _ _ h => h) (LS.call lasts_true (by rfl) _ _ ?yq61 (h4.out)) ?rq61
  case yq61 => (intro wq; go_simp; try (with_reducible rfl))
  try simp only [List.getElem_toArray, List.getElem_cons_zero, List.getElem_cons_succ, Act.put, List.setIfInBounds_toArray, List.set_cons_zero, List.set_cons_succ]
  refine wpF_take (i := 41) (v := ?vq62) rfl (by kernel_rfl) (by kernel_rfl) (fun _ _ _ h => h) (LS.load (by rfl) ?yq62) ?rq62
  case yq62 => (intro wq hb; have lcX2_0 := cell_later hb cX2_0; have lcX2_1 := cell_later hb cX2_1; have lcX2_2 := cell_later hb cX2_2; have lcX2_3 := cell_later hb cX2_3; have lcX2_4 := cell_later hb cX2_4; go_simp; try (with_reducible rfl))
  try simp only [List.getElem_toArray, List.getElem_cons_zero, List.getElem_cons_succ, Act.put, List.setIfInBounds_toArray, List.set_cons_zero, List.set_cons_succ]
  refine wpF_take (i := 42) (v := ?vq63) rfl (by kernel_rfl) (by kernel_rfl) (fun _ _ _ h => h) (LS.load (by rfl) ?yq63) ?rq63
  case yq63 => (intro wq hb; have lcX3_0 := cell_later hb cX3_0; have lcX3_1 := cell_later hb cX3_1; have lcX3_2 := cell_later hb cX3_2; have lcX3_3 := cell_later hb cX3_3; have lcX3_4 := cell_later hb cX3_4; go_simp; try (with_reducible rfl))
  try simp only [List.getElem_toArray, List.getElem_cons_zero, List.getElem_cons_succ, Act.put, List.setIfInBounds_toArray, List.set_cons_zero, List.set_cons_succ]
  refine wpF_take (i := 43) (v := _) rfl (by kernel_rfl) (by kernel_rfl) (fun _ _ _ h => h) (LS.call lasts_true (by rfl) _ _ ?yq64 (h5.out)) ?rq64
  case yq64 => (intro wq; go_simp; try (with_reducible rfl))
  try simp only [List.getElem_toArray, List.getElem_cons_zero, List.getElem_cons_succ, Act.put, List.setIfInBounds_toArray, List.set_cons_zero, List.set_cons_succ]
  refine wpF_yield (i := 44) (v := ?vq65) rfl (by kernel_rfl) (by kernel_rfl) (fun _ _ _ h => h) (Or.inl ⟨by rfl, ?yq65⟩) ?rq65
  case yq65 => (intro wq; go_simp; try (with_reducible rfl))
  try simp only [List.getElem_toArray, List.getElem_cons_zero, List.getElem_cons_succ, Act.put, List.setIfInBounds_toArray, List.set_cons_zero, List.set_cons_succ]
  refine wpF_yield (i := 45) (v := ?vq66) rfl (by kernel_rfl) (by kernel_rfl) (fun _ _ _ h => h) (Or.inl ⟨by rfl, ?yq66⟩) ?rq66
  case yq66 => (intro wq; go_simp; try (with_reducible rfl))
  try simp only [List.getElem_toArray, List.getElem_cons_zero, List.getElem_cons_succ, Act.put, List.setIfInBounds_toArray, List.set_cons_zero, List.set_cons_succ]
  refine wpF_yield (i := 46) (v := ?vq67) rfl (by kernel_rfl) (by kernel_rfl) (fun _ _ _ h => h) (Or.inl ⟨by rfl, ?yq67⟩) ?rq67
  case yq67 => (intro wq; go_simp; try (with_reducible rfl))
  try simp only [List.getElem_toArray, List.getElem_cons_zero, List.getElem_cons_succ, Act.put, List.setIfInBounds_toArray, List.set_cons_zero, List.set_cons_succ]
  refine wpF_take (i := 47) (v := _) rfl (by kernel_rfl) (by kernel_rfl) (fun _ _ _ h => h) (LS.call lasts_true (by rfl) _ _ ?yq68 (h6.out)) ?rq68
  case yq68 => (intro wq; go_simp; try (with_reducible rfl))
  try simp only [List.getElem_toArray, List.getElem_cons_zero, List.getElem_cons_succ, Act.put, List.setIfInBounds_toArray, List.set_cons_zero, List.set_cons_succ]
  refine wpF_yield (i := 48) (v := ?vq69) rfl (by kernel_rfl) (by kernel_rfl) (fun _ _ _ h => h) (Or.inl ⟨by rfl, ?yq69⟩) ?rq69
  case yq69 => (intro wq; go_simp; try (with_reducible rfl))
  try simp only [List.getElem_toArray, List.getElem_cons_zero, List.getElem_cons_succ, Act.put, List.setIfInBounds_toArray, List.set_cons_zero, List.set_cons_succ]
  refine wpF_yield (i := 49) (v := ?vq70) rfl (by kernel_rfl) (by kernel_rfl) (fun _ _ _ h => h) (Or.inl ⟨by rfl, ?yq70⟩) ?rq70
  case yq70 => (intro wq; go_simp; try (with_reducible rfl))
  try simp only [List.getElem_toArray, List.getElem_cons_zero, List.getElem_cons_succ, Act.put, List.setIfInBounds_toArray, List.set_cons_zero, List.set_cons_succ]
  refine wpF_done (bs := []) (vs := []) (by kernel_rfl) (by kernel_rfl) rfl (fun w21 hS => ?_) _
  refine NoPanic.normal ?_
  obtain ⟨hb, _⟩ := hS.1 noBits_nil
  clear hS
  clear cX0_0 cX0_1 cX0_2 cX0_3 cX0_4 sX0
  clear cX1_0 cX1_1 cX1_2 cX1_3 cX1_4 sX1
  clear cX2_0 cX2_1 cX2_2 cX2_3 cX2_4 sX2
  clear cX3_0 cX3_1 cX3_2 cX3_3 cX3_4 sX3
  clear cX4_0 cX4_1 cX4_2 cX4_3 cX4_4 sX4
  clear cX5_0 cX5_1 cX5_2 cX5_3 cX5_4 sX5
  clear cX6_0 cX6_1 cX6_2 cX6_3 cX6_4 sX6
  clear cX7_0 cX7_1 cX7_2 cX7_3 cX7_4 sX7
  replace kk := bC kk hb
  clear hb
  go_wp2_with fail
  go_ret
  exact ⟨rfl, kk⟩



end Go.Proofs.Ytamigjdankkmjaa
