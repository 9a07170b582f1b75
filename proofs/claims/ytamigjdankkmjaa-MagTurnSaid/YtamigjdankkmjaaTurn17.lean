/-
  The walk of the statement MagTurn.
-/
import Derived.Test.YtamigjdankkmjaaMag17M
import Derived.Test.YtamigjdankkmjaaGaB
import Derived.Test.YtamigjdankkmjaaGhA
import Derived.Test.YtamigjdankkmjaaGaA
import Derived.Test.YtamigjdankkmjaaGoes17
set_option linter.unusedVariables false
set_option linter.unusedSimpArgs false
set_option maxRecDepth 100000
namespace Go.Proofs.Ytamigjdankkmjaa
open Go.RowKit
attribute [local go_sem ↓] Go.wp_at_zero Go.wp_at_succ

set_option maxHeartbeats 4000000 in
set_option maxRecDepth 100000 in
theorem turn17_10 (ea eb l m x0 x1 x2 x3 y0 y1 y2 y3 d0 d1 d2 d3 s0 s1 s2 s3 : Int)
    (h0 : Hid (∀ w, Calls Try.prog 11 #[.agg #[.int .i64 ea, .int .u64 x0, .int .u64 x1, .int .u64 x2, .int .u64 x3], .agg #[.int .i64 eb, .int .u64 y0, .int .u64 y1, .int .u64 y2, .int .u64 y3]] w fun e w' => e = .returned (.tuple #[.agg #[.int .i64 l, .int .u64 d0, .int .u64 d1, .int .u64 d2, .int .u64 d3], .bool true]) ∧ Below w.heap.size w w'))
    (h1 : Hid (∀ w, Calls Try.prog 11 #[.agg #[.int .i64 eb, .int .u64 y0, .int .u64 y1, .int .u64 y2, .int .u64 y3], .agg #[.int .i64 ea, .int .u64 x0, .int .u64 x1, .int .u64 x2, .int .u64 x3]] w fun e w' => e = .returned (.tuple #[.agg #[.int .i64 l, .int .u64 d0, .int .u64 d1, .int .u64 d2, .int .u64 d3], .bool false]) ∧ Below w.heap.size w w'))
    (h2 : Hid (∀ w, Calls Try.prog 12 #[.agg #[.int .i64 ea, .int .u64 x0, .int .u64 x1, .int .u64 x2, .int .u64 x3], .agg #[.int .i64 eb, .int .u64 y0, .int .u64 y1, .int .u64 y2, .int .u64 y3]] w fun e w' => e = .returned (.agg #[.int .i64 m, .int .u64 s0, .int .u64 s1, .int .u64 s2, .int .u64 s3]) ∧ Below w.heap.size w w'))
    (h3 : Hid (∀ w, Calls Try.prog 12 #[.agg #[.int .i64 eb, .int .u64 y0, .int .u64 y1, .int .u64 y2, .int .u64 y3], .agg #[.int .i64 ea, .int .u64 x0, .int .u64 x1, .int .u64 x2, .int .u64 x3]] w fun e w' => e = .returned (.agg #[.int .i64 m, .int .u64 s0, .int .u64 s1, .int .u64 s2, .int .u64 s3]) ∧ Below w.heap.size w w'))
    (h5 : Hid (∀ w, Calls Try.prog 17 #[] w fun e w' => e = .returned (.bool true) ∧ Below w.heap.size w w')) (w : World) :
    Calls Try.prog 6 #[.agg #[.int .i64 ea, .int .u64 x0, .int .u64 x1, .int .u64 x2, .int .u64 x3], .agg #[.int .i64 eb, .int .u64 y0, .int .u64 y1, .int .u64 y2, .int .u64 y3]] w fun e w' => e = .returned (.bool true) ∧ Below w.heap.size w w' := by
  have E1 := eqt17 m s0 s1 s2 s3
  have E2 := eqt17 l d0 d1 d2 d3
  go_enter Try.func6, Try.ntmps6
  go_wp2_with fail
  (with_reducible refine (h0.out _).mono ?_); rintro e w1 ⟨rfl, hb⟩
  have hz := bC (bA (bA (Below.refl _ _) _) _) hb
  have cX0_0 := cell_later hb (a := ⟨w.heap.size, 0, none⟩) (v := .int .i64 ea) (by go_simp)
  have cX0_1 := cell_later hb (a := ⟨w.heap.size, 1, none⟩) (v := .int .u64 x0) (by go_simp)
  have cX0_2 := cell_later hb (a := ⟨w.heap.size, 2, none⟩) (v := .int .u64 x1) (by go_simp)
  have cX0_3 := cell_later hb (a := ⟨w.heap.size, 3, none⟩) (v := .int .u64 x2) (by go_simp)
  have cX0_4 := cell_later hb (a := ⟨w.heap.size, 4, none⟩) (v := .int .u64 x3) (by go_simp)
  have sX0 : w.heap.size < w1.heap.size := World.block_lt_of_cell? _ _ cX0_0
  have cX1_0 := cell_later hb (a := ⟨w.heap.size + 1, 0, none⟩) (v := .int .i64 eb) (by go_simp)
  have cX1_1 := cell_later hb (a := ⟨w.heap.size + 1, 1, none⟩) (v := .int .u64 y0) (by go_simp)
  have cX1_2 := cell_later hb (a := ⟨w.heap.size + 1, 2, none⟩) (v := .int .u64 y1) (by go_simp)
  have cX1_3 := cell_later hb (a := ⟨w.heap.size + 1, 3, none⟩) (v := .int .u64 y2) (by go_simp)
  have cX1_4 := cell_later hb (a := ⟨w.heap.size + 1, 4, none⟩) (v := .int .u64 y3) (by go_simp)
  have sX1 : w.heap.size + 1 < w1.heap.size ∧ w.heap.size < w1.heap.size := by have h : w.heap.size + 1 < w1.heap.size := World.block_lt_of_cell? _ _ cX1_0; exact ⟨h, by omega⟩
  have kk := hz
  clear hb hz
  go_wp2_with fail
  (with_reducible refine (h1.out _).mono ?_); rintro e w2 ⟨rfl, hb⟩
  have hz := bC (bA (Below.refl _ _) _) hb
  replace cX0_0 := cell_later hz cX0_0; replace cX0_1 := cell_later hz cX0_1; replace cX0_2 := cell_later hz cX0_2; replace cX0_3 := cell_later hz cX0_3; replace cX0_4 := cell_later hz cX0_4
  replace sX0 : w.heap.size < w2.heap.size := World.block_lt_of_cell? _ _ cX0_0
  replace cX1_0 := cell_later hz cX1_0; replace cX1_1 := cell_later hz cX1_1; replace cX1_2 := cell_later hz cX1_2; replace cX1_3 := cell_later hz cX1_3; replace cX1_4 := cell_later hz cX1_4
  replace sX1 : w.heap.size + 1 < w2.heap.size ∧ w.heap.size < w2.heap.size := by have h : w.heap.size + 1 < w2.heap.size := World.block_lt_of_cell? _ _ cX1_0; exact ⟨h, by omega⟩
  have cX2_0 := cell_later hb (a := ⟨w1.heap.size, 0, none⟩) (v := .int .i64 l) (by go_simp)
  have cX2_1 := cell_later hb (a := ⟨w1.heap.size, 1, none⟩) (v := .int .u64 d0) (by go_simp)
  have cX2_2 := cell_later hb (a := ⟨w1.heap.size, 2, none⟩) (v := .int .u64 d1) (by go_simp)
  have cX2_3 := cell_later hb (a := ⟨w1.heap.size, 3, none⟩) (v := .int .u64 d2) (by go_simp)
  have cX2_4 := cell_later hb (a := ⟨w1.heap.size, 4, none⟩) (v := .int .u64 d3) (by go_simp)
  have sX2 : w1.heap.size < w2.heap.size := World.block_lt_of_cell? _ _ cX2_0
  replace kk := bC kk hz
  clear hb hz
  go_wp2_with fail
  refine wp_forget (fun W => W.cell? ⟨w.heap.size, 0, none⟩ = some (.int .i64 ea) ∧ W.cell? ⟨w.heap.size, 1, none⟩ = some (.int .u64 x0) ∧ W.cell? ⟨w.heap.size, 2, none⟩ = some (.int .u64 x1) ∧ W.cell? ⟨w.heap.size, 3, none⟩ = some (.int .u64 x2) ∧ W.cell? ⟨w.heap.size, 4, none⟩ = some (.int .u64 x3) ∧ W.cell? ⟨w.heap.size + 1, 0, none⟩ = some (.int .i64 eb) ∧ W.cell? ⟨w.heap.size + 1, 1, none⟩ = some (.int .u64 y0) ∧ W.cell? ⟨w.heap.size + 1, 2, none⟩ = some (.int .u64 y1) ∧ W.cell? ⟨w.heap.size + 1, 3, none⟩ = some (.int .u64 y2) ∧ W.cell? ⟨w.heap.size + 1, 4, none⟩ = some (.int .u64 y3) ∧ W.cell? ⟨w1.heap.size, 0, none⟩ = some (.int .i64 l) ∧ W.cell? ⟨w1.heap.size, 1, none⟩ = some (.int .u64 d0) ∧ W.cell? ⟨w1.heap.size, 2, none⟩ = some (.int .u64 d1) ∧ W.cell? ⟨w1.heap.size, 3, none⟩ = some (.int .u64 d2) ∧ W.cell? ⟨w1.heap.size, 4, none⟩ = some (.int .u64 d3) ∧ W.cell? ⟨w2.heap.size, 0, none⟩ = some (.int .i64 l) ∧ W.cell? ⟨w2.heap.size, 1, none⟩ = some (.int .u64 d0) ∧ W.cell? ⟨w2.heap.size, 2, none⟩ = some (.int .u64 d1) ∧ W.cell? ⟨w2.heap.size, 3, none⟩ = some (.int .u64 d2) ∧ W.cell? ⟨w2.heap.size, 4, none⟩ = some (.int .u64 d3) ∧ Below w.heap.size w W) ⟨cell_later (bA (Below.refl _ _) _) cX0_0, cell_later (bA (Below.refl _ _) _) cX0_1, cell_later (bA (Below.refl _ _) _) cX0_2, cell_later (bA (Below.refl _ _) _) cX0_3, cell_later (bA (Below.refl _ _) _) cX0_4, cell_later (bA (Below.refl _ _) _) cX1_0, cell_later (bA (Below.refl _ _) _) cX1_1, cell_later (bA (Below.refl _ _) _) cX1_2, cell_later (bA (Below.refl _ _) _) cX1_3, cell_later (bA (Below.refl _ _) _) cX1_4, cell_later (bA (Below.refl _ _) _) cX2_0, cell_later (bA (Below.refl _ _) _) cX2_1, cell_later (bA (Below.refl _ _) _) cX2_2, cell_later (bA (Below.refl _ _) _) cX2_3, cell_later (bA (Below.refl _ _) _) cX2_4, by go_simp, by go_simp, by go_simp, by go_simp, by go_simp, bC kk (bA (Below.refl _ _) _)⟩ (fun w3 hst => ?_)
  clear cX0_0 cX0_1 cX0_2 cX0_3 cX0_4 sX0 cX1_0 cX1_1 cX1_2 cX1_3 cX1_4 sX1 cX2_0 cX2_1 cX2_2 cX2_3 cX2_4 sX2 kk
  obtain ⟨cX0_0, cX0_1, cX0_2, cX0_3, cX0_4, cX1_0, cX1_1, cX1_2, cX1_3, cX1_4, cX2_0, cX2_1, cX2_2, cX2_3, cX2_4, cX3_0, cX3_1, cX3_2, cX3_3, cX3_4, kk⟩ := hst
  have sX0 : w.heap.size < w3.heap.size := World.block_lt_of_cell? _ _ cX0_0
  have sX1 : w.heap.size + 1 < w3.heap.size ∧ w.heap.size < w3.heap.size := by have h : w.heap.size + 1 < w3.heap.size := World.block_lt_of_cell? _ _ cX1_0; exact ⟨h, by omega⟩
  have sX2 : w1.heap.size < w3.heap.size := World.block_lt_of_cell? _ _ cX2_0
  have sX3 : w2.heap.size < w3.heap.size := World.block_lt_of_cell? _ _ cX3_0
  refine wp_region_noPanic ?_
  refine wp_region_F [] [] (LS w3 (fun _ _ => True) (fun _ _ _ => True)) (by kernel_rfl) (bs := []) (vs := []) (by kernel_rfl) rfl (LS.before noBits_nil (Below.refl _ _).drew trivial) ?_
  refine wpF_take (i := 0) (v := ?vq1) rfl (by kernel_rfl) (by kernel_rfl) (fun _ _ _ h => h) (LS.load (by rfl) ?yq1) ?rq1
  case yq1 => (intro wq hb; have lcX0_0 := cell_later hb cX0_0; have lcX0_1 := cell_later hb cX0_1; have lcX0_2 := cell_later hb cX0_2; have lcX0_3 := cell_later hb cX0_3; have lcX0_4 := cell_later hb cX0_4; go_simp; try (with_reducible rfl))
  try simp only [List.getElem_toArray, List.getElem_cons_zero, List.getElem_cons_succ, Act.put, List.setIfInBounds_toArray, List.set_cons_zero, List.set_cons_succ]
  refine wpF_take (i := 1) (v := ?vq2) rfl (by kernel_rfl) (by kernel_rfl) (fun _ _ _ h => h) (LS.load (by rfl) ?yq2) ?rq2
  case yq2 => (intro wq hb; have lcX1_0 := cell_later hb cX1_0; have lcX1_1 := cell_later hb cX1_1; have lcX1_2 := cell_later hb cX1_2; have lcX1_3 := cell_later hb cX1_3; have lcX1_4 := cell_later hb cX1_4; go_simp; try (with_reducible rfl))
  try simp only [List.getElem_toArray, List.getElem_cons_zero, List.getElem_cons_succ, Act.put, List.setIfInBounds_toArray, List.set_cons_zero, List.set_cons_succ]
  refine wpF_take (i := 2) (v := _) rfl (by kernel_rfl) (by kernel_rfl) (fun _ _ _ h => h) (LS.call lasts_true (by rfl) _ _ ?yq3 (h2.out)) ?rq3
  case yq3 => (intro wq; go_simp; try (with_reducible rfl))
  try simp only [List.getElem_toArray, List.getElem_cons_zero, List.getElem_cons_succ, Act.put, List.setIfInBounds_toArray, List.set_cons_zero, List.set_cons_succ]
  refine wpF_take (i := 3) (v := ?vq4) rfl (by kernel_rfl) (by kernel_rfl) (fun _ _ _ h => h) (LS.load (by rfl) ?yq4) ?rq4
  case yq4 => (intro wq hb; have lcX1_0 := cell_later hb cX1_0; have lcX1_1 := cell_later hb cX1_1; have lcX1_2 := cell_later hb cX1_2; have lcX1_3 := cell_later hb cX1_3; have lcX1_4 := cell_later hb cX1_4; go_simp; try (with_reducible rfl))
  try simp only [List.getElem_toArray, List.getElem_cons_zero, List.getElem_cons_succ, Act.put, List.setIfInBounds_toArray, List.set_cons_zero, List.set_cons_succ]
  refine wpF_take (i := 4) (v := ?vq5) rfl (by kernel_rfl) (by kernel_rfl) (fun _ _ _ h => h) (LS.load (by rfl) ?yq5) ?rq5
  case yq5 => (intro wq hb; have lcX0_0 := cell_later hb cX0_0; have lcX0_1 := cell_later hb cX0_1; have lcX0_2 := cell_later hb cX0_2; have lcX0_3 := cell_later hb cX0_3; have lcX0_4 := cell_later hb cX0_4; go_simp; try (with_reducible rfl))
  try simp only [List.getElem_toArray, List.getElem_cons_zero, List.getElem_cons_succ, Act.put, List.setIfInBounds_toArray, List.set_cons_zero, List.set_cons_succ]
  refine wpF_take (i := 5) (v := _) rfl (by kernel_rfl) (by kernel_rfl) (fun _ _ _ h => h) (LS.call lasts_true (by rfl) _ _ ?yq6 (h3.out)) ?rq6
  case yq6 => (intro wq; go_simp; try (with_reducible rfl))
  try simp only [List.getElem_toArray, List.getElem_cons_zero, List.getElem_cons_succ, Act.put, List.setIfInBounds_toArray, List.set_cons_zero, List.set_cons_succ]
  refine wpF_yield (i := 6) (v := ?vq7) rfl (by kernel_rfl) (by kernel_rfl) (fun _ _ _ h => h) (Or.inl ⟨by rfl, ?yq7⟩) ?rq7
  case yq7 => (intro wq; go_simp; try (with_reducible rfl))
  try simp only [List.getElem_toArray, List.getElem_cons_zero, List.getElem_cons_succ, Act.put, List.setIfInBounds_toArray, List.set_cons_zero, List.set_cons_succ]
  refine wpF_yield (i := 7) (v := ?vq8) rfl (by kernel_rfl) (by kernel_rfl) (fun _ _ _ h => h) (Or.inl ⟨by rfl, ?yq8⟩) ?rq8
  case yq8 => (intro wq; go_simp; try (with_reducible rfl))
  try simp only [List.getElem_toArray, List.getElem_cons_zero, List.getElem_cons_succ, Act.put, List.setIfInBounds_toArray, List.set_cons_zero, List.set_cons_succ]
  refine wpF_take (i := 8) (v := ?vq9) rfl (by kernel_rfl) (by kernel_rfl) (fun _ _ _ h => h) (LS.load (by rfl) ?yq9) ?rq9
  case yq9 => (intro wq hb; have lcX2_0 := cell_later hb cX2_0; have lcX2_1 := cell_later hb cX2_1; have lcX2_2 := cell_later hb cX2_2; have lcX2_3 := cell_later hb cX2_3; have lcX2_4 := cell_later hb cX2_4; go_simp; try (with_reducible rfl))
  try simp only [List.getElem_toArray, List.getElem_cons_zero, List.getElem_cons_succ, Act.put, List.setIfInBounds_toArray, List.set_cons_zero, List.set_cons_succ]
  refine wpF_take (i := 9) (v := ?vq10) rfl (by kernel_rfl) (by kernel_rfl) (fun _ _ _ h => h) (LS.load (by rfl) ?yq10) ?rq10
  case yq10 => (intro wq hb; have lcX3_0 := cell_later hb cX3_0; have lcX3_1 := cell_later hb cX3_1; have lcX3_2 := cell_later hb cX3_2; have lcX3_3 := cell_later hb cX3_3; have lcX3_4 := cell_later hb cX3_4; go_simp; try (with_reducible rfl))
  try simp only [List.getElem_toArray, List.getElem_cons_zero, List.getElem_cons_succ, Act.put, List.setIfInBounds_toArray, List.set_cons_zero, List.set_cons_succ]
  refine wpF_yield (i := 10) (v := ?vq11) rfl (by kernel_rfl) (by kernel_rfl) (fun _ _ _ h => h) (Or.inl ⟨by rfl, ?yq11⟩) ?rq11
  case yq11 => (intro wq; go_simp; try (with_reducible rfl))
  try simp only [List.getElem_toArray, List.getElem_cons_zero, List.getElem_cons_succ, Act.put, List.setIfInBounds_toArray, List.set_cons_zero, List.set_cons_succ]
  refine wpF_yield (i := 11) (v := ?vq12) rfl (by kernel_rfl) (by kernel_rfl) (fun _ _ _ h => h) (Or.inl ⟨by rfl, ?yq12⟩) ?rq12
  case yq12 => (intro wq; go_simp; try (with_reducible rfl))
  try simp only [List.getElem_toArray, List.getElem_cons_zero, List.getElem_cons_succ, Act.put, List.setIfInBounds_toArray, List.set_cons_zero, List.set_cons_succ]
  refine wpF_yield (i := 12) (v := ?vq13) rfl (by kernel_rfl) (by kernel_rfl) (fun _ _ _ h => h) (Or.inl ⟨by rfl, ?yq13⟩) ?rq13
  case yq13 => (intro wq; go_simp; try (with_reducible rfl))
  try simp only [List.getElem_toArray, List.getElem_cons_zero, List.getElem_cons_succ, Act.put, List.setIfInBounds_toArray, List.set_cons_zero, List.set_cons_succ]
  refine wpF_yield (i := 13) (v := ?vq14) rfl (by kernel_rfl) (by kernel_rfl) (fun _ _ _ h => h) (Or.inl ⟨by rfl, ?yq14⟩) ?rq14
  case yq14 => (intro wq; go_simp; try (with_reducible rfl))
  try simp only [List.getElem_toArray, List.getElem_cons_zero, List.getElem_cons_succ, Act.put, List.setIfInBounds_toArray, List.set_cons_zero, List.set_cons_succ]
  refine wpF_yield (i := 14) (v := ?vq15) rfl (by kernel_rfl) (by kernel_rfl) (fun _ _ _ h => h) (Or.inl ⟨by rfl, ?yq15⟩) ?rq15
  case yq15 => (intro wq; go_simp; try (with_reducible rfl))
  try simp only [List.getElem_toArray, List.getElem_cons_zero, List.getElem_cons_succ, Act.put, List.setIfInBounds_toArray, List.set_cons_zero, List.set_cons_succ]
  refine wpF_yield (i := 15) (v := ?vq16) rfl (by kernel_rfl) (by kernel_rfl) (fun _ _ _ h => h) (Or.inl ⟨by rfl, ?yq16⟩) ?rq16
  case yq16 => (intro wq; go_simp; try (with_reducible rfl))
  try simp only [List.getElem_toArray, List.getElem_cons_zero, List.getElem_cons_succ, Act.put, List.setIfInBounds_toArray, List.set_cons_zero, List.set_cons_succ]
  refine wpF_yield (i := 16) (v := ?vq17) rfl (by kernel_rfl) (by kernel_rfl) (fun _ _ _ h => h) (Or.inl ⟨by rfl, ?yq17⟩) ?rq17
  case yq17 => (intro wq; go_simp; try (with_reducible rfl))
  try simp only [List.getElem_toArray, List.getElem_cons_zero, List.getElem_cons_succ, Act.put, List.setIfInBounds_toArray, List.set_cons_zero, List.set_cons_succ]
  refine wpF_yield (i := 17) (v := undef) rfl (by kernel_rfl) (by kernel_rfl) (fun _ _ _ h => h) (Or.inr ⟨by rfl, rfl⟩) ?rq18
  try simp only [List.getElem_toArray, List.getElem_cons_zero, List.getElem_cons_succ, Act.put, List.setIfInBounds_toArray, List.set_cons_zero, List.set_cons_succ]
  refine wpF_yield (i := 18) (v := undef) rfl (by kernel_rfl) (by kernel_rfl) (fun _ _ _ h => h) (Or.inr ⟨by rfl, rfl⟩) ?rq19
  try simp only [List.getElem_toArray, List.getElem_cons_zero, List.getElem_cons_succ, Act.put, List.setIfInBounds_toArray, List.set_cons_zero, List.set_cons_succ]
  refine wpF_yield (i := 19) (v := undef) rfl (by kernel_rfl) (by kernel_rfl) (fun _ _ _ h => h) (Or.inr ⟨by rfl, rfl⟩) ?rq20
  try simp only [List.getElem_toArray, List.getElem_cons_zero, List.getElem_cons_succ, Act.put, List.setIfInBounds_toArray, List.set_cons_zero, List.set_cons_succ]
  refine wpF_yield (i := 20) (v := undef) rfl (by kernel_rfl) (by kernel_rfl) (fun _ _ _ h => h) (Or.inr ⟨by rfl, rfl⟩) ?rq21
  try simp only [List.getElem_toArray, List.getElem_cons_zero, List.getElem_cons_succ, Act.put, List.setIfInBounds_toArray, List.set_cons_zero, List.set_cons_succ]
  refine wpF_yield (i := 21) (v := ?vq22) rfl (by kernel_rfl) (by kernel_rfl) (fun _ _ _ h => h) (Or.inl ⟨by rfl, ?yq22⟩) ?rq22
  case yq22 => (intro wq; go_simp; try (with_reducible rfl))
  try simp only [List.getElem_toArray, List.getElem_cons_zero, List.getElem_cons_succ, Act.put, List.setIfInBounds_toArray, List.set_cons_zero, List.set_cons_succ]
  refine wpF_yield (i := 22) (v := ?vq23) rfl (by kernel_rfl) (by kernel_rfl) (fun _ _ _ h => h) (Or.inl ⟨by rfl, ?yq23⟩) ?rq23
  case yq23 => (intro wq; go_simp; try (with_reducible rfl))
  try simp only [List.getElem_toArray, List.getElem_cons_zero, List.getElem_cons_succ, Act.put, List.setIfInBounds_toArray, List.set_cons_zero, List.set_cons_succ]
  refine wpF_yield (i := 23) (v := ?vq24) rfl (by kernel_rfl) (by kernel_rfl) (fun _ _ _ h => h) (Or.inl ⟨by rfl, ?yq24⟩) ?rq24
  case yq24 => (intro wq; go_simp; try (with_reducible rfl))
  try simp only [List.getElem_toArray, List.getElem_cons_zero, List.getElem_cons_succ, Act.put, List.setIfInBounds_toArray, List.set_cons_zero, List.set_cons_succ]
  refine wpF_take (i := 24) (v := _) rfl (by kernel_rfl) (by kernel_rfl) (fun _ _ _ h => h) (LS.call lasts_true (by rfl) _ _ ?yq25 (h5.out)) ?rq25
  case yq25 => (intro wq; go_simp; try (with_reducible rfl))
  try simp only [List.getElem_toArray, List.getElem_cons_zero, List.getElem_cons_succ, Act.put, List.setIfInBounds_toArray, List.set_cons_zero, List.set_cons_succ]
  refine wpF_yield (i := 25) (v := ?vq26) rfl (by kernel_rfl) (by kernel_rfl) (fun _ _ _ h => h) (Or.inl ⟨by rfl, ?yq26⟩) ?rq26
  case yq26 => (intro wq; go_simp; try (with_reducible rfl))
  try simp only [List.getElem_toArray, List.getElem_cons_zero, List.getElem_cons_succ, Act.put, List.setIfInBounds_toArray, List.set_cons_zero, List.set_cons_succ]
  refine wpF_yield (i := 26) (v := ?vq27) rfl (by kernel_rfl) (by kernel_rfl) (fun _ _ _ h => h) (Or.inl ⟨by rfl, ?yq27⟩) ?rq27
  case yq27 => (intro wq; go_simp; try (with_reducible rfl))
  try simp only [List.getElem_toArray, List.getElem_cons_zero, List.getElem_cons_succ, Act.put, List.setIfInBounds_toArray, List.set_cons_zero, List.set_cons_succ]
  refine wpF_done (bs := []) (vs := []) (by kernel_rfl) (by kernel_rfl) rfl (fun w4 hS => ?_) _
  refine NoPanic.normal ?_
  obtain ⟨hb, _⟩ := hS.1 noBits_nil
  clear hS
  clear cX0_0 cX0_1 cX0_2 cX0_3 cX0_4 sX0
  clear cX1_0 cX1_1 cX1_2 cX1_3 cX1_4 sX1
  clear cX2_0 cX2_1 cX2_2 cX2_3 cX2_4 sX2
  clear cX3_0 cX3_1 cX3_2 cX3_3 cX3_4 sX3
  replace kk := bC kk hb
  clear hb
  go_wp2_with fail
  go_ret
  exact ⟨rfl, kk⟩

set_option maxHeartbeats 4000000 in
set_option maxRecDepth 100000 in
theorem turn17_01 (ea eb l m x0 x1 x2 x3 y0 y1 y2 y3 d0 d1 d2 d3 s0 s1 s2 s3 : Int)
    (h0 : Hid (∀ w, Calls Try.prog 11 #[.agg #[.int .i64 ea, .int .u64 x0, .int .u64 x1, .int .u64 x2, .int .u64 x3], .agg #[.int .i64 eb, .int .u64 y0, .int .u64 y1, .int .u64 y2, .int .u64 y3]] w fun e w' => e = .returned (.tuple #[.agg #[.int .i64 l, .int .u64 d0, .int .u64 d1, .int .u64 d2, .int .u64 d3], .bool false]) ∧ Below w.heap.size w w'))
    (h1 : Hid (∀ w, Calls Try.prog 11 #[.agg #[.int .i64 eb, .int .u64 y0, .int .u64 y1, .int .u64 y2, .int .u64 y3], .agg #[.int .i64 ea, .int .u64 x0, .int .u64 x1, .int .u64 x2, .int .u64 x3]] w fun e w' => e = .returned (.tuple #[.agg #[.int .i64 l, .int .u64 d0, .int .u64 d1, .int .u64 d2, .int .u64 d3], .bool true]) ∧ Below w.heap.size w w'))
    (h2 : Hid (∀ w, Calls Try.prog 12 #[.agg #[.int .i64 ea, .int .u64 x0, .int .u64 x1, .int .u64 x2, .int .u64 x3], .agg #[.int .i64 eb, .int .u64 y0, .int .u64 y1, .int .u64 y2, .int .u64 y3]] w fun e w' => e = .returned (.agg #[.int .i64 m, .int .u64 s0, .int .u64 s1, .int .u64 s2, .int .u64 s3]) ∧ Below w.heap.size w w'))
    (h3 : Hid (∀ w, Calls Try.prog 12 #[.agg #[.int .i64 eb, .int .u64 y0, .int .u64 y1, .int .u64 y2, .int .u64 y3], .agg #[.int .i64 ea, .int .u64 x0, .int .u64 x1, .int .u64 x2, .int .u64 x3]] w fun e w' => e = .returned (.agg #[.int .i64 m, .int .u64 s0, .int .u64 s1, .int .u64 s2, .int .u64 s3]) ∧ Below w.heap.size w w'))
    (h5 : Hid (∀ w, Calls Try.prog 17 #[] w fun e w' => e = .returned (.bool true) ∧ Below w.heap.size w w')) (w : World) :
    Calls Try.prog 6 #[.agg #[.int .i64 ea, .int .u64 x0, .int .u64 x1, .int .u64 x2, .int .u64 x3], .agg #[.int .i64 eb, .int .u64 y0, .int .u64 y1, .int .u64 y2, .int .u64 y3]] w fun e w' => e = .returned (.bool true) ∧ Below w.heap.size w w' := by
  have E1 := eqt17 m s0 s1 s2 s3
  have E2 := eqt17 l d0 d1 d2 d3
  go_enter Try.func6, Try.ntmps6
  go_wp2_with fail
  (with_reducible refine (h0.out _).mono ?_); rintro e w1 ⟨rfl, hb⟩
  have hz := bC (bA (bA (Below.refl _ _) _) _) hb
  have cX0_0 := cell_later hb (a := ⟨w.heap.size, 0, none⟩) (v := .int .i64 ea) (by go_simp)
  have cX0_1 := cell_later hb (a := ⟨w.heap.size, 1, none⟩) (v := .int .u64 x0) (by go_simp)
  have cX0_2 := cell_later hb (a := ⟨w.heap.size, 2, none⟩) (v := .int .u64 x1) (by go_simp)
  have cX0_3 := cell_later hb (a := ⟨w.heap.size, 3, none⟩) (v := .int .u64 x2) (by go_simp)
  have cX0_4 := cell_later hb (a := ⟨w.heap.size, 4, none⟩) (v := .int .u64 x3) (by go_simp)
  have sX0 : w.heap.size < w1.heap.size := World.block_lt_of_cell? _ _ cX0_0
  have cX1_0 := cell_later hb (a := ⟨w.heap.size + 1, 0, none⟩) (v := .int .i64 eb) (by go_simp)
  have cX1_1 := cell_later hb (a := ⟨w.heap.size + 1, 1, none⟩) (v := .int .u64 y0) (by go_simp)
  have cX1_2 := cell_later hb (a := ⟨w.heap.size + 1, 2, none⟩) (v := .int .u64 y1) (by go_simp)
  have cX1_3 := cell_later hb (a := ⟨w.heap.size + 1, 3, none⟩) (v := .int .u64 y2) (by go_simp)
  have cX1_4 := cell_later hb (a := ⟨w.heap.size + 1, 4, none⟩) (v := .int .u64 y3) (by go_simp)
  have sX1 : w.heap.size + 1 < w1.heap.size ∧ w.heap.size < w1.heap.size := by have h : w.heap.size + 1 < w1.heap.size := World.block_lt_of_cell? _ _ cX1_0; exact ⟨h, by omega⟩
  have kk := hz
  clear hb hz
  go_wp2_with fail
  (with_reducible refine (h1.out _).mono ?_); rintro e w2 ⟨rfl, hb⟩
  have hz := bC (bA (Below.refl _ _) _) hb
  replace cX0_0 := cell_later hz cX0_0; replace cX0_1 := cell_later hz cX0_1; replace cX0_2 := cell_later hz cX0_2; replace cX0_3 := cell_later hz cX0_3; replace cX0_4 := cell_later hz cX0_4
  replace sX0 : w.heap.size < w2.heap.size := World.block_lt_of_cell? _ _ cX0_0
  replace cX1_0 := cell_later hz cX1_0; replace cX1_1 := cell_later hz cX1_1; replace cX1_2 := cell_later hz cX1_2; replace cX1_3 := cell_later hz cX1_3; replace cX1_4 := cell_later hz cX1_4
  replace sX1 : w.heap.size + 1 < w2.heap.size ∧ w.heap.size < w2.heap.size := by have h : w.heap.size + 1 < w2.heap.size := World.block_lt_of_cell? _ _ cX1_0; exact ⟨h, by omega⟩
  have cX2_0 := cell_later hb (a := ⟨w1.heap.size, 0, none⟩) (v := .int .i64 l) (by go_simp)
  have cX2_1 := cell_later hb (a := ⟨w1.heap.size, 1, none⟩) (v := .int .u64 d0) (by go_simp)
  have cX2_2 := cell_later hb (a := ⟨w1.heap.size, 2, none⟩) (v := .int .u64 d1) (by go_simp)
  have cX2_3 := cell_later hb (a := ⟨w1.heap.size, 3, none⟩) (v := .int .u64 d2) (by go_simp)
  have cX2_4 := cell_later hb (a := ⟨w1.heap.size, 4, none⟩) (v := .int .u64 d3) (by go_simp)
  have sX2 : w1.heap.size < w2.heap.size := World.block_lt_of_cell? _ _ cX2_0
  replace kk := bC kk hz
  clear hb hz
  go_wp2_with fail
  refine wp_forget (fun W => W.cell? ⟨w.heap.size, 0, none⟩ = some (.int .i64 ea) ∧ W.cell? ⟨w.heap.size, 1, none⟩ = some (.int .u64 x0) ∧ W.cell? ⟨w.heap.size, 2, none⟩ = some (.int .u64 x1) ∧ W.cell? ⟨w.heap.size, 3, none⟩ = some (.int .u64 x2) ∧ W.cell? ⟨w.heap.size, 4, none⟩ = some (.int .u64 x3) ∧ W.cell? ⟨w.heap.size + 1, 0, none⟩ = some (.int .i64 eb) ∧ W.cell? ⟨w.heap.size + 1, 1, none⟩ = some (.int .u64 y0) ∧ W.cell? ⟨w.heap.size + 1, 2, none⟩ = some (.int .u64 y1) ∧ W.cell? ⟨w.heap.size + 1, 3, none⟩ = some (.int .u64 y2) ∧ W.cell? ⟨w.heap.size + 1, 4, none⟩ = some (.int .u64 y3) ∧ W.cell? ⟨w1.heap.size, 0, none⟩ = some (.int .i64 l) ∧ W.cell? ⟨w1.heap.size, 1, none⟩ = some (.int .u64 d0) ∧ W.cell? ⟨w1.heap.size, 2, none⟩ = some (.int .u64 d1) ∧ W.cell? ⟨w1.heap.size, 3, none⟩ = some (.int .u64 d2) ∧ W.cell? ⟨w1.heap.size, 4, none⟩ = some (.int .u64 d3) ∧ W.cell? ⟨w2.heap.size, 0, none⟩ = some (.int .i64 l) ∧ W.cell? ⟨w2.heap.size, 1, none⟩ = some (.int .u64 d0) ∧ W.cell? ⟨w2.heap.size, 2, none⟩ = some (.int .u64 d1) ∧ W.cell? ⟨w2.heap.size, 3, none⟩ = some (.int .u64 d2) ∧ W.cell? ⟨w2.heap.size, 4, none⟩ = some (.int .u64 d3) ∧ Below w.heap.size w W) ⟨cell_later (bA (Below.refl _ _) _) cX0_0, cell_later (bA (Below.refl _ _) _) cX0_1, cell_later (bA (Below.refl _ _) _) cX0_2, cell_later (bA (Below.refl _ _) _) cX0_3, cell_later (bA (Below.refl _ _) _) cX0_4, cell_later (bA (Below.refl _ _) _) cX1_0, cell_later (bA (Below.refl _ _) _) cX1_1, cell_later (bA (Below.refl _ _) _) cX1_2, cell_later (bA (Below.refl _ _) _) cX1_3, cell_later (bA (Below.refl _ _) _) cX1_4, cell_later (bA (Below.refl _ _) _) cX2_0, cell_later (bA (Below.refl _ _) _) cX2_1, cell_later (bA (Below.refl _ _) _) cX2_2, cell_later (bA (Below.refl _ _) _) cX2_3, cell_later (bA (Below.refl _ _) _) cX2_4, by go_simp, by go_simp, by go_simp, by go_simp, by go_simp, bC kk (bA (Below.refl _ _) _)⟩ (fun w3 hst => ?_)
  clear cX0_0 cX0_1 cX0_2 cX0_3 cX0_4 sX0 cX1_0 cX1_1 cX1_2 cX1_3 cX1_4 sX1 cX2_0 cX2_1 cX2_2 cX2_3 cX2_4 sX2 kk
  obtain ⟨cX0_0, cX0_1, cX0_2, cX0_3, cX0_4, cX1_0, cX1_1, cX1_2, cX1_3, cX1_4, cX2_0, cX2_1, cX2_2, cX2_3, cX2_4, cX3_0, cX3_1, cX3_2, cX3_3, cX3_4, kk⟩ := hst
  have sX0 : w.heap.size < w3.heap.size := World.block_lt_of_cell? _ _ cX0_0
  have sX1 : w.heap.size + 1 < w3.heap.size ∧ w.heap.size < w3.heap.size := by have h : w.heap.size + 1 < w3.heap.size := World.block_lt_of_cell? _ _ cX1_0; exact ⟨h, by omega⟩
  have sX2 : w1.heap.size < w3.heap.size := World.block_lt_of_cell? _ _ cX2_0
  have sX3 : w2.heap.size < w3.heap.size := World.block_lt_of_cell? _ _ cX3_0
  refine wp_region_noPanic ?_
  refine wp_region_F [] [] (LS w3 (fun _ _ => True) (fun _ _ _ => True)) (by kernel_rfl) (bs := []) (vs := []) (by kernel_rfl) rfl (LS.before noBits_nil (Below.refl _ _).drew trivial) ?_
  refine wpF_take (i := 0) (v := ?vq28) rfl (by kernel_rfl) (by kernel_rfl) (fun _ _ _ h => h) (LS.load (by rfl) ?yq28) ?rq28
  case yq28 => (intro wq hb; have lcX0_0 := cell_later hb cX0_0; have lcX0_1 := cell_later hb cX0_1; have lcX0_2 := cell_later hb cX0_2; have lcX0_3 := cell_later hb cX0_3; have lcX0_4 := cell_later hb cX0_4; go_simp; try (with_reducible rfl))
  try simp only [List.getElem_toArray, List.getElem_cons_zero, List.getElem_cons_succ, Act.put, List.setIfInBounds_toArray, List.set_cons_zero, List.set_cons_succ]
  refine wpF_take (i := 1) (v := ?vq29) rfl (by kernel_rfl) (by kernel_rfl) (fun _ _ _ h => h) (LS.load (by rfl) ?yq29) ?rq29
  case yq29 => (intro wq hb; have lcX1_0 := cell_later hb cX1_0; have lcX1_1 := cell_later hb cX1_1; have lcX1_2 := cell_later hb cX1_2; have lcX1_3 := cell_later hb cX1_3; have lcX1_4 := cell_later hb cX1_4; go_simp; try (with_reducible rfl))
  try simp only [List.getElem_toArray, List.getElem_cons_zero, List.getElem_cons_succ, Act.put, List.setIfInBounds_toArray, List.set_cons_zero, List.set_cons_succ]
  refine wpF_take (i := 2) (v := _) rfl (by kernel_rfl) (by kernel_rfl) (fun _ _ _ h => h) (LS.call lasts_true (by rfl) _ _ ?yq30 (h2.out)) ?rq30
  case yq30 => (intro wq; go_simp; try (with_reducible rfl))
  try simp only [List.getElem_toArray, List.getElem_cons_zero, List.getElem_cons_succ, Act.put, List.setIfInBounds_toArray, List.set_cons_zero, List.set_cons_succ]
  refine wpF_take (i := 3) (v := ?vq31) rfl (by kernel_rfl) (by kernel_rfl) (fun _ _ _ h => h) (LS.load (by rfl) ?yq31) ?rq31
  case yq31 => (intro wq hb; have lcX1_0 := cell_later hb cX1_0; have lcX1_1 := cell_later hb cX1_1; have lcX1_2 := cell_later hb cX1_2; have lcX1_3 := cell_later hb cX1_3; have lcX1_4 := cell_later hb cX1_4; go_simp; try (with_reducible rfl))
  try simp only [List.getElem_toArray, List.getElem_cons_zero, List.getElem_cons_succ, Act.put, List.setIfInBounds_toArray, List.set_cons_zero, List.set_cons_succ]
  refine wpF_take (i := 4) (v := ?vq32) rfl (by kernel_rfl) (by kernel_rfl) (fun _ _ _ h => h) (LS.load (by rfl) ?yq32) ?rq32
  case yq32 => (intro wq hb; have lcX0_0 := cell_later hb cX0_0; have lcX0_1 := cell_later hb cX0_1; have lcX0_2 := cell_later hb cX0_2; have lcX0_3 := cell_later hb cX0_3; have lcX0_4 := cell_later hb cX0_4; go_simp; try (with_reducible rfl))
  try simp only [List.getElem_toArray, List.getElem_cons_zero, List.getElem_cons_succ, Act.put, List.setIfInBounds_toArray, List.set_cons_zero, List.set_cons_succ]
  refine wpF_take (i := 5) (v := _) rfl (by kernel_rfl) (by kernel_rfl) (fun _ _ _ h => h) (LS.call lasts_true (by rfl) _ _ ?yq33 (h3.out)) ?rq33
  case yq33 => (intro wq; go_simp; try (with_reducible rfl))
  try simp only [List.getElem_toArray, List.getElem_cons_zero, List.getElem_cons_succ, Act.put, List.setIfInBounds_toArray, List.set_cons_zero, List.set_cons_succ]
  refine wpF_yield (i := 6) (v := ?vq34) rfl (by kernel_rfl) (by kernel_rfl) (fun _ _ _ h => h) (Or.inl ⟨by rfl, ?yq34⟩) ?rq34
  case yq34 => (intro wq; go_simp; try (with_reducible rfl))
  try simp only [List.getElem_toArray, List.getElem_cons_zero, List.getElem_cons_succ, Act.put, List.setIfInBounds_toArray, List.set_cons_zero, List.set_cons_succ]
  refine wpF_yield (i := 7) (v := ?vq35) rfl (by kernel_rfl) (by kernel_rfl) (fun _ _ _ h => h) (Or.inl ⟨by rfl, ?yq35⟩) ?rq35
  case yq35 => (intro wq; go_simp; try (with_reducible rfl))
  try simp only [List.getElem_toArray, List.getElem_cons_zero, List.getElem_cons_succ, Act.put, List.setIfInBounds_toArray, List.set_cons_zero, List.set_cons_succ]
  refine wpF_take (i := 8) (v := ?vq36) rfl (by kernel_rfl) (by kernel_rfl) (fun _ _ _ h => h) (LS.load (by rfl) ?yq36) ?rq36
  case yq36 => (intro wq hb; have lcX2_0 := cell_later hb cX2_0; have lcX2_1 := cell_later hb cX2_1; have lcX2_2 := cell_later hb cX2_2; have lcX2_3 := cell_later hb cX2_3; have lcX2_4 := cell_later hb cX2_4; go_simp; try (with_reducible rfl))
  try simp only [List.getElem_toArray, List.getElem_cons_zero, List.getElem_cons_succ, Act.put, List.setIfInBounds_toArray, List.set_cons_zero, List.set_cons_succ]
  refine wpF_take (i := 9) (v := ?vq37) rfl (by kernel_rfl) (by kernel_rfl) (fun _ _ _ h => h) (LS.load (by rfl) ?yq37) ?rq37
  case yq37 => (intro wq hb; have lcX3_0 := cell_later hb cX3_0; have lcX3_1 := cell_later hb cX3_1; have lcX3_2 := cell_later hb cX3_2; have lcX3_3 := cell_later hb cX3_3; have lcX3_4 := cell_later hb cX3_4; go_simp; try (with_reducible rfl))
  try simp only [List.getElem_toArray, List.getElem_cons_zero, List.getElem_cons_succ, Act.put, List.setIfInBounds_toArray, List.set_cons_zero, List.set_cons_succ]
  refine wpF_yield (i := 10) (v := ?vq38) rfl (by kernel_rfl) (by kernel_rfl) (fun _ _ _ h => h) (Or.inl ⟨by rfl, ?yq38⟩) ?rq38
  case yq38 => (intro wq; go_simp; try (with_reducible rfl))
  try simp only [List.getElem_toArray, List.getElem_cons_zero, List.getElem_cons_succ, Act.put, List.setIfInBounds_toArray, List.set_cons_zero, List.set_cons_succ]
  refine wpF_yield (i := 11) (v := ?vq39) rfl (by kernel_rfl) (by kernel_rfl) (fun _ _ _ h => h) (Or.inl ⟨by rfl, ?yq39⟩) ?rq39
  case yq39 => (intro wq; go_simp; try (with_reducible rfl))
  try simp only [List.getElem_toArray, List.getElem_cons_zero, List.getElem_cons_succ, Act.put, List.setIfInBounds_toArray, List.set_cons_zero, List.set_cons_succ]
  refine wpF_yield (i := 12) (v := ?vq40) rfl (by kernel_rfl) (by kernel_rfl) (fun _ _ _ h => h) (Or.inl ⟨by rfl, ?yq40⟩) ?rq40
  case yq40 => (intro wq; go_simp; try (with_reducible rfl))
  try simp only [List.getElem_toArray, List.getElem_cons_zero, List.getElem_cons_succ, Act.put, List.setIfInBounds_toArray, List.set_cons_zero, List.set_cons_succ]
  refine wpF_yield (i := 13) (v := ?vq41) rfl (by kernel_rfl) (by kernel_rfl) (fun _ _ _ h => h) (Or.inl ⟨by rfl, ?yq41⟩) ?rq41
  case yq41 => (intro wq; go_simp; try (with_reducible rfl))
  try simp only [List.getElem_toArray, List.getElem_cons_zero, List.getElem_cons_succ, Act.put, List.setIfInBounds_toArray, List.set_cons_zero, List.set_cons_succ]
  refine wpF_yield (i := 14) (v := ?vq42) rfl (by kernel_rfl) (by kernel_rfl) (fun _ _ _ h => h) (Or.inl ⟨by rfl, ?yq42⟩) ?rq42
  case yq42 => (intro wq; go_simp; try (with_reducible rfl))
  try simp only [List.getElem_toArray, List.getElem_cons_zero, List.getElem_cons_succ, Act.put, List.setIfInBounds_toArray, List.set_cons_zero, List.set_cons_succ]
  refine wpF_yield (i := 15) (v := ?vq43) rfl (by kernel_rfl) (by kernel_rfl) (fun _ _ _ h => h) (Or.inl ⟨by rfl, ?yq43⟩) ?rq43
  case yq43 => (intro wq; go_simp; try (with_reducible rfl))
  try simp only [List.getElem_toArray, List.getElem_cons_zero, List.getElem_cons_succ, Act.put, List.setIfInBounds_toArray, List.set_cons_zero, List.set_cons_succ]
  refine wpF_yield (i := 16) (v := ?vq44) rfl (by kernel_rfl) (by kernel_rfl) (fun _ _ _ h => h) (Or.inl ⟨by rfl, ?yq44⟩) ?rq44
  case yq44 => (intro wq; go_simp; try (with_reducible rfl))
  try simp only [List.getElem_toArray, List.getElem_cons_zero, List.getElem_cons_succ, Act.put, List.setIfInBounds_toArray, List.set_cons_zero, List.set_cons_succ]
  refine wpF_yield (i := 17) (v := undef) rfl (by kernel_rfl) (by kernel_rfl) (fun _ _ _ h => h) (Or.inr ⟨by rfl, rfl⟩) ?rq45
  try simp only [List.getElem_toArray, List.getElem_cons_zero, List.getElem_cons_succ, Act.put, List.setIfInBounds_toArray, List.set_cons_zero, List.set_cons_succ]
  refine wpF_yield (i := 18) (v := undef) rfl (by kernel_rfl) (by kernel_rfl) (fun _ _ _ h => h) (Or.inr ⟨by rfl, rfl⟩) ?rq46
  try simp only [List.getElem_toArray, List.getElem_cons_zero, List.getElem_cons_succ, Act.put, List.setIfInBounds_toArray, List.set_cons_zero, List.set_cons_succ]
  refine wpF_yield (i := 19) (v := undef) rfl (by kernel_rfl) (by kernel_rfl) (fun _ _ _ h => h) (Or.inr ⟨by rfl, rfl⟩) ?rq47
  try simp only [List.getElem_toArray, List.getElem_cons_zero, List.getElem_cons_succ, Act.put, List.setIfInBounds_toArray, List.set_cons_zero, List.set_cons_succ]
  refine wpF_yield (i := 20) (v := undef) rfl (by kernel_rfl) (by kernel_rfl) (fun _ _ _ h => h) (Or.inr ⟨by rfl, rfl⟩) ?rq48
  try simp only [List.getElem_toArray, List.getElem_cons_zero, List.getElem_cons_succ, Act.put, List.setIfInBounds_toArray, List.set_cons_zero, List.set_cons_succ]
  refine wpF_yield (i := 21) (v := ?vq49) rfl (by kernel_rfl) (by kernel_rfl) (fun _ _ _ h => h) (Or.inl ⟨by rfl, ?yq49⟩) ?rq49
  case yq49 => (intro wq; go_simp; try (with_reducible rfl))
  try simp only [List.getElem_toArray, List.getElem_cons_zero, List.getElem_cons_succ, Act.put, List.setIfInBounds_toArray, List.set_cons_zero, List.set_cons_succ]
  refine wpF_yield (i := 22) (v := ?vq50) rfl (by kernel_rfl) (by kernel_rfl) (fun _ _ _ h => h) (Or.inl ⟨by rfl, ?yq50⟩) ?rq50
  case yq50 => (intro wq; go_simp; try (with_reducible rfl))
  try simp only [List.getElem_toArray, List.getElem_cons_zero, List.getElem_cons_succ, Act.put, List.setIfInBounds_toArray, List.set_cons_zero, List.set_cons_succ]
  refine wpF_yield (i := 23) (v := ?vq51) rfl (by kernel_rfl) (by kernel_rfl) (fun _ _ _ h => h) (Or.inl ⟨by rfl, ?yq51⟩) ?rq51
  case yq51 => (intro wq; go_simp; try (with_reducible rfl))
  try simp only [List.getElem_toArray, List.getElem_cons_zero, List.getElem_cons_succ, Act.put, List.setIfInBounds_toArray, List.set_cons_zero, List.set_cons_succ]
  refine wpF_take (i := 24) (v := _) rfl (by kernel_rfl) (by kernel_rfl) (fun _ _ _ h => h) (LS.call lasts_true (by rfl) _ _ ?yq52 (h5.out)) ?rq52
  case yq52 => (intro wq; go_simp; try (with_reducible rfl))
  try simp only [List.getElem_toArray, List.getElem_cons_zero, List.getElem_cons_succ, Act.put, List.setIfInBounds_toArray, List.set_cons_zero, List.set_cons_succ]
  refine wpF_yield (i := 25) (v := ?vq53) rfl (by kernel_rfl) (by kernel_rfl) (fun _ _ _ h => h) (Or.inl ⟨by rfl, ?yq53⟩) ?rq53
  case yq53 => (intro wq; go_simp; try (with_reducible rfl))
  try simp only [List.getElem_toArray, List.getElem_cons_zero, List.getElem_cons_succ, Act.put, List.setIfInBounds_toArray, List.set_cons_zero, List.set_cons_succ]
  refine wpF_yield (i := 26) (v := ?vq54) rfl (by kernel_rfl) (by kernel_rfl) (fun _ _ _ h => h) (Or.inl ⟨by rfl, ?yq54⟩) ?rq54
  case yq54 => (intro wq; go_simp; try (with_reducible rfl))
  try simp only [List.getElem_toArray, List.getElem_cons_zero, List.getElem_cons_succ, Act.put, List.setIfInBounds_toArray, List.set_cons_zero, List.set_cons_succ]
  refine wpF_done (bs := []) (vs := []) (by kernel_rfl) (by kernel_rfl) rfl (fun w4 hS => ?_) _
  refine NoPanic.normal ?_
  obtain ⟨hb, _⟩ := hS.1 noBits_nil
  clear hS
  clear cX0_0 cX0_1 cX0_2 cX0_3 cX0_4 sX0
  clear cX1_0 cX1_1 cX1_2 cX1_3 cX1_4 sX1
  clear cX2_0 cX2_1 cX2_2 cX2_3 cX2_4 sX2
  clear cX3_0 cX3_1 cX3_2 cX3_3 cX3_4 sX3
  replace kk := bC kk hb
  clear hb
  go_wp2_with fail
  go_ret
  exact ⟨rfl, kk⟩

set_option maxHeartbeats 4000000 in
set_option maxRecDepth 100000 in
theorem turn17_00 (ea eb l m x0 x1 x2 x3 y0 y1 y2 y3 d0 d1 d2 d3 s0 s1 s2 s3 : Int)
    (h0 : Hid (∀ w, Calls Try.prog 11 #[.agg #[.int .i64 ea, .int .u64 x0, .int .u64 x1, .int .u64 x2, .int .u64 x3], .agg #[.int .i64 eb, .int .u64 y0, .int .u64 y1, .int .u64 y2, .int .u64 y3]] w fun e w' => e = .returned (.tuple #[.agg #[.int .i64 l, .int .u64 d0, .int .u64 d1, .int .u64 d2, .int .u64 d3], .bool false]) ∧ Below w.heap.size w w'))
    (h1 : Hid (∀ w, Calls Try.prog 11 #[.agg #[.int .i64 eb, .int .u64 y0, .int .u64 y1, .int .u64 y2, .int .u64 y3], .agg #[.int .i64 ea, .int .u64 x0, .int .u64 x1, .int .u64 x2, .int .u64 x3]] w fun e w' => e = .returned (.tuple #[.agg #[.int .i64 l, .int .u64 d0, .int .u64 d1, .int .u64 d2, .int .u64 d3], .bool false]) ∧ Below w.heap.size w w'))
    (h2 : Hid (∀ w, Calls Try.prog 12 #[.agg #[.int .i64 ea, .int .u64 x0, .int .u64 x1, .int .u64 x2, .int .u64 x3], .agg #[.int .i64 eb, .int .u64 y0, .int .u64 y1, .int .u64 y2, .int .u64 y3]] w fun e w' => e = .returned (.agg #[.int .i64 m, .int .u64 s0, .int .u64 s1, .int .u64 s2, .int .u64 s3]) ∧ Below w.heap.size w w'))
    (h3 : Hid (∀ w, Calls Try.prog 12 #[.agg #[.int .i64 eb, .int .u64 y0, .int .u64 y1, .int .u64 y2, .int .u64 y3], .agg #[.int .i64 ea, .int .u64 x0, .int .u64 x1, .int .u64 x2, .int .u64 x3]] w fun e w' => e = .returned (.agg #[.int .i64 m, .int .u64 s0, .int .u64 s1, .int .u64 s2, .int .u64 s3]) ∧ Below w.heap.size w w'))
    (h4 : Hid (∀ w, Calls Try.prog 13 #[.agg #[.int .i64 ea, .int .u64 x0, .int .u64 x1, .int .u64 x2, .int .u64 x3], .agg #[.int .i64 eb, .int .u64 y0, .int .u64 y1, .int .u64 y2, .int .u64 y3]] w fun e w' => e = .returned (.int .i64 0) ∧ Below w.heap.size w w'))
    (h5 : Hid (∀ w, Calls Try.prog 17 #[] w fun e w' => e = .returned (.bool true) ∧ Below w.heap.size w w')) (w : World) :
    Calls Try.prog 6 #[.agg #[.int .i64 ea, .int .u64 x0, .int .u64 x1, .int .u64 x2, .int .u64 x3], .agg #[.int .i64 eb, .int .u64 y0, .int .u64 y1, .int .u64 y2, .int .u64 y3]] w fun e w' => e = .returned (.bool true) ∧ Below w.heap.size w w' := by
  have E1 := eqt17 m s0 s1 s2 s3
  have E2 := eqt17 l d0 d1 d2 d3
  go_enter Try.func6, Try.ntmps6
  go_wp2_with fail
  (with_reducible refine (h0.out _).mono ?_); rintro e w1 ⟨rfl, hb⟩
  have hz := bC (bA (bA (Below.refl _ _) _) _) hb
  have cX0_0 := cell_later hb (a := ⟨w.heap.size, 0, none⟩) (v := .int .i64 ea) (by go_simp)
  have cX0_1 := cell_later hb (a := ⟨w.heap.size, 1, none⟩) (v := .int .u64 x0) (by go_simp)
  have cX0_2 := cell_later hb (a := ⟨w.heap.size, 2, none⟩) (v := .int .u64 x1) (by go_simp)
  have cX0_3 := cell_later hb (a := ⟨w.heap.size, 3, none⟩) (v := .int .u64 x2) (by go_simp)
  have cX0_4 := cell_later hb (a := ⟨w.heap.size, 4, none⟩) (v := .int .u64 x3) (by go_simp)
  have sX0 : w.heap.size < w1.heap.size := World.block_lt_of_cell? _ _ cX0_0
  have cX1_0 := cell_later hb (a := ⟨w.heap.size + 1, 0, none⟩) (v := .int .i64 eb) (by go_simp)
  have cX1_1 := cell_later hb (a := ⟨w.heap.size + 1, 1, none⟩) (v := .int .u64 y0) (by go_simp)
  have cX1_2 := cell_later hb (a := ⟨w.heap.size + 1, 2, none⟩) (v := .int .u64 y1) (by go_simp)
  have cX1_3 := cell_later hb (a := ⟨w.heap.size + 1, 3, none⟩) (v := .int .u64 y2) (by go_simp)
  have cX1_4 := cell_later hb (a := ⟨w.heap.size + 1, 4, none⟩) (v := .int .u64 y3) (by go_simp)
  have sX1 : w.heap.size + 1 < w1.heap.size ∧ w.heap.size < w1.heap.size := by have h : w.heap.size + 1 < w1.heap.size := World.block_lt_of_cell? _ _ cX1_0; exact ⟨h, by omega⟩
  have kk := hz
  clear hb hz
  go_wp2_with fail
  (with_reducible refine (h1.out _).mono ?_); rintro e w2 ⟨rfl, hb⟩
  have hz := bC (bA (Below.refl _ _) _) hb
  replace cX0_0 := cell_later hz cX0_0; replace cX0_1 := cell_later hz cX0_1; replace cX0_2 := cell_later hz cX0_2; replace cX0_3 := cell_later hz cX0_3; replace cX0_4 := cell_later hz cX0_4
  replace sX0 : w.heap.size < w2.heap.size := World.block_lt_of_cell? _ _ cX0_0
  replace cX1_0 := cell_later hz cX1_0; replace cX1_1 := cell_later hz cX1_1; replace cX1_2 := cell_later hz cX1_2; replace cX1_3 := cell_later hz cX1_3; replace cX1_4 := cell_later hz cX1_4
  replace sX1 : w.heap.size + 1 < w2.heap.size ∧ w.heap.size < w2.heap.size := by have h : w.heap.size + 1 < w2.heap.size := World.block_lt_of_cell? _ _ cX1_0; exact ⟨h, by omega⟩
  have cX2_0 := cell_later hb (a := ⟨w1.heap.size, 0, none⟩) (v := .int .i64 l) (by go_simp)
  have cX2_1 := cell_later hb (a := ⟨w1.heap.size, 1, none⟩) (v := .int .u64 d0) (by go_simp)
  have cX2_2 := cell_later hb (a := ⟨w1.heap.size, 2, none⟩) (v := .int .u64 d1) (by go_simp)
  have cX2_3 := cell_later hb (a := ⟨w1.heap.size, 3, none⟩) (v := .int .u64 d2) (by go_simp)
  have cX2_4 := cell_later hb (a := ⟨w1.heap.size, 4, none⟩) (v := .int .u64 d3) (by go_simp)
  have sX2 : w1.heap.size < w2.heap.size := World.block_lt_of_cell? _ _ cX2_0
  replace kk := bC kk hz
  clear hb hz
  go_wp2_with fail
  refine wp_forget (fun W => W.cell? ⟨w.heap.size, 0, none⟩ = some (.int .i64 ea) ∧ W.cell? ⟨w.heap.size, 1, none⟩ = some (.int .u64 x0) ∧ W.cell? ⟨w.heap.size, 2, none⟩ = some (.int .u64 x1) ∧ W.cell? ⟨w.heap.size, 3, none⟩ = some (.int .u64 x2) ∧ W.cell? ⟨w.heap.size, 4, none⟩ = some (.int .u64 x3) ∧ W.cell? ⟨w.heap.size + 1, 0, none⟩ = some (.int .i64 eb) ∧ W.cell? ⟨w.heap.size + 1, 1, none⟩ = some (.int .u64 y0) ∧ W.cell? ⟨w.heap.size + 1, 2, none⟩ = some (.int .u64 y1) ∧ W.cell? ⟨w.heap.size + 1, 3, none⟩ = some (.int .u64 y2) ∧ W.cell? ⟨w.heap.size + 1, 4, none⟩ = some (.int .u64 y3) ∧ W.cell? ⟨w1.heap.size, 0, none⟩ = some (.int .i64 l) ∧ W.cell? ⟨w1.heap.size, 1, none⟩ = some (.int .u64 d0) ∧ W.cell? ⟨w1.heap.size, 2, none⟩ = some (.int .u64 d1) ∧ W.cell? ⟨w1.heap.size, 3, none⟩ = some (.int .u64 d2) ∧ W.cell? ⟨w1.heap.size, 4, none⟩ = some (.int .u64 d3) ∧ W.cell? ⟨w2.heap.size, 0, none⟩ = some (.int .i64 l) ∧ W.cell? ⟨w2.heap.size, 1, none⟩ = some (.int .u64 d0) ∧ W.cell? ⟨w2.heap.size, 2, none⟩ = some (.int .u64 d1) ∧ W.cell? ⟨w2.heap.size, 3, none⟩ = some (.int .u64 d2) ∧ W.cell? ⟨w2.heap.size, 4, none⟩ = some (.int .u64 d3) ∧ Below w.heap.size w W) ⟨cell_later (bA (Below.refl _ _) _) cX0_0, cell_later (bA (Below.refl _ _) _) cX0_1, cell_later (bA (Below.refl _ _) _) cX0_2, cell_later (bA (Below.refl _ _) _) cX0_3, cell_later (bA (Below.refl _ _) _) cX0_4, cell_later (bA (Below.refl _ _) _) cX1_0, cell_later (bA (Below.refl _ _) _) cX1_1, cell_later (bA (Below.refl _ _) _) cX1_2, cell_later (bA (Below.refl _ _) _) cX1_3, cell_later (bA (Below.refl _ _) _) cX1_4, cell_later (bA (Below.refl _ _) _) cX2_0, cell_later (bA (Below.refl _ _) _) cX2_1, cell_later (bA (Below.refl _ _) _) cX2_2, cell_later (bA (Below.refl _ _) _) cX2_3, cell_later (bA (Below.refl _ _) _) cX2_4, by go_simp, by go_simp, by go_simp, by go_simp, by go_simp, bC kk (bA (Below.refl _ _) _)⟩ (fun w3 hst => ?_)
  clear cX0_0 cX0_1 cX0_2 cX0_3 cX0_4 sX0 cX1_0 cX1_1 cX1_2 cX1_3 cX1_4 sX1 cX2_0 cX2_1 cX2_2 cX2_3 cX2_4 sX2 kk
  obtain ⟨cX0_0, cX0_1, cX0_2, cX0_3, cX0_4, cX1_0, cX1_1, cX1_2, cX1_3, cX1_4, cX2_0, cX2_1, cX2_2, cX2_3, cX2_4, cX3_0, cX3_1, cX3_2, cX3_3, cX3_4, kk⟩ := hst
  have sX0 : w.heap.size < w3.heap.size := World.block_lt_of_cell? _ _ cX0_0
  have sX1 : w.heap.size + 1 < w3.heap.size ∧ w.heap.size < w3.heap.size := by have h : w.heap.size + 1 < w3.heap.size := World.block_lt_of_cell? _ _ cX1_0; exact ⟨h, by omega⟩
  have sX2 : w1.heap.size < w3.heap.size := World.block_lt_of_cell? _ _ cX2_0
  have sX3 : w2.heap.size < w3.heap.size := World.block_lt_of_cell? _ _ cX3_0
  refine wp_region_noPanic ?_
  refine wp_region_F [] [] (LS w3 (fun _ _ => True) (fun _ _ _ => True)) (by kernel_rfl) (bs := []) (vs := []) (by kernel_rfl) rfl (LS.before noBits_nil (Below.refl _ _).drew trivial) ?_
  refine wpF_take (i := 0) (v := ?vq55) rfl (by kernel_rfl) (by kernel_rfl) (fun _ _ _ h => h) (LS.load (by rfl) ?yq55) ?rq55
  case yq55 => (intro wq hb; have lcX0_0 := cell_later hb cX0_0; have lcX0_1 := cell_later hb cX0_1; have lcX0_2 := cell_later hb cX0_2; have lcX0_3 := cell_later hb cX0_3; have lcX0_4 := cell_later hb cX0_4; go_simp; try (with_reducible rfl))
  try simp only [List.getElem_toArray, List.getElem_cons_zero, List.getElem_cons_succ, Act.put, List.setIfInBounds_toArray, List.set_cons_zero, List.set_cons_succ]
  refine wpF_take (i := 1) (v := ?vq56) rfl (by kernel_rfl) (by kernel_rfl) (fun _ _ _ h => h) (LS.load (by rfl) ?yq56) ?rq56
  case yq56 => (intro wq hb; have lcX1_0 := cell_later hb cX1_0; have lcX1_1 := cell_later hb cX1_1; have lcX1_2 := cell_later hb cX1_2; have lcX1_3 := cell_later hb cX1_3; have lcX1_4 := cell_later hb cX1_4; go_simp; try (with_reducible rfl))
  try simp only [List.getElem_toArray, List.getElem_cons_zero, List.getElem_cons_succ, Act.put, List.setIfInBounds_toArray, List.set_cons_zero, List.set_cons_succ]
  refine wpF_take (i := 2) (v := _) rfl (by kernel_rfl) (by kernel_rfl) (fun _ _ _ h => h) (LS.call lasts_true (by rfl) _ _ ?yq57 (h2.out)) ?rq57
  case yq57 => (intro wq; go_simp; try (with_reducible rfl))
  try simp only [List.getElem_toArray, List.getElem_cons_zero, List.getElem_cons_succ, Act.put, List.setIfInBounds_toArray, List.set_cons_zero, List.set_cons_succ]
  refine wpF_take (i := 3) (v := ?vq58) rfl (by kernel_rfl) (by kernel_rfl) (fun _ _ _ h => h) (LS.load (by rfl) ?yq58) ?rq58
  case yq58 => (intro wq hb; have lcX1_0 := cell_later hb cX1_0; have lcX1_1 := cell_later hb cX1_1; have lcX1_2 := cell_later hb cX1_2; have lcX1_3 := cell_later hb cX1_3; have lcX1_4 := cell_later hb cX1_4; go_simp; try (with_reducible rfl))
  try simp only [List.getElem_toArray, List.getElem_cons_zero, List.getElem_cons_succ, Act.put, List.setIfInBounds_toArray, List.set_cons_zero, List.set_cons_succ]
  refine wpF_take (i := 4) (v := ?vq59) rfl (by kernel_rfl) (by kernel_rfl) (fun _ _ _ h => h) (LS.load (by rfl) ?yq59) ?rq59
  case yq59 => (intro wq hb; have lcX0_0 := cell_later hb cX0_0; have lcX0_1 := cell_later hb cX0_1; have lcX0_2 := cell_later hb cX0_2; have lcX0_3 := cell_later hb cX0_3; have lcX0_4 := cell_later hb cX0_4; go_simp; try (with_reducible rfl))
  try simp only [List.getElem_toArray, List.getElem_cons_zero, List.getElem_cons_succ, Act.put, List.setIfInBounds_toArray, List.set_cons_zero, List.set_cons_succ]
  refine wpF_take (i := 5) (v := _) rfl (by kernel_rfl) (by kernel_rfl) (fun _ _ _ h => h) (LS.call lasts_true (by rfl) _ _ ?yq60 (h3.out)) ?rq60
  case yq60 => (intro wq; go_simp; try (with_reducible rfl))
  try simp only [List.getElem_toArray, List.getElem_cons_zero, List.getElem_cons_succ, Act.put, List.setIfInBounds_toArray, List.set_cons_zero, List.set_cons_succ]
  refine wpF_yield (i := 6) (v := ?vq61) rfl (by kernel_rfl) (by kernel_rfl) (fun _ _ _ h => h) (Or.inl ⟨by rfl, ?yq61⟩) ?rq61
  case yq61 => (intro wq; go_simp; try (with_reducible rfl))
  try simp only [List.getElem_toArray, List.getElem_cons_zero, List.getElem_cons_succ, Act.put, List.setIfInBounds_toArray, List.set_cons_zero, List.set_cons_succ]
  refine wpF_yield (i := 7) (v := ?vq62) rfl (by kernel_rfl) (by kernel_rfl) (fun _ _ _ h => h) (Or.inl ⟨by rfl, ?yq62⟩) ?rq62
  case yq62 => (intro wq; go_simp; try (with_reducible rfl))
  try simp only [List.getElem_toArray, List.getElem_cons_zero, List.getElem_cons_succ, Act.put, List.setIfInBounds_toArray, List.set_cons_zero, List.set_cons_succ]
  refine wpF_take (i := 8) (v := ?vq63) rfl (by kernel_rfl) (by kernel_rfl) (fun _ _ _ h => h) (LS.load (by rfl) ?yq63) ?rq63
  case yq63 => (intro wq hb; have lcX2_0 := cell_later hb cX2_0; have lcX2_1 := cell_later hb cX2_1; have lcX2_2 := cell_later hb cX2_2; have lcX2_3 := cell_later hb cX2_3; have lcX2_4 := cell_later hb cX2_4; go_simp; try (with_reducible rfl))
  try simp only [List.getElem_toArray, List.getElem_cons_zero, List.getElem_cons_succ, Act.put, List.setIfInBounds_toArray, List.set_cons_zero, List.set_cons_succ]
  refine wpF_take (i := 9) (v := ?vq64) rfl (by kernel_rfl) (by kernel_rfl) (fun _ _ _ h => h) (LS.load (by rfl) ?yq64) ?rq64
  case yq64 => (intro wq hb; have lcX3_0 := cell_later hb cX3_0; have lcX3_1 := cell_later hb cX3_1; have lcX3_2 := cell_later hb cX3_2; have lcX3_3 := cell_later hb cX3_3; have lcX3_4 := cell_later hb cX3_4; go_simp; try (with_reducible rfl))
  try simp only [List.getElem_toArray, List.getElem_cons_zero, List.getElem_cons_succ, Act.put, List.setIfInBounds_toArray, List.set_cons_zero, List.set_cons_succ]
  refine wpF_yield (i := 10) (v := ?vq65) rfl (by kernel_rfl) (by kernel_rfl) (fun _ _ _ h => h) (Or.inl ⟨by rfl, ?yq65⟩) ?rq65
  case yq65 => (intro wq; go_simp; try (with_reducible rfl))
  try simp only [List.getElem_toArray, List.getElem_cons_zero, List.getElem_cons_succ, Act.put, List.setIfInBounds_toArray, List.set_cons_zero, List.set_cons_succ]
  refine wpF_yield (i := 11) (v := ?vq66) rfl (by kernel_rfl) (by kernel_rfl) (fun _ _ _ h => h) (Or.inl ⟨by rfl, ?yq66⟩) ?rq66
  case yq66 => (intro wq; go_simp; try (with_reducible rfl))
  try simp only [List.getElem_toArray, List.getElem_cons_zero, List.getElem_cons_succ, Act.put, List.setIfInBounds_toArray, List.set_cons_zero, List.set_cons_succ]
  refine wpF_yield (i := 12) (v := ?vq67) rfl (by kernel_rfl) (by kernel_rfl) (fun _ _ _ h => h) (Or.inl ⟨by rfl, ?yq67⟩) ?rq67
  case yq67 => (intro wq; go_simp; try (with_reducible rfl))
  try simp only [List.getElem_toArray, List.getElem_cons_zero, List.getElem_cons_succ, Act.put, List.setIfInBounds_toArray, List.set_cons_zero, List.set_cons_succ]
  refine wpF_yield (i := 13) (v := ?vq68) rfl (by kernel_rfl) (by kernel_rfl) (fun _ _ _ h => h) (Or.inl ⟨by rfl, ?yq68⟩) ?rq68
  case yq68 => (intro wq; go_simp; try (with_reducible rfl))
  try simp only [List.getElem_toArray, List.getElem_cons_zero, List.getElem_cons_succ, Act.put, List.setIfInBounds_toArray, List.set_cons_zero, List.set_cons_succ]
  refine wpF_yield (i := 14) (v := ?vq69) rfl (by kernel_rfl) (by kernel_rfl) (fun _ _ _ h => h) (Or.inl ⟨by rfl, ?yq69⟩) ?rq69
  case yq69 => (intro wq; go_simp; try (with_reducible rfl))
  try simp only [List.getElem_toArray, List.getElem_cons_zero, List.getElem_cons_succ, Act.put, List.setIfInBounds_toArray, List.set_cons_zero, List.set_cons_succ]
  refine wpF_yield (i := 15) (v := ?vq70) rfl (by kernel_rfl) (by kernel_rfl) (fun _ _ _ h => h) (Or.inl ⟨by rfl, ?yq70⟩) ?rq70
  case yq70 => (intro wq; go_simp; try (with_reducible rfl))
  try simp only [List.getElem_toArray, List.getElem_cons_zero, List.getElem_cons_succ, Act.put, List.setIfInBounds_toArray, List.set_cons_zero, List.set_cons_succ]
  refine wpF_yield (i := 16) (v := ?vq71) rfl (by kernel_rfl) (by kernel_rfl) (fun _ _ _ h => h) (Or.inl ⟨by rfl, ?yq71⟩) ?rq71
  case yq71 => (intro wq; go_simp; try (with_reducible rfl))
  try simp only [List.getElem_toArray, List.getElem_cons_zero, List.getElem_cons_succ, Act.put, List.setIfInBounds_toArray, List.set_cons_zero, List.set_cons_succ]
  refine wpF_take (i := 17) (v := ?vq72) rfl (by kernel_rfl) (by kernel_rfl) (fun _ _ _ h => h) (LS.load (by rfl) ?yq72) ?rq72
  case yq72 => (intro wq hb; have lcX0_0 := cell_later hb cX0_0; have lcX0_1 := cell_later hb cX0_1; have lcX0_2 := cell_later hb cX0_2; have lcX0_3 := cell_later hb cX0_3; have lcX0_4 := cell_later hb cX0_4; go_simp; try (with_reducible rfl))
  try simp only [List.getElem_toArray, List.getElem_cons_zero, List.getElem_cons_succ, Act.put, List.setIfInBounds_toArray, List.set_cons_zero, List.set_cons_succ]
  refine wpF_take (i := 18) (v := ?vq73) rfl (by kernel_rfl) (by kernel_rfl) (fun _ _ _ h => h) (LS.load (by rfl) ?yq73) ?rq73
  case yq73 => (intro wq hb; have lcX1_0 := cell_later hb cX1_0; have lcX1_1 := cell_later hb cX1_1; have lcX1_2 := cell_later hb cX1_2; have lcX1_3 := cell_later hb cX1_3; have lcX1_4 := cell_later hb cX1_4; go_simp; try (with_reducible rfl))
  try simp only [List.getElem_toArray, List.getElem_cons_zero, List.getElem_cons_succ, Act.put, List.setIfInBounds_toArray, List.set_cons_zero, List.set_cons_succ]
  refine wpF_take (i := 19) (v := _) rfl (by kernel_rfl) (by kernel_rfl) (fun _ _ _ h => h) (LS.call lasts_true (by rfl) _ _ ?yq74 (h4.out)) ?rq74
  case yq74 => (intro wq; go_simp; try (with_reducible rfl))
  try simp only [List.getElem_toArray, List.getElem_cons_zero, List.getElem_cons_succ, Act.put, List.setIfInBounds_toArray, List.set_cons_zero, List.set_cons_succ]
  refine wpF_yield (i := 20) (v := ?vq75) rfl (by kernel_rfl) (by kernel_rfl) (fun _ _ _ h => h) (Or.inl ⟨by rfl, ?yq75⟩) ?rq75
  case yq75 => (intro wq; go_simp; try (with_reducible rfl))
  try simp only [List.getElem_toArray, List.getElem_cons_zero, List.getElem_cons_succ, Act.put, List.setIfInBounds_toArray, List.set_cons_zero, List.set_cons_succ]
  refine wpF_yield (i := 21) (v := ?vq76) rfl (by kernel_rfl) (by kernel_rfl) (fun _ _ _ h => h) (Or.inl ⟨by rfl, ?yq76⟩) ?rq76
  case yq76 => (intro wq; go_simp; try (with_reducible rfl))
  try simp only [List.getElem_toArray, List.getElem_cons_zero, List.getElem_cons_succ, Act.put, List.setIfInBounds_toArray, List.set_cons_zero, List.set_cons_succ]
  refine wpF_yield (i := 22) (v := ?vq77) rfl (by kernel_rfl) (by kernel_rfl) (fun _ _ _ h => h) (Or.inl ⟨by rfl, ?yq77⟩) ?rq77
  case yq77 => (intro wq; go_simp; try (with_reducible rfl))
  try simp only [List.getElem_toArray, List.getElem_cons_zero, List.getElem_cons_succ, Act.put, List.setIfInBounds_toArray, List.set_cons_zero, List.set_cons_succ]
  refine wpF_yield (i := 23) (v := ?vq78) rfl (by kernel_rfl) (by kernel_rfl) (fun _ _ _ h => h) (Or.inl ⟨by rfl, ?yq78⟩) ?rq78
  case yq78 => (intro wq; go_simp; try (with_reducible rfl))
  try simp only [List.getElem_toArray, List.getElem_cons_zero, List.getElem_cons_succ, Act.put, List.setIfInBounds_toArray, List.set_cons_zero, List.set_cons_succ]
  refine wpF_take (i := 24) (v := _) rfl (by kernel_rfl) (by kernel_rfl) (fun _ _ _ h => h) (LS.call lasts_true (by rfl) _ _ ?yq79 (h5.out)) ?rq79
  case yq79 => (intro wq; go_simp; try (with_reducible rfl))
  try simp only [List.getElem_toArray, List.getElem_cons_zero, List.getElem_cons_succ, Act.put, List.setIfInBounds_toArray, List.set_cons_zero, List.set_cons_succ]
  refine wpF_yield (i := 25) (v := ?vq80) rfl (by kernel_rfl) (by kernel_rfl) (fun _ _ _ h => h) (Or.inl ⟨by rfl, ?yq80⟩) ?rq80
  case yq80 => (intro wq; go_simp; try (with_reducible rfl))
  try simp only [List.getElem_toArray, List.getElem_cons_zero, List.getElem_cons_succ, Act.put, List.setIfInBounds_toArray, List.set_cons_zero, List.set_cons_succ]
  refine wpF_yield (i := 26) (v := ?vq81) rfl (by kernel_rfl) (by kernel_rfl) (fun _ _ _ h => h) (Or.inl ⟨by rfl, ?yq81⟩) ?rq81
  case yq81 => (intro wq; go_simp; try (with_reducible rfl))
  try simp only [List.getElem_toArray, List.getElem_cons_zero, List.getElem_cons_succ, Act.put, List.setIfInBounds_toArray, List.set_cons_zero, List.set_cons_succ]
  refine wpF_done (bs := []) (vs := []) (by kernel_rfl) (by kernel_rfl) rfl (fun w4 hS => ?_) _
  refine NoPanic.normal ?_
  obtain ⟨hb, _⟩ := hS.1 noBits_nil
  clear hS
  clear cX0_0 cX0_1 cX0_2 cX0_3 cX0_4 sX0
  clear cX1_0 cX1_1 cX1_2 cX1_3 cX1_4 sX1
  clear cX2_0 cX2_1 cX2_2 cX2_3 cX2_4 sX2
  clear cX3_0 cX3_1 cX3_2 cX3_3 cX3_4 sX3
  replace kk := bC kk hb
  clear hb
  go_wp2_with fail
  go_ret
  exact ⟨rfl, kk⟩



end Go.Proofs.Ytamigjdankkmjaa
