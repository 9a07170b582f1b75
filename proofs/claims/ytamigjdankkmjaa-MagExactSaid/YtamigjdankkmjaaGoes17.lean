/-
  The walk of the example that every statement of stage 17 asks.
-/
import Derived.ChangeKeysEq
import Derived.Test.YtamigjdankkmjaaMag17M
import Derived.Test.YtamigjdankkmjaaGaB
import Derived.Test.YtamigjdankkmjaaGhA
import Derived.Test.YtamigjdankkmjaaGaA
set_option linter.unusedVariables false
set_option linter.unusedSimpArgs false
set_option maxRecDepth 100000
namespace Go.Proofs.Ytamigjdankkmjaa
open Go.RowKit
attribute [local go_sem ↓] Go.wp_at_zero Go.wp_at_succ

theorem eqw_in (a0 a1 a2 a3 : Int) (w : World) : (Op.equalIn 9999 24 (.agg #[.int .u64 a0, .int .u64 a1, .int .u64 a2, .int .u64 a3]) (.agg #[.int .u64 a0, .int .u64 a1, .int .u64 a2, .int .u64 a3])).run Try.prog w = .ok true w := by
  have hi0 : (Try.prog.info? 22).isSome = true := by kernel_rfl
  obtain ⟨i, hi⟩ := Option.isSome_iff_exists.1 hi0
  have hc : Try.prog.cellsOf 22 = 1 := by kernel_rfl
  rw [run_equalIn_array _ 9998 _ _ Try.underlying24 hi, hc]
  rw [show List.range 4 = [0, 1, 2, 3] from rfl]
  simp [Op.eqItems, go_sem]
/-- Equal terms. -/
theorem eqt17 (em a0 a1 a2 a3 : Int) (w : World) : (binOp .eql 26 (.agg #[.int .i64 em, .int .u64 a0, .int .u64 a1, .int .u64 a2, .int .u64 a3]) (.agg #[.int .i64 em, .int .u64 a0, .int .u64 a1, .int .u64 a2, .int .u64 a3])).run Try.prog w = .ok (.bool true) w := by
  have h := eqw_in a0 a1 a2 a3
  go_simp
theorem eqw17 (a0 a1 a2 a3 : Int) (w : World) : (binOp .eql 24 (.agg #[.int .u64 a0, .int .u64 a1, .int .u64 a2, .int .u64 a3]) (.agg #[.int .u64 a0, .int .u64 a1, .int .u64 a2, .int .u64 a3])).run Try.prog w = .ok (.bool true) w := by
  rw [eql_wide]; simp

set_option maxHeartbeats 4000000 in
set_option maxRecDepth 100000 in
theorem one17 
     (w : World) :
    Calls Try.prog 26 #[] w fun e w' => e = .returned (.agg #[.int .i64 0, .int .u64 0, .int .u64 0, .int .u64 0, .int .u64 9223372036854775808]) ∧ Below w.heap.size w w' := by
  go_enter Try.func26, Try.ntmps26
  go_wp2_with fail
  refine bodyPost_ret (v := .agg #[.int .i64 0, .int .u64 0, .int .u64 0, .int .u64 0, .int .u64 9223372036854775808]) (by simp [results, Try.results26, go_sem]) rfl ⟨rfl, (bA (Below.refl _ _) _)⟩

set_option maxHeartbeats 4000000 in
set_option maxRecDepth 100000 in
theorem goes17_core 
    (h0 : Hid (∀ w, Calls Try.prog 26 #[] w fun e w' => e = .returned (.agg #[.int .i64 0, .int .u64 0, .int .u64 0, .int .u64 0, .int .u64 9223372036854775808]) ∧ Below w.heap.size w w'))
    (h2 : Hid (∀ w, Calls Try.prog 11 #[.agg #[.int .i64 0, .int .u64 0, .int .u64 0, .int .u64 0, .int .u64 9223372036854775808], .agg #[.int .i64 0, .int .u64 0, .int .u64 0, .int .u64 0, .int .u64 9223372036854775808]] w fun e w' => e = .returned (.tuple #[.agg #[.int .i64 0, .int .u64 0, .int .u64 0, .int .u64 0, .int .u64 0], .bool false]) ∧ Below w.heap.size w w'))
    (h5 : Hid (∀ w, Calls Try.prog 12 #[.agg #[.int .i64 0, .int .u64 0, .int .u64 0, .int .u64 0, .int .u64 9223372036854775808], .agg #[.int .i64 (-300), .int .u64 0, .int .u64 0, .int .u64 0, .int .u64 9223372036854775808]] w fun e w' => e = .returned (.agg #[.int .i64 1, .int .u64 1, .int .u64 0, .int .u64 0, .int .u64 4611686018427387904]) ∧ Below w.heap.size w w'))
    (h8 : Hid (∀ w, Calls Try.prog 12 #[.agg #[.int .i64 0, .int .u64 0, .int .u64 0, .int .u64 0, .int .u64 9223372036854775808], .agg #[.int .i64 0, .int .u64 0, .int .u64 0, .int .u64 0, .int .u64 9223372036854775808]] w fun e w' => e = .returned (.agg #[.int .i64 1, .int .u64 0, .int .u64 0, .int .u64 0, .int .u64 9223372036854775808]) ∧ Below w.heap.size w w'))
    (h11 : Hid (∀ w, Calls Try.prog 13 #[.agg #[.int .i64 0, .int .u64 0, .int .u64 0, .int .u64 0, .int .u64 9223372036854775808], .agg #[.int .i64 (-300), .int .u64 0, .int .u64 0, .int .u64 0, .int .u64 9223372036854775808]] w fun e w' => e = .returned (.int .i64 1) ∧ Below w.heap.size w w')) (w : World) :
    Calls Try.prog 17 #[] w fun e w' => e = .returned (.bool true) ∧ Below w.heap.size w w' := by
  have E1 := eqt17 1 0 0 0 9223372036854775808
  have E2 := eqt17 0 0 0 0 0
  have E3 := eqt17 1 1 0 0 4611686018427387904
  go_enter Try.func17, Try.ntmps17
  go_wp2_with fail
  (with_reducible refine (h0.out _).mono ?_); rintro e w1 ⟨rfl, hb⟩
  have kk := hb
  clear hb
  go_wp2_with fail
  (with_reducible refine (h0.out _).mono ?_); rintro e w2 ⟨rfl, hb⟩
  replace kk := bC kk hb
  clear hb
  go_wp2_with fail
  (with_reducible refine (h2.out _).mono ?_); rintro e w3 ⟨rfl, hb⟩
  replace kk := bC kk hb
  clear hb
  go_wp2_with fail
  (with_reducible refine (h0.out _).mono ?_); rintro e w4 ⟨rfl, hb⟩
  have hz := bC (bA (Below.refl _ _) _) hb
  have cX0_0 := cell_later hb (a := ⟨w3.heap.size, 0, none⟩) (v := .int .i64 0) (by go_simp)
  have cX0_1 := cell_later hb (a := ⟨w3.heap.size, 1, none⟩) (v := .int .u64 0) (by go_simp)
  have cX0_2 := cell_later hb (a := ⟨w3.heap.size, 2, none⟩) (v := .int .u64 0) (by go_simp)
  have cX0_3 := cell_later hb (a := ⟨w3.heap.size, 3, none⟩) (v := .int .u64 0) (by go_simp)
  have cX0_4 := cell_later hb (a := ⟨w3.heap.size, 4, none⟩) (v := .int .u64 0) (by go_simp)
  have sX0 : w3.heap.size < w4.heap.size := World.block_lt_of_cell? _ _ cX0_0
  replace kk := bC kk hz
  clear hb hz
  go_wp2_with fail
  refine wp_forget (fun W => W.cell? ⟨w3.heap.size, 0, none⟩ = some (.int .i64 0) ∧ W.cell? ⟨w3.heap.size, 1, none⟩ = some (.int .u64 0) ∧ W.cell? ⟨w3.heap.size, 2, none⟩ = some (.int .u64 0) ∧ W.cell? ⟨w3.heap.size, 3, none⟩ = some (.int .u64 0) ∧ W.cell? ⟨w3.heap.size, 4, none⟩ = some (.int .u64 0) ∧ W.cell? ⟨w4.heap.size, 0, none⟩ = some (.int .i64 (-300)) ∧ W.cell? ⟨w4.heap.size, 1, none⟩ = some (.int .u64 0) ∧ W.cell? ⟨w4.heap.size, 2, none⟩ = some (.int .u64 0) ∧ W.cell? ⟨w4.heap.size, 3, none⟩ = some (.int .u64 0) ∧ W.cell? ⟨w4.heap.size, 4, none⟩ = some (.int .u64 9223372036854775808) ∧ Below w.heap.size w W) ⟨cell_later (bA (Below.refl _ _) _) cX0_0, cell_later (bA (Below.refl _ _) _) cX0_1, cell_later (bA (Below.refl _ _) _) cX0_2, cell_later (bA (Below.refl _ _) _) cX0_3, cell_later (bA (Below.refl _ _) _) cX0_4, by go_simp, by go_simp, by go_simp, by go_simp, by go_simp, bC kk (bA (Below.refl _ _) _)⟩ (fun w5 hst => ?_)
  clear cX0_0 cX0_1 cX0_2 cX0_3 cX0_4 sX0 kk
  obtain ⟨cX0_0, cX0_1, cX0_2, cX0_3, cX0_4, cX1_0, cX1_1, cX1_2, cX1_3, cX1_4, kk⟩ := hst
  have sX0 : w3.heap.size < w5.heap.size := World.block_lt_of_cell? _ _ cX0_0
  have sX1 : w4.heap.size < w5.heap.size := World.block_lt_of_cell? _ _ cX1_0
  clear sX0
  clear sX1
  refine wp_region_noPanic ?_
  refine wp_region_held_drew (S := fun w' => w'.cell? ⟨w4.heap.size, 0, none⟩ = some (.int .i64 (-300)) ∧ w'.cell? ⟨w4.heap.size, 1, none⟩ = some (.int .u64 0) ∧ w'.cell? ⟨w4.heap.size, 2, none⟩ = some (.int .u64 0) ∧ w'.cell? ⟨w4.heap.size, 3, none⟩ = some (.int .u64 0) ∧ w'.cell? ⟨w4.heap.size, 4, none⟩ = some (.int .u64 9223372036854775808) ∧ True) (by kernel_rfl) ⟨cell_later (Below.refl _ _).drew cX1_0, cell_later (Below.refl _ _).drew cX1_1, cell_later (Below.refl _ _).drew cX1_2, cell_later (Below.refl _ _).drew cX1_3, cell_later (Below.refl _ _).drew cX1_4, trivial⟩ (fun hHeld => ?_)
  replace cX0_0 := cell_later (Below.refl _ _).drew cX0_0; replace cX0_1 := cell_later (Below.refl _ _).drew cX0_1; replace cX0_2 := cell_later (Below.refl _ _).drew cX0_2; replace cX0_3 := cell_later (Below.refl _ _).drew cX0_3; replace cX0_4 := cell_later (Below.refl _ _).drew cX0_4
  replace cX1_0 := cell_later (Below.refl _ _).drew cX1_0; replace cX1_1 := cell_later (Below.refl _ _).drew cX1_1; replace cX1_2 := cell_later (Below.refl _ _).drew cX1_2; replace cX1_3 := cell_later (Below.refl _ _).drew cX1_3; replace cX1_4 := cell_later (Below.refl _ _).drew cX1_4
  replace kk := bC kk (Below.refl _ _).drew
  generalize World.drew _ = w6 at *
  refine wpAnyH_take (i := 1) (v := ?vq1) rfl (by kernel_rfl) (by kernel_rfl) (by kernel_rfl) (fun _ _ _ h => h) (Or.inl ⟨by rfl, ?yq1⟩) hHeld ?rq1
  case yq1 => (intro wq hb; obtain ⟨lq0, lq1, lq2, lq3, lq4, _⟩ := hb; go_simp; try (with_reducible rfl))
  try simp only [List.getElem_toArray, List.getElem_cons_zero, List.getElem_cons_succ, Act.put, List.setIfInBounds_toArray, List.set_cons_zero, List.set_cons_succ]
  clear hHeld
  refine wpAnyH_ready (rs := [0, 3]) (by kernel_rfl) (by simp) ?_
  refine AllReadyH.cons rfl (fun K hK => ?_) (AllReadyH.cons rfl (fun K hK => ?_) AllReadyH.nil)
  go_simp
  (with_reducible refine (h0.out _).mono ?_); rintro e w7 ⟨rfl, hb⟩
  replace cX0_0 := cell_later hb cX0_0; replace cX0_1 := cell_later hb cX0_1; replace cX0_2 := cell_later hb cX0_2; replace cX0_3 := cell_later hb cX0_3; replace cX0_4 := cell_later hb cX0_4
  replace cX1_0 := cell_later hb cX1_0; replace cX1_1 := cell_later hb cX1_1; replace cX1_2 := cell_later hb cX1_2; replace cX1_3 := cell_later hb cX1_3; replace cX1_4 := cell_later hb cX1_4
  replace kk := bC kk hb
  clear hb
  refine hK.out _ _ ⟨cX1_0, cX1_1, cX1_2, cX1_3, cX1_4, trivial⟩ (fun hHeld => ?_)
  clear hK K
  try simp only [List.getElem_toArray, List.getElem_cons_zero, List.getElem_cons_succ, Act.put, List.setIfInBounds_toArray, List.set_cons_zero, List.set_cons_succ]
  clear w6
  clear hHeld
  refine wpAnyH_ready (rs := [2, 3]) (by kernel_rfl) (by simp) ?_
  refine AllReadyH.cons rfl (fun K hK => ?_) (AllReadyH.cons rfl (fun K hK => ?_) AllReadyH.nil)
  go_simp
  (with_reducible refine (h5.out _).mono ?_); rintro e w8 ⟨rfl, hb⟩
  replace cX0_0 := cell_later hb cX0_0; replace cX0_1 := cell_later hb cX0_1; replace cX0_2 := cell_later hb cX0_2; replace cX0_3 := cell_later hb cX0_3; replace cX0_4 := cell_later hb cX0_4
  replace cX1_0 := cell_later hb cX1_0; replace cX1_1 := cell_later hb cX1_1; replace cX1_2 := cell_later hb cX1_2; replace cX1_3 := cell_later hb cX1_3; replace cX1_4 := cell_later hb cX1_4
  replace kk := bC kk hb
  clear hb
  refine hK.out _ _ ⟨cX1_0, cX1_1, cX1_2, cX1_3, cX1_4, trivial⟩ (fun hHeld => ?_)
  clear hK K
  try simp only [List.getElem_toArray, List.getElem_cons_zero, List.getElem_cons_succ, Act.put, List.setIfInBounds_toArray, List.set_cons_zero, List.set_cons_succ]
  clear w7
  clear hHeld
  refine wpAnyH_ready (rs := [3]) (by kernel_rfl) (by simp) ?_
  refine AllReadyH.cons rfl (fun K hK => ?_) AllReadyH.nil
  go_simp
  have nX0_X2 : w3.heap.size < w8.heap.size := World.block_lt_of_cell? _ _ cX0_0
  have nX1_X2 : w4.heap.size < w8.heap.size := World.block_lt_of_cell? _ _ cX1_0
  have gX2 : w.heap.size ≤ w8.heap.size := kk.size
  have ha := bA (Below.refl _ w8) (.cells #[.int .i64 0, .int .u64 0, .int .u64 0, .int .u64 0, .int .u64 0] 26)
  have hx := HB.new w8 26 #[.int .i64 0, .int .u64 0, .int .u64 0, .int .u64 0, .int .u64 0]
  replace cX0_0 := cell_later ha cX0_0; replace cX0_1 := cell_later ha cX0_1; replace cX0_2 := cell_later ha cX0_2; replace cX0_3 := cell_later ha cX0_3; replace cX0_4 := cell_later ha cX0_4
  replace cX1_0 := cell_later ha cX1_0; replace cX1_1 := cell_later ha cX1_1; replace cX1_2 := cell_later ha cX1_2; replace cX1_3 := cell_later ha cX1_3; replace cX1_4 := cell_later ha cX1_4
  replace kk := bC kk ha
  have cX2_0 := hx.cell 0; have fX2_0 := hx.frozen 0; have cX2_1 := hx.cell 1; have fX2_1 := hx.frozen 1; have cX2_2 := hx.cell 2; have fX2_2 := hx.frozen 2; have cX2_3 := hx.cell 3; have fX2_3 := hx.frozen 3; have cX2_4 := hx.cell 4; have fX2_4 := hx.frozen 4; dsimp at cX2_0 cX2_1 cX2_2 cX2_3 cX2_4
  clear ha hx
  refine hK.out _ _ ⟨cX1_0, cX1_1, cX1_2, cX1_3, cX1_4, trivial⟩ (fun hHeld => ?_)
  clear hK K
  generalize w8.alloc (.cells #[.int .i64 0, .int .u64 0, .int .u64 0, .int .u64 0, .int .u64 0] 26) = w9 at *
  generalize w8.heap.size = pp5 at *
  try simp only [List.getElem_toArray, List.getElem_cons_zero, List.getElem_cons_succ, Act.put, List.setIfInBounds_toArray, List.set_cons_zero, List.set_cons_succ]
  clear w8
  clear hHeld
  refine wpAnyH_ready (rs := [4]) (by kernel_rfl) (by simp) ?_
  refine AllReadyH.cons rfl (fun K hK => ?_) AllReadyH.nil
  go_simp
  have neX0 : ¬ (pp5 = w3.heap.size) := by omega
  have nfX0 : ¬ (w3.heap.size = pp5) := by omega
  have neX1 : ¬ (pp5 = w4.heap.size) := by omega
  have nfX1 : ¬ (w4.heap.size = pp5) := by omega
  have KEY := Lib.hid (show (fun W => W.cell? ⟨w3.heap.size, 0, none⟩ = some (.int .i64 0) ∧ W.cell? ⟨w3.heap.size, 1, none⟩ = some (.int .u64 0) ∧ W.cell? ⟨w3.heap.size, 2, none⟩ = some (.int .u64 0) ∧ W.cell? ⟨w3.heap.size, 3, none⟩ = some (.int .u64 0) ∧ W.cell? ⟨w3.heap.size, 4, none⟩ = some (.int .u64 0) ∧ W.cell? ⟨w4.heap.size, 0, none⟩ = some (.int .i64 (-300)) ∧ W.cell? ⟨w4.heap.size, 1, none⟩ = some (.int .u64 0) ∧ W.cell? ⟨w4.heap.size, 2, none⟩ = some (.int .u64 0) ∧ W.cell? ⟨w4.heap.size, 3, none⟩ = some (.int .u64 0) ∧ W.cell? ⟨w4.heap.size, 4, none⟩ = some (.int .u64 9223372036854775808) ∧ W.cell? ⟨pp5, 0, none⟩ = some (.int .i64 1) ∧ W.cell? ⟨pp5, 1, none⟩ = some (.int .u64 1) ∧ W.cell? ⟨pp5, 2, none⟩ = some (.int .u64 0) ∧ W.cell? ⟨pp5, 3, none⟩ = some (.int .u64 0) ∧ W.cell? ⟨pp5, 4, none⟩ = some (.int .u64 4611686018427387904) ∧ W.frozen? ⟨pp5, 0, none⟩ = false ∧ W.frozen? ⟨pp5, 1, none⟩ = false ∧ W.frozen? ⟨pp5, 2, none⟩ = false ∧ W.frozen? ⟨pp5, 3, none⟩ = false ∧ W.frozen? ⟨pp5, 4, none⟩ = false ∧ Below w.heap.size w W) (((((w9.setCell ⟨pp5, 0, none⟩ (.int .i64 1)).setCell ⟨pp5, 1, none⟩ (.int .u64 1)).setCell ⟨pp5, 2, none⟩ (.int .u64 0)).setCell ⟨pp5, 3, none⟩ (.int .u64 0)).setCell ⟨pp5, 4, none⟩ (.int .u64 4611686018427387904)) from ⟨by go_simp, by go_simp, by go_simp, by go_simp, by go_simp, by go_simp, by go_simp, by go_simp, by go_simp, by go_simp, by go_simp, by go_simp, by go_simp, by go_simp, by go_simp, by go_simp, by go_simp, by go_simp, by go_simp, by go_simp, (((((kk.setCell (p := ⟨pp5, 0, none⟩) gX2 _).setCell (p := ⟨pp5, 1, none⟩) gX2 _).setCell (p := ⟨pp5, 2, none⟩) gX2 _).setCell (p := ⟨pp5, 3, none⟩) gX2 _).setCell (p := ⟨pp5, 4, none⟩) gX2 _)⟩)
  clear cX0_0 cX0_1 cX0_2 cX0_3 cX0_4 cX1_0 cX1_1 cX1_2 cX1_3 cX1_4 cX2_0 cX2_1 cX2_2 cX2_3 cX2_4 fX2_0 fX2_1 fX2_2 fX2_3 fX2_4 neX0 nfX0 neX1 nfX1 kk
  refine forget_at (fun W => W.cell? ⟨w3.heap.size, 0, none⟩ = some (.int .i64 0) ∧ W.cell? ⟨w3.heap.size, 1, none⟩ = some (.int .u64 0) ∧ W.cell? ⟨w3.heap.size, 2, none⟩ = some (.int .u64 0) ∧ W.cell? ⟨w3.heap.size, 3, none⟩ = some (.int .u64 0) ∧ W.cell? ⟨w3.heap.size, 4, none⟩ = some (.int .u64 0) ∧ W.cell? ⟨w4.heap.size, 0, none⟩ = some (.int .i64 (-300)) ∧ W.cell? ⟨w4.heap.size, 1, none⟩ = some (.int .u64 0) ∧ W.cell? ⟨w4.heap.size, 2, none⟩ = some (.int .u64 0) ∧ W.cell? ⟨w4.heap.size, 3, none⟩ = some (.int .u64 0) ∧ W.cell? ⟨w4.heap.size, 4, none⟩ = some (.int .u64 9223372036854775808) ∧ W.cell? ⟨pp5, 0, none⟩ = some (.int .i64 1) ∧ W.cell? ⟨pp5, 1, none⟩ = some (.int .u64 1) ∧ W.cell? ⟨pp5, 2, none⟩ = some (.int .u64 0) ∧ W.cell? ⟨pp5, 3, none⟩ = some (.int .u64 0) ∧ W.cell? ⟨pp5, 4, none⟩ = some (.int .u64 4611686018427387904) ∧ W.frozen? ⟨pp5, 0, none⟩ = false ∧ W.frozen? ⟨pp5, 1, none⟩ = false ∧ W.frozen? ⟨pp5, 2, none⟩ = false ∧ W.frozen? ⟨pp5, 3, none⟩ = false ∧ W.frozen? ⟨pp5, 4, none⟩ = false ∧ Below w.heap.size w W) KEY.out (fun w10 hz => ?_)
  obtain ⟨cX0_0, cX0_1, cX0_2, cX0_3, cX0_4, cX1_0, cX1_1, cX1_2, cX1_3, cX1_4, cX2_0, cX2_1, cX2_2, cX2_3, cX2_4, fX2_0, fX2_1, fX2_2, fX2_3, fX2_4, kk⟩ := hz
  clear KEY
  refine hK.out _ _ ⟨cX1_0, cX1_1, cX1_2, cX1_3, cX1_4, trivial⟩ (fun hHeld => ?_)
  clear hK K
  try simp only [List.getElem_toArray, List.getElem_cons_zero, List.getElem_cons_succ, Act.put, List.setIfInBounds_toArray, List.set_cons_zero, List.set_cons_succ]
  clear w9
  clear hHeld
  refine wpAnyH_done (by kernel_rfl) ?_ _
  refine NoPanic.normal ?_
  revert kk; revert nX1_X2; revert nX0_X2; revert gX2; revert fX2_4; revert fX2_3; revert fX2_2; revert fX2_1; revert fX2_0; revert cX2_4; revert cX2_3; revert cX2_2; revert cX2_1; revert cX2_0; revert cX1_4; revert cX1_3; revert cX1_2; revert cX1_1; revert cX1_0; revert cX0_4; revert cX0_3; revert cX0_2; revert cX0_1; revert cX0_0; revert pp5; revert w10
  refine ?restw6
  rotate_left
  go_simp
  have nX0_X2 : w3.heap.size < w7.heap.size := World.block_lt_of_cell? _ _ cX0_0
  have nX1_X2 : w4.heap.size < w7.heap.size := World.block_lt_of_cell? _ _ cX1_0
  have gX2 : w.heap.size ≤ w7.heap.size := kk.size
  have ha := bA (Below.refl _ w7) (.cells #[.int .i64 0, .int .u64 0, .int .u64 0, .int .u64 0, .int .u64 0] 26)
  have hx := HB.new w7 26 #[.int .i64 0, .int .u64 0, .int .u64 0, .int .u64 0, .int .u64 0]
  replace cX0_0 := cell_later ha cX0_0; replace cX0_1 := cell_later ha cX0_1; replace cX0_2 := cell_later ha cX0_2; replace cX0_3 := cell_later ha cX0_3; replace cX0_4 := cell_later ha cX0_4
  replace cX1_0 := cell_later ha cX1_0; replace cX1_1 := cell_later ha cX1_1; replace cX1_2 := cell_later ha cX1_2; replace cX1_3 := cell_later ha cX1_3; replace cX1_4 := cell_later ha cX1_4
  replace kk := bC kk ha
  have cX2_0 := hx.cell 0; have fX2_0 := hx.frozen 0; have cX2_1 := hx.cell 1; have fX2_1 := hx.frozen 1; have cX2_2 := hx.cell 2; have fX2_2 := hx.frozen 2; have cX2_3 := hx.cell 3; have fX2_3 := hx.frozen 3; have cX2_4 := hx.cell 4; have fX2_4 := hx.frozen 4; dsimp at cX2_0 cX2_1 cX2_2 cX2_3 cX2_4
  clear ha hx
  refine hK.out _ _ ⟨cX1_0, cX1_1, cX1_2, cX1_3, cX1_4, trivial⟩ (fun hHeld => ?_)
  clear hK K
  generalize w7.alloc (.cells #[.int .i64 0, .int .u64 0, .int .u64 0, .int .u64 0, .int .u64 0] 26) = w11 at *
  generalize w7.heap.size = pp5 at *
  try simp only [List.getElem_toArray, List.getElem_cons_zero, List.getElem_cons_succ, Act.put, List.setIfInBounds_toArray, List.set_cons_zero, List.set_cons_succ]
  clear w7
  clear hHeld
  refine wpAnyH_ready (rs := [2]) (by kernel_rfl) (by simp) ?_
  refine AllReadyH.cons rfl (fun K hK => ?_) AllReadyH.nil
  go_simp
  (with_reducible refine (h5.out _).mono ?_); rintro e w12 ⟨rfl, hb⟩
  replace cX0_0 := cell_later hb cX0_0; replace cX0_1 := cell_later hb cX0_1; replace cX0_2 := cell_later hb cX0_2; replace cX0_3 := cell_later hb cX0_3; replace cX0_4 := cell_later hb cX0_4
  replace cX1_0 := cell_later hb cX1_0; replace cX1_1 := cell_later hb cX1_1; replace cX1_2 := cell_later hb cX1_2; replace cX1_3 := cell_later hb cX1_3; replace cX1_4 := cell_later hb cX1_4
  replace fX2_0 := frozen_later hb cX2_0 fX2_0; replace fX2_1 := frozen_later hb cX2_1 fX2_1; replace fX2_2 := frozen_later hb cX2_2 fX2_2; replace fX2_3 := frozen_later hb cX2_3 fX2_3; replace fX2_4 := frozen_later hb cX2_4 fX2_4
  replace cX2_0 := cell_later hb cX2_0; replace cX2_1 := cell_later hb cX2_1; replace cX2_2 := cell_later hb cX2_2; replace cX2_3 := cell_later hb cX2_3; replace cX2_4 := cell_later hb cX2_4
  replace kk := bC kk hb
  clear hb
  refine hK.out _ _ ⟨cX1_0, cX1_1, cX1_2, cX1_3, cX1_4, trivial⟩ (fun hHeld => ?_)
  clear hK K
  try simp only [List.getElem_toArray, List.getElem_cons_zero, List.getElem_cons_succ, Act.put, List.setIfInBounds_toArray, List.set_cons_zero, List.set_cons_succ]
  clear w11
  clear hHeld
  refine wpAnyH_ready (rs := [4]) (by kernel_rfl) (by simp) ?_
  refine AllReadyH.cons rfl (fun K hK => ?_) AllReadyH.nil
  go_simp
  have neX0 : ¬ (pp5 = w3.heap.size) := by omega
  have nfX0 : ¬ (w3.heap.size = pp5) := by omega
  have neX1 : ¬ (pp5 = w4.heap.size) := by omega
  have nfX1 : ¬ (w4.heap.size = pp5) := by omega
  have KEY := Lib.hid (show (fun W => W.cell? ⟨w3.heap.size, 0, none⟩ = some (.int .i64 0) ∧ W.cell? ⟨w3.heap.size, 1, none⟩ = some (.int .u64 0) ∧ W.cell? ⟨w3.heap.size, 2, none⟩ = some (.int .u64 0) ∧ W.cell? ⟨w3.heap.size, 3, none⟩ = some (.int .u64 0) ∧ W.cell? ⟨w3.heap.size, 4, none⟩ = some (.int .u64 0) ∧ W.cell? ⟨w4.heap.size, 0, none⟩ = some (.int .i64 (-300)) ∧ W.cell? ⟨w4.heap.size, 1, none⟩ = some (.int .u64 0) ∧ W.cell? ⟨w4.heap.size, 2, none⟩ = some (.int .u64 0) ∧ W.cell? ⟨w4.heap.size, 3, none⟩ = some (.int .u64 0) ∧ W.cell? ⟨w4.heap.size, 4, none⟩ = some (.int .u64 9223372036854775808) ∧ W.cell? ⟨pp5, 0, none⟩ = some (.int .i64 1) ∧ W.cell? ⟨pp5, 1, none⟩ = some (.int .u64 1) ∧ W.cell? ⟨pp5, 2, none⟩ = some (.int .u64 0) ∧ W.cell? ⟨pp5, 3, none⟩ = some (.int .u64 0) ∧ W.cell? ⟨pp5, 4, none⟩ = some (.int .u64 4611686018427387904) ∧ W.frozen? ⟨pp5, 0, none⟩ = false ∧ W.frozen? ⟨pp5, 1, none⟩ = false ∧ W.frozen? ⟨pp5, 2, none⟩ = false ∧ W.frozen? ⟨pp5, 3, none⟩ = false ∧ W.frozen? ⟨pp5, 4, none⟩ = false ∧ Below w.heap.size w W) (((((w12.setCell ⟨pp5, 0, none⟩ (.int .i64 1)).setCell ⟨pp5, 1, none⟩ (.int .u64 1)).setCell ⟨pp5, 2, none⟩ (.int .u64 0)).setCell ⟨pp5, 3, none⟩ (.int .u64 0)).setCell ⟨pp5, 4, none⟩ (.int .u64 4611686018427387904)) from ⟨by go_simp, by go_simp, by go_simp, by go_simp, by go_simp, by go_simp, by go_simp, by go_simp, by go_simp, by go_simp, by go_simp, by go_simp, by go_simp, by go_simp, by go_simp, by go_simp, by go_simp, by go_simp, by go_simp, by go_simp, (((((kk.setCell (p := ⟨pp5, 0, none⟩) gX2 _).setCell (p := ⟨pp5, 1, none⟩) gX2 _).setCell (p := ⟨pp5, 2, none⟩) gX2 _).setCell (p := ⟨pp5, 3, none⟩) gX2 _).setCell (p := ⟨pp5, 4, none⟩) gX2 _)⟩)
  clear cX0_0 cX0_1 cX0_2 cX0_3 cX0_4 cX1_0 cX1_1 cX1_2 cX1_3 cX1_4 cX2_0 cX2_1 cX2_2 cX2_3 cX2_4 fX2_0 fX2_1 fX2_2 fX2_3 fX2_4 neX0 nfX0 neX1 nfX1 kk
  refine forget_at (fun W => W.cell? ⟨w3.heap.size, 0, none⟩ = some (.int .i64 0) ∧ W.cell? ⟨w3.heap.size, 1, none⟩ = some (.int .u64 0) ∧ W.cell? ⟨w3.heap.size, 2, none⟩ = some (.int .u64 0) ∧ W.cell? ⟨w3.heap.size, 3, none⟩ = some (.int .u64 0) ∧ W.cell? ⟨w3.heap.size, 4, none⟩ = some (.int .u64 0) ∧ W.cell? ⟨w4.heap.size, 0, none⟩ = some (.int .i64 (-300)) ∧ W.cell? ⟨w4.heap.size, 1, none⟩ = some (.int .u64 0) ∧ W.cell? ⟨w4.heap.size, 2, none⟩ = some (.int .u64 0) ∧ W.cell? ⟨w4.heap.size, 3, none⟩ = some (.int .u64 0) ∧ W.cell? ⟨w4.heap.size, 4, none⟩ = some (.int .u64 9223372036854775808) ∧ W.cell? ⟨pp5, 0, none⟩ = some (.int .i64 1) ∧ W.cell? ⟨pp5, 1, none⟩ = some (.int .u64 1) ∧ W.cell? ⟨pp5, 2, none⟩ = some (.int .u64 0) ∧ W.cell? ⟨pp5, 3, none⟩ = some (.int .u64 0) ∧ W.cell? ⟨pp5, 4, none⟩ = some (.int .u64 4611686018427387904) ∧ W.frozen? ⟨pp5, 0, none⟩ = false ∧ W.frozen? ⟨pp5, 1, none⟩ = false ∧ W.frozen? ⟨pp5, 2, none⟩ = false ∧ W.frozen? ⟨pp5, 3, none⟩ = false ∧ W.frozen? ⟨pp5, 4, none⟩ = false ∧ Below w.heap.size w W) KEY.out (fun w13 hz => ?_)
  obtain ⟨cX0_0, cX0_1, cX0_2, cX0_3, cX0_4, cX1_0, cX1_1, cX1_2, cX1_3, cX1_4, cX2_0, cX2_1, cX2_2, cX2_3, cX2_4, fX2_0, fX2_1, fX2_2, fX2_3, fX2_4, kk⟩ := hz
  clear KEY
  refine hK.out _ _ ⟨cX1_0, cX1_1, cX1_2, cX1_3, cX1_4, trivial⟩ (fun hHeld => ?_)
  clear hK K
  try simp only [List.getElem_toArray, List.getElem_cons_zero, List.getElem_cons_succ, Act.put, List.setIfInBounds_toArray, List.set_cons_zero, List.set_cons_succ]
  clear w12
  clear hHeld
  refine wpAnyH_done (by kernel_rfl) ?_ _
  refine NoPanic.normal ?_
  revert kk; revert nX1_X2; revert nX0_X2; revert gX2; revert fX2_4; revert fX2_3; revert fX2_2; revert fX2_1; revert fX2_0; revert cX2_4; revert cX2_3; revert cX2_2; revert cX2_1; revert cX2_0; revert cX1_4; revert cX1_3; revert cX1_2; revert cX1_1; revert cX1_0; revert cX0_4; revert cX0_3; revert cX0_2; revert cX0_1; revert cX0_0; revert pp5; revert w13
  exact ?restw6
  go_simp
  have nX0_X2 : w3.heap.size < w6.heap.size := World.block_lt_of_cell? _ _ cX0_0
  have nX1_X2 : w4.heap.size < w6.heap.size := World.block_lt_of_cell? _ _ cX1_0
  have gX2 : w.heap.size ≤ w6.heap.size := kk.size
  have ha := bA (Below.refl _ w6) (.cells #[.int .i64 0, .int .u64 0, .int .u64 0, .int .u64 0, .int .u64 0] 26)
  have hx := HB.new w6 26 #[.int .i64 0, .int .u64 0, .int .u64 0, .int .u64 0, .int .u64 0]
  replace cX0_0 := cell_later ha cX0_0; replace cX0_1 := cell_later ha cX0_1; replace cX0_2 := cell_later ha cX0_2; replace cX0_3 := cell_later ha cX0_3; replace cX0_4 := cell_later ha cX0_4
  replace cX1_0 := cell_later ha cX1_0; replace cX1_1 := cell_later ha cX1_1; replace cX1_2 := cell_later ha cX1_2; replace cX1_3 := cell_later ha cX1_3; replace cX1_4 := cell_later ha cX1_4
  replace kk := bC kk ha
  have cX2_0 := hx.cell 0; have fX2_0 := hx.frozen 0; have cX2_1 := hx.cell 1; have fX2_1 := hx.frozen 1; have cX2_2 := hx.cell 2; have fX2_2 := hx.frozen 2; have cX2_3 := hx.cell 3; have fX2_3 := hx.frozen 3; have cX2_4 := hx.cell 4; have fX2_4 := hx.frozen 4; dsimp at cX2_0 cX2_1 cX2_2 cX2_3 cX2_4
  clear ha hx
  refine hK.out _ _ ⟨cX1_0, cX1_1, cX1_2, cX1_3, cX1_4, trivial⟩ (fun hHeld => ?_)
  clear hK K
  generalize w6.alloc (.cells #[.int .i64 0, .int .u64 0, .int .u64 0, .int .u64 0, .int .u64 0] 26) = w14 at *
  generalize w6.heap.size = pp5 at *
  try simp only [List.getElem_toArray, List.getElem_cons_zero, List.getElem_cons_succ, Act.put, List.setIfInBounds_toArray, List.set_cons_zero, List.set_cons_succ]
  clear w6
  clear hHeld
  refine wpAnyH_ready (rs := [0]) (by kernel_rfl) (by simp) ?_
  refine AllReadyH.cons rfl (fun K hK => ?_) AllReadyH.nil
  go_simp
  (with_reducible refine (h0.out _).mono ?_); rintro e w15 ⟨rfl, hb⟩
  replace cX0_0 := cell_later hb cX0_0; replace cX0_1 := cell_later hb cX0_1; replace cX0_2 := cell_later hb cX0_2; replace cX0_3 := cell_later hb cX0_3; replace cX0_4 := cell_later hb cX0_4
  replace cX1_0 := cell_later hb cX1_0; replace cX1_1 := cell_later hb cX1_1; replace cX1_2 := cell_later hb cX1_2; replace cX1_3 := cell_later hb cX1_3; replace cX1_4 := cell_later hb cX1_4
  replace fX2_0 := frozen_later hb cX2_0 fX2_0; replace fX2_1 := frozen_later hb cX2_1 fX2_1; replace fX2_2 := frozen_later hb cX2_2 fX2_2; replace fX2_3 := frozen_later hb cX2_3 fX2_3; replace fX2_4 := frozen_later hb cX2_4 fX2_4
  replace cX2_0 := cell_later hb cX2_0; replace cX2_1 := cell_later hb cX2_1; replace cX2_2 := cell_later hb cX2_2; replace cX2_3 := cell_later hb cX2_3; replace cX2_4 := cell_later hb cX2_4
  replace kk := bC kk hb
  clear hb
  refine hK.out _ _ ⟨cX1_0, cX1_1, cX1_2, cX1_3, cX1_4, trivial⟩ (fun hHeld => ?_)
  clear hK K
  try simp only [List.getElem_toArray, List.getElem_cons_zero, List.getElem_cons_succ, Act.put, List.setIfInBounds_toArray, List.set_cons_zero, List.set_cons_succ]
  clear w14
  clear hHeld
  refine wpAnyH_ready (rs := [2]) (by kernel_rfl) (by simp) ?_
  refine AllReadyH.cons rfl (fun K hK => ?_) AllReadyH.nil
  go_simp
  (with_reducible refine (h5.out _).mono ?_); rintro e w16 ⟨rfl, hb⟩
  replace cX0_0 := cell_later hb cX0_0; replace cX0_1 := cell_later hb cX0_1; replace cX0_2 := cell_later hb cX0_2; replace cX0_3 := cell_later hb cX0_3; replace cX0_4 := cell_later hb cX0_4
  replace cX1_0 := cell_later hb cX1_0; replace cX1_1 := cell_later hb cX1_1; replace cX1_2 := cell_later hb cX1_2; replace cX1_3 := cell_later hb cX1_3; replace cX1_4 := cell_later hb cX1_4
  replace fX2_0 := frozen_later hb cX2_0 fX2_0; replace fX2_1 := frozen_later hb cX2_1 fX2_1; replace fX2_2 := frozen_later hb cX2_2 fX2_2; replace fX2_3 := frozen_later hb cX2_3 fX2_3; replace fX2_4 := frozen_later hb cX2_4 fX2_4
  replace cX2_0 := cell_later hb cX2_0; replace cX2_1 := cell_later hb cX2_1; replace cX2_2 := cell_later hb cX2_2; replace cX2_3 := cell_later hb cX2_3; replace cX2_4 := cell_later hb cX2_4
  replace kk := bC kk hb
  clear hb
  refine hK.out _ _ ⟨cX1_0, cX1_1, cX1_2, cX1_3, cX1_4, trivial⟩ (fun hHeld => ?_)
  clear hK K
  try simp only [List.getElem_toArray, List.getElem_cons_zero, List.getElem_cons_succ, Act.put, List.setIfInBounds_toArray, List.set_cons_zero, List.set_cons_succ]
  clear w15
  clear hHeld
  refine wpAnyH_ready (rs := [4]) (by kernel_rfl) (by simp) ?_
  refine AllReadyH.cons rfl (fun K hK => ?_) AllReadyH.nil
  go_simp
  have neX0 : ¬ (pp5 = w3.heap.size) := by omega
  have nfX0 : ¬ (w3.heap.size = pp5) := by omega
  have neX1 : ¬ (pp5 = w4.heap.size) := by omega
  have nfX1 : ¬ (w4.heap.size = pp5) := by omega
  have KEY := Lib.hid (show (fun W => W.cell? ⟨w3.heap.size, 0, none⟩ = some (.int .i64 0) ∧ W.cell? ⟨w3.heap.size, 1, none⟩ = some (.int .u64 0) ∧ W.cell? ⟨w3.heap.size, 2, none⟩ = some (.int .u64 0) ∧ W.cell? ⟨w3.heap.size, 3, none⟩ = some (.int .u64 0) ∧ W.cell? ⟨w3.heap.size, 4, none⟩ = some (.int .u64 0) ∧ W.cell? ⟨w4.heap.size, 0, none⟩ = some (.int .i64 (-300)) ∧ W.cell? ⟨w4.heap.size, 1, none⟩ = some (.int .u64 0) ∧ W.cell? ⟨w4.heap.size, 2, none⟩ = some (.int .u64 0) ∧ W.cell? ⟨w4.heap.size, 3, none⟩ = some (.int .u64 0) ∧ W.cell? ⟨w4.heap.size, 4, none⟩ = some (.int .u64 9223372036854775808) ∧ W.cell? ⟨pp5, 0, none⟩ = some (.int .i64 1) ∧ W.cell? ⟨pp5, 1, none⟩ = some (.int .u64 1) ∧ W.cell? ⟨pp5, 2, none⟩ = some (.int .u64 0) ∧ W.cell? ⟨pp5, 3, none⟩ = some (.int .u64 0) ∧ W.cell? ⟨pp5, 4, none⟩ = some (.int .u64 4611686018427387904) ∧ W.frozen? ⟨pp5, 0, none⟩ = false ∧ W.frozen? ⟨pp5, 1, none⟩ = false ∧ W.frozen? ⟨pp5, 2, none⟩ = false ∧ W.frozen? ⟨pp5, 3, none⟩ = false ∧ W.frozen? ⟨pp5, 4, none⟩ = false ∧ Below w.heap.size w W) (((((w16.setCell ⟨pp5, 0, none⟩ (.int .i64 1)).setCell ⟨pp5, 1, none⟩ (.int .u64 1)).setCell ⟨pp5, 2, none⟩ (.int .u64 0)).setCell ⟨pp5, 3, none⟩ (.int .u64 0)).setCell ⟨pp5, 4, none⟩ (.int .u64 4611686018427387904)) from ⟨by go_simp, by go_simp, by go_simp, by go_simp, by go_simp, by go_simp, by go_simp, by go_simp, by go_simp, by go_simp, by go_simp, by go_simp, by go_simp, by go_simp, by go_simp, by go_simp, by go_simp, by go_simp, by go_simp, by go_simp, (((((kk.setCell (p := ⟨pp5, 0, none⟩) gX2 _).setCell (p := ⟨pp5, 1, none⟩) gX2 _).setCell (p := ⟨pp5, 2, none⟩) gX2 _).setCell (p := ⟨pp5, 3, none⟩) gX2 _).setCell (p := ⟨pp5, 4, none⟩) gX2 _)⟩)
  clear cX0_0 cX0_1 cX0_2 cX0_3 cX0_4 cX1_0 cX1_1 cX1_2 cX1_3 cX1_4 cX2_0 cX2_1 cX2_2 cX2_3 cX2_4 fX2_0 fX2_1 fX2_2 fX2_3 fX2_4 neX0 nfX0 neX1 nfX1 kk
  refine forget_at (fun W => W.cell? ⟨w3.heap.size, 0, none⟩ = some (.int .i64 0) ∧ W.cell? ⟨w3.heap.size, 1, none⟩ = some (.int .u64 0) ∧ W.cell? ⟨w3.heap.size, 2, none⟩ = some (.int .u64 0) ∧ W.cell? ⟨w3.heap.size, 3, none⟩ = some (.int .u64 0) ∧ W.cell? ⟨w3.heap.size, 4, none⟩ = some (.int .u64 0) ∧ W.cell? ⟨w4.heap.size, 0, none⟩ = some (.int .i64 (-300)) ∧ W.cell? ⟨w4.heap.size, 1, none⟩ = some (.int .u64 0) ∧ W.cell? ⟨w4.heap.size, 2, none⟩ = some (.int .u64 0) ∧ W.cell? ⟨w4.heap.size, 3, none⟩ = some (.int .u64 0) ∧ W.cell? ⟨w4.heap.size, 4, none⟩ = some (.int .u64 9223372036854775808) ∧ W.cell? ⟨pp5, 0, none⟩ = some (.int .i64 1) ∧ W.cell? ⟨pp5, 1, none⟩ = some (.int .u64 1) ∧ W.cell? ⟨pp5, 2, none⟩ = some (.int .u64 0) ∧ W.cell? ⟨pp5, 3, none⟩ = some (.int .u64 0) ∧ W.cell? ⟨pp5, 4, none⟩ = some (.int .u64 4611686018427387904) ∧ W.frozen? ⟨pp5, 0, none⟩ = false ∧ W.frozen? ⟨pp5, 1, none⟩ = false ∧ W.frozen? ⟨pp5, 2, none⟩ = false ∧ W.frozen? ⟨pp5, 3, none⟩ = false ∧ W.frozen? ⟨pp5, 4, none⟩ = false ∧ Below w.heap.size w W) KEY.out (fun w17 hz => ?_)
  obtain ⟨cX0_0, cX0_1, cX0_2, cX0_3, cX0_4, cX1_0, cX1_1, cX1_2, cX1_3, cX1_4, cX2_0, cX2_1, cX2_2, cX2_3, cX2_4, fX2_0, fX2_1, fX2_2, fX2_3, fX2_4, kk⟩ := hz
  clear KEY
  refine hK.out _ _ ⟨cX1_0, cX1_1, cX1_2, cX1_3, cX1_4, trivial⟩ (fun hHeld => ?_)
  clear hK K
  try simp only [List.getElem_toArray, List.getElem_cons_zero, List.getElem_cons_succ, Act.put, List.setIfInBounds_toArray, List.set_cons_zero, List.set_cons_succ]
  clear w16
  clear hHeld
  refine wpAnyH_done (by kernel_rfl) ?_ _
  refine NoPanic.normal ?_
  revert kk; revert nX1_X2; revert nX0_X2; revert gX2; revert fX2_4; revert fX2_3; revert fX2_2; revert fX2_1; revert fX2_0; revert cX2_4; revert cX2_3; revert cX2_2; revert cX2_1; revert cX2_0; revert cX1_4; revert cX1_3; revert cX1_2; revert cX1_1; revert cX1_0; revert cX0_4; revert cX0_3; revert cX0_2; revert cX0_1; revert cX0_0; revert pp5; revert w17
  exact ?restw6
  intro w18 pp5 cX0_0 cX0_1 cX0_2 cX0_3 cX0_4 cX1_0 cX1_1 cX1_2 cX1_3 cX1_4 cX2_0 cX2_1 cX2_2 cX2_3 cX2_4 fX2_0 fX2_1 fX2_2 fX2_3 fX2_4 gX2 nX0_X2 nX1_X2 kk
  have sX0 : w3.heap.size < w18.heap.size := World.block_lt_of_cell? _ _ cX0_0
  have sX1 : w4.heap.size < w18.heap.size := World.block_lt_of_cell? _ _ cX1_0
  have sX2 : pp5 < w18.heap.size := World.block_lt_of_cell? _ _ cX2_0
  clear fX2_0 fX2_1 fX2_2 fX2_3 fX2_4
  go_wp2_with fail
  have hfd2 : ∀ w : World, (Instr.field 26 (.agg #[.int .i64 0, .int .u64 0, .int .u64 0, .int .u64 0, .int .u64 9223372036854775808]) 1).run Try.prog w = .ok (.agg #[.int .u64 0, .int .u64 0, .int .u64 0, .int .u64 9223372036854775808]) w := fun _ => by kernel_rfl
  refine wp_region_noPanic ?_
  refine wp_region_F [] [] (LS w18 (fun _ _ => True) (fun _ _ _ => True)) (by kernel_rfl) (bs := []) (vs := []) (by kernel_rfl) rfl (LS.before noBits_nil (Below.refl _ _).drew trivial) ?_
  refine wpF_take (i := 0) (v := _) rfl (by kernel_rfl) (by kernel_rfl) (fun _ _ _ h => h) (LS.call lasts_true (by rfl) _ _ ?yq2 (h0.out)) ?rq2
  case yq2 => (intro wq; go_simp; try (with_reducible rfl))
  try simp only [List.getElem_toArray, List.getElem_cons_zero, List.getElem_cons_succ, Act.put, List.setIfInBounds_toArray, List.set_cons_zero, List.set_cons_succ]
  refine wpF_take (i := 1) (v := _) rfl (by kernel_rfl) (by kernel_rfl) (fun _ _ _ h => h) (LS.call lasts_true (by rfl) _ _ ?yq3 (h0.out)) ?rq3
  case yq3 => (intro wq; go_simp; try (with_reducible rfl))
  try simp only [List.getElem_toArray, List.getElem_cons_zero, List.getElem_cons_succ, Act.put, List.setIfInBounds_toArray, List.set_cons_zero, List.set_cons_succ]
  refine wpF_take (i := 2) (v := _) rfl (by kernel_rfl) (by kernel_rfl) (fun _ _ _ h => h) (LS.call lasts_true (by rfl) _ _ ?yq4 (h8.out)) ?rq4
  case yq4 => (intro wq; go_simp; try (with_reducible rfl))
  try simp only [List.getElem_toArray, List.getElem_cons_zero, List.getElem_cons_succ, Act.put, List.setIfInBounds_toArray, List.set_cons_zero, List.set_cons_succ]
  refine wpF_take (i := 3) (v := _) rfl (by kernel_rfl) (by kernel_rfl) (fun _ _ _ h => h) (LS.call lasts_true (by rfl) _ _ ?yq5 (h0.out)) ?rq5
  case yq5 => (intro wq; go_simp; try (with_reducible rfl))
  try simp only [List.getElem_toArray, List.getElem_cons_zero, List.getElem_cons_succ, Act.put, List.setIfInBounds_toArray, List.set_cons_zero, List.set_cons_succ]
  refine wpF_yield (i := 4) (v := ?vq6) rfl (by kernel_rfl) (by kernel_rfl) (fun _ _ _ h => h) (Or.inl ⟨by rfl, ?yq6⟩) ?rq6
  case yq6 => (intro wq; go_simp; try (with_reducible rfl))
  try simp only [List.getElem_toArray, List.getElem_cons_zero, List.getElem_cons_succ, Act.put, List.setIfInBounds_toArray, List.set_cons_zero, List.set_cons_succ]
  refine wpF_yield (i := 5) (v := ?vq7) rfl (by kernel_rfl) (by kernel_rfl) (fun _ _ _ h => h) (Or.inl ⟨by rfl, ?yq7⟩) ?rq7
  case yq7 => (intro wq; go_simp; try (with_reducible rfl))
  try simp only [List.getElem_toArray, List.getElem_cons_zero, List.getElem_cons_succ, Act.put, List.setIfInBounds_toArray, List.set_cons_zero, List.set_cons_succ]
  refine wpF_yield (i := 6) (v := ?vq8) rfl (by kernel_rfl) (by kernel_rfl) (fun _ _ _ h => h) (Or.inl ⟨by rfl, ?yq8⟩) ?rq8
  case yq8 => (intro wq; go_simp; try (with_reducible rfl))
  try simp only [List.getElem_toArray, List.getElem_cons_zero, List.getElem_cons_succ, Act.put, List.setIfInBounds_toArray, List.set_cons_zero, List.set_cons_succ]
  refine wpF_yield (i := 7) (v := ?vq9) rfl (by kernel_rfl) (by kernel_rfl) (fun _ _ _ h => h) (Or.inl ⟨by rfl, ?yq9⟩) ?rq9
  case yq9 => (intro wq; go_simp; try (with_reducible rfl))
  try simp only [List.getElem_toArray, List.getElem_cons_zero, List.getElem_cons_succ, Act.put, List.setIfInBounds_toArray, List.set_cons_zero, List.set_cons_succ]
  refine wpF_take (i := 8) (v := ?vq10) rfl (by kernel_rfl) (by kernel_rfl) (fun _ _ _ h => h) (LS.load (by rfl) ?yq10) ?rq10
  case yq10 => (intro wq hb; have lcX0_0 := cell_later hb cX0_0; have lcX0_1 := cell_later hb cX0_1; have lcX0_2 := cell_later hb cX0_2; have lcX0_3 := cell_later hb cX0_3; have lcX0_4 := cell_later hb cX0_4; go_simp; try (with_reducible rfl))
  try simp only [List.getElem_toArray, List.getElem_cons_zero, List.getElem_cons_succ, Act.put, List.setIfInBounds_toArray, List.set_cons_zero, List.set_cons_succ]
  refine wpF_yield (i := 9) (v := ?vq11) rfl (by kernel_rfl) (by kernel_rfl) (fun _ _ _ h => h) (Or.inl ⟨by rfl, ?yq11⟩) ?rq11
  case yq11 => (intro wq; go_simp; try (with_reducible rfl))
  try simp only [List.getElem_toArray, List.getElem_cons_zero, List.getElem_cons_succ, Act.put, List.setIfInBounds_toArray, List.set_cons_zero, List.set_cons_succ]
  refine wpF_yield (i := 10) (v := ?vq12) rfl (by kernel_rfl) (by kernel_rfl) (fun _ _ _ h => h) (Or.inl ⟨by rfl, ?yq12⟩) ?rq12
  case yq12 => (intro wq; go_simp; try (with_reducible rfl))
  try simp only [List.getElem_toArray, List.getElem_cons_zero, List.getElem_cons_succ, Act.put, List.setIfInBounds_toArray, List.set_cons_zero, List.set_cons_succ]
  refine wpF_yield (i := 11) (v := ?vq13) rfl (by kernel_rfl) (by kernel_rfl) (fun _ _ _ h => h) (Or.inl ⟨by rfl, ?yq13⟩) ?rq13
  case yq13 => (intro wq; go_simp; try (with_reducible rfl))
  try simp only [List.getElem_toArray, List.getElem_cons_zero, List.getElem_cons_succ, Act.put, List.setIfInBounds_toArray, List.set_cons_zero, List.set_cons_succ]
  refine wpF_yield (i := 12) (v := ?vq14) rfl (by kernel_rfl) (by kernel_rfl) (fun _ _ _ h => h) (Or.inl ⟨by rfl, ?yq14⟩) ?rq14
  case yq14 => (intro wq; go_simp; try (with_reducible rfl))
  try simp only [List.getElem_toArray, List.getElem_cons_zero, List.getElem_cons_succ, Act.put, List.setIfInBounds_toArray, List.set_cons_zero, List.set_cons_succ]
  refine wpF_yield (i := 13) (v := ?vq15) rfl (by kernel_rfl) (by kernel_rfl) (fun _ _ _ h => h) (Or.inl ⟨by rfl, ?yq15⟩) ?rq15
  case yq15 => (intro wq; go_simp; try (with_reducible rfl))
  try simp only [List.getElem_toArray, List.getElem_cons_zero, List.getElem_cons_succ, Act.put, List.setIfInBounds_toArray, List.set_cons_zero, List.set_cons_succ]
  refine wpF_yield (i := 14) (v := ?vq16) rfl (by kernel_rfl) (by kernel_rfl) (fun _ _ _ h => h) (Or.inl ⟨by rfl, ?yq16⟩) ?rq16
  case yq16 => (intro wq; go_simp; try (with_reducible rfl))
  try simp only [List.getElem_toArray, List.getElem_cons_zero, List.getElem_cons_succ, Act.put, List.setIfInBounds_toArray, List.set_cons_zero, List.set_cons_succ]
  refine wpF_yield (i := 15) (v := ?vq17) rfl (by kernel_rfl) (by kernel_rfl) (fun _ _ _ h => h) (Or.inl ⟨by rfl, ?yq17⟩) ?rq17
  case yq17 => (intro wq; go_simp; try (with_reducible rfl))
  try simp only [List.getElem_toArray, List.getElem_cons_zero, List.getElem_cons_succ, Act.put, List.setIfInBounds_toArray, List.set_cons_zero, List.set_cons_succ]
  refine wpF_yield (i := 16) (v := ?vq18) rfl (by kernel_rfl) (by kernel_rfl) (fun _ _ _ h => h) (Or.inl ⟨by rfl, ?yq18⟩) ?rq18
  case yq18 => (intro wq; go_simp; try (with_reducible rfl))
  try simp only [List.getElem_toArray, List.getElem_cons_zero, List.getElem_cons_succ, Act.put, List.setIfInBounds_toArray, List.set_cons_zero, List.set_cons_succ]
  refine wpF_take (i := 17) (v := ?vq19) rfl (by kernel_rfl) (by kernel_rfl) (fun _ _ _ h => h) (LS.load (by rfl) ?yq19) ?rq19
  case yq19 => (intro wq hb; have lcX2_0 := cell_later hb cX2_0; have lcX2_1 := cell_later hb cX2_1; have lcX2_2 := cell_later hb cX2_2; have lcX2_3 := cell_later hb cX2_3; have lcX2_4 := cell_later hb cX2_4; go_simp; try (with_reducible rfl))
  try simp only [List.getElem_toArray, List.getElem_cons_zero, List.getElem_cons_succ, Act.put, List.setIfInBounds_toArray, List.set_cons_zero, List.set_cons_succ]
  refine wpF_yield (i := 18) (v := ?vq20) rfl (by kernel_rfl) (by kernel_rfl) (fun _ _ _ h => h) (Or.inl ⟨by rfl, ?yq20⟩) ?rq20
  case yq20 => (intro wq; go_simp; try (with_reducible rfl))
  try simp only [List.getElem_toArray, List.getElem_cons_zero, List.getElem_cons_succ, Act.put, List.setIfInBounds_toArray, List.set_cons_zero, List.set_cons_succ]
  refine wpF_yield (i := 19) (v := ?vq21) rfl (by kernel_rfl) (by kernel_rfl) (fun _ _ _ h => h) (Or.inl ⟨by rfl, ?yq21⟩) ?rq21
  case yq21 => (intro wq; go_simp; try (with_reducible rfl))
  try simp only [List.getElem_toArray, List.getElem_cons_zero, List.getElem_cons_succ, Act.put, List.setIfInBounds_toArray, List.set_cons_zero, List.set_cons_succ]
  refine wpF_yield (i := 20) (v := ?vq22) rfl (by kernel_rfl) (by kernel_rfl) (fun _ _ _ h => h) (Or.inl ⟨by rfl, ?yq22⟩) ?rq22
  case yq22 => (intro wq; go_simp; try (with_reducible rfl))
  try simp only [List.getElem_toArray, List.getElem_cons_zero, List.getElem_cons_succ, Act.put, List.setIfInBounds_toArray, List.set_cons_zero, List.set_cons_succ]
  refine wpF_yield (i := 21) (v := ?vq23) rfl (by kernel_rfl) (by kernel_rfl) (fun _ _ _ h => h) (Or.inl ⟨by rfl, ?yq23⟩) ?rq23
  case yq23 => (intro wq; go_simp; try (with_reducible rfl))
  try simp only [List.getElem_toArray, List.getElem_cons_zero, List.getElem_cons_succ, Act.put, List.setIfInBounds_toArray, List.set_cons_zero, List.set_cons_succ]
  refine wpF_yield (i := 22) (v := ?vq24) rfl (by kernel_rfl) (by kernel_rfl) (fun _ _ _ h => h) (Or.inl ⟨by rfl, ?yq24⟩) ?rq24
  case yq24 => (intro wq; go_simp; try (with_reducible rfl))
  try simp only [List.getElem_toArray, List.getElem_cons_zero, List.getElem_cons_succ, Act.put, List.setIfInBounds_toArray, List.set_cons_zero, List.set_cons_succ]
  refine wpF_take (i := 23) (v := _) rfl (by kernel_rfl) (by kernel_rfl) (fun _ _ _ h => h) (LS.call lasts_true (by rfl) _ _ ?yq25 (h0.out)) ?rq25
  case yq25 => (intro wq; go_simp; try (with_reducible rfl))
  try simp only [List.getElem_toArray, List.getElem_cons_zero, List.getElem_cons_succ, Act.put, List.setIfInBounds_toArray, List.set_cons_zero, List.set_cons_succ]
  refine wpF_take (i := 24) (v := ?vq26) rfl (by kernel_rfl) (by kernel_rfl) (fun _ _ _ h => h) (LS.load (by rfl) ?yq26) ?rq26
  case yq26 => (intro wq hb; have lcX1_0 := cell_later hb cX1_0; have lcX1_1 := cell_later hb cX1_1; have lcX1_2 := cell_later hb cX1_2; have lcX1_3 := cell_later hb cX1_3; have lcX1_4 := cell_later hb cX1_4; go_simp; try (with_reducible rfl))
  try simp only [List.getElem_toArray, List.getElem_cons_zero, List.getElem_cons_succ, Act.put, List.setIfInBounds_toArray, List.set_cons_zero, List.set_cons_succ]
  refine wpF_take (i := 25) (v := _) rfl (by kernel_rfl) (by kernel_rfl) (fun _ _ _ h => h) (LS.call lasts_true (by rfl) _ _ ?yq27 (h11.out)) ?rq27
  case yq27 => (intro wq; go_simp; try (with_reducible rfl))
  try simp only [List.getElem_toArray, List.getElem_cons_zero, List.getElem_cons_succ, Act.put, List.setIfInBounds_toArray, List.set_cons_zero, List.set_cons_succ]
  refine wpF_yield (i := 26) (v := ?vq28) rfl (by kernel_rfl) (by kernel_rfl) (fun _ _ _ h => h) (Or.inl ⟨by rfl, ?yq28⟩) ?rq28
  case yq28 => (intro wq; go_simp; try (with_reducible rfl))
  try simp only [List.getElem_toArray, List.getElem_cons_zero, List.getElem_cons_succ, Act.put, List.setIfInBounds_toArray, List.set_cons_zero, List.set_cons_succ]
  refine wpF_yield (i := 27) (v := ?vq29) rfl (by kernel_rfl) (by kernel_rfl) (fun _ _ _ h => h) (Or.inl ⟨by rfl, ?yq29⟩) ?rq29
  case yq29 => (intro wq; go_simp; try (with_reducible rfl))
  try simp only [List.getElem_toArray, List.getElem_cons_zero, List.getElem_cons_succ, Act.put, List.setIfInBounds_toArray, List.set_cons_zero, List.set_cons_succ]
  refine wpF_yield (i := 28) (v := ?vq30) rfl (by kernel_rfl) (by kernel_rfl) (fun _ _ _ h => h) (Or.inl ⟨by rfl, ?yq30⟩) ?rq30
  case yq30 => (intro wq; go_simp; try (with_reducible rfl))
  try simp only [List.getElem_toArray, List.getElem_cons_zero, List.getElem_cons_succ, Act.put, List.setIfInBounds_toArray, List.set_cons_zero, List.set_cons_succ]
  refine wpF_done (bs := []) (vs := []) (by kernel_rfl) (by kernel_rfl) rfl (fun w20 hS => ?_) _
  refine NoPanic.normal ?_
  obtain ⟨hb, _⟩ := hS.1 noBits_nil
  clear hS
  clear cX0_0 cX0_1 cX0_2 cX0_3 cX0_4 sX0
  clear cX1_0 cX1_1 cX1_2 cX1_3 cX1_4 sX1
  clear cX2_0 cX2_1 cX2_2 cX2_3 cX2_4 sX2
  replace kk := bC kk hb
  clear hb
  go_wp2_with fail
  go_ret
  exact ⟨rfl, kk⟩



end Go.Proofs.Ytamigjdankkmjaa
