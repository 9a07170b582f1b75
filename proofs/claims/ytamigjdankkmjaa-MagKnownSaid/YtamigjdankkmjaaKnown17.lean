/-
  The walk of the statement MagKnown.
-/
import Derived.Test.YtamigjdankkmjaaMag17M
import Derived.Test.YtamigjdankkmjaaGaB
import Derived.Test.YtamigjdankkmjaaGhA
import Derived.Test.YtamigjdankkmjaaGaA
import Derived.Test.YtamigjdankkmjaaGoes17
set_option linter.unusedVariables false
set_option linter.unusedSimpArgs false
set_option maxRecDepth 100000
namespace Go.Proofs.Ytamigjdankkmjaa
open Go.RowKit
attribute [local go_sem ↓] Go.wp_at_zero Go.wp_at_succ

set_option maxHeartbeats 4000000 in
set_option maxRecDepth 100000 in
theorem known17_core 
    (h0 : Hid (∀ w, Calls Try.prog 26 #[] w fun e w' => e = .returned (.agg #[.int .i64 0, .int .u64 0, .int .u64 0, .int .u64 0, .int .u64 9223372036854775808]) ∧ Below w.heap.size w w'))
    (h2 : Hid (∀ w, Calls Try.prog 11 #[.agg #[.int .i64 0, .int .u64 0, .int .u64 0, .int .u64 0, .int .u64 9223372036854775808], .agg #[.int .i64 1, .int .u64 0, .int .u64 0, .int .u64 0, .int .u64 9223372036854775808]] w fun e w' => e = .returned (.tuple #[.agg #[.int .i64 1, .int .u64 0, .int .u64 0, .int .u64 0, .int .u64 4611686018427387904], .bool true]) ∧ Below w.heap.size w w'))
    (h4 : Hid (∀ w, Calls Try.prog 11 #[.agg #[.int .i64 0, .int .u64 0, .int .u64 0, .int .u64 0, .int .u64 9223372036854775808], .agg #[.int .i64 (-500), .int .u64 4, .int .u64 0, .int .u64 0, .int .u64 0]] w fun e w' => e = .returned (.tuple #[.agg #[.int .i64 0, .int .u64 18446744073709551615, .int .u64 18446744073709551615, .int .u64 18446744073709551615, .int .u64 9223372036854775807], .bool false]) ∧ Below w.heap.size w w'))
    (h5 : Hid (∀ w, Calls Try.prog 12 #[.agg #[.int .i64 4611686018427387904, .int .u64 1, .int .u64 0, .int .u64 0, .int .u64 0], .agg #[.int .i64 (-4611686018427387904), .int .u64 0, .int .u64 0, .int .u64 0, .int .u64 0]] w fun e w' => e = .returned (.agg #[.int .i64 1099511627777, .int .u64 1, .int .u64 0, .int .u64 0, .int .u64 0]) ∧ Below w.heap.size w w'))
    (h6 : Hid (∀ w, Calls Try.prog 13 #[.agg #[.int .i64 1, .int .u64 1, .int .u64 0, .int .u64 0, .int .u64 0], .agg #[.int .i64 0, .int .u64 2, .int .u64 0, .int .u64 0, .int .u64 0]] w fun e w' => e = .returned (.int .i64 0) ∧ Below w.heap.size w w'))
    (h7 : Hid (∀ w, Calls Try.prog 13 #[.agg #[.int .i64 300, .int .u64 1, .int .u64 0, .int .u64 0, .int .u64 0], .agg #[.int .i64 0, .int .u64 18446744073709551615, .int .u64 18446744073709551615, .int .u64 18446744073709551615, .int .u64 18446744073709551615]] w fun e w' => e = .returned (.int .i64 1) ∧ Below w.heap.size w w'))
    (h8 : Hid (∀ w, Calls Try.prog 15 #[.agg #[.bool false, .int .u8 0, .int .i64 5, .int .u64 7, .int .u64 6]] w fun e w' => e = .returned (.agg #[.int .i64 5, .int .u64 0, .int .u64 0, .int .u64 6, .int .u64 7]) ∧ Below w.heap.size w w'))
    (h9 : Hid (∀ w, Calls Try.prog 17 #[] w fun e w' => e = .returned (.bool true) ∧ Below w.heap.size w w')) (w : World) :
    Calls Try.prog 8 #[] w fun e w' => e = .returned (.bool true) ∧ Below w.heap.size w w' := by
  have E1 := eqt17 1 0 0 0 4611686018427387904
  have E2 := eqt17 0 18446744073709551615 18446744073709551615 18446744073709551615 9223372036854775807
  have E3 := eqt17 1099511627777 1 0 0 0
  have E4 := eqt17 5 0 0 6 7
  go_enter Try.func8, Try.ntmps8
  go_wp2_with fail
  (with_reducible refine (h0.out _).mono ?_); rintro e w1 ⟨rfl, hb⟩
  have kk := hb
  clear hb
  go_wp2_with fail
  refine wp_forget (fun W => W.cell? ⟨w1.heap.size, 0, none⟩ = some (.int .i64 1) ∧ W.cell? ⟨w1.heap.size, 1, none⟩ = some (.int .u64 0) ∧ W.cell? ⟨w1.heap.size, 2, none⟩ = some (.int .u64 0) ∧ W.cell? ⟨w1.heap.size, 3, none⟩ = some (.int .u64 0) ∧ W.cell? ⟨w1.heap.size, 4, none⟩ = some (.int .u64 9223372036854775808) ∧ Below w.heap.size w W) ⟨by go_simp, by go_simp, by go_simp, by go_simp, by go_simp, bC kk (bA (Below.refl _ _) _)⟩ (fun w2 hst => ?_)
  clear kk
  obtain ⟨cX0_0, cX0_1, cX0_2, cX0_3, cX0_4, kk⟩ := hst
  have sX0 : w1.heap.size < w2.heap.size := World.block_lt_of_cell? _ _ cX0_0
  clear sX0
  refine wp_region_noPanic ?_
  refine wp_region_held_drew (S := fun w' => w'.cell? ⟨w1.heap.size, 0, none⟩ = some (.int .i64 1) ∧ w'.cell? ⟨w1.heap.size, 1, none⟩ = some (.int .u64 0) ∧ w'.cell? ⟨w1.heap.size, 2, none⟩ = some (.int .u64 0) ∧ w'.cell? ⟨w1.heap.size, 3, none⟩ = some (.int .u64 0) ∧ w'.cell? ⟨w1.heap.size, 4, none⟩ = some (.int .u64 9223372036854775808) ∧ True) (by kernel_rfl) ⟨cell_later (Below.refl _ _).drew cX0_0, cell_later (Below.refl _ _).drew cX0_1, cell_later (Below.refl _ _).drew cX0_2, cell_later (Below.refl _ _).drew cX0_3, cell_later (Below.refl _ _).drew cX0_4, trivial⟩ (fun hHeld => ?_)
  replace cX0_0 := cell_later (Below.refl _ _).drew cX0_0; replace cX0_1 := cell_later (Below.refl _ _).drew cX0_1; replace cX0_2 := cell_later (Below.refl _ _).drew cX0_2; replace cX0_3 := cell_later (Below.refl _ _).drew cX0_3; replace cX0_4 := cell_later (Below.refl _ _).drew cX0_4
  replace kk := bC kk (Below.refl _ _).drew
  generalize World.drew _ = w3 at *
  refine wpAnyH_take (i := 1) (v := ?vq1) rfl (by kernel_rfl) (by kernel_rfl) (by kernel_rfl) (fun _ _ _ h => h) (Or.inl ⟨by rfl, ?yq1⟩) hHeld ?rq1
  case yq1 => (intro wq hb; obtain ⟨lq0, lq1, lq2, lq3, lq4, _⟩ := hb; go_simp; try (with_reducible rfl))
  try simp only [List.getElem_toArray, List.getElem_cons_zero, List.getElem_cons_succ, Act.put, List.setIfInBounds_toArray, List.set_cons_zero, List.set_cons_succ]
  clear hHeld
  refine wpAnyH_ready (rs := [0, 6]) (by kernel_rfl) (by simp) ?_
  refine AllReadyH.cons rfl (fun K hK => ?_) (AllReadyH.cons rfl (fun K hK => ?_) AllReadyH.nil)
  go_simp
  (with_reducible refine (h0.out _).mono ?_); rintro e w4 ⟨rfl, hb⟩
  replace cX0_0 := cell_later hb cX0_0; replace cX0_1 := cell_later hb cX0_1; replace cX0_2 := cell_later hb cX0_2; replace cX0_3 := cell_later hb cX0_3; replace cX0_4 := cell_later hb cX0_4
  replace kk := bC kk hb
  clear hb
  refine hK.out _ _ ⟨cX0_0, cX0_1, cX0_2, cX0_3, cX0_4, trivial⟩ (fun hHeld => ?_)
  clear hK K
  try simp only [List.getElem_toArray, List.getElem_cons_zero, List.getElem_cons_succ, Act.put, List.setIfInBounds_toArray, List.set_cons_zero, List.set_cons_succ]
  clear w3
  clear hHeld
  refine wpAnyH_ready (rs := [2, 6]) (by kernel_rfl) (by simp) ?_
  refine AllReadyH.cons rfl (fun K hK => ?_) (AllReadyH.cons rfl (fun K hK => ?_) AllReadyH.nil)
  go_simp
  (with_reducible refine (h2.out _).mono ?_); rintro e w5 ⟨rfl, hb⟩
  replace cX0_0 := cell_later hb cX0_0; replace cX0_1 := cell_later hb cX0_1; replace cX0_2 := cell_later hb cX0_2; replace cX0_3 := cell_later hb cX0_3; replace cX0_4 := cell_later hb cX0_4
  replace kk := bC kk hb
  clear hb
  refine hK.out _ _ ⟨cX0_0, cX0_1, cX0_2, cX0_3, cX0_4, trivial⟩ (fun hHeld => ?_)
  clear hK K
  try simp only [List.getElem_toArray, List.getElem_cons_zero, List.getElem_cons_succ, Act.put, List.setIfInBounds_toArray, List.set_cons_zero, List.set_cons_succ]
  clear w4
  refine wpAnyH_take (i := 3) (v := ?vq2) rfl (by kernel_rfl) (by kernel_rfl) (by kernel_rfl) (fun _ _ _ h => h) (Or.inl ⟨by rfl, ?yq2⟩) hHeld ?rq2
  case yq2 => (intro wq hb; obtain ⟨lq0, lq1, lq2, lq3, lq4, _⟩ := hb; go_simp; try (with_reducible rfl))
  try simp only [List.getElem_toArray, List.getElem_cons_zero, List.getElem_cons_succ, Act.put, List.setIfInBounds_toArray, List.set_cons_zero, List.set_cons_succ]
  refine wpAnyH_take (i := 4) (v := ?vq3) rfl (by kernel_rfl) (by kernel_rfl) (by kernel_rfl) (fun _ _ _ h => h) (Or.inl ⟨by rfl, ?yq3⟩) hHeld ?rq3
  case yq3 => (intro wq hb; obtain ⟨lq0, lq1, lq2, lq3, lq4, _⟩ := hb; go_simp; try (with_reducible rfl))
  try simp only [List.getElem_toArray, List.getElem_cons_zero, List.getElem_cons_succ, Act.put, List.setIfInBounds_toArray, List.set_cons_zero, List.set_cons_succ]
  refine wpAnyH_take (i := 5) (v := ?vq4) rfl (by kernel_rfl) (by kernel_rfl) (by kernel_rfl) (fun _ _ _ h => h) (Or.inl ⟨by rfl, ?yq4⟩) hHeld ?rq4
  case yq4 => (intro wq hb; obtain ⟨lq0, lq1, lq2, lq3, lq4, _⟩ := hb; go_simp; try (with_reducible rfl))
  try simp only [List.getElem_toArray, List.getElem_cons_zero, List.getElem_cons_succ, Act.put, List.setIfInBounds_toArray, List.set_cons_zero, List.set_cons_succ]
  clear hHeld
  refine wpAnyH_ready (rs := [6]) (by kernel_rfl) (by simp) ?_
  refine AllReadyH.cons rfl (fun K hK => ?_) AllReadyH.nil
  go_simp
  have nX0_X1 : w1.heap.size < w5.heap.size := World.block_lt_of_cell? _ _ cX0_0
  have gX1 : w.heap.size ≤ w5.heap.size := kk.size
  have ha := bA (Below.refl _ w5) (.cells #[.int .i64 0, .int .u64 0, .int .u64 0, .int .u64 0, .int .u64 0] 26)
  have hx := HB.new w5 26 #[.int .i64 0, .int .u64 0, .int .u64 0, .int .u64 0, .int .u64 0]
  replace cX0_0 := cell_later ha cX0_0; replace cX0_1 := cell_later ha cX0_1; replace cX0_2 := cell_later ha cX0_2; replace cX0_3 := cell_later ha cX0_3; replace cX0_4 := cell_later ha cX0_4
  replace kk := bC kk ha
  have cX1_0 := hx.cell 0; have fX1_0 := hx.frozen 0; have cX1_1 := hx.cell 1; have fX1_1 := hx.frozen 1; have cX1_2 := hx.cell 2; have fX1_2 := hx.frozen 2; have cX1_3 := hx.cell 3; have fX1_3 := hx.frozen 3; have cX1_4 := hx.cell 4; have fX1_4 := hx.frozen 4; dsimp at cX1_0 cX1_1 cX1_2 cX1_3 cX1_4
  clear ha hx
  refine hK.out _ _ ⟨cX0_0, cX0_1, cX0_2, cX0_3, cX0_4, trivial⟩ (fun hHeld => ?_)
  clear hK K
  generalize w5.alloc (.cells #[.int .i64 0, .int .u64 0, .int .u64 0, .int .u64 0, .int .u64 0] 26) = w6 at *
  generalize w5.heap.size = pp2 at *
  try simp only [List.getElem_toArray, List.getElem_cons_zero, List.getElem_cons_succ, Act.put, List.setIfInBounds_toArray, List.set_cons_zero, List.set_cons_succ]
  clear w5
  clear hHeld
  refine wpAnyH_ready (rs := [7]) (by kernel_rfl) (by simp) ?_
  refine AllReadyH.cons rfl (fun K hK => ?_) AllReadyH.nil
  go_simp
  have neX0 : ¬ (pp2 = w1.heap.size) := by omega
  have nfX0 : ¬ (w1.heap.size = pp2) := by omega
  have KEY := Lib.hid (show (fun W => W.cell? ⟨w1.heap.size, 0, none⟩ = some (.int .i64 1) ∧ W.cell? ⟨w1.heap.size, 1, none⟩ = some (.int .u64 0) ∧ W.cell? ⟨w1.heap.size, 2, none⟩ = some (.int .u64 0) ∧ W.cell? ⟨w1.heap.size, 3, none⟩ = some (.int .u64 0) ∧ W.cell? ⟨w1.heap.size, 4, none⟩ = some (.int .u64 9223372036854775808) ∧ W.cell? ⟨pp2, 0, none⟩ = some (.int .i64 1) ∧ W.cell? ⟨pp2, 1, none⟩ = some (.int .u64 0) ∧ W.cell? ⟨pp2, 2, none⟩ = some (.int .u64 0) ∧ W.cell? ⟨pp2, 3, none⟩ = some (.int .u64 0) ∧ W.cell? ⟨pp2, 4, none⟩ = some (.int .u64 4611686018427387904) ∧ W.frozen? ⟨pp2, 0, none⟩ = false ∧ W.frozen? ⟨pp2, 1, none⟩ = false ∧ W.frozen? ⟨pp2, 2, none⟩ = false ∧ W.frozen? ⟨pp2, 3, none⟩ = false ∧ W.frozen? ⟨pp2, 4, none⟩ = false ∧ Below w.heap.size w W) (((((w6.setCell ⟨pp2, 0, none⟩ (.int .i64 1)).setCell ⟨pp2, 1, none⟩ (.int .u64 0)).setCell ⟨pp2, 2, none⟩ (.int .u64 0)).setCell ⟨pp2, 3, none⟩ (.int .u64 0)).setCell ⟨pp2, 4, none⟩ (.int .u64 4611686018427387904)) from ⟨by go_simp, by go_simp, by go_simp, by go_simp, by go_simp, by go_simp, by go_simp, by go_simp, by go_simp, by go_simp, by go_simp, by go_simp, by go_simp, by go_simp, by go_simp, (((((kk.setCell (p := ⟨pp2, 0, none⟩) gX1 _).setCell (p := ⟨pp2, 1, none⟩) gX1 _).setCell (p := ⟨pp2, 2, none⟩) gX1 _).setCell (p := ⟨pp2, 3, none⟩) gX1 _).setCell (p := ⟨pp2, 4, none⟩) gX1 _)⟩)
  clear cX0_0 cX0_1 cX0_2 cX0_3 cX0_4 cX1_0 cX1_1 cX1_2 cX1_3 cX1_4 fX1_0 fX1_1 fX1_2 fX1_3 fX1_4 neX0 nfX0 kk
  refine forget_at (fun W => W.cell? ⟨w1.heap.size, 0, none⟩ = some (.int .i64 1) ∧ W.cell? ⟨w1.heap.size, 1, none⟩ = some (.int .u64 0) ∧ W.cell? ⟨w1.heap.size, 2, none⟩ = some (.int .u64 0) ∧ W.cell? ⟨w1.heap.size, 3, none⟩ = some (.int .u64 0) ∧ W.cell? ⟨w1.heap.size, 4, none⟩ = some (.int .u64 9223372036854775808) ∧ W.cell? ⟨pp2, 0, none⟩ = some (.int .i64 1) ∧ W.cell? ⟨pp2, 1, none⟩ = some (.int .u64 0) ∧ W.cell? ⟨pp2, 2, none⟩ = some (.int .u64 0) ∧ W.cell? ⟨pp2, 3, none⟩ = some (.int .u64 0) ∧ W.cell? ⟨pp2, 4, none⟩ = some (.int .u64 4611686018427387904) ∧ W.frozen? ⟨pp2, 0, none⟩ = false ∧ W.frozen? ⟨pp2, 1, none⟩ = false ∧ W.frozen? ⟨pp2, 2, none⟩ = false ∧ W.frozen? ⟨pp2, 3, none⟩ = false ∧ W.frozen? ⟨pp2, 4, none⟩ = false ∧ Below w.heap.size w W) KEY.out (fun w7 hz => ?_)
  obtain ⟨cX0_0, cX0_1, cX0_2, cX0_3, cX0_4, cX1_0, cX1_1, cX1_2, cX1_3, cX1_4, fX1_0, fX1_1, fX1_2, fX1_3, fX1_4, kk⟩ := hz
  clear KEY
  refine hK.out _ _ ⟨cX0_0, cX0_1, cX0_2, cX0_3, cX0_4, trivial⟩ (fun hHeld => ?_)
  clear hK K
  try simp only [List.getElem_toArray, List.getElem_cons_zero, List.getElem_cons_succ, Act.put, List.setIfInBounds_toArray, List.set_cons_zero, List.set_cons_succ]
  clear w6
  refine wpAnyH_take (i := 8) (v := ?vq5) rfl (by kernel_rfl) (by kernel_rfl) (by kernel_rfl) (fun _ _ _ h => h) (Or.inl ⟨by rfl, ?yq5⟩) hHeld ?rq5
  case yq5 => (intro wq hb; obtain ⟨lq0, lq1, lq2, lq3, lq4, _⟩ := hb; go_simp; try (with_reducible rfl))
  try simp only [List.getElem_toArray, List.getElem_cons_zero, List.getElem_cons_succ, Act.put, List.setIfInBounds_toArray, List.set_cons_zero, List.set_cons_succ]
  clear hHeld
  refine wpAnyH_done (by kernel_rfl) ?_ _
  refine NoPanic.normal ?_
  revert kk; revert nX0_X1; revert gX1; revert fX1_4; revert fX1_3; revert fX1_2; revert fX1_1; revert fX1_0; revert cX1_4; revert cX1_3; revert cX1_2; revert cX1_1; revert cX1_0; revert cX0_4; revert cX0_3; revert cX0_2; revert cX0_1; revert cX0_0; revert pp2; revert w7
  refine ?restw3
  rotate_left
  go_simp
  have nX0_X1 : w1.heap.size < w4.heap.size := World.block_lt_of_cell? _ _ cX0_0
  have gX1 : w.heap.size ≤ w4.heap.size := kk.size
  have ha := bA (Below.refl _ w4) (.cells #[.int .i64 0, .int .u64 0, .int .u64 0, .int .u64 0, .int .u64 0] 26)
  have hx := HB.new w4 26 #[.int .i64 0, .int .u64 0, .int .u64 0, .int .u64 0, .int .u64 0]
  replace cX0_0 := cell_later ha cX0_0; replace cX0_1 := cell_later ha cX0_1; replace cX0_2 := cell_later ha cX0_2; replace cX0_3 := cell_later ha cX0_3; replace cX0_4 := cell_later ha cX0_4
  replace kk := bC kk ha
  have cX1_0 := hx.cell 0; have fX1_0 := hx.frozen 0; have cX1_1 := hx.cell 1; have fX1_1 := hx.frozen 1; have cX1_2 := hx.cell 2; have fX1_2 := hx.frozen 2; have cX1_3 := hx.cell 3; have fX1_3 := hx.frozen 3; have cX1_4 := hx.cell 4; have fX1_4 := hx.frozen 4; dsimp at cX1_0 cX1_1 cX1_2 cX1_3 cX1_4
  clear ha hx
  refine hK.out _ _ ⟨cX0_0, cX0_1, cX0_2, cX0_3, cX0_4, trivial⟩ (fun hHeld => ?_)
  clear hK K
  generalize w4.alloc (.cells #[.int .i64 0, .int .u64 0, .int .u64 0, .int .u64 0, .int .u64 0] 26) = w8 at *
  generalize w4.heap.size = pp2 at *
  try simp only [List.getElem_toArray, List.getElem_cons_zero, List.getElem_cons_succ, Act.put, List.setIfInBounds_toArray, List.set_cons_zero, List.set_cons_succ]
  clear w4
  clear hHeld
  refine wpAnyH_ready (rs := [2]) (by kernel_rfl) (by simp) ?_
  refine AllReadyH.cons rfl (fun K hK => ?_) AllReadyH.nil
  go_simp
  (with_reducible refine (h2.out _).mono ?_); rintro e w9 ⟨rfl, hb⟩
  replace cX0_0 := cell_later hb cX0_0; replace cX0_1 := cell_later hb cX0_1; replace cX0_2 := cell_later hb cX0_2; replace cX0_3 := cell_later hb cX0_3; replace cX0_4 := cell_later hb cX0_4
  replace fX1_0 := frozen_later hb cX1_0 fX1_0; replace fX1_1 := frozen_later hb cX1_1 fX1_1; replace fX1_2 := frozen_later hb cX1_2 fX1_2; replace fX1_3 := frozen_later hb cX1_3 fX1_3; replace fX1_4 := frozen_later hb cX1_4 fX1_4
  replace cX1_0 := cell_later hb cX1_0; replace cX1_1 := cell_later hb cX1_1; replace cX1_2 := cell_later hb cX1_2; replace cX1_3 := cell_later hb cX1_3; replace cX1_4 := cell_later hb cX1_4
  replace kk := bC kk hb
  clear hb
  refine hK.out _ _ ⟨cX0_0, cX0_1, cX0_2, cX0_3, cX0_4, trivial⟩ (fun hHeld => ?_)
  clear hK K
  try simp only [List.getElem_toArray, List.getElem_cons_zero, List.getElem_cons_succ, Act.put, List.setIfInBounds_toArray, List.set_cons_zero, List.set_cons_succ]
  clear w8
  refine wpAnyH_take (i := 3) (v := ?vq6) rfl (by kernel_rfl) (by kernel_rfl) (by kernel_rfl) (fun _ _ _ h => h) (Or.inl ⟨by rfl, ?yq6⟩) hHeld ?rq6
  case yq6 => (intro wq hb; obtain ⟨lq0, lq1, lq2, lq3, lq4, _⟩ := hb; go_simp; try (with_reducible rfl))
  try simp only [List.getElem_toArray, List.getElem_cons_zero, List.getElem_cons_succ, Act.put, List.setIfInBounds_toArray, List.set_cons_zero, List.set_cons_succ]
  refine wpAnyH_take (i := 4) (v := ?vq7) rfl (by kernel_rfl) (by kernel_rfl) (by kernel_rfl) (fun _ _ _ h => h) (Or.inl ⟨by rfl, ?yq7⟩) hHeld ?rq7
  case yq7 => (intro wq hb; obtain ⟨lq0, lq1, lq2, lq3, lq4, _⟩ := hb; go_simp; try (with_reducible rfl))
  try simp only [List.getElem_toArray, List.getElem_cons_zero, List.getElem_cons_succ, Act.put, List.setIfInBounds_toArray, List.set_cons_zero, List.set_cons_succ]
  refine wpAnyH_take (i := 5) (v := ?vq8) rfl (by kernel_rfl) (by kernel_rfl) (by kernel_rfl) (fun _ _ _ h => h) (Or.inl ⟨by rfl, ?yq8⟩) hHeld ?rq8
  case yq8 => (intro wq hb; obtain ⟨lq0, lq1, lq2, lq3, lq4, _⟩ := hb; go_simp; try (with_reducible rfl))
  try simp only [List.getElem_toArray, List.getElem_cons_zero, List.getElem_cons_succ, Act.put, List.setIfInBounds_toArray, List.set_cons_zero, List.set_cons_succ]
  clear hHeld
  refine wpAnyH_ready (rs := [7]) (by kernel_rfl) (by simp) ?_
  refine AllReadyH.cons rfl (fun K hK => ?_) AllReadyH.nil
  go_simp
  have neX0 : ¬ (pp2 = w1.heap.size) := by omega
  have nfX0 : ¬ (w1.heap.size = pp2) := by omega
  have KEY := Lib.hid (show (fun W => W.cell? ⟨w1.heap.size, 0, none⟩ = some (.int .i64 1) ∧ W.cell? ⟨w1.heap.size, 1, none⟩ = some (.int .u64 0) ∧ W.cell? ⟨w1.heap.size, 2, none⟩ = some (.int .u64 0) ∧ W.cell? ⟨w1.heap.size, 3, none⟩ = some (.int .u64 0) ∧ W.cell? ⟨w1.heap.size, 4, none⟩ = some (.int .u64 9223372036854775808) ∧ W.cell? ⟨pp2, 0, none⟩ = some (.int .i64 1) ∧ W.cell? ⟨pp2, 1, none⟩ = some (.int .u64 0) ∧ W.cell? ⟨pp2, 2, none⟩ = some (.int .u64 0) ∧ W.cell? ⟨pp2, 3, none⟩ = some (.int .u64 0) ∧ W.cell? ⟨pp2, 4, none⟩ = some (.int .u64 4611686018427387904) ∧ W.frozen? ⟨pp2, 0, none⟩ = false ∧ W.frozen? ⟨pp2, 1, none⟩ = false ∧ W.frozen? ⟨pp2, 2, none⟩ = false ∧ W.frozen? ⟨pp2, 3, none⟩ = false ∧ W.frozen? ⟨pp2, 4, none⟩ = false ∧ Below w.heap.size w W) (((((w9.setCell ⟨pp2, 0, none⟩ (.int .i64 1)).setCell ⟨pp2, 1, none⟩ (.int .u64 0)).setCell ⟨pp2, 2, none⟩ (.int .u64 0)).setCell ⟨pp2, 3, none⟩ (.int .u64 0)).setCell ⟨pp2, 4, none⟩ (.int .u64 4611686018427387904)) from ⟨by go_simp, by go_simp, by go_simp, by go_simp, by go_simp, by go_simp, by go_simp, by go_simp, by go_simp, by go_simp, by go_simp, by go_simp, by go_simp, by go_simp, by go_simp, (((((kk.setCell (p := ⟨pp2, 0, none⟩) gX1 _).setCell (p := ⟨pp2, 1, none⟩) gX1 _).setCell (p := ⟨pp2, 2, none⟩) gX1 _).setCell (p := ⟨pp2, 3, none⟩) gX1 _).setCell (p := ⟨pp2, 4, none⟩) gX1 _)⟩)
  clear cX0_0 cX0_1 cX0_2 cX0_3 cX0_4 cX1_0 cX1_1 cX1_2 cX1_3 cX1_4 fX1_0 fX1_1 fX1_2 fX1_3 fX1_4 neX0 nfX0 kk
  refine forget_at (fun W => W.cell? ⟨w1.heap.size, 0, none⟩ = some (.int .i64 1) ∧ W.cell? ⟨w1.heap.size, 1, none⟩ = some (.int .u64 0) ∧ W.cell? ⟨w1.heap.size, 2, none⟩ = some (.int .u64 0) ∧ W.cell? ⟨w1.heap.size, 3, none⟩ = some (.int .u64 0) ∧ W.cell? ⟨w1.heap.size, 4, none⟩ = some (.int .u64 9223372036854775808) ∧ W.cell? ⟨pp2, 0, none⟩ = some (.int .i64 1) ∧ W.cell? ⟨pp2, 1, none⟩ = some (.int .u64 0) ∧ W.cell? ⟨pp2, 2, none⟩ = some (.int .u64 0) ∧ W.cell? ⟨pp2, 3, none⟩ = some (.int .u64 0) ∧ W.cell? ⟨pp2, 4, none⟩ = some (.int .u64 4611686018427387904) ∧ W.frozen? ⟨pp2, 0, none⟩ = false ∧ W.frozen? ⟨pp2, 1, none⟩ = false ∧ W.frozen? ⟨pp2, 2, none⟩ = false ∧ W.frozen? ⟨pp2, 3, none⟩ = false ∧ W.frozen? ⟨pp2, 4, none⟩ = false ∧ Below w.heap.size w W) KEY.out (fun w10 hz => ?_)
  obtain ⟨cX0_0, cX0_1, cX0_2, cX0_3, cX0_4, cX1_0, cX1_1, cX1_2, cX1_3, cX1_4, fX1_0, fX1_1, fX1_2, fX1_3, fX1_4, kk⟩ := hz
  clear KEY
  refine hK.out _ _ ⟨cX0_0, cX0_1, cX0_2, cX0_3, cX0_4, trivial⟩ (fun hHeld => ?_)
  clear hK K
  try simp only [List.getElem_toArray, List.getElem_cons_zero, List.getElem_cons_succ, Act.put, List.setIfInBounds_toArray, List.set_cons_zero, List.set_cons_succ]
  clear w9
  refine wpAnyH_take (i := 8) (v := ?vq9) rfl (by kernel_rfl) (by kernel_rfl) (by kernel_rfl) (fun _ _ _ h => h) (Or.inl ⟨by rfl, ?yq9⟩) hHeld ?rq9
  case yq9 => (intro wq hb; obtain ⟨lq0, lq1, lq2, lq3, lq4, _⟩ := hb; go_simp; try (with_reducible rfl))
  try simp only [List.getElem_toArray, List.getElem_cons_zero, List.getElem_cons_succ, Act.put, List.setIfInBounds_toArray, List.set_cons_zero, List.set_cons_succ]
  clear hHeld
  refine wpAnyH_done (by kernel_rfl) ?_ _
  refine NoPanic.normal ?_
  revert kk; revert nX0_X1; revert gX1; revert fX1_4; revert fX1_3; revert fX1_2; revert fX1_1; revert fX1_0; revert cX1_4; revert cX1_3; revert cX1_2; revert cX1_1; revert cX1_0; revert cX0_4; revert cX0_3; revert cX0_2; revert cX0_1; revert cX0_0; revert pp2; revert w10
  exact ?restw3
  go_simp
  have nX0_X1 : w1.heap.size < w3.heap.size := World.block_lt_of_cell? _ _ cX0_0
  have gX1 : w.heap.size ≤ w3.heap.size := kk.size
  have ha := bA (Below.refl _ w3) (.cells #[.int .i64 0, .int .u64 0, .int .u64 0, .int .u64 0, .int .u64 0] 26)
  have hx := HB.new w3 26 #[.int .i64 0, .int .u64 0, .int .u64 0, .int .u64 0, .int .u64 0]
  replace cX0_0 := cell_later ha cX0_0; replace cX0_1 := cell_later ha cX0_1; replace cX0_2 := cell_later ha cX0_2; replace cX0_3 := cell_later ha cX0_3; replace cX0_4 := cell_later ha cX0_4
  replace kk := bC kk ha
  have cX1_0 := hx.cell 0; have fX1_0 := hx.frozen 0; have cX1_1 := hx.cell 1; have fX1_1 := hx.frozen 1; have cX1_2 := hx.cell 2; have fX1_2 := hx.frozen 2; have cX1_3 := hx.cell 3; have fX1_3 := hx.frozen 3; have cX1_4 := hx.cell 4; have fX1_4 := hx.frozen 4; dsimp at cX1_0 cX1_1 cX1_2 cX1_3 cX1_4
  clear ha hx
  refine hK.out _ _ ⟨cX0_0, cX0_1, cX0_2, cX0_3, cX0_4, trivial⟩ (fun hHeld => ?_)
  clear hK K
  generalize w3.alloc (.cells #[.int .i64 0, .int .u64 0, .int .u64 0, .int .u64 0, .int .u64 0] 26) = w11 at *
  generalize w3.heap.size = pp2 at *
  try simp only [List.getElem_toArray, List.getElem_cons_zero, List.getElem_cons_succ, Act.put, List.setIfInBounds_toArray, List.set_cons_zero, List.set_cons_succ]
  clear w3
  clear hHeld
  refine wpAnyH_ready (rs := [0]) (by kernel_rfl) (by simp) ?_
  refine AllReadyH.cons rfl (fun K hK => ?_) AllReadyH.nil
  go_simp
  (with_reducible refine (h0.out _).mono ?_); rintro e w12 ⟨rfl, hb⟩
  replace cX0_0 := cell_later hb cX0_0; replace cX0_1 := cell_later hb cX0_1; replace cX0_2 := cell_later hb cX0_2; replace cX0_3 := cell_later hb cX0_3; replace cX0_4 := cell_later hb cX0_4
  replace fX1_0 := frozen_later hb cX1_0 fX1_0; replace fX1_1 := frozen_later hb cX1_1 fX1_1; replace fX1_2 := frozen_later hb cX1_2 fX1_2; replace fX1_3 := frozen_later hb cX1_3 fX1_3; replace fX1_4 := frozen_later hb cX1_4 fX1_4
  replace cX1_0 := cell_later hb cX1_0; replace cX1_1 := cell_later hb cX1_1; replace cX1_2 := cell_later hb cX1_2; replace cX1_3 := cell_later hb cX1_3; replace cX1_4 := cell_later hb cX1_4
  replace kk := bC kk hb
  clear hb
  refine hK.out _ _ ⟨cX0_0, cX0_1, cX0_2, cX0_3, cX0_4, trivial⟩ (fun hHeld => ?_)
  clear hK K
  try simp only [List.getElem_toArray, List.getElem_cons_zero, List.getElem_cons_succ, Act.put, List.setIfInBounds_toArray, List.set_cons_zero, List.set_cons_succ]
  clear w11
  clear hHeld
  refine wpAnyH_ready (rs := [2]) (by kernel_rfl) (by simp) ?_
  refine AllReadyH.cons rfl (fun K hK => ?_) AllReadyH.nil
  go_simp
  (with_reducible refine (h2.out _).mono ?_); rintro e w13 ⟨rfl, hb⟩
  replace cX0_0 := cell_later hb cX0_0; replace cX0_1 := cell_later hb cX0_1; replace cX0_2 := cell_later hb cX0_2; replace cX0_3 := cell_later hb cX0_3; replace cX0_4 := cell_later hb cX0_4
  replace fX1_0 := frozen_later hb cX1_0 fX1_0; replace fX1_1 := frozen_later hb cX1_1 fX1_1; replace fX1_2 := frozen_later hb cX1_2 fX1_2; replace fX1_3 := frozen_later hb cX1_3 fX1_3; replace fX1_4 := frozen_later hb cX1_4 fX1_4
  replace cX1_0 := cell_later hb cX1_0; replace cX1_1 := cell_later hb cX1_1; replace cX1_2 := cell_later hb cX1_2; replace cX1_3 := cell_later hb cX1_3; replace cX1_4 := cell_later hb cX1_4
  replace kk := bC kk hb
  clear hb
  refine hK.out _ _ ⟨cX0_0, cX0_1, cX0_2, cX0_3, cX0_4, trivial⟩ (fun hHeld => ?_)
  clear hK K
  try simp only [List.getElem_toArray, List.getElem_cons_zero, List.getElem_cons_succ, Act.put, List.setIfInBounds_toArray, List.set_cons_zero, List.set_cons_succ]
  clear w12
  refine wpAnyH_take (i := 3) (v := ?vq10) rfl (by kernel_rfl) (by kernel_rfl) (by kernel_rfl) (fun _ _ _ h => h) (Or.inl ⟨by rfl, ?yq10⟩) hHeld ?rq10
  case yq10 => (intro wq hb; obtain ⟨lq0, lq1, lq2, lq3, lq4, _⟩ := hb; go_simp; try (with_reducible rfl))
  try simp only [List.getElem_toArray, List.getElem_cons_zero, List.getElem_cons_succ, Act.put, List.setIfInBounds_toArray, List.set_cons_zero, List.set_cons_succ]
  refine wpAnyH_take (i := 4) (v := ?vq11) rfl (by kernel_rfl) (by kernel_rfl) (by kernel_rfl) (fun _ _ _ h => h) (Or.inl ⟨by rfl, ?yq11⟩) hHeld ?rq11
  case yq11 => (intro wq hb; obtain ⟨lq0, lq1, lq2, lq3, lq4, _⟩ := hb; go_simp; try (with_reducible rfl))
  try simp only [List.getElem_toArray, List.getElem_cons_zero, List.getElem_cons_succ, Act.put, List.setIfInBounds_toArray, List.set_cons_zero, List.set_cons_succ]
  refine wpAnyH_take (i := 5) (v := ?vq12) rfl (by kernel_rfl) (by kernel_rfl) (by kernel_rfl) (fun _ _ _ h => h) (Or.inl ⟨by rfl, ?yq12⟩) hHeld ?rq12
  case yq12 => (intro wq hb; obtain ⟨lq0, lq1, lq2, lq3, lq4, _⟩ := hb; go_simp; try (with_reducible rfl))
  try simp only [List.getElem_toArray, List.getElem_cons_zero, List.getElem_cons_succ, Act.put, List.setIfInBounds_toArray, List.set_cons_zero, List.set_cons_succ]
  clear hHeld
  refine wpAnyH_ready (rs := [7]) (by kernel_rfl) (by simp) ?_
  refine AllReadyH.cons rfl (fun K hK => ?_) AllReadyH.nil
  go_simp
  have neX0 : ¬ (pp2 = w1.heap.size) := by omega
  have nfX0 : ¬ (w1.heap.size = pp2) := by omega
  have KEY := Lib.hid (show (fun W => W.cell? ⟨w1.heap.size, 0, none⟩ = some (.int .i64 1) ∧ W.cell? ⟨w1.heap.size, 1, none⟩ = some (.int .u64 0) ∧ W.cell? ⟨w1.heap.size, 2, none⟩ = some (.int .u64 0) ∧ W.cell? ⟨w1.heap.size, 3, none⟩ = some (.int .u64 0) ∧ W.cell? ⟨w1.heap.size, 4, none⟩ = some (.int .u64 9223372036854775808) ∧ W.cell? ⟨pp2, 0, none⟩ = some (.int .i64 1) ∧ W.cell? ⟨pp2, 1, none⟩ = some (.int .u64 0) ∧ W.cell? ⟨pp2, 2, none⟩ = some (.int .u64 0) ∧ W.cell? ⟨pp2, 3, none⟩ = some (.int .u64 0) ∧ W.cell? ⟨pp2, 4, none⟩ = some (.int .u64 4611686018427387904) ∧ W.frozen? ⟨pp2, 0, none⟩ = false ∧ W.frozen? ⟨pp2, 1, none⟩ = false ∧ W.frozen? ⟨pp2, 2, none⟩ = false ∧ W.frozen? ⟨pp2, 3, none⟩ = false ∧ W.frozen? ⟨pp2, 4, none⟩ = false ∧ Below w.heap.size w W) (((((w13.setCell ⟨pp2, 0, none⟩ (.int .i64 1)).setCell ⟨pp2, 1, none⟩ (.int .u64 0)).setCell ⟨pp2, 2, none⟩ (.int .u64 0)).setCell ⟨pp2, 3, none⟩ (.int .u64 0)).setCell ⟨pp2, 4, none⟩ (.int .u64 4611686018427387904)) from ⟨by go_simp, by go_simp, by go_simp, by go_simp, by go_simp, by go_simp, by go_simp, by go_simp, by go_simp, by go_simp, by go_simp, by go_simp, by go_simp, by go_simp, by go_simp, (((((kk.setCell (p := ⟨pp2, 0, none⟩) gX1 _).setCell (p := ⟨pp2, 1, none⟩) gX1 _).setCell (p := ⟨pp2, 2, none⟩) gX1 _).setCell (p := ⟨pp2, 3, none⟩) gX1 _).setCell (p := ⟨pp2, 4, none⟩) gX1 _)⟩)
  clear cX0_0 cX0_1 cX0_2 cX0_3 cX0_4 cX1_0 cX1_1 cX1_2 cX1_3 cX1_4 fX1_0 fX1_1 fX1_2 fX1_3 fX1_4 neX0 nfX0 kk
  refine forget_at (fun W => W.cell? ⟨w1.heap.size, 0, none⟩ = some (.int .i64 1) ∧ W.cell? ⟨w1.heap.size, 1, none⟩ = some (.int .u64 0) ∧ W.cell? ⟨w1.heap.size, 2, none⟩ = some (.int .u64 0) ∧ W.cell? ⟨w1.heap.size, 3, none⟩ = some (.int .u64 0) ∧ W.cell? ⟨w1.heap.size, 4, none⟩ = some (.int .u64 9223372036854775808) ∧ W.cell? ⟨pp2, 0, none⟩ = some (.int .i64 1) ∧ W.cell? ⟨pp2, 1, none⟩ = some (.int .u64 0) ∧ W.cell? ⟨pp2, 2, none⟩ = some (.int .u64 0) ∧ W.cell? ⟨pp2, 3, none⟩ = some (.int .u64 0) ∧ W.cell? ⟨pp2, 4, none⟩ = some (.int .u64 4611686018427387904) ∧ W.frozen? ⟨pp2, 0, none⟩ = false ∧ W.frozen? ⟨pp2, 1, none⟩ = false ∧ W.frozen? ⟨pp2, 2, none⟩ = false ∧ W.frozen? ⟨pp2, 3, none⟩ = false ∧ W.frozen? ⟨pp2, 4, none⟩ = false ∧ Below w.heap.size w W) KEY.out (fun w14 hz => ?_)
  obtain ⟨cX0_0, cX0_1, cX0_2, cX0_3, cX0_4, cX1_0, cX1_1, cX1_2, cX1_3, cX1_4, fX1_0, fX1_1, fX1_2, fX1_3, fX1_4, kk⟩ := hz
  clear KEY
  refine hK.out _ _ ⟨cX0_0, cX0_1, cX0_2, cX0_3, cX0_4, trivial⟩ (fun hHeld => ?_)
  clear hK K
  try simp only [List.getElem_toArray, List.getElem_cons_zero, List.getElem_cons_succ, Act.put, List.setIfInBounds_toArray, List.set_cons_zero, List.set_cons_succ]
  clear w13
  refine wpAnyH_take (i := 8) (v := ?vq13) rfl (by kernel_rfl) (by kernel_rfl) (by kernel_rfl) (fun _ _ _ h => h) (Or.inl ⟨by rfl, ?yq13⟩) hHeld ?rq13
  case yq13 => (intro wq hb; obtain ⟨lq0, lq1, lq2, lq3, lq4, _⟩ := hb; go_simp; try (with_reducible rfl))
  try simp only [List.getElem_toArray, List.getElem_cons_zero, List.getElem_cons_succ, Act.put, List.setIfInBounds_toArray, List.set_cons_zero, List.set_cons_succ]
  clear hHeld
  refine wpAnyH_done (by kernel_rfl) ?_ _
  refine NoPanic.normal ?_
  revert kk; revert nX0_X1; revert gX1; revert fX1_4; revert fX1_3; revert fX1_2; revert fX1_1; revert fX1_0; revert cX1_4; revert cX1_3; revert cX1_2; revert cX1_1; revert cX1_0; revert cX0_4; revert cX0_3; revert cX0_2; revert cX0_1; revert cX0_0; revert pp2; revert w14
  exact ?restw3
  intro w15 pp2 cX0_0 cX0_1 cX0_2 cX0_3 cX0_4 cX1_0 cX1_1 cX1_2 cX1_3 cX1_4 fX1_0 fX1_1 fX1_2 fX1_3 fX1_4 gX1 nX0_X1 kk
  clear cX0_0 cX0_1 cX0_2 cX0_3 cX0_4
  have sX1 : pp2 < w15.heap.size := World.block_lt_of_cell? _ _ cX1_0
  clear fX1_0 fX1_1 fX1_2 fX1_3 fX1_4
  go_wp2_with fail
  refine wp_forget (fun W => W.cell? ⟨pp2, 0, none⟩ = some (.int .i64 1) ∧ W.cell? ⟨pp2, 1, none⟩ = some (.int .u64 0) ∧ W.cell? ⟨pp2, 2, none⟩ = some (.int .u64 0) ∧ W.cell? ⟨pp2, 3, none⟩ = some (.int .u64 0) ∧ W.cell? ⟨pp2, 4, none⟩ = some (.int .u64 4611686018427387904) ∧ W.cell? ⟨w15.heap.size, 0, none⟩ = some (.int .i64 (-500)) ∧ W.cell? ⟨w15.heap.size, 1, none⟩ = some (.int .u64 4) ∧ W.cell? ⟨w15.heap.size, 2, none⟩ = some (.int .u64 0) ∧ W.cell? ⟨w15.heap.size, 3, none⟩ = some (.int .u64 0) ∧ W.cell? ⟨w15.heap.size, 4, none⟩ = some (.int .u64 0) ∧ Below w.heap.size w W) ⟨cell_later (bA (Below.refl _ _) _) cX1_0, cell_later (bA (Below.refl _ _) _) cX1_1, cell_later (bA (Below.refl _ _) _) cX1_2, cell_later (bA (Below.refl _ _) _) cX1_3, cell_later (bA (Below.refl _ _) _) cX1_4, by go_simp, by go_simp, by go_simp, by go_simp, by go_simp, bC kk (bA (Below.refl _ _) _)⟩ (fun w16 hst => ?_)
  clear cX1_0 cX1_1 cX1_2 cX1_3 cX1_4 sX1 kk
  obtain ⟨cX1_0, cX1_1, cX1_2, cX1_3, cX1_4, cX2_0, cX2_1, cX2_2, cX2_3, cX2_4, kk⟩ := hst
  have sX1 : pp2 < w16.heap.size := World.block_lt_of_cell? _ _ cX1_0
  have sX2 : w15.heap.size < w16.heap.size := World.block_lt_of_cell? _ _ cX2_0
  clear sX1
  clear sX2
  refine wp_region_noPanic ?_
  refine wp_region_held_drew (S := fun w' => w'.cell? ⟨w15.heap.size, 0, none⟩ = some (.int .i64 (-500)) ∧ w'.cell? ⟨w15.heap.size, 1, none⟩ = some (.int .u64 4) ∧ w'.cell? ⟨w15.heap.size, 2, none⟩ = some (.int .u64 0) ∧ w'.cell? ⟨w15.heap.size, 3, none⟩ = some (.int .u64 0) ∧ w'.cell? ⟨w15.heap.size, 4, none⟩ = some (.int .u64 0) ∧ True) (by kernel_rfl) ⟨cell_later (Below.refl _ _).drew cX2_0, cell_later (Below.refl _ _).drew cX2_1, cell_later (Below.refl _ _).drew cX2_2, cell_later (Below.refl _ _).drew cX2_3, cell_later (Below.refl _ _).drew cX2_4, trivial⟩ (fun hHeld => ?_)
  replace cX1_0 := cell_later (Below.refl _ _).drew cX1_0; replace cX1_1 := cell_later (Below.refl _ _).drew cX1_1; replace cX1_2 := cell_later (Below.refl _ _).drew cX1_2; replace cX1_3 := cell_later (Below.refl _ _).drew cX1_3; replace cX1_4 := cell_later (Below.refl _ _).drew cX1_4
  replace cX2_0 := cell_later (Below.refl _ _).drew cX2_0; replace cX2_1 := cell_later (Below.refl _ _).drew cX2_1; replace cX2_2 := cell_later (Below.refl _ _).drew cX2_2; replace cX2_3 := cell_later (Below.refl _ _).drew cX2_3; replace cX2_4 := cell_later (Below.refl _ _).drew cX2_4
  replace kk := bC kk (Below.refl _ _).drew
  generalize World.drew _ = w17 at *
  refine wpAnyH_take (i := 1) (v := ?vq14) rfl (by kernel_rfl) (by kernel_rfl) (by kernel_rfl) (fun _ _ _ h => h) (Or.inl ⟨by rfl, ?yq14⟩) hHeld ?rq14
  case yq14 => (intro wq hb; obtain ⟨lq0, lq1, lq2, lq3, lq4, _⟩ := hb; go_simp; try (with_reducible rfl))
  try simp only [List.getElem_toArray, List.getElem_cons_zero, List.getElem_cons_succ, Act.put, List.setIfInBounds_toArray, List.set_cons_zero, List.set_cons_succ]
  clear hHeld
  refine wpAnyH_ready (rs := [0, 6]) (by kernel_rfl) (by simp) ?_
  refine AllReadyH.cons rfl (fun K hK => ?_) (AllReadyH.cons rfl (fun K hK => ?_) AllReadyH.nil)
  go_simp
  (with_reducible refine (h0.out _).mono ?_); rintro e w18 ⟨rfl, hb⟩
  replace cX1_0 := cell_later hb cX1_0; replace cX1_1 := cell_later hb cX1_1; replace cX1_2 := cell_later hb cX1_2; replace cX1_3 := cell_later hb cX1_3; replace cX1_4 := cell_later hb cX1_4
  replace cX2_0 := cell_later hb cX2_0; replace cX2_1 := cell_later hb cX2_1; replace cX2_2 := cell_later hb cX2_2; replace cX2_3 := cell_later hb cX2_3; replace cX2_4 := cell_later hb cX2_4
  replace kk := bC kk hb
  clear hb
  refine hK.out _ _ ⟨cX2_0, cX2_1, cX2_2, cX2_3, cX2_4, trivial⟩ (fun hHeld => ?_)
  clear hK K
  try simp only [List.getElem_toArray, List.getElem_cons_zero, List.getElem_cons_succ, Act.put, List.setIfInBounds_toArray, List.set_cons_zero, List.set_cons_succ]
  clear w17
  clear hHeld
  refine wpAnyH_ready (rs := [2, 6]) (by kernel_rfl) (by simp) ?_
  refine AllReadyH.cons rfl (fun K hK => ?_) (AllReadyH.cons rfl (fun K hK => ?_) AllReadyH.nil)
  go_simp
  (with_reducible refine (h4.out _).mono ?_); rintro e w19 ⟨rfl, hb⟩
  replace cX1_0 := cell_later hb cX1_0; replace cX1_1 := cell_later hb cX1_1; replace cX1_2 := cell_later hb cX1_2; replace cX1_3 := cell_later hb cX1_3; replace cX1_4 := cell_later hb cX1_4
  replace cX2_0 := cell_later hb cX2_0; replace cX2_1 := cell_later hb cX2_1; replace cX2_2 := cell_later hb cX2_2; replace cX2_3 := cell_later hb cX2_3; replace cX2_4 := cell_later hb cX2_4
  replace kk := bC kk hb
  clear hb
  refine hK.out _ _ ⟨cX2_0, cX2_1, cX2_2, cX2_3, cX2_4, trivial⟩ (fun hHeld => ?_)
  clear hK K
  try simp only [List.getElem_toArray, List.getElem_cons_zero, List.getElem_cons_succ, Act.put, List.setIfInBounds_toArray, List.set_cons_zero, List.set_cons_succ]
  clear w18
  refine wpAnyH_take (i := 3) (v := ?vq15) rfl (by kernel_rfl) (by kernel_rfl) (by kernel_rfl) (fun _ _ _ h => h) (Or.inl ⟨by rfl, ?yq15⟩) hHeld ?rq15
  case yq15 => (intro wq hb; obtain ⟨lq0, lq1, lq2, lq3, lq4, _⟩ := hb; go_simp; try (with_reducible rfl))
  try simp only [List.getElem_toArray, List.getElem_cons_zero, List.getElem_cons_succ, Act.put, List.setIfInBounds_toArray, List.set_cons_zero, List.set_cons_succ]
  refine wpAnyH_take (i := 4) (v := ?vq16) rfl (by kernel_rfl) (by kernel_rfl) (by kernel_rfl) (fun _ _ _ h => h) (Or.inl ⟨by rfl, ?yq16⟩) hHeld ?rq16
  case yq16 => (intro wq hb; obtain ⟨lq0, lq1, lq2, lq3, lq4, _⟩ := hb; go_simp; try (with_reducible rfl))
  try simp only [List.getElem_toArray, List.getElem_cons_zero, List.getElem_cons_succ, Act.put, List.setIfInBounds_toArray, List.set_cons_zero, List.set_cons_succ]
  refine wpAnyH_take (i := 5) (v := ?vq17) rfl (by kernel_rfl) (by kernel_rfl) (by kernel_rfl) (fun _ _ _ h => h) (Or.inl ⟨by rfl, ?yq17⟩) hHeld ?rq17
  case yq17 => (intro wq hb; obtain ⟨lq0, lq1, lq2, lq3, lq4, _⟩ := hb; go_simp; try (with_reducible rfl))
  try simp only [List.getElem_toArray, List.getElem_cons_zero, List.getElem_cons_succ, Act.put, List.setIfInBounds_toArray, List.set_cons_zero, List.set_cons_succ]
  clear hHeld
  refine wpAnyH_ready (rs := [6]) (by kernel_rfl) (by simp) ?_
  refine AllReadyH.cons rfl (fun K hK => ?_) AllReadyH.nil
  go_simp
  have nX1_X3 : pp2 < w19.heap.size := World.block_lt_of_cell? _ _ cX1_0
  have nX2_X3 : w15.heap.size < w19.heap.size := World.block_lt_of_cell? _ _ cX2_0
  have gX3 : w.heap.size ≤ w19.heap.size := kk.size
  have ha := bA (Below.refl _ w19) (.cells #[.int .i64 0, .int .u64 0, .int .u64 0, .int .u64 0, .int .u64 0] 26)
  have hx := HB.new w19 26 #[.int .i64 0, .int .u64 0, .int .u64 0, .int .u64 0, .int .u64 0]
  replace cX1_0 := cell_later ha cX1_0; replace cX1_1 := cell_later ha cX1_1; replace cX1_2 := cell_later ha cX1_2; replace cX1_3 := cell_later ha cX1_3; replace cX1_4 := cell_later ha cX1_4
  replace cX2_0 := cell_later ha cX2_0; replace cX2_1 := cell_later ha cX2_1; replace cX2_2 := cell_later ha cX2_2; replace cX2_3 := cell_later ha cX2_3; replace cX2_4 := cell_later ha cX2_4
  replace kk := bC kk ha
  have cX3_0 := hx.cell 0; have fX3_0 := hx.frozen 0; have cX3_1 := hx.cell 1; have fX3_1 := hx.frozen 1; have cX3_2 := hx.cell 2; have fX3_2 := hx.frozen 2; have cX3_3 := hx.cell 3; have fX3_3 := hx.frozen 3; have cX3_4 := hx.cell 4; have fX3_4 := hx.frozen 4; dsimp at cX3_0 cX3_1 cX3_2 cX3_3 cX3_4
  clear ha hx
  refine hK.out _ _ ⟨cX2_0, cX2_1, cX2_2, cX2_3, cX2_4, trivial⟩ (fun hHeld => ?_)
  clear hK K
  generalize w19.alloc (.cells #[.int .i64 0, .int .u64 0, .int .u64 0, .int .u64 0, .int .u64 0] 26) = w20 at *
  generalize w19.heap.size = pp16 at *
  try simp only [List.getElem_toArray, List.getElem_cons_zero, List.getElem_cons_succ, Act.put, List.setIfInBounds_toArray, List.set_cons_zero, List.set_cons_succ]
  clear w19
  clear hHeld
  refine wpAnyH_ready (rs := [7]) (by kernel_rfl) (by simp) ?_
  refine AllReadyH.cons rfl (fun K hK => ?_) AllReadyH.nil
  go_simp
  have neX1 : ¬ (pp16 = pp2) := by omega
  have nfX1 : ¬ (pp2 = pp16) := by omega
  have neX2 : ¬ (pp16 = w15.heap.size) := by omega
  have nfX2 : ¬ (w15.heap.size = pp16) := by omega
  have KEY := Lib.hid (show (fun W => W.cell? ⟨pp2, 0, none⟩ = some (.int .i64 1) ∧ W.cell? ⟨pp2, 1, none⟩ = some (.int .u64 0) ∧ W.cell? ⟨pp2, 2, none⟩ = some (.int .u64 0) ∧ W.cell? ⟨pp2, 3, none⟩ = some (.int .u64 0) ∧ W.cell? ⟨pp2, 4, none⟩ = some (.int .u64 4611686018427387904) ∧ W.cell? ⟨w15.heap.size, 0, none⟩ = some (.int .i64 (-500)) ∧ W.cell? ⟨w15.heap.size, 1, none⟩ = some (.int .u64 4) ∧ W.cell? ⟨w15.heap.size, 2, none⟩ = some (.int .u64 0) ∧ W.cell? ⟨w15.heap.size, 3, none⟩ = some (.int .u64 0) ∧ W.cell? ⟨w15.heap.size, 4, none⟩ = some (.int .u64 0) ∧ W.cell? ⟨pp16, 0, none⟩ = some (.int .i64 0) ∧ W.cell? ⟨pp16, 1, none⟩ = some (.int .u64 18446744073709551615) ∧ W.cell? ⟨pp16, 2, none⟩ = some (.int .u64 18446744073709551615) ∧ W.cell? ⟨pp16, 3, none⟩ = some (.int .u64 18446744073709551615) ∧ W.cell? ⟨pp16, 4, none⟩ = some (.int .u64 9223372036854775807) ∧ W.frozen? ⟨pp16, 0, none⟩ = false ∧ W.frozen? ⟨pp16, 1, none⟩ = false ∧ W.frozen? ⟨pp16, 2, none⟩ = false ∧ W.frozen? ⟨pp16, 3, none⟩ = false ∧ W.frozen? ⟨pp16, 4, none⟩ = false ∧ Below w.heap.size w W) (((((w20.setCell ⟨pp16, 0, none⟩ (.int .i64 0)).setCell ⟨pp16, 1, none⟩ (.int .u64 18446744073709551615)).setCell ⟨pp16, 2, none⟩ (.int .u64 18446744073709551615)).setCell ⟨pp16, 3, none⟩ (.int .u64 18446744073709551615)).setCell ⟨pp16, 4, none⟩ (.int .u64 9223372036854775807)) from ⟨by go_simp, by go_simp, by go_simp, by go_simp, by go_simp, by go_simp, by go_simp, by go_simp, by go_simp, by go_simp, by go_simp, by go_simp, by go_simp, by go_simp, by go_simp, by go_simp, by go_simp, by go_simp, by go_simp, by go_simp, (((((kk.setCell (p := ⟨pp16, 0, none⟩) gX3 _).setCell (p := ⟨pp16, 1, none⟩) gX3 _).setCell (p := ⟨pp16, 2, none⟩) gX3 _).setCell (p := ⟨pp16, 3, none⟩) gX3 _).setCell (p := ⟨pp16, 4, none⟩) gX3 _)⟩)
  clear cX1_0 cX1_1 cX1_2 cX1_3 cX1_4 cX2_0 cX2_1 cX2_2 cX2_3 cX2_4 cX3_0 cX3_1 cX3_2 cX3_3 cX3_4 fX3_0 fX3_1 fX3_2 fX3_3 fX3_4 neX1 nfX1 neX2 nfX2 kk
  refine forget_at (fun W => W.cell? ⟨pp2, 0, none⟩ = some (.int .i64 1) ∧ W.cell? ⟨pp2, 1, none⟩ = some (.int .u64 0) ∧ W.cell? ⟨pp2, 2, none⟩ = some (.int .u64 0) ∧ W.cell? ⟨pp2, 3, none⟩ = some (.int .u64 0) ∧ W.cell? ⟨pp2, 4, none⟩ = some (.int .u64 4611686018427387904) ∧ W.cell? ⟨w15.heap.size, 0, none⟩ = some (.int .i64 (-500)) ∧ W.cell? ⟨w15.heap.size, 1, none⟩ = some (.int .u64 4) ∧ W.cell? ⟨w15.heap.size, 2, none⟩ = some (.int .u64 0) ∧ W.cell? ⟨w15.heap.size, 3, none⟩ = some (.int .u64 0) ∧ W.cell? ⟨w15.heap.size, 4, none⟩ = some (.int .u64 0) ∧ W.cell? ⟨pp16, 0, none⟩ = some (.int .i64 0) ∧ W.cell? ⟨pp16, 1, none⟩ = some (.int .u64 18446744073709551615) ∧ W.cell? ⟨pp16, 2, none⟩ = some (.int .u64 18446744073709551615) ∧ W.cell? ⟨pp16, 3, none⟩ = some (.int .u64 18446744073709551615) ∧ W.cell? ⟨pp16, 4, none⟩ = some (.int .u64 9223372036854775807) ∧ W.frozen? ⟨pp16, 0, none⟩ = false ∧ W.frozen? ⟨pp16, 1, none⟩ = false ∧ W.frozen? ⟨pp16, 2, none⟩ = false ∧ W.frozen? ⟨pp16, 3, none⟩ = false ∧ W.frozen? ⟨pp16, 4, none⟩ = false ∧ Below w.heap.size w W) KEY.out (fun w21 hz => ?_)
  obtain ⟨cX1_0, cX1_1, cX1_2, cX1_3, cX1_4, cX2_0, cX2_1, cX2_2, cX2_3, cX2_4, cX3_0, cX3_1, cX3_2, cX3_3, cX3_4, fX3_0, fX3_1, fX3_2, fX3_3, fX3_4, kk⟩ := hz
  clear KEY
  refine hK.out _ _ ⟨cX2_0, cX2_1, cX2_2, cX2_3, cX2_4, trivial⟩ (fun hHeld => ?_)
  clear hK K
  try simp only [List.getElem_toArray, List.getElem_cons_zero, List.getElem_cons_succ, Act.put, List.setIfInBounds_toArray, List.set_cons_zero, List.set_cons_succ]
  clear w20
  refine wpAnyH_take (i := 8) (v := ?vq18) rfl (by kernel_rfl) (by kernel_rfl) (by kernel_rfl) (fun _ _ _ h => h) (Or.inl ⟨by rfl, ?yq18⟩) hHeld ?rq18
  case yq18 => (intro wq hb; obtain ⟨lq0, lq1, lq2, lq3, lq4, _⟩ := hb; go_simp; try (with_reducible rfl))
  try simp only [List.getElem_toArray, List.getElem_cons_zero, List.getElem_cons_succ, Act.put, List.setIfInBounds_toArray, List.set_cons_zero, List.set_cons_succ]
  clear hHeld
  refine wpAnyH_done (by kernel_rfl) ?_ _
  refine NoPanic.normal ?_
  revert kk; revert nX2_X3; revert nX1_X3; revert gX3; revert fX3_4; revert fX3_3; revert fX3_2; revert fX3_1; revert fX3_0; revert cX3_4; revert cX3_3; revert cX3_2; revert cX3_1; revert cX3_0; revert cX2_4; revert cX2_3; revert cX2_2; revert cX2_1; revert cX2_0; revert cX1_4; revert cX1_3; revert cX1_2; revert cX1_1; revert cX1_0; revert pp16; revert w21
  refine ?restw17
  rotate_left
  go_simp
  have nX1_X3 : pp2 < w18.heap.size := World.block_lt_of_cell? _ _ cX1_0
  have nX2_X3 : w15.heap.size < w18.heap.size := World.block_lt_of_cell? _ _ cX2_0
  have gX3 : w.heap.size ≤ w18.heap.size := kk.size
  have ha := bA (Below.refl _ w18) (.cells #[.int .i64 0, .int .u64 0, .int .u64 0, .int .u64 0, .int .u64 0] 26)
  have hx := HB.new w18 26 #[.int .i64 0, .int .u64 0, .int .u64 0, .int .u64 0, .int .u64 0]
  replace cX1_0 := cell_later ha cX1_0; replace cX1_1 := cell_later ha cX1_1; replace cX1_2 := cell_later ha cX1_2; replace cX1_3 := cell_later ha cX1_3; replace cX1_4 := cell_later ha cX1_4
  replace cX2_0 := cell_later ha cX2_0; replace cX2_1 := cell_later ha cX2_1; replace cX2_2 := cell_later ha cX2_2; replace cX2_3 := cell_later ha cX2_3; replace cX2_4 := cell_later ha cX2_4
  replace kk := bC kk ha
  have cX3_0 := hx.cell 0; have fX3_0 := hx.frozen 0; have cX3_1 := hx.cell 1; have fX3_1 := hx.frozen 1; have cX3_2 := hx.cell 2; have fX3_2 := hx.frozen 2; have cX3_3 := hx.cell 3; have fX3_3 := hx.frozen 3; have cX3_4 := hx.cell 4; have fX3_4 := hx.frozen 4; dsimp at cX3_0 cX3_1 cX3_2 cX3_3 cX3_4
  clear ha hx
  refine hK.out _ _ ⟨cX2_0, cX2_1, cX2_2, cX2_3, cX2_4, trivial⟩ (fun hHeld => ?_)
  clear hK K
  generalize w18.alloc (.cells #[.int .i64 0, .int .u64 0, .int .u64 0, .int .u64 0, .int .u64 0] 26) = w22 at *
  generalize w18.heap.size = pp16 at *
  try simp only [List.getElem_toArray, List.getElem_cons_zero, List.getElem_cons_succ, Act.put, List.setIfInBounds_toArray, List.set_cons_zero, List.set_cons_succ]
  clear w18
  clear hHeld
  refine wpAnyH_ready (rs := [2]) (by kernel_rfl) (by simp) ?_
  refine AllReadyH.cons rfl (fun K hK => ?_) AllReadyH.nil
  go_simp
  (with_reducible refine (h4.out _).mono ?_); rintro e w23 ⟨rfl, hb⟩
  replace cX1_0 := cell_later hb cX1_0; replace cX1_1 := cell_later hb cX1_1; replace cX1_2 := cell_later hb cX1_2; replace cX1_3 := cell_later hb cX1_3; replace cX1_4 := cell_later hb cX1_4
  replace cX2_0 := cell_later hb cX2_0; replace cX2_1 := cell_later hb cX2_1; replace cX2_2 := cell_later hb cX2_2; replace cX2_3 := cell_later hb cX2_3; replace cX2_4 := cell_later hb cX2_4
  replace fX3_0 := frozen_later hb cX3_0 fX3_0; replace fX3_1 := frozen_later hb cX3_1 fX3_1; replace fX3_2 := frozen_later hb cX3_2 fX3_2; replace fX3_3 := frozen_later hb cX3_3 fX3_3; replace fX3_4 := frozen_later hb cX3_4 fX3_4
  replace cX3_0 := cell_later hb cX3_0; replace cX3_1 := cell_later hb cX3_1; replace cX3_2 := cell_later hb cX3_2; replace cX3_3 := cell_later hb cX3_3; replace cX3_4 := cell_later hb cX3_4
  replace kk := bC kk hb
  clear hb
  refine hK.out _ _ ⟨cX2_0, cX2_1, cX2_2, cX2_3, cX2_4, trivial⟩ (fun hHeld => ?_)
  clear hK K
  try simp only [List.getElem_toArray, List.getElem_cons_zero, List.getElem_cons_succ, Act.put, List.setIfInBounds_toArray, List.set_cons_zero, List.set_cons_succ]
  clear w22
  refine wpAnyH_take (i := 3) (v := ?vq19) rfl (by kernel_rfl) (by kernel_rfl) (by kernel_rfl) (fun _ _ _ h => h) (Or.inl ⟨by rfl, ?yq19⟩) hHeld ?rq19
  case yq19 => (intro wq hb; obtain ⟨lq0, lq1, lq2, lq3, lq4, _⟩ := hb; go_simp; try (with_reducible rfl))
  try simp only [List.getElem_toArray, List.getElem_cons_zero, List.getElem_cons_succ, Act.put, List.setIfInBounds_toArray, List.set_cons_zero, List.set_cons_succ]
  refine wpAnyH_take (i := 4) (v := ?vq20) rfl (by kernel_rfl) (by kernel_rfl) (by kernel_rfl) (fun _ _ _ h => h) (Or.inl ⟨by rfl, ?yq20⟩) hHeld ?rq20
  case yq20 => (intro wq hb; obtain ⟨lq0, lq1, lq2, lq3, lq4, _⟩ := hb; go_simp; try (with_reducible rfl))
  try simp only [List.getElem_toArray, List.getElem_cons_zero, List.getElem_cons_succ, Act.put, List.setIfInBounds_toArray, List.set_cons_zero, List.set_cons_succ]
  refine wpAnyH_take (i := 5) (v := ?vq21) rfl (by kernel_rfl) (by kernel_rfl) (by kernel_rfl) (fun _ _ _ h => h) (Or.inl ⟨by rfl, ?yq21⟩) hHeld ?rq21
  case yq21 => (intro wq hb; obtain ⟨lq0, lq1, lq2, lq3, lq4, _⟩ := hb; go_simp; try (with_reducible rfl))
  try simp only [List.getElem_toArray, List.getElem_cons_zero, List.getElem_cons_succ, Act.put, List.setIfInBounds_toArray, List.set_cons_zero, List.set_cons_succ]
  clear hHeld
  refine wpAnyH_ready (rs := [7]) (by kernel_rfl) (by simp) ?_
  refine AllReadyH.cons rfl (fun K hK => ?_) AllReadyH.nil
  go_simp
  have neX1 : ¬ (pp16 = pp2) := by omega
  have nfX1 : ¬ (pp2 = pp16) := by omega
  have neX2 : ¬ (pp16 = w15.heap.size) := by omega
  have nfX2 : ¬ (w15.heap.size = pp16) := by omega
  have KEY := Lib.hid (show (fun W => W.cell? ⟨pp2, 0, none⟩ = some (.int .i64 1) ∧ W.cell? ⟨pp2, 1, none⟩ = some (.int .u64 0) ∧ W.cell? ⟨pp2, 2, none⟩ = some (.int .u64 0) ∧ W.cell? ⟨pp2, 3, none⟩ = some (.int .u64 0) ∧ W.cell? ⟨pp2, 4, none⟩ = some (.int .u64 4611686018427387904) ∧ W.cell? ⟨w15.heap.size, 0, none⟩ = some (.int .i64 (-500)) ∧ W.cell? ⟨w15.heap.size, 1, none⟩ = some (.int .u64 4) ∧ W.cell? ⟨w15.heap.size, 2, none⟩ = some (.int .u64 0) ∧ W.cell? ⟨w15.heap.size, 3, none⟩ = some (.int .u64 0) ∧ W.cell? ⟨w15.heap.size, 4, none⟩ = some (.int .u64 0) ∧ W.cell? ⟨pp16, 0, none⟩ = some (.int .i64 0) ∧ W.cell? ⟨pp16, 1, none⟩ = some (.int .u64 18446744073709551615) ∧ W.cell? ⟨pp16, 2, none⟩ = some (.int .u64 18446744073709551615) ∧ W.cell? ⟨pp16, 3, none⟩ = some (.int .u64 18446744073709551615) ∧ W.cell? ⟨pp16, 4, none⟩ = some (.int .u64 9223372036854775807) ∧ W.frozen? ⟨pp16, 0, none⟩ = false ∧ W.frozen? ⟨pp16, 1, none⟩ = false ∧ W.frozen? ⟨pp16, 2, none⟩ = false ∧ W.frozen? ⟨pp16, 3, none⟩ = false ∧ W.frozen? ⟨pp16, 4, none⟩ = false ∧ Below w.heap.size w W) (((((w23.setCell ⟨pp16, 0, none⟩ (.int .i64 0)).setCell ⟨pp16, 1, none⟩ (.int .u64 18446744073709551615)).setCell ⟨pp16, 2, none⟩ (.int .u64 18446744073709551615)).setCell ⟨pp16, 3, none⟩ (.int .u64 18446744073709551615)).setCell ⟨pp16, 4, none⟩ (.int .u64 9223372036854775807)) from ⟨by go_simp, by go_simp, by go_simp, by go_simp, by go_simp, by go_simp, by go_simp, by go_simp, by go_simp, by go_simp, by go_simp, by go_simp, by go_simp, by go_simp, by go_simp, by go_simp, by go_simp, by go_simp, by go_simp, by go_simp, (((((kk.setCell (p := ⟨pp16, 0, none⟩) gX3 _).setCell (p := ⟨pp16, 1, none⟩) gX3 _).setCell (p := ⟨pp16, 2, none⟩) gX3 _).setCell (p := ⟨pp16, 3, none⟩) gX3 _).setCell (p := ⟨pp16, 4, none⟩) gX3 _)⟩)
  clear cX1_0 cX1_1 cX1_2 cX1_3 cX1_4 cX2_0 cX2_1 cX2_2 cX2_3 cX2_4 cX3_0 cX3_1 cX3_2 cX3_3 cX3_4 fX3_0 fX3_1 fX3_2 fX3_3 fX3_4 neX1 nfX1 neX2 nfX2 kk
  refine forget_at (fun W => W.cell? ⟨pp2, 0, none⟩ = some (.int .i64 1) ∧ W.cell? ⟨pp2, 1, none⟩ = some (.int .u64 0) ∧ W.cell? ⟨pp2, 2, none⟩ = some (.int .u64 0) ∧ W.cell? ⟨pp2, 3, none⟩ = some (.int .u64 0) ∧ W.cell? ⟨pp2, 4, none⟩ = some (.int .u64 4611686018427387904) ∧ W.cell? ⟨w15.heap.size, 0, none⟩ = some (.int .i64 (-500)) ∧ W.cell? ⟨w15.heap.size, 1, none⟩ = some (.int .u64 4) ∧ W.cell? ⟨w15.heap.size, 2, none⟩ = some (.int .u64 0) ∧ W.cell? ⟨w15.heap.size, 3, none⟩ = some (.int .u64 0) ∧ W.cell? ⟨w15.heap.size, 4, none⟩ = some (.int .u64 0) ∧ W.cell? ⟨pp16, 0, none⟩ = some (.int .i64 0) ∧ W.cell? ⟨pp16, 1, none⟩ = some (.int .u64 18446744073709551615) ∧ W.cell? ⟨pp16, 2, none⟩ = some (.int .u64 18446744073709551615) ∧ W.cell? ⟨pp16, 3, none⟩ = some (.int .u64 18446744073709551615) ∧ W.cell? ⟨pp16, 4, none⟩ = some (.int .u64 9223372036854775807) ∧ W.frozen? ⟨pp16, 0, none⟩ = false ∧ W.frozen? ⟨pp16, 1, none⟩ = false ∧ W.frozen? ⟨pp16, 2, none⟩ = false ∧ W.frozen? ⟨pp16, 3, none⟩ = false ∧ W.frozen? ⟨pp16, 4, none⟩ = false ∧ Below w.heap.size w W) KEY.out (fun w24 hz => ?_)
  obtain ⟨cX1_0, cX1_1, cX1_2, cX1_3, cX1_4, cX2_0, cX2_1, cX2_2, cX2_3, cX2_4, cX3_0, cX3_1, cX3_2, cX3_3, cX3_4, fX3_0, fX3_1, fX3_2, fX3_3, fX3_4, kk⟩ := hz
  clear KEY
  refine hK.out _ _ ⟨cX2_0, cX2_1, cX2_2, cX2_3, cX2_4, trivial⟩ (fun hHeld => ?_)
  clear hK K
  try simp only [List.getElem_toArray, List.getElem_cons_zero, List.getElem_cons_succ, Act.put, List.setIfInBounds_toArray, List.set_cons_zero, List.set_cons_succ]
  clear w23
  refine wpAnyH_take (i := 8) (v := ?vq22) rfl (by kernel_rfl) (by kernel_rfl) (by kernel_rfl) (fun _ _ _ h => h) (Or.inl ⟨by rfl, ?yq22⟩) hHeld ?rq22
  case yq22 => (intro wq hb; obtain ⟨lq0, lq1, lq2, lq3, lq4, _⟩ := hb; go_simp; try (with_reducible rfl))
  try simp only [List.getElem_toArray, List.getElem_cons_zero, List.getElem_cons_succ, Act.put, List.setIfInBounds_toArray, List.set_cons_zero, List.set_cons_succ]
  clear hHeld
  refine wpAnyH_done (by kernel_rfl) ?_ _
  refine NoPanic.normal ?_
  revert kk; revert nX2_X3; revert nX1_X3; revert gX3; revert fX3_4; revert fX3_3; revert fX3_2; revert fX3_1; revert fX3_0; revert cX3_4; revert cX3_3; revert cX3_2; revert cX3_1; revert cX3_0; revert cX2_4; revert cX2_3; revert cX2_2; revert cX2_1; revert cX2_0; revert cX1_4; revert cX1_3; revert cX1_2; revert cX1_1; revert cX1_0; revert pp16; revert w24
  exact ?restw17
  go_simp
  have nX1_X3 : pp2 < w17.heap.size := World.block_lt_of_cell? _ _ cX1_0
  have nX2_X3 : w15.heap.size < w17.heap.size := World.block_lt_of_cell? _ _ cX2_0
  have gX3 : w.heap.size ≤ w17.heap.size := kk.size
  have ha := bA (Below.refl _ w17) (.cells #[.int .i64 0, .int .u64 0, .int .u64 0, .int .u64 0, .int .u64 0] 26)
  have hx := HB.new w17 26 #[.int .i64 0, .int .u64 0, .int .u64 0, .int .u64 0, .int .u64 0]
  replace cX1_0 := cell_later ha cX1_0; replace cX1_1 := cell_later ha cX1_1; replace cX1_2 := cell_later ha cX1_2; replace cX1_3 := cell_later ha cX1_3; replace cX1_4 := cell_later ha cX1_4
  replace cX2_0 := cell_later ha cX2_0; replace cX2_1 := cell_later ha cX2_1; replace cX2_2 := cell_later ha cX2_2; replace cX2_3 := cell_later ha cX2_3; replace cX2_4 := cell_later ha cX2_4
  replace kk := bC kk ha
  have cX3_0 := hx.cell 0; have fX3_0 := hx.frozen 0; have cX3_1 := hx.cell 1; have fX3_1 := hx.frozen 1; have cX3_2 := hx.cell 2; have fX3_2 := hx.frozen 2; have cX3_3 := hx.cell 3; have fX3_3 := hx.frozen 3; have cX3_4 := hx.cell 4; have fX3_4 := hx.frozen 4; dsimp at cX3_0 cX3_1 cX3_2 cX3_3 cX3_4
  clear ha hx
  refine hK.out _ _ ⟨cX2_0, cX2_1, cX2_2, cX2_3, cX2_4, trivial⟩ (fun hHeld => ?_)
  clear hK K
  generalize w17.alloc (.cells #[.int .i64 0, .int .u64 0, .int .u64 0, .int .u64 0, .int .u64 0] 26) = w25 at *
  generalize w17.heap.size = pp16 at *
  try simp only [List.getElem_toArray, List.getElem_cons_zero, List.getElem_cons_succ, Act.put, List.setIfInBounds_toArray, List.set_cons_zero, List.set_cons_succ]
  clear w17
  clear hHeld
  refine wpAnyH_ready (rs := [0]) (by kernel_rfl) (by simp) ?_
  refine AllReadyH.cons rfl (fun K hK => ?_) AllReadyH.nil
  go_simp
  (with_reducible refine (h0.out _).mono ?_); rintro e w26 ⟨rfl, hb⟩
  replace cX1_0 := cell_later hb cX1_0; replace cX1_1 := cell_later hb cX1_1; replace cX1_2 := cell_later hb cX1_2; replace cX1_3 := cell_later hb cX1_3; replace cX1_4 := cell_later hb cX1_4
  replace cX2_0 := cell_later hb cX2_0; replace cX2_1 := cell_later hb cX2_1; replace cX2_2 := cell_later hb cX2_2; replace cX2_3 := cell_later hb cX2_3; replace cX2_4 := cell_later hb cX2_4
  replace fX3_0 := frozen_later hb cX3_0 fX3_0; replace fX3_1 := frozen_later hb cX3_1 fX3_1; replace fX3_2 := frozen_later hb cX3_2 fX3_2; replace fX3_3 := frozen_later hb cX3_3 fX3_3; replace fX3_4 := frozen_later hb cX3_4 fX3_4
  replace cX3_0 := cell_later hb cX3_0; replace cX3_1 := cell_later hb cX3_1; replace cX3_2 := cell_later hb cX3_2; replace cX3_3 := cell_later hb cX3_3; replace cX3_4 := cell_later hb cX3_4
  replace kk := bC kk hb
  clear hb
  refine hK.out _ _ ⟨cX2_0, cX2_1, cX2_2, cX2_3, cX2_4, trivial⟩ (fun hHeld => ?_)
  clear hK K
  try simp only [List.getElem_toArray, List.getElem_cons_zero, List.getElem_cons_succ, Act.put, List.setIfInBounds_toArray, List.set_cons_zero, List.set_cons_succ]
  clear w25
  clear hHeld
  refine wpAnyH_ready (rs := [2]) (by kernel_rfl) (by simp) ?_
  refine AllReadyH.cons rfl (fun K hK => ?_) AllReadyH.nil
  go_simp
  (with_reducible refine (h4.out _).mono ?_); rintro e w27 ⟨rfl, hb⟩
  replace cX1_0 := cell_later hb cX1_0; replace cX1_1 := cell_later hb cX1_1; replace cX1_2 := cell_later hb cX1_2; replace cX1_3 := cell_later hb cX1_3; replace cX1_4 := cell_later hb cX1_4
  replace cX2_0 := cell_later hb cX2_0; replace cX2_1 := cell_later hb cX2_1; replace cX2_2 := cell_later hb cX2_2; replace cX2_3 := cell_later hb cX2_3; replace cX2_4 := cell_later hb cX2_4
  replace fX3_0 := frozen_later hb cX3_0 fX3_0; replace fX3_1 := frozen_later hb cX3_1 fX3_1; replace fX3_2 := frozen_later hb cX3_2 fX3_2; replace fX3_3 := frozen_later hb cX3_3 fX3_3; replace fX3_4 := frozen_later hb cX3_4 fX3_4
  replace cX3_0 := cell_later hb cX3_0; replace cX3_1 := cell_later hb cX3_1; replace cX3_2 := cell_later hb cX3_2; replace cX3_3 := cell_later hb cX3_3; replace cX3_4 := cell_later hb cX3_4
  replace kk := bC kk hb
  clear hb
  refine hK.out _ _ ⟨cX2_0, cX2_1, cX2_2, cX2_3, cX2_4, trivial⟩ (fun hHeld => ?_)
  clear hK K
  try simp only [List.getElem_toArray, List.getElem_cons_zero, List.getElem_cons_succ, Act.put, List.setIfInBounds_toArray, List.set_cons_zero, List.set_cons_succ]
  clear w26
  refine wpAnyH_take (i := 3) (v := ?vq23) rfl (by kernel_rfl) (by kernel_rfl) (by kernel_rfl) (fun _ _ _ h => h) (Or.inl ⟨by rfl, ?yq23⟩) hHeld ?rq23
  case yq23 => (intro wq hb; obtain ⟨lq0, lq1, lq2, lq3, lq4, _⟩ := hb; go_simp; try (with_reducible rfl))
  try simp only [List.getElem_toArray, List.getElem_cons_zero, List.getElem_cons_succ, Act.put, List.setIfInBounds_toArray, List.set_cons_zero, List.set_cons_succ]
  refine wpAnyH_take (i := 4) (v := ?vq24) rfl (by kernel_rfl) (by kernel_rfl) (by kernel_rfl) (fun _ _ _ h => h) (Or.inl ⟨by rfl, ?yq24⟩) hHeld ?rq24
  case yq24 => (intro wq hb; obtain ⟨lq0, lq1, lq2, lq3, lq4, _⟩ := hb; go_simp; try (with_reducible rfl))
  try simp only [List.getElem_toArray, List.getElem_cons_zero, List.getElem_cons_succ, Act.put, List.setIfInBounds_toArray, List.set_cons_zero, List.set_cons_succ]
  refine wpAnyH_take (i := 5) (v := ?vq25) rfl (by kernel_rfl) (by kernel_rfl) (by kernel_rfl) (fun _ _ _ h => h) (Or.inl ⟨by rfl, ?yq25⟩) hHeld ?rq25
  case yq25 => (intro wq hb; obtain ⟨lq0, lq1, lq2, lq3, lq4, _⟩ := hb; go_simp; try (with_reducible rfl))
  try simp only [List.getElem_toArray, List.getElem_cons_zero, List.getElem_cons_succ, Act.put, List.setIfInBounds_toArray, List.set_cons_zero, List.set_cons_succ]
  clear hHeld
  refine wpAnyH_ready (rs := [7]) (by kernel_rfl) (by simp) ?_
  refine AllReadyH.cons rfl (fun K hK => ?_) AllReadyH.nil
  go_simp
  have neX1 : ¬ (pp16 = pp2) := by omega
  have nfX1 : ¬ (pp2 = pp16) := by omega
  have neX2 : ¬ (pp16 = w15.heap.size) := by omega
  have nfX2 : ¬ (w15.heap.size = pp16) := by omega
  have KEY := Lib.hid (show (fun W => W.cell? ⟨pp2, 0, none⟩ = some (.int .i64 1) ∧ W.cell? ⟨pp2, 1, none⟩ = some (.int .u64 0) ∧ W.cell? ⟨pp2, 2, none⟩ = some (.int .u64 0) ∧ W.cell? ⟨pp2, 3, none⟩ = some (.int .u64 0) ∧ W.cell? ⟨pp2, 4, none⟩ = some (.int .u64 4611686018427387904) ∧ W.cell? ⟨w15.heap.size, 0, none⟩ = some (.int .i64 (-500)) ∧ W.cell? ⟨w15.heap.size, 1, none⟩ = some (.int .u64 4) ∧ W.cell? ⟨w15.heap.size, 2, none⟩ = some (.int .u64 0) ∧ W.cell? ⟨w15.heap.size, 3, none⟩ = some (.int .u64 0) ∧ W.cell? ⟨w15.heap.size, 4, none⟩ = some (.int .u64 0) ∧ W.cell? ⟨pp16, 0, none⟩ = some (.int .i64 0) ∧ W.cell? ⟨pp16, 1, none⟩ = some (.int .u64 18446744073709551615) ∧ W.cell? ⟨pp16, 2, none⟩ = some (.int .u64 18446744073709551615) ∧ W.cell? ⟨pp16, 3, none⟩ = some (.int .u64 18446744073709551615) ∧ W.cell? ⟨pp16, 4, none⟩ = some (.int .u64 9223372036854775807) ∧ W.frozen? ⟨pp16, 0, none⟩ = false ∧ W.frozen? ⟨pp16, 1, none⟩ = false ∧ W.frozen? ⟨pp16, 2, none⟩ = false ∧ W.frozen? ⟨pp16, 3, none⟩ = false ∧ W.frozen? ⟨pp16, 4, none⟩ = false ∧ Below w.heap.size w W) (((((w27.setCell ⟨pp16, 0, none⟩ (.int .i64 0)).setCell ⟨pp16, 1, none⟩ (.int .u64 18446744073709551615)).setCell ⟨pp16, 2, none⟩ (.int .u64 18446744073709551615)).setCell ⟨pp16, 3, none⟩ (.int .u64 18446744073709551615)).setCell ⟨pp16, 4, none⟩ (.int .u64 9223372036854775807)) from ⟨by go_simp, by go_simp, by go_simp, by go_simp, by go_simp, by go_simp, by go_simp, by go_simp, by go_simp, by go_simp, by go_simp, by go_simp, by go_simp, by go_simp, by go_simp, by go_simp, by go_simp, by go_simp, by go_simp, by go_simp, (((((kk.setCell (p := ⟨pp16, 0, none⟩) gX3 _).setCell (p := ⟨pp16, 1, none⟩) gX3 _).setCell (p := ⟨pp16, 2, none⟩) gX3 _).setCell (p := ⟨pp16, 3, none⟩) gX3 _).setCell (p := ⟨pp16, 4, none⟩) gX3 _)⟩)
  clear cX1_0 cX1_1 cX1_2 cX1_3 cX1_4 cX2_0 cX2_1 cX2_2 cX2_3 cX2_4 cX3_0 cX3_1 cX3_2 cX3_3 cX3_4 fX3_0 fX3_1 fX3_2 fX3_3 fX3_4 neX1 nfX1 neX2 nfX2 kk
  refine forget_at (fun W => W.cell? ⟨pp2, 0, none⟩ = some (.int .i64 1) ∧ W.cell? ⟨pp2, 1, none⟩ = some (.int .u64 0) ∧ W.cell? ⟨pp2, 2, none⟩ = some (.int .u64 0) ∧ W.cell? ⟨pp2, 3, none⟩ = some (.int .u64 0) ∧ W.cell? ⟨pp2, 4, none⟩ = some (.int .u64 4611686018427387904) ∧ W.cell? ⟨w15.heap.size, 0, none⟩ = some (.int .i64 (-500)) ∧ W.cell? ⟨w15.heap.size, 1, none⟩ = some (.int .u64 4) ∧ W.cell? ⟨w15.heap.size, 2, none⟩ = some (.int .u64 0) ∧ W.cell? ⟨w15.heap.size, 3, none⟩ = some (.int .u64 0) ∧ W.cell? ⟨w15.heap.size, 4, none⟩ = some (.int .u64 0) ∧ W.cell? ⟨pp16, 0, none⟩ = some (.int .i64 0) ∧ W.cell? ⟨pp16, 1, none⟩ = some (.int .u64 18446744073709551615) ∧ W.cell? ⟨pp16, 2, none⟩ = some (.int .u64 18446744073709551615) ∧ W.cell? ⟨pp16, 3, none⟩ = some (.int .u64 18446744073709551615) ∧ W.cell? ⟨pp16, 4, none⟩ = some (.int .u64 9223372036854775807) ∧ W.frozen? ⟨pp16, 0, none⟩ = false ∧ W.frozen? ⟨pp16, 1, none⟩ = false ∧ W.frozen? ⟨pp16, 2, none⟩ = false ∧ W.frozen? ⟨pp16, 3, none⟩ = false ∧ W.frozen? ⟨pp16, 4, none⟩ = false ∧ Below w.heap.size w W) KEY.out (fun w28 hz => ?_)
  obtain ⟨cX1_0, cX1_1, cX1_2, cX1_3, cX1_4, cX2_0, cX2_1, cX2_2, cX2_3, cX2_4, cX3_0, cX3_1, cX3_2, cX3_3, cX3_4, fX3_0, fX3_1, fX3_2, fX3_3, fX3_4, kk⟩ := hz
  clear KEY
  refine hK.out _ _ ⟨cX2_0, cX2_1, cX2_2, cX2_3, cX2_4, trivial⟩ (fun hHeld => ?_)
  clear hK K
  try simp only [List.getElem_toArray, List.getElem_cons_zero, List.getElem_cons_succ, Act.put, List.setIfInBounds_toArray, List.set_cons_zero, List.set_cons_succ]
  clear w27
  refine wpAnyH_take (i := 8) (v := ?vq26) rfl (by kernel_rfl) (by kernel_rfl) (by kernel_rfl) (fun _ _ _ h => h) (Or.inl ⟨by rfl, ?yq26⟩) hHeld ?rq26
  case yq26 => (intro wq hb; obtain ⟨lq0, lq1, lq2, lq3, lq4, _⟩ := hb; go_simp; try (with_reducible rfl))
  try simp only [List.getElem_toArray, List.getElem_cons_zero, List.getElem_cons_succ, Act.put, List.setIfInBounds_toArray, List.set_cons_zero, List.set_cons_succ]
  clear hHeld
  refine wpAnyH_done (by kernel_rfl) ?_ _
  refine NoPanic.normal ?_
  revert kk; revert nX2_X3; revert nX1_X3; revert gX3; revert fX3_4; revert fX3_3; revert fX3_2; revert fX3_1; revert fX3_0; revert cX3_4; revert cX3_3; revert cX3_2; revert cX3_1; revert cX3_0; revert cX2_4; revert cX2_3; revert cX2_2; revert cX2_1; revert cX2_0; revert cX1_4; revert cX1_3; revert cX1_2; revert cX1_1; revert cX1_0; revert pp16; revert w28
  exact ?restw17
  intro w29 pp16 cX1_0 cX1_1 cX1_2 cX1_3 cX1_4 cX2_0 cX2_1 cX2_2 cX2_3 cX2_4 cX3_0 cX3_1 cX3_2 cX3_3 cX3_4 fX3_0 fX3_1 fX3_2 fX3_3 fX3_4 gX3 nX1_X3 nX2_X3 kk
  have sX1 : pp2 < w29.heap.size := World.block_lt_of_cell? _ _ cX1_0
  clear cX2_0 cX2_1 cX2_2 cX2_3 cX2_4
  have sX3 : pp16 < w29.heap.size := World.block_lt_of_cell? _ _ cX3_0
  clear fX3_0 fX3_1 fX3_2 fX3_3 fX3_4
  go_wp2_with fail
  (with_reducible refine (h5.out _).mono ?_); rintro e w30 ⟨rfl, hb⟩
  replace cX1_0 := cell_later hb cX1_0; replace cX1_1 := cell_later hb cX1_1; replace cX1_2 := cell_later hb cX1_2; replace cX1_3 := cell_later hb cX1_3; replace cX1_4 := cell_later hb cX1_4
  replace sX1 : pp2 < w30.heap.size := World.block_lt_of_cell? _ _ cX1_0
  replace cX3_0 := cell_later hb cX3_0; replace cX3_1 := cell_later hb cX3_1; replace cX3_2 := cell_later hb cX3_2; replace cX3_3 := cell_later hb cX3_3; replace cX3_4 := cell_later hb cX3_4
  replace sX3 : pp16 < w30.heap.size := World.block_lt_of_cell? _ _ cX3_0
  replace kk := bC kk hb
  clear hb
  go_wp2_with fail
  (with_reducible refine (h6.out _).mono ?_); rintro e w31 ⟨rfl, hb⟩
  have hz := bC (bA (Below.refl _ _) _) hb
  clear cX1_0 cX1_1 cX1_2 cX1_3 cX1_4 sX1
  clear cX3_0 cX3_1 cX3_2 cX3_3 cX3_4 sX3
  replace kk := bC kk hz
  clear hb hz
  go_wp2_with fail
  (with_reducible refine (h7.out _).mono ?_); rintro e w32 ⟨rfl, hb⟩
  replace kk := bC kk hb
  clear hb
  go_wp2_with fail
  (with_reducible refine (h8.out _).mono ?_); rintro e w33 ⟨rfl, hb⟩
  replace kk := bC kk hb
  clear hb
  go_wp2_with fail
  (with_reducible refine (h9.out _).mono ?_); rintro e w34 ⟨rfl, hb⟩
  replace kk := bC kk hb
  clear hb
  go_wp2_with fail
  go_ret
  exact ⟨rfl, kk⟩



end Go.Proofs.Ytamigjdankkmjaa
