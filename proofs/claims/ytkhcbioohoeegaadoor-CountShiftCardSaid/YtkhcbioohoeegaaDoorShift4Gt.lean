/-
  The walk of the statement CountShift (gt).
-/
import Derived.Test.YtkhcbioohoeegaaDoorCountP
set_option linter.unusedVariables false
set_option linter.unusedSimpArgs false
set_option maxRecDepth 100000
namespace Go.Proofs.YtkhcbioohoeegaaDoor
open Go.RowKit
attribute [local go_sem ↓] Go.wp_at_zero Go.wp_at_succ

set_option maxHeartbeats 4000000 in
set_option maxRecDepth 100000 in
theorem shift4_gt_zero (a0 a1 a2 a3 b0 b1 b2 b3 n x y c : Int)
    (h0 : Hid (∀ w, Calls Tryd.prog 19 #[.agg #[.int .u64 a0, .int .u64 a1, .int .u64 a2, .int .u64 a3]] w fun e w' => e = .returned (.int .i64 x) ∧ Below w.heap.size w w'))
    (h1 : Hid (∀ w, Calls Tryd.prog 19 #[.agg #[.int .u64 b0, .int .u64 b1, .int .u64 b2, .int .u64 b3]] w fun e w' => e = .returned (.int .i64 y) ∧ Below w.heap.size w w'))
    (h2 : Hid (∀ w, Calls Tryd.prog 24 #[.agg #[.int .u64 a0, .int .u64 a1, .int .u64 a2, .int .u64 a3], .agg #[.int .u64 b0, .int .u64 b1, .int .u64 b2, .int .u64 b3]] w fun e w' => e = .returned (.int .i64 c) ∧ Below w.heap.size w w'))
    (h4 : Hid (∀ w, Tab w → Calls Tryd.prog 16 #[] w fun e w' => e = .returned (.bool true) ∧ Below w.heap.size w w')) (hg : decide (y < x) = true) (hc : decide (c ≤ 0) = false) (hd : decide (0 ≤ c) = true) (hl : decide (x < y) = false) (hx : (x == 0) = true) (hn0 : 0 ≤ n) (hn1 : n ≤ 255) (w : World) (tb : Tab w) :
    Calls Tryd.prog 8 #[.agg #[.int .u64 a0, .int .u64 a1, .int .u64 a2, .int .u64 a3], .agg #[.int .u64 b0, .int .u64 b1, .int .u64 b2, .int .u64 b3], .int .u8 n] w fun e w' => e = .returned (.bool true) ∧ Below w.heap.size w w' := by
  go_enter Tryd.func8, Tryd.ntmps8
  go_wp2_with fail
  refine wp_forget (fun W => W.cell? ⟨w.heap.size, 0, none⟩ = some (.int .u64 a0) ∧ W.cell? ⟨w.heap.size, 1, none⟩ = some (.int .u64 a1) ∧ W.cell? ⟨w.heap.size, 2, none⟩ = some (.int .u64 a2) ∧ W.cell? ⟨w.heap.size, 3, none⟩ = some (.int .u64 a3) ∧ W.cell? ⟨w.heap.size + 1, 0, none⟩ = some (.int .u64 b0) ∧ W.cell? ⟨w.heap.size + 1, 1, none⟩ = some (.int .u64 b1) ∧ W.cell? ⟨w.heap.size + 1, 2, none⟩ = some (.int .u64 b2) ∧ W.cell? ⟨w.heap.size + 1, 3, none⟩ = some (.int .u64 b3) ∧ Below w.heap.size w W) ⟨by go_simp, by go_simp, by go_simp, by go_simp, by go_simp, by go_simp, by go_simp, by go_simp, (bA (bA (Below.refl _ _) _) _)⟩ (fun w1 hst => ?_)
  obtain ⟨cX0_0, cX0_1, cX0_2, cX0_3, cX1_0, cX1_1, cX1_2, cX1_3, kk⟩ := hst
  have sX0 : w.heap.size < w1.heap.size := World.block_lt_of_cell? _ _ cX0_0
  have sX1 : w.heap.size + 1 < w1.heap.size := World.block_lt_of_cell? _ _ cX1_0
  refine wp_region_noPanic ?_
  refine wp_region_F [] [] (LS w1 (fun _ _ => True) (fun _ _ _ => True)) (by kernel_rfl) (bs := []) (vs := []) (by kernel_rfl) rfl (LS.before noBits_nil (Below.refl _ _).drew trivial) ?_
  refine wpF_take (i := 0) (v := ?vq126) rfl (by kernel_rfl) (by kernel_rfl) (fun _ _ _ h => h) (LS.load (by rfl) ?yq126) ?rq126
  case yq126 => (intro wq hb; have lcX0_0 := cell_later hb cX0_0; have lcX0_1 := cell_later hb cX0_1; have lcX0_2 := cell_later hb cX0_2; have lcX0_3 := cell_later hb cX0_3; go_simp; try (with_reducible rfl))
  try simp only [List.getElem_toArray, List.getElem_cons_zero, List.getElem_cons_succ, Act.put, List.setIfInBounds_toArray, List.set_cons_zero, List.set_cons_succ]
  refine wpF_take (i := 1) (v := _) rfl (by kernel_rfl) (by kernel_rfl) (fun _ _ _ h => h) (LS.call lasts_true (by rfl) _ _ ?yq127 (h0.out)) ?rq127
  case yq127 => (intro wq; go_simp; try (with_reducible rfl))
  try simp only [List.getElem_toArray, List.getElem_cons_zero, List.getElem_cons_succ, Act.put, List.setIfInBounds_toArray, List.set_cons_zero, List.set_cons_succ]
  refine wpF_take (i := 2) (v := ?vq128) rfl (by kernel_rfl) (by kernel_rfl) (fun _ _ _ h => h) (LS.load (by rfl) ?yq128) ?rq128
  case yq128 => (intro wq hb; have lcX1_0 := cell_later hb cX1_0; have lcX1_1 := cell_later hb cX1_1; have lcX1_2 := cell_later hb cX1_2; have lcX1_3 := cell_later hb cX1_3; go_simp; try (with_reducible rfl))
  try simp only [List.getElem_toArray, List.getElem_cons_zero, List.getElem_cons_succ, Act.put, List.setIfInBounds_toArray, List.set_cons_zero, List.set_cons_succ]
  refine wpF_take (i := 3) (v := _) rfl (by kernel_rfl) (by kernel_rfl) (fun _ _ _ h => h) (LS.call lasts_true (by rfl) _ _ ?yq129 (h1.out)) ?rq129
  case yq129 => (intro wq; go_simp; try (with_reducible rfl))
  try simp only [List.getElem_toArray, List.getElem_cons_zero, List.getElem_cons_succ, Act.put, List.setIfInBounds_toArray, List.set_cons_zero, List.set_cons_succ]
  refine wpF_yield (i := 4) (v := ?vq130) rfl (by kernel_rfl) (by kernel_rfl) (fun _ _ _ h => h) (Or.inl ⟨by rfl, ?yq130⟩) ?rq130
  case yq130 => (intro wq; go_simp; try (with_reducible rfl))
  try simp only [List.getElem_toArray, List.getElem_cons_zero, List.getElem_cons_succ, Act.put, List.setIfInBounds_toArray, List.set_cons_zero, List.set_cons_succ]
  refine wpF_yield (i := 5) (v := ?vq131) rfl (by kernel_rfl) (by kernel_rfl) (fun _ _ _ h => h) (Or.inl ⟨by rfl, ?yq131⟩) ?rq131
  case yq131 => (intro wq; go_simp; try (with_reducible rfl))
  try simp only [List.getElem_toArray, List.getElem_cons_zero, List.getElem_cons_succ, Act.put, List.setIfInBounds_toArray, List.set_cons_zero, List.set_cons_succ]
  refine wpF_done (bs := []) (vs := []) (by kernel_rfl) (by kernel_rfl) rfl (fun w2 hS => ?_) _
  refine NoPanic.normal ?_
  obtain ⟨hb, _⟩ := hS.1 noBits_nil
  clear hS
  replace cX0_0 := cell_later hb cX0_0; replace cX0_1 := cell_later hb cX0_1; replace cX0_2 := cell_later hb cX0_2; replace cX0_3 := cell_later hb cX0_3
  replace sX0 : w.heap.size < w2.heap.size := World.block_lt_of_cell? _ _ cX0_0
  replace cX1_0 := cell_later hb cX1_0; replace cX1_1 := cell_later hb cX1_1; replace cX1_2 := cell_later hb cX1_2; replace cX1_3 := cell_later hb cX1_3
  replace sX1 : w.heap.size + 1 < w2.heap.size := World.block_lt_of_cell? _ _ cX1_0
  replace kk := bC kk hb
  clear hb
  go_wp2_with fail
  (with_reducible refine (h2.out _).mono ?_); rintro e w3 ⟨rfl, hb⟩
  replace cX0_0 := cell_later hb cX0_0; replace cX0_1 := cell_later hb cX0_1; replace cX0_2 := cell_later hb cX0_2; replace cX0_3 := cell_later hb cX0_3
  replace sX0 : w.heap.size < w3.heap.size := World.block_lt_of_cell? _ _ cX0_0
  replace cX1_0 := cell_later hb cX1_0; replace cX1_1 := cell_later hb cX1_1; replace cX1_2 := cell_later hb cX1_2; replace cX1_3 := cell_later hb cX1_3
  replace sX1 : w.heap.size + 1 < w3.heap.size := World.block_lt_of_cell? _ _ cX1_0
  replace kk := bC kk hb
  clear hb
  go_wp2_with fail
  (with_reducible refine (h2.out _).mono ?_); rintro e w4 ⟨rfl, hb⟩
  clear cX0_0 cX0_1 cX0_2 cX0_3 sX0
  clear cX1_0 cX1_1 cX1_2 cX1_3 sX1
  replace kk := bC kk hb
  clear hb
  go_wp2_with fail
  (with_reducible refine (h4.out _ (tb.later kk)).mono ?_); rintro e w5 ⟨rfl, hb⟩
  replace kk := bC kk hb
  clear hb
  go_wp2_with fail
  go_ret
  exact ⟨rfl, kk⟩

set_option maxHeartbeats 4000000 in
set_option maxRecDepth 100000 in
theorem shift4_gt_over (a0 a1 a2 a3 b0 b1 b2 b3 n x y c s : Int)
    (h0 : Hid (∀ w, Calls Tryd.prog 19 #[.agg #[.int .u64 a0, .int .u64 a1, .int .u64 a2, .int .u64 a3]] w fun e w' => e = .returned (.int .i64 x) ∧ Below w.heap.size w w'))
    (h1 : Hid (∀ w, Calls Tryd.prog 19 #[.agg #[.int .u64 b0, .int .u64 b1, .int .u64 b2, .int .u64 b3]] w fun e w' => e = .returned (.int .i64 y) ∧ Below w.heap.size w w'))
    (h2 : Hid (∀ w, Calls Tryd.prog 24 #[.agg #[.int .u64 a0, .int .u64 a1, .int .u64 a2, .int .u64 a3], .agg #[.int .u64 b0, .int .u64 b1, .int .u64 b2, .int .u64 b3]] w fun e w' => e = .returned (.int .i64 c) ∧ Below w.heap.size w w'))
    (h4 : Hid (∀ w, Tab w → Calls Tryd.prog 16 #[] w fun e w' => e = .returned (.bool true) ∧ Below w.heap.size w w')) (hg : decide (y < x) = true) (hc : decide (c ≤ 0) = false) (hd : decide (0 ≤ c) = true) (hl : decide (x < y) = false) (hx : (x == 0) = false) (hs : IntKind.i64.wrap (x + n) = s) (ho : decide (256 < s) = true) (hn0 : 0 ≤ n) (hn1 : n ≤ 255) (w : World) (tb : Tab w) :
    Calls Tryd.prog 8 #[.agg #[.int .u64 a0, .int .u64 a1, .int .u64 a2, .int .u64 a3], .agg #[.int .u64 b0, .int .u64 b1, .int .u64 b2, .int .u64 b3], .int .u8 n] w fun e w' => e = .returned (.bool true) ∧ Below w.heap.size w w' := by
  go_enter Tryd.func8, Tryd.ntmps8
  go_wp2_with fail
  refine wp_forget (fun W => W.cell? ⟨w.heap.size, 0, none⟩ = some (.int .u64 a0) ∧ W.cell? ⟨w.heap.size, 1, none⟩ = some (.int .u64 a1) ∧ W.cell? ⟨w.heap.size, 2, none⟩ = some (.int .u64 a2) ∧ W.cell? ⟨w.heap.size, 3, none⟩ = some (.int .u64 a3) ∧ W.cell? ⟨w.heap.size + 1, 0, none⟩ = some (.int .u64 b0) ∧ W.cell? ⟨w.heap.size + 1, 1, none⟩ = some (.int .u64 b1) ∧ W.cell? ⟨w.heap.size + 1, 2, none⟩ = some (.int .u64 b2) ∧ W.cell? ⟨w.heap.size + 1, 3, none⟩ = some (.int .u64 b3) ∧ Below w.heap.size w W) ⟨by go_simp, by go_simp, by go_simp, by go_simp, by go_simp, by go_simp, by go_simp, by go_simp, (bA (bA (Below.refl _ _) _) _)⟩ (fun w1 hst => ?_)
  obtain ⟨cX0_0, cX0_1, cX0_2, cX0_3, cX1_0, cX1_1, cX1_2, cX1_3, kk⟩ := hst
  have sX0 : w.heap.size < w1.heap.size := World.block_lt_of_cell? _ _ cX0_0
  have sX1 : w.heap.size + 1 < w1.heap.size := World.block_lt_of_cell? _ _ cX1_0
  refine wp_region_noPanic ?_
  refine wp_region_F [] [] (LS w1 (fun _ _ => True) (fun _ _ _ => True)) (by kernel_rfl) (bs := []) (vs := []) (by kernel_rfl) rfl (LS.before noBits_nil (Below.refl _ _).drew trivial) ?_
  refine wpF_take (i := 0) (v := ?vq132) rfl (by kernel_rfl) (by kernel_rfl) (fun _ _ _ h => h) (LS.load (by rfl) ?yq132) ?rq132
  case yq132 => (intro wq hb; have lcX0_0 := cell_later hb cX0_0; have lcX0_1 := cell_later hb cX0_1; have lcX0_2 := cell_later hb cX0_2; have lcX0_3 := cell_later hb cX0_3; go_simp; try (with_reducible rfl))
  try simp only [List.getElem_toArray, List.getElem_cons_zero, List.getElem_cons_succ, Act.put, List.setIfInBounds_toArray, List.set_cons_zero, List.set_cons_succ]
  refine wpF_take (i := 1) (v := _) rfl (by kernel_rfl) (by kernel_rfl) (fun _ _ _ h => h) (LS.call lasts_true (by rfl) _ _ ?yq133 (h0.out)) ?rq133
  case yq133 => (intro wq; go_simp; try (with_reducible rfl))
  try simp only [List.getElem_toArray, List.getElem_cons_zero, List.getElem_cons_succ, Act.put, List.setIfInBounds_toArray, List.set_cons_zero, List.set_cons_succ]
  refine wpF_take (i := 2) (v := ?vq134) rfl (by kernel_rfl) (by kernel_rfl) (fun _ _ _ h => h) (LS.load (by rfl) ?yq134) ?rq134
  case yq134 => (intro wq hb; have lcX1_0 := cell_later hb cX1_0; have lcX1_1 := cell_later hb cX1_1; have lcX1_2 := cell_later hb cX1_2; have lcX1_3 := cell_later hb cX1_3; go_simp; try (with_reducible rfl))
  try simp only [List.getElem_toArray, List.getElem_cons_zero, List.getElem_cons_succ, Act.put, List.setIfInBounds_toArray, List.set_cons_zero, List.set_cons_succ]
  refine wpF_take (i := 3) (v := _) rfl (by kernel_rfl) (by kernel_rfl) (fun _ _ _ h => h) (LS.call lasts_true (by rfl) _ _ ?yq135 (h1.out)) ?rq135
  case yq135 => (intro wq; go_simp; try (with_reducible rfl))
  try simp only [List.getElem_toArray, List.getElem_cons_zero, List.getElem_cons_succ, Act.put, List.setIfInBounds_toArray, List.set_cons_zero, List.set_cons_succ]
  refine wpF_yield (i := 4) (v := ?vq136) rfl (by kernel_rfl) (by kernel_rfl) (fun _ _ _ h => h) (Or.inl ⟨by rfl, ?yq136⟩) ?rq136
  case yq136 => (intro wq; go_simp; try (with_reducible rfl))
  try simp only [List.getElem_toArray, List.getElem_cons_zero, List.getElem_cons_succ, Act.put, List.setIfInBounds_toArray, List.set_cons_zero, List.set_cons_succ]
  refine wpF_yield (i := 5) (v := ?vq137) rfl (by kernel_rfl) (by kernel_rfl) (fun _ _ _ h => h) (Or.inl ⟨by rfl, ?yq137⟩) ?rq137
  case yq137 => (intro wq; go_simp; try (with_reducible rfl))
  try simp only [List.getElem_toArray, List.getElem_cons_zero, List.getElem_cons_succ, Act.put, List.setIfInBounds_toArray, List.set_cons_zero, List.set_cons_succ]
  refine wpF_done (bs := []) (vs := []) (by kernel_rfl) (by kernel_rfl) rfl (fun w2 hS => ?_) _
  refine NoPanic.normal ?_
  obtain ⟨hb, _⟩ := hS.1 noBits_nil
  clear hS
  replace cX0_0 := cell_later hb cX0_0; replace cX0_1 := cell_later hb cX0_1; replace cX0_2 := cell_later hb cX0_2; replace cX0_3 := cell_later hb cX0_3
  replace sX0 : w.heap.size < w2.heap.size := World.block_lt_of_cell? _ _ cX0_0
  replace cX1_0 := cell_later hb cX1_0; replace cX1_1 := cell_later hb cX1_1; replace cX1_2 := cell_later hb cX1_2; replace cX1_3 := cell_later hb cX1_3
  replace sX1 : w.heap.size + 1 < w2.heap.size := World.block_lt_of_cell? _ _ cX1_0
  replace kk := bC kk hb
  clear hb
  go_wp2_with fail
  (with_reducible refine (h2.out _).mono ?_); rintro e w3 ⟨rfl, hb⟩
  replace cX0_0 := cell_later hb cX0_0; replace cX0_1 := cell_later hb cX0_1; replace cX0_2 := cell_later hb cX0_2; replace cX0_3 := cell_later hb cX0_3
  replace sX0 : w.heap.size < w3.heap.size := World.block_lt_of_cell? _ _ cX0_0
  replace cX1_0 := cell_later hb cX1_0; replace cX1_1 := cell_later hb cX1_1; replace cX1_2 := cell_later hb cX1_2; replace cX1_3 := cell_later hb cX1_3
  replace sX1 : w.heap.size + 1 < w3.heap.size := World.block_lt_of_cell? _ _ cX1_0
  replace kk := bC kk hb
  clear hb
  go_wp2_with fail
  (with_reducible refine (h2.out _).mono ?_); rintro e w4 ⟨rfl, hb⟩
  clear cX0_0 cX0_1 cX0_2 cX0_3 sX0
  clear cX1_0 cX1_1 cX1_2 cX1_3 sX1
  replace kk := bC kk hb
  clear hb
  go_wp2_with fail
  (with_reducible refine (h4.out _ (tb.later kk)).mono ?_); rintro e w5 ⟨rfl, hb⟩
  replace kk := bC kk hb
  clear hb
  go_wp2_with fail
  go_ret
  exact ⟨rfl, kk⟩

set_option maxHeartbeats 4000000 in
set_option maxRecDepth 100000 in
theorem shift4_gt_in (a0 a1 a2 a3 b0 b1 b2 b3 p0 p1 p2 p3 n x y c s t u : Int)
    (h0 : Hid (∀ w, Calls Tryd.prog 19 #[.agg #[.int .u64 a0, .int .u64 a1, .int .u64 a2, .int .u64 a3]] w fun e w' => e = .returned (.int .i64 x) ∧ Below w.heap.size w w'))
    (h1 : Hid (∀ w, Calls Tryd.prog 19 #[.agg #[.int .u64 b0, .int .u64 b1, .int .u64 b2, .int .u64 b3]] w fun e w' => e = .returned (.int .i64 y) ∧ Below w.heap.size w w'))
    (h2 : Hid (∀ w, Calls Tryd.prog 24 #[.agg #[.int .u64 a0, .int .u64 a1, .int .u64 a2, .int .u64 a3], .agg #[.int .u64 b0, .int .u64 b1, .int .u64 b2, .int .u64 b3]] w fun e w' => e = .returned (.int .i64 c) ∧ Below w.heap.size w w'))
    (h4 : Hid (∀ w, Calls Tryd.prog 25 #[.agg #[.int .u64 a0, .int .u64 a1, .int .u64 a2, .int .u64 a3], .int .i64 n] w fun e w' => e = .returned (.agg #[.int .u64 p0, .int .u64 p1, .int .u64 p2, .int .u64 p3]) ∧ Below w.heap.size w w'))
    (h5 : Hid (∀ w, Calls Tryd.prog 19 #[.agg #[.int .u64 p0, .int .u64 p1, .int .u64 p2, .int .u64 p3]] w fun e w' => e = .returned (.int .i64 s) ∧ Below w.heap.size w w'))
    (h7 : Hid (∀ w, Tab w → Calls Tryd.prog 20 #[.agg #[.int .u64 p0, .int .u64 p1, .int .u64 p2, .int .u64 p3]] w fun e w' => e = .returned (.int .i64 u) ∧ Below w.heap.size w w'))
    (h8 : Hid (∀ w, Tab w → Calls Tryd.prog 20 #[.agg #[.int .u64 a0, .int .u64 a1, .int .u64 a2, .int .u64 a3]] w fun e w' => e = .returned (.int .i64 t) ∧ Below w.heap.size w w'))
    (h9 : Hid (∀ w, Tab w → Calls Tryd.prog 16 #[] w fun e w' => e = .returned (.bool true) ∧ Below w.heap.size w w')) (hg : decide (y < x) = true) (hc : decide (c ≤ 0) = false) (hd : decide (0 ≤ c) = true) (hl : decide (x < y) = false) (hx : (x == 0) = false) (hs : IntKind.i64.wrap (x + n) = s) (ho : decide (256 < s) = false) (hu : IntKind.i64.wrap (t + n) = u) (hn0 : 0 ≤ n) (hn1 : n ≤ 255) (w : World) (tb : Tab w) :
    Calls Tryd.prog 8 #[.agg #[.int .u64 a0, .int .u64 a1, .int .u64 a2, .int .u64 a3], .agg #[.int .u64 b0, .int .u64 b1, .int .u64 b2, .int .u64 b3], .int .u8 n] w fun e w' => e = .returned (.bool true) ∧ Below w.heap.size w w' := by
  go_enter Tryd.func8, Tryd.ntmps8
  go_wp2_with fail
  refine wp_forget (fun W => W.cell? ⟨w.heap.size, 0, none⟩ = some (.int .u64 a0) ∧ W.cell? ⟨w.heap.size, 1, none⟩ = some (.int .u64 a1) ∧ W.cell? ⟨w.heap.size, 2, none⟩ = some (.int .u64 a2) ∧ W.cell? ⟨w.heap.size, 3, none⟩ = some (.int .u64 a3) ∧ W.cell? ⟨w.heap.size + 1, 0, none⟩ = some (.int .u64 b0) ∧ W.cell? ⟨w.heap.size + 1, 1, none⟩ = some (.int .u64 b1) ∧ W.cell? ⟨w.heap.size + 1, 2, none⟩ = some (.int .u64 b2) ∧ W.cell? ⟨w.heap.size + 1, 3, none⟩ = some (.int .u64 b3) ∧ Below w.heap.size w W) ⟨by go_simp, by go_simp, by go_simp, by go_simp, by go_simp, by go_simp, by go_simp, by go_simp, (bA (bA (Below.refl _ _) _) _)⟩ (fun w1 hst => ?_)
  obtain ⟨cX0_0, cX0_1, cX0_2, cX0_3, cX1_0, cX1_1, cX1_2, cX1_3, kk⟩ := hst
  have sX0 : w.heap.size < w1.heap.size := World.block_lt_of_cell? _ _ cX0_0
  have sX1 : w.heap.size + 1 < w1.heap.size := World.block_lt_of_cell? _ _ cX1_0
  refine wp_region_noPanic ?_
  refine wp_region_F [] [] (LS w1 (fun _ _ => True) (fun _ _ _ => True)) (by kernel_rfl) (bs := []) (vs := []) (by kernel_rfl) rfl (LS.before noBits_nil (Below.refl _ _).drew trivial) ?_
  refine wpF_take (i := 0) (v := ?vq138) rfl (by kernel_rfl) (by kernel_rfl) (fun _ _ _ h => h) (LS.load (by rfl) ?yq138) ?rq138
  case yq138 => (intro wq hb; have lcX0_0 := cell_later hb cX0_0; have lcX0_1 := cell_later hb cX0_1; have lcX0_2 := cell_later hb cX0_2; have lcX0_3 := cell_later hb cX0_3; go_simp; try (with_reducible rfl))
  try simp only [List.getElem_toArray, List.getElem_cons_zero, List.getElem_cons_succ, Act.put, List.setIfInBounds_toArray, List.set_cons_zero, List.set_cons_succ]
  refine wpF_take (i := 1) (v := _) rfl (by kernel_rfl) (by kernel_rfl) (fun _ _ _ h => h) (LS.call lasts_true (by rfl) _ _ ?yq139 (h0.out)) ?rq139
  case yq139 => (intro wq; go_simp; try (with_reducible rfl))
  try simp only [List.getElem_toArray, List.getElem_cons_zero, List.getElem_cons_succ, Act.put, List.setIfInBounds_toArray, List.set_cons_zero, List.set_cons_succ]
  refine wpF_take (i := 2) (v := ?vq140) rfl (by kernel_rfl) (by kernel_rfl) (fun _ _ _ h => h) (LS.load (by rfl) ?yq140) ?rq140
  case yq140 => (intro wq hb; have lcX1_0 := cell_later hb cX1_0; have lcX1_1 := cell_later hb cX1_1; have lcX1_2 := cell_later hb cX1_2; have lcX1_3 := cell_later hb cX1_3; go_simp; try (with_reducible rfl))
  try simp only [List.getElem_toArray, List.getElem_cons_zero, List.getElem_cons_succ, Act.put, List.setIfInBounds_toArray, List.set_cons_zero, List.set_cons_succ]
  refine wpF_take (i := 3) (v := _) rfl (by kernel_rfl) (by kernel_rfl) (fun _ _ _ h => h) (LS.call lasts_true (by rfl) _ _ ?yq141 (h1.out)) ?rq141
  case yq141 => (intro wq; go_simp; try (with_reducible rfl))
  try simp only [List.getElem_toArray, List.getElem_cons_zero, List.getElem_cons_succ, Act.put, List.setIfInBounds_toArray, List.set_cons_zero, List.set_cons_succ]
  refine wpF_yield (i := 4) (v := ?vq142) rfl (by kernel_rfl) (by kernel_rfl) (fun _ _ _ h => h) (Or.inl ⟨by rfl, ?yq142⟩) ?rq142
  case yq142 => (intro wq; go_simp; try (with_reducible rfl))
  try simp only [List.getElem_toArray, List.getElem_cons_zero, List.getElem_cons_succ, Act.put, List.setIfInBounds_toArray, List.set_cons_zero, List.set_cons_succ]
  refine wpF_yield (i := 5) (v := ?vq143) rfl (by kernel_rfl) (by kernel_rfl) (fun _ _ _ h => h) (Or.inl ⟨by rfl, ?yq143⟩) ?rq143
  case yq143 => (intro wq; go_simp; try (with_reducible rfl))
  try simp only [List.getElem_toArray, List.getElem_cons_zero, List.getElem_cons_succ, Act.put, List.setIfInBounds_toArray, List.set_cons_zero, List.set_cons_succ]
  refine wpF_done (bs := []) (vs := []) (by kernel_rfl) (by kernel_rfl) rfl (fun w2 hS => ?_) _
  refine NoPanic.normal ?_
  obtain ⟨hb, _⟩ := hS.1 noBits_nil
  clear hS
  replace cX0_0 := cell_later hb cX0_0; replace cX0_1 := cell_later hb cX0_1; replace cX0_2 := cell_later hb cX0_2; replace cX0_3 := cell_later hb cX0_3
  replace sX0 : w.heap.size < w2.heap.size := World.block_lt_of_cell? _ _ cX0_0
  replace cX1_0 := cell_later hb cX1_0; replace cX1_1 := cell_later hb cX1_1; replace cX1_2 := cell_later hb cX1_2; replace cX1_3 := cell_later hb cX1_3
  replace sX1 : w.heap.size + 1 < w2.heap.size := World.block_lt_of_cell? _ _ cX1_0
  replace kk := bC kk hb
  clear hb
  go_wp2_with fail
  (with_reducible refine (h2.out _).mono ?_); rintro e w3 ⟨rfl, hb⟩
  replace cX0_0 := cell_later hb cX0_0; replace cX0_1 := cell_later hb cX0_1; replace cX0_2 := cell_later hb cX0_2; replace cX0_3 := cell_later hb cX0_3
  replace sX0 : w.heap.size < w3.heap.size := World.block_lt_of_cell? _ _ cX0_0
  replace cX1_0 := cell_later hb cX1_0; replace cX1_1 := cell_later hb cX1_1; replace cX1_2 := cell_later hb cX1_2; replace cX1_3 := cell_later hb cX1_3
  replace sX1 : w.heap.size + 1 < w3.heap.size := World.block_lt_of_cell? _ _ cX1_0
  replace kk := bC kk hb
  clear hb
  go_wp2_with fail
  (with_reducible refine (h2.out _).mono ?_); rintro e w4 ⟨rfl, hb⟩
  replace cX0_0 := cell_later hb cX0_0; replace cX0_1 := cell_later hb cX0_1; replace cX0_2 := cell_later hb cX0_2; replace cX0_3 := cell_later hb cX0_3
  replace sX0 : w.heap.size < w4.heap.size := World.block_lt_of_cell? _ _ cX0_0
  clear cX1_0 cX1_1 cX1_2 cX1_3 sX1
  replace kk := bC kk hb
  clear hb
  go_wp2_with fail
  refine wp_region_noPanic ?_
  refine wp_region_F [] [] (LS w4 (fun _ _ => True) (fun _ _ _ => True)) (by kernel_rfl) (bs := []) (vs := []) (by kernel_rfl) rfl (LS.before noBits_nil (Below.refl _ _).drew trivial) ?_
  refine wpF_take (i := 0) (v := ?vq144) rfl (by kernel_rfl) (by kernel_rfl) (fun _ _ _ h => h) (LS.load (by rfl) ?yq144) ?rq144
  case yq144 => (intro wq hb; have lcX0_0 := cell_later hb cX0_0; have lcX0_1 := cell_later hb cX0_1; have lcX0_2 := cell_later hb cX0_2; have lcX0_3 := cell_later hb cX0_3; go_simp; try (with_reducible rfl))
  try simp only [List.getElem_toArray, List.getElem_cons_zero, List.getElem_cons_succ, Act.put, List.setIfInBounds_toArray, List.set_cons_zero, List.set_cons_succ]
  refine wpF_yield (i := 1) (v := ?vq145) rfl (by kernel_rfl) (by kernel_rfl) (fun _ _ _ h => h) (Or.inl ⟨by rfl, ?yq145⟩) ?rq145
  case yq145 => (intro wq; go_simp; try (with_reducible rfl))
  try simp only [List.getElem_toArray, List.getElem_cons_zero, List.getElem_cons_succ, Act.put, List.setIfInBounds_toArray, List.set_cons_zero, List.set_cons_succ]
  refine wpF_take (i := 2) (v := _) rfl (by kernel_rfl) (by kernel_rfl) (fun _ _ _ h => h) (LS.call lasts_true (by rfl) _ _ ?yq146 (h4.out)) ?rq146
  case yq146 => (intro wq; go_simp; try (with_reducible rfl))
  try simp only [List.getElem_toArray, List.getElem_cons_zero, List.getElem_cons_succ, Act.put, List.setIfInBounds_toArray, List.set_cons_zero, List.set_cons_succ]
  refine wpF_take (i := 3) (v := _) rfl (by kernel_rfl) (by kernel_rfl) (fun _ _ _ h => h) (LS.call lasts_true (by rfl) _ _ ?yq147 (h5.out)) ?rq147
  case yq147 => (intro wq; go_simp; try (with_reducible rfl))
  try simp only [List.getElem_toArray, List.getElem_cons_zero, List.getElem_cons_succ, Act.put, List.setIfInBounds_toArray, List.set_cons_zero, List.set_cons_succ]
  refine wpF_yield (i := 4) (v := ?vq148) rfl (by kernel_rfl) (by kernel_rfl) (fun _ _ _ h => h) (Or.inl ⟨by rfl, ?yq148⟩) ?rq148
  case yq148 => (intro wq; go_simp; try (with_reducible rfl))
  try simp only [List.getElem_toArray, List.getElem_cons_zero, List.getElem_cons_succ, Act.put, List.setIfInBounds_toArray, List.set_cons_zero, List.set_cons_succ]
  refine wpF_yield (i := 5) (v := ?vq149) rfl (by kernel_rfl) (by kernel_rfl) (fun _ _ _ h => h) (Or.inl ⟨by rfl, ?yq149⟩) ?rq149
  case yq149 => (intro wq; go_simp; try (with_reducible rfl))
  try simp only [List.getElem_toArray, List.getElem_cons_zero, List.getElem_cons_succ, Act.put, List.setIfInBounds_toArray, List.set_cons_zero, List.set_cons_succ]
  refine wpF_yield (i := 6) (v := ?vq150) rfl (by kernel_rfl) (by kernel_rfl) (fun _ _ _ h => h) (Or.inl ⟨by rfl, ?yq150⟩) ?rq150
  case yq150 => (intro wq; go_simp; try (with_reducible rfl))
  try simp only [List.getElem_toArray, List.getElem_cons_zero, List.getElem_cons_succ, Act.put, List.setIfInBounds_toArray, List.set_cons_zero, List.set_cons_succ]
  refine wpF_yield (i := 7) (v := ?vq151) rfl (by kernel_rfl) (by kernel_rfl) (fun _ _ _ h => h) (Or.inl ⟨by rfl, ?yq151⟩) ?rq151
  case yq151 => (intro wq; go_simp; try (with_reducible rfl))
  try simp only [List.getElem_toArray, List.getElem_cons_zero, List.getElem_cons_succ, Act.put, List.setIfInBounds_toArray, List.set_cons_zero, List.set_cons_succ]
  refine wpF_yield (i := 8) (v := ?vq152) rfl (by kernel_rfl) (by kernel_rfl) (fun _ _ _ h => h) (Or.inl ⟨by rfl, ?yq152⟩) ?rq152
  case yq152 => (intro wq; go_simp; try (with_reducible rfl))
  try simp only [List.getElem_toArray, List.getElem_cons_zero, List.getElem_cons_succ, Act.put, List.setIfInBounds_toArray, List.set_cons_zero, List.set_cons_succ]
  refine wpF_take (i := 9) (v := ?vq153) rfl (by kernel_rfl) (by kernel_rfl) (fun _ _ _ h => h) (LS.load (by rfl) ?yq153) ?rq153
  case yq153 => (intro wq hb; have lcX0_0 := cell_later hb cX0_0; have lcX0_1 := cell_later hb cX0_1; have lcX0_2 := cell_later hb cX0_2; have lcX0_3 := cell_later hb cX0_3; go_simp; try (with_reducible rfl))
  try simp only [List.getElem_toArray, List.getElem_cons_zero, List.getElem_cons_succ, Act.put, List.setIfInBounds_toArray, List.set_cons_zero, List.set_cons_succ]
  refine wpF_yield (i := 10) (v := ?vq154) rfl (by kernel_rfl) (by kernel_rfl) (fun _ _ _ h => h) (Or.inl ⟨by rfl, ?yq154⟩) ?rq154
  case yq154 => (intro wq; go_simp; try (with_reducible rfl))
  try simp only [List.getElem_toArray, List.getElem_cons_zero, List.getElem_cons_succ, Act.put, List.setIfInBounds_toArray, List.set_cons_zero, List.set_cons_succ]
  refine wpF_take (i := 11) (v := _) rfl (by kernel_rfl) (by kernel_rfl) (fun _ _ _ h => h) (LS.call lasts_true (by rfl) _ _ ?yq155 (h4.out)) ?rq155
  case yq155 => (intro wq; go_simp; try (with_reducible rfl))
  try simp only [List.getElem_toArray, List.getElem_cons_zero, List.getElem_cons_succ, Act.put, List.setIfInBounds_toArray, List.set_cons_zero, List.set_cons_succ]
  refine wpF_take (i := 12) (v := _) rfl (by kernel_rfl) (by kernel_rfl) (fun _ _ _ h => h) (LS.callW lasts_true (by rfl) _ _ ?yq156 ((fun W hb => h7.out W (tb.later (bC kk hb))))) ?rq156
  case yq156 => (intro wq; go_simp; try (with_reducible rfl))
  try simp only [List.getElem_toArray, List.getElem_cons_zero, List.getElem_cons_succ, Act.put, List.setIfInBounds_toArray, List.set_cons_zero, List.set_cons_succ]
  refine wpF_take (i := 13) (v := ?vq157) rfl (by kernel_rfl) (by kernel_rfl) (fun _ _ _ h => h) (LS.load (by rfl) ?yq157) ?rq157
  case yq157 => (intro wq hb; have lcX0_0 := cell_later hb cX0_0; have lcX0_1 := cell_later hb cX0_1; have lcX0_2 := cell_later hb cX0_2; have lcX0_3 := cell_later hb cX0_3; go_simp; try (with_reducible rfl))
  try simp only [List.getElem_toArray, List.getElem_cons_zero, List.getElem_cons_succ, Act.put, List.setIfInBounds_toArray, List.set_cons_zero, List.set_cons_succ]
  refine wpF_take (i := 14) (v := _) rfl (by kernel_rfl) (by kernel_rfl) (fun _ _ _ h => h) (LS.callW lasts_true (by rfl) _ _ ?yq158 ((fun W hb => h8.out W (tb.later (bC kk hb))))) ?rq158
  case yq158 => (intro wq; go_simp; try (with_reducible rfl))
  try simp only [List.getElem_toArray, List.getElem_cons_zero, List.getElem_cons_succ, Act.put, List.setIfInBounds_toArray, List.set_cons_zero, List.set_cons_succ]
  refine wpF_yield (i := 15) (v := ?vq159) rfl (by kernel_rfl) (by kernel_rfl) (fun _ _ _ h => h) (Or.inl ⟨by rfl, ?yq159⟩) ?rq159
  case yq159 => (intro wq; go_simp; try (with_reducible rfl))
  try simp only [List.getElem_toArray, List.getElem_cons_zero, List.getElem_cons_succ, Act.put, List.setIfInBounds_toArray, List.set_cons_zero, List.set_cons_succ]
  refine wpF_yield (i := 16) (v := ?vq160) rfl (by kernel_rfl) (by kernel_rfl) (fun _ _ _ h => h) (Or.inl ⟨by rfl, ?yq160⟩) ?rq160
  case yq160 => (intro wq; go_simp; try (with_reducible rfl))
  try simp only [List.getElem_toArray, List.getElem_cons_zero, List.getElem_cons_succ, Act.put, List.setIfInBounds_toArray, List.set_cons_zero, List.set_cons_succ]
  refine wpF_yield (i := 17) (v := ?vq161) rfl (by kernel_rfl) (by kernel_rfl) (fun _ _ _ h => h) (Or.inl ⟨by rfl, ?yq161⟩) ?rq161
  case yq161 => (intro wq; go_simp; try (with_reducible rfl))
  try simp only [List.getElem_toArray, List.getElem_cons_zero, List.getElem_cons_succ, Act.put, List.setIfInBounds_toArray, List.set_cons_zero, List.set_cons_succ]
  refine wpF_yield (i := 18) (v := ?vq162) rfl (by kernel_rfl) (by kernel_rfl) (fun _ _ _ h => h) (Or.inl ⟨by rfl, ?yq162⟩) ?rq162
  case yq162 => (intro wq; go_simp; try (with_reducible rfl))
  try simp only [List.getElem_toArray, List.getElem_cons_zero, List.getElem_cons_succ, Act.put, List.setIfInBounds_toArray, List.set_cons_zero, List.set_cons_succ]
  refine wpF_yield (i := 19) (v := ?vq163) rfl (by kernel_rfl) (by kernel_rfl) (fun _ _ _ h => h) (Or.inl ⟨by rfl, ?yq163⟩) ?rq163
  case yq163 => (intro wq; go_simp; try (with_reducible rfl))
  try simp only [List.getElem_toArray, List.getElem_cons_zero, List.getElem_cons_succ, Act.put, List.setIfInBounds_toArray, List.set_cons_zero, List.set_cons_succ]
  refine wpF_take (i := 20) (v := _) rfl (by kernel_rfl) (by kernel_rfl) (fun _ _ _ h => h) (LS.callW lasts_true (by rfl) _ _ ?yq164 ((fun W hb => h9.out W (tb.later (bC kk hb))))) ?rq164
  case yq164 => (intro wq; go_simp; try (with_reducible rfl))
  try simp only [List.getElem_toArray, List.getElem_cons_zero, List.getElem_cons_succ, Act.put, List.setIfInBounds_toArray, List.set_cons_zero, List.set_cons_succ]
  refine wpF_yield (i := 21) (v := ?vq165) rfl (by kernel_rfl) (by kernel_rfl) (fun _ _ _ h => h) (Or.inl ⟨by rfl, ?yq165⟩) ?rq165
  case yq165 => (intro wq; go_simp; try (with_reducible rfl))
  try simp only [List.getElem_toArray, List.getElem_cons_zero, List.getElem_cons_succ, Act.put, List.setIfInBounds_toArray, List.set_cons_zero, List.set_cons_succ]
  refine wpF_yield (i := 22) (v := ?vq166) rfl (by kernel_rfl) (by kernel_rfl) (fun _ _ _ h => h) (Or.inl ⟨by rfl, ?yq166⟩) ?rq166
  case yq166 => (intro wq; go_simp; try (with_reducible rfl))
  try simp only [List.getElem_toArray, List.getElem_cons_zero, List.getElem_cons_succ, Act.put, List.setIfInBounds_toArray, List.set_cons_zero, List.set_cons_succ]
  refine wpF_done (bs := []) (vs := []) (by kernel_rfl) (by kernel_rfl) rfl (fun w6 hS => ?_) _
  refine NoPanic.normal ?_
  obtain ⟨hb, _⟩ := hS.1 noBits_nil
  clear hS
  clear cX0_0 cX0_1 cX0_2 cX0_3 sX0
  replace kk := bC kk hb
  clear hb
  go_wp2_with fail
  go_ret
  exact ⟨rfl, kk⟩

end Go.Proofs.YtkhcbioohoeegaaDoor
