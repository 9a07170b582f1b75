/-
  The walk of the statement CountShift (eq).
-/
import Derived.Test.YtkhcbioohoeegaaDoorCountP
set_option linter.unusedVariables false
set_option linter.unusedSimpArgs false
set_option maxRecDepth 100000
namespace Go.Proofs.YtkhcbioohoeegaaDoor
open Go.RowKit
attribute [local go_sem ↓] Go.wp_at_zero Go.wp_at_succ

set_option maxHeartbeats 4000000 in
set_option maxRecDepth 100000 in
theorem shift4_eq_zero (a0 a1 a2 a3 b0 b1 b2 b3 n x y c : Int)
    (h0 : Hid (∀ w, Calls Tryd.prog 19 #[.agg #[.int .u64 a0, .int .u64 a1, .int .u64 a2, .int .u64 a3]] w fun e w' => e = .returned (.int .i64 x) ∧ Below w.heap.size w w'))
    (h1 : Hid (∀ w, Calls Tryd.prog 19 #[.agg #[.int .u64 b0, .int .u64 b1, .int .u64 b2, .int .u64 b3]] w fun e w' => e = .returned (.int .i64 y) ∧ Below w.heap.size w w'))
    (h3 : Hid (∀ w, Calls Tryd.prog 24 #[.agg #[.int .u64 a0, .int .u64 a1, .int .u64 a2, .int .u64 a3], .agg #[.int .u64 b0, .int .u64 b1, .int .u64 b2, .int .u64 b3]] w fun e w' => e = .returned (.int .i64 c) ∧ Below w.heap.size w w'))
    (h4 : Hid (∀ w, Tab w → Calls Tryd.prog 16 #[] w fun e w' => e = .returned (.bool true) ∧ Below w.heap.size w w')) (hg : decide (y < x) = false) (hd : decide (0 ≤ c) = true) (hl : decide (x < y) = false) (hx : (x == 0) = true) (hn0 : 0 ≤ n) (hn1 : n ≤ 255) (w : World) (tb : Tab w) :
    Calls Tryd.prog 8 #[.agg #[.int .u64 a0, .int .u64 a1, .int .u64 a2, .int .u64 a3], .agg #[.int .u64 b0, .int .u64 b1, .int .u64 b2, .int .u64 b3], .int .u8 n] w fun e w' => e = .returned (.bool true) ∧ Below w.heap.size w w' := by
  go_enter Tryd.func8, Tryd.ntmps8
  go_wp2_with fail
  refine wp_forget (fun W => W.cell? ⟨w.heap.size, 0, none⟩ = some (.int .u64 a0) ∧ W.cell? ⟨w.heap.size, 1, none⟩ = some (.int .u64 a1) ∧ W.cell? ⟨w.heap.size, 2, none⟩ = some (.int .u64 a2) ∧ W.cell? ⟨w.heap.size, 3, none⟩ = some (.int .u64 a3) ∧ W.cell? ⟨w.heap.size + 1, 0, none⟩ = some (.int .u64 b0) ∧ W.cell? ⟨w.heap.size + 1, 1, none⟩ = some (.int .u64 b1) ∧ W.cell? ⟨w.heap.size + 1, 2, none⟩ = some (.int .u64 b2) ∧ W.cell? ⟨w.heap.size + 1, 3, none⟩ = some (.int .u64 b3) ∧ Below w.heap.size w W) ⟨by go_simp, by go_simp, by go_simp, by go_simp, by go_simp, by go_simp, by go_simp, by go_simp, (bA (bA (Below.refl _ _) _) _)⟩ (fun w1 hst => ?_)
  obtain ⟨cX0_0, cX0_1, cX0_2, cX0_3, cX1_0, cX1_1, cX1_2, cX1_3, kk⟩ := hst
  have sX0 : w.heap.size < w1.heap.size := World.block_lt_of_cell? _ _ cX0_0
  have sX1 : w.heap.size + 1 < w1.heap.size := World.block_lt_of_cell? _ _ cX1_0
  refine wp_region_noPanic ?_
  refine wp_region_F [] [] (LS w1 (fun _ _ => True) (fun _ _ _ => True)) (by kernel_rfl) (bs := []) (vs := []) (by kernel_rfl) rfl (LS.before noBits_nil (Below.refl _ _).drew trivial) ?_
  refine wpF_take (i := 0) (v := ?vq167) rfl (by kernel_rfl) (by kernel_rfl) (fun _ _ _ h => h) (LS.load (by rfl) ?yq167) ?rq167
  case yq167 => (intro wq hb; have lcX0_0 := cell_later hb cX0_0; have lcX0_1 := cell_later hb cX0_1; have lcX0_2 := cell_later hb cX0_2; have lcX0_3 := cell_later hb cX0_3; go_simp; try (with_reducible rfl))
  try simp only [List.getElem_toArray, List.getElem_cons_zero, List.getElem_cons_succ, Act.put, List.setIfInBounds_toArray, List.set_cons_zero, List.set_cons_succ]
  refine wpF_take (i := 1) (v := _) rfl (by kernel_rfl) (by kernel_rfl) (fun _ _ _ h => h) (LS.call lasts_true (by rfl) _ _ ?yq168 (h0.out)) ?rq168
  case yq168 => (intro wq; go_simp; try (with_reducible rfl))
  try simp only [List.getElem_toArray, List.getElem_cons_zero, List.getElem_cons_succ, Act.put, List.setIfInBounds_toArray, List.set_cons_zero, List.set_cons_succ]
  refine wpF_take (i := 2) (v := ?vq169) rfl (by kernel_rfl) (by kernel_rfl) (fun _ _ _ h => h) (LS.load (by rfl) ?yq169) ?rq169
  case yq169 => (intro wq hb; have lcX1_0 := cell_later hb cX1_0; have lcX1_1 := cell_later hb cX1_1; have lcX1_2 := cell_later hb cX1_2; have lcX1_3 := cell_later hb cX1_3; go_simp; try (with_reducible rfl))
  try simp only [List.getElem_toArray, List.getElem_cons_zero, List.getElem_cons_succ, Act.put, List.setIfInBounds_toArray, List.set_cons_zero, List.set_cons_succ]
  refine wpF_take (i := 3) (v := _) rfl (by kernel_rfl) (by kernel_rfl) (fun _ _ _ h => h) (LS.call lasts_true (by rfl) _ _ ?yq170 (h1.out)) ?rq170
  case yq170 => (intro wq; go_simp; try (with_reducible rfl))
  try simp only [List.getElem_toArray, List.getElem_cons_zero, List.getElem_cons_succ, Act.put, List.setIfInBounds_toArray, List.set_cons_zero, List.set_cons_succ]
  refine wpF_yield (i := 4) (v := ?vq171) rfl (by kernel_rfl) (by kernel_rfl) (fun _ _ _ h => h) (Or.inl ⟨by rfl, ?yq171⟩) ?rq171
  case yq171 => (intro wq; go_simp; try (with_reducible rfl))
  try simp only [List.getElem_toArray, List.getElem_cons_zero, List.getElem_cons_succ, Act.put, List.setIfInBounds_toArray, List.set_cons_zero, List.set_cons_succ]
  refine wpF_yield (i := 5) (v := ?vq172) rfl (by kernel_rfl) (by kernel_rfl) (fun _ _ _ h => h) (Or.inl ⟨by rfl, ?yq172⟩) ?rq172
  case yq172 => (intro wq; go_simp; try (with_reducible rfl))
  try simp only [List.getElem_toArray, List.getElem_cons_zero, List.getElem_cons_succ, Act.put, List.setIfInBounds_toArray, List.set_cons_zero, List.set_cons_succ]
  refine wpF_done (bs := []) (vs := []) (by kernel_rfl) (by kernel_rfl) rfl (fun w2 hS => ?_) _
  refine NoPanic.normal ?_
  obtain ⟨hb, _⟩ := hS.1 noBits_nil
  clear hS
  replace cX0_0 := cell_later hb cX0_0; replace cX0_1 := cell_later hb cX0_1; replace cX0_2 := cell_later hb cX0_2; replace cX0_3 := cell_later hb cX0_3
  replace sX0 : w.heap.size < w2.heap.size := World.block_lt_of_cell? _ _ cX0_0
  replace cX1_0 := cell_later hb cX1_0; replace cX1_1 := cell_later hb cX1_1; replace cX1_2 := cell_later hb cX1_2; replace cX1_3 := cell_later hb cX1_3
  replace sX1 : w.heap.size + 1 < w2.heap.size := World.block_lt_of_cell? _ _ cX1_0
  replace kk := bC kk hb
  clear hb
  go_wp2_with fail
  (with_reducible refine (h3.out _).mono ?_); rintro e w3 ⟨rfl, hb⟩
  clear cX0_0 cX0_1 cX0_2 cX0_3 sX0
  clear cX1_0 cX1_1 cX1_2 cX1_3 sX1
  replace kk := bC kk hb
  clear hb
  go_wp2_with fail
  (with_reducible refine (h4.out _ (tb.later kk)).mono ?_); rintro e w4 ⟨rfl, hb⟩
  replace kk := bC kk hb
  clear hb
  go_wp2_with fail
  go_ret
  exact ⟨rfl, kk⟩

set_option maxHeartbeats 4000000 in
set_option maxRecDepth 100000 in
theorem shift4_eq_over (a0 a1 a2 a3 b0 b1 b2 b3 n x y c s : Int)
    (h0 : Hid (∀ w, Calls Tryd.prog 19 #[.agg #[.int .u64 a0, .int .u64 a1, .int .u64 a2, .int .u64 a3]] w fun e w' => e = .returned (.int .i64 x) ∧ Below w.heap.size w w'))
    (h1 : Hid (∀ w, Calls Tryd.prog 19 #[.agg #[.int .u64 b0, .int .u64 b1, .int .u64 b2, .int .u64 b3]] w fun e w' => e = .returned (.int .i64 y) ∧ Below w.heap.size w w'))
    (h3 : Hid (∀ w, Calls Tryd.prog 24 #[.agg #[.int .u64 a0, .int .u64 a1, .int .u64 a2, .int .u64 a3], .agg #[.int .u64 b0, .int .u64 b1, .int .u64 b2, .int .u64 b3]] w fun e w' => e = .returned (.int .i64 c) ∧ Below w.heap.size w w'))
    (h4 : Hid (∀ w, Tab w → Calls Tryd.prog 16 #[] w fun e w' => e = .returned (.bool true) ∧ Below w.heap.size w w')) (hg : decide (y < x) = false) (hd : decide (0 ≤ c) = true) (hl : decide (x < y) = false) (hx : (x == 0) = false) (hs : IntKind.i64.wrap (x + n) = s) (ho : decide (256 < s) = true) (hn0 : 0 ≤ n) (hn1 : n ≤ 255) (w : World) (tb : Tab w) :
    Calls Tryd.prog 8 #[.agg #[.int .u64 a0, .int .u64 a1, .int .u64 a2, .int .u64 a3], .agg #[.int .u64 b0, .int .u64 b1, .int .u64 b2, .int .u64 b3], .int .u8 n] w fun e w' => e = .returned (.bool true) ∧ Below w.heap.size w w' := by
  go_enter Tryd.func8, Tryd.ntmps8
  go_wp2_with fail
  refine wp_forget (fun W => W.cell? ⟨w.heap.size, 0, none⟩ = some (.int .u64 a0) ∧ W.cell? ⟨w.heap.size, 1, none⟩ = some (.int .u64 a1) ∧ W.cell? ⟨w.heap.size, 2, none⟩ = some (.int .u64 a2) ∧ W.cell? ⟨w.heap.size, 3, none⟩ = some (.int .u64 a3) ∧ W.cell? ⟨w.heap.size + 1, 0, none⟩ = some (.int .u64 b0) ∧ W.cell? ⟨w.heap.size + 1, 1, none⟩ = some (.int .u64 b1) ∧ W.cell? ⟨w.heap.size + 1, 2, none⟩ = some (.int .u64 b2) ∧ W.cell? ⟨w.heap.size + 1, 3, none⟩ = some (.int .u64 b3) ∧ Below w.heap.size w W) ⟨by go_simp, by go_simp, by go_simp, by go_simp, by go_simp, by go_simp, by go_simp, by go_simp, (bA (bA (Below.refl _ _) _) _)⟩ (fun w1 hst => ?_)
  obtain ⟨cX0_0, cX0_1, cX0_2, cX0_3, cX1_0, cX1_1, cX1_2, cX1_3, kk⟩ := hst
  have sX0 : w.heap.size < w1.heap.size := World.block_lt_of_cell? _ _ cX0_0
  have sX1 : w.heap.size + 1 < w1.heap.size := World.block_lt_of_cell? _ _ cX1_0
  refine wp_region_noPanic ?_
  refine wp_region_F [] [] (LS w1 (fun _ _ => True) (fun _ _ _ => True)) (by kernel_rfl) (bs := []) (vs := []) (by kernel_rfl) rfl (LS.before noBits_nil (Below.refl _ _).drew trivial) ?_
  refine wpF_take (i := 0) (v := ?vq173) rfl (by kernel_rfl) (by kernel_rfl) (fun _ _ _ h => h) (LS.load (by rfl) ?yq173) ?rq173
  case yq173 => (intro wq hb; have lcX0_0 := cell_later hb cX0_0; have lcX0_1 := cell_later hb cX0_1; have lcX0_2 := cell_later hb cX0_2; have lcX0_3 := cell_later hb cX0_3; go_simp; try (with_reducible rfl))
  try simp only [List.getElem_toArray, List.getElem_cons_zero, List.getElem_cons_succ, Act.put, List.setIfInBounds_toArray, List.set_cons_zero, List.set_cons_succ]
  refine wpF_take (i := 1) (v := _) rfl (by kernel_rfl) (by kernel_rfl) (fun _ _ _ h => h) (LS.call lasts_true (by rfl) _ _ ?yq174 (h0.out)) ?rq174
  case yq174 => (intro wq; go_simp; try (with_reducible rfl))
  try simp only [List.getElem_toArray, List.getElem_cons_zero, List.getElem_cons_succ, Act.put, List.setIfInBounds_toArray, List.set_cons_zero, List.set_cons_succ]
  refine wpF_take (i := 2) (v := ?vq175) rfl (by kernel_rfl) (by kernel_rfl) (fun _ _ _ h => h) (LS.load (by rfl) ?yq175) ?rq175
  case yq175 => (intro wq hb; have lcX1_0 := cell_later hb cX1_0; have lcX1_1 := cell_later hb cX1_1; have lcX1_2 := cell_later hb cX1_2; have lcX1_3 := cell_later hb cX1_3; go_simp; try (with_reducible rfl))
  try simp only [List.getElem_toArray, List.getElem_cons_zero, List.getElem_cons_succ, Act.put, List.setIfInBounds_toArray, List.set_cons_zero, List.set_cons_succ]
  refine wpF_take (i := 3) (v := _) rfl (by kernel_rfl) (by kernel_rfl) (fun _ _ _ h => h) (LS.call lasts_true (by rfl) _ _ ?yq176 (h1.out)) ?rq176
  case yq176 => (intro wq; go_simp; try (with_reducible rfl))
  try simp only [List.getElem_toArray, List.getElem_cons_zero, List.getElem_cons_succ, Act.put, List.setIfInBounds_toArray, List.set_cons_zero, List.set_cons_succ]
  refine wpF_yield (i := 4) (v := ?vq177) rfl (by kernel_rfl) (by kernel_rfl) (fun _ _ _ h => h) (Or.inl ⟨by rfl, ?yq177⟩) ?rq177
  case yq177 => (intro wq; go_simp; try (with_reducible rfl))
  try simp only [List.getElem_toArray, List.getElem_cons_zero, List.getElem_cons_succ, Act.put, List.setIfInBounds_toArray, List.set_cons_zero, List.set_cons_succ]
  refine wpF_yield (i := 5) (v := ?vq178) rfl (by kernel_rfl) (by kernel_rfl) (fun _ _ _ h => h) (Or.inl ⟨by rfl, ?yq178⟩) ?rq178
  case yq178 => (intro wq; go_simp; try (with_reducible rfl))
  try simp only [List.getElem_toArray, List.getElem_cons_zero, List.getElem_cons_succ, Act.put, List.setIfInBounds_toArray, List.set_cons_zero, List.set_cons_succ]
  refine wpF_done (bs := []) (vs := []) (by kernel_rfl) (by kernel_rfl) rfl (fun w2 hS => ?_) _
  refine NoPanic.normal ?_
  obtain ⟨hb, _⟩ := hS.1 noBits_nil
  clear hS
  replace cX0_0 := cell_later hb cX0_0; replace cX0_1 := cell_later hb cX0_1; replace cX0_2 := cell_later hb cX0_2; replace cX0_3 := cell_later hb cX0_3
  replace sX0 : w.heap.size < w2.heap.size := World.block_lt_of_cell? _ _ cX0_0
  replace cX1_0 := cell_later hb cX1_0; replace cX1_1 := cell_later hb cX1_1; replace cX1_2 := cell_later hb cX1_2; replace cX1_3 := cell_later hb cX1_3
  replace sX1 : w.heap.size + 1 < w2.heap.size := World.block_lt_of_cell? _ _ cX1_0
  replace kk := bC kk hb
  clear hb
  go_wp2_with fail
  (with_reducible refine (h3.out _).mono ?_); rintro e w3 ⟨rfl, hb⟩
  clear cX0_0 cX0_1 cX0_2 cX0_3 sX0
  clear cX1_0 cX1_1 cX1_2 cX1_3 sX1
  replace kk := bC kk hb
  clear hb
  go_wp2_with fail
  (with_reducible refine (h4.out _ (tb.later kk)).mono ?_); rintro e w4 ⟨rfl, hb⟩
  replace kk := bC kk hb
  clear hb
  go_wp2_with fail
  go_ret
  exact ⟨rfl, kk⟩

set_option maxHeartbeats 4000000 in
set_option maxRecDepth 100000 in
theorem shift4_eq_in (a0 a1 a2 a3 b0 b1 b2 b3 p0 p1 p2 p3 n x y c s t u : Int)
    (h0 : Hid (∀ w, Calls Tryd.prog 19 #[.agg #[.int .u64 a0, .int .u64 a1, .int .u64 a2, .int .u64 a3]] w fun e w' => e = .returned (.int .i64 x) ∧ Below w.heap.size w w'))
    (h1 : Hid (∀ w, Calls Tryd.prog 19 #[.agg #[.int .u64 b0, .int .u64 b1, .int .u64 b2, .int .u64 b3]] w fun e w' => e = .returned (.int .i64 y) ∧ Below w.heap.size w w'))
    (h3 : Hid (∀ w, Calls Tryd.prog 24 #[.agg #[.int .u64 a0, .int .u64 a1, .int .u64 a2, .int .u64 a3], .agg #[.int .u64 b0, .int .u64 b1, .int .u64 b2, .int .u64 b3]] w fun e w' => e = .returned (.int .i64 c) ∧ Below w.heap.size w w'))
    (h4 : Hid (∀ w, Calls Tryd.prog 25 #[.agg #[.int .u64 a0, .int .u64 a1, .int .u64 a2, .int .u64 a3], .int .i64 n] w fun e w' => e = .returned (.agg #[.int .u64 p0, .int .u64 p1, .int .u64 p2, .int .u64 p3]) ∧ Below w.heap.size w w'))
    (h5 : Hid (∀ w, Calls Tryd.prog 19 #[.agg #[.int .u64 p0, .int .u64 p1, .int .u64 p2, .int .u64 p3]] w fun e w' => e = .returned (.int .i64 s) ∧ Below w.heap.size w w'))
    (h7 : Hid (∀ w, Tab w → Calls Tryd.prog 20 #[.agg #[.int .u64 p0, .int .u64 p1, .int .u64 p2, .int .u64 p3]] w fun e w' => e = .returned (.int .i64 u) ∧ Below w.heap.size w w'))
    (h8 : Hid (∀ w, Tab w → Calls Tryd.prog 20 #[.agg #[.int .u64 a0, .int .u64 a1, .int .u64 a2, .int .u64 a3]] w fun e w' => e = .returned (.int .i64 t) ∧ Below w.heap.size w w'))
    (h9 : Hid (∀ w, Tab w → Calls Tryd.prog 16 #[] w fun e w' => e = .returned (.bool true) ∧ Below w.heap.size w w')) (hg : decide (y < x) = false) (hd : decide (0 ≤ c) = true) (hl : decide (x < y) = false) (hx : (x == 0) = false) (hs : IntKind.i64.wrap (x + n) = s) (ho : decide (256 < s) = false) (hu : IntKind.i64.wrap (t + n) = u) (hn0 : 0 ≤ n) (hn1 : n ≤ 255) (w : World) (tb : Tab w) :
    Calls Tryd.prog 8 #[.agg #[.int .u64 a0, .int .u64 a1, .int .u64 a2, .int .u64 a3], .agg #[.int .u64 b0, .int .u64 b1, .int .u64 b2, .int .u64 b3], .int .u8 n] w fun e w' => e = .returned (.bool true) ∧ Below w.heap.size w w' := by
  go_enter Tryd.func8, Tryd.ntmps8
  go_wp2_with fail
  refine wp_forget (fun W => W.cell? ⟨w.heap.size, 0, none⟩ = some (.int .u64 a0) ∧ W.cell? ⟨w.heap.size, 1, none⟩ = some (.int .u64 a1) ∧ W.cell? ⟨w.heap.size, 2, none⟩ = some (.int .u64 a2) ∧ W.cell? ⟨w.heap.size, 3, none⟩ = some (.int .u64 a3) ∧ W.cell? ⟨w.heap.size + 1, 0, none⟩ = some (.int .u64 b0) ∧ W.cell? ⟨w.heap.size + 1, 1, none⟩ = some (.int .u64 b1) ∧ W.cell? ⟨w.heap.size + 1, 2, none⟩ = some (.int .u64 b2) ∧ W.cell? ⟨w.heap.size + 1, 3, none⟩ = some (.int .u64 b3) ∧ Below w.heap.size w W) ⟨by go_simp, by go_simp, by go_simp, by go_simp, by go_simp, by go_simp, by go_simp, by go_simp, (bA (bA (Below.refl _ _) _) _)⟩ (fun w1 hst => ?_)
  obtain ⟨cX0_0, cX0_1, cX0_2, cX0_3, cX1_0, cX1_1, cX1_2, cX1_3, kk⟩ := hst
  have sX0 : w.heap.size < w1.heap.size := World.block_lt_of_cell? _ _ cX0_0
  have sX1 : w.heap.size + 1 < w1.heap.size := World.block_lt_of_cell? _ _ cX1_0
  refine wp_region_noPanic ?_
  refine wp_region_F [] [] (LS w1 (fun _ _ => True) (fun _ _ _ => True)) (by kernel_rfl) (bs := []) (vs := []) (by kernel_rfl) rfl (LS.before noBits_nil (Below.refl _ _).drew trivial) ?_
  refine wpF_take (i := 0) (v := ?vq179) rfl (by kernel_rfl) (by kernel_rfl) (fun _ _ _ h => h) (LS.load (by rfl) ?yq179) ?rq179
  case yq179 => (intro wq hb; have lcX0_0 := cell_later hb cX0_0; have lcX0_1 := cell_later hb cX0_1; have lcX0_2 := cell_later hb cX0_2; have lcX0_3 := cell_later hb cX0_3; go_simp; try (with_reducible rfl))
  try simp only [List.getElem_toArray, List.getElem_cons_zero, List.getElem_cons_succ, Act.put, List.setIfInBounds_toArray, List.set_cons_zero, List.set_cons_succ]
  refine wpF_take (i := 1) (v := _) rfl (by kernel_rfl) (by kernel_rfl) (fun _ _ _ h => h) (LS.call lasts_true (by rfl) _ _ ?yq180 (h0.out)) ?rq180
  case yq180 => (intro wq; go_simp; try (with_reducible rfl))
  try simp only [List.getElem_toArray, List.getElem_cons_zero, List.getElem_cons_succ, Act.put, List.setIfInBounds_toArray, List.set_cons_zero, List.set_cons_succ]
  refine wpF_take (i := 2) (v := ?vq181) rfl (by kernel_rfl) (by kernel_rfl) (fun _ _ _ h => h) (LS.load (by rfl) ?yq181) ?rq181
  case yq181 => (intro wq hb; have lcX1_0 := cell_later hb cX1_0; have lcX1_1 := cell_later hb cX1_1; have lcX1_2 := cell_later hb cX1_2; have lcX1_3 := cell_later hb cX1_3; go_simp; try (with_reducible rfl))
  try simp only [List.getElem_toArray, List.getElem_cons_zero, List.getElem_cons_succ, Act.put, List.setIfInBounds_toArray, List.set_cons_zero, List.set_cons_succ]
  refine wpF_take (i := 3) (v := _) rfl (by kernel_rfl) (by kernel_rfl) (fun _ _ _ h => h) (LS.call lasts_true (by rfl) _ _ ?yq182 (h1.out)) ?rq182
  case yq182 => (intro wq; go_simp; try (with_reducible rfl))
  try simp only [List.getElem_toArray, List.getElem_cons_zero, List.getElem_cons_succ, Act.put, List.setIfInBounds_toArray, List.set_cons_zero, List.set_cons_succ]
  refine wpF_yield (i := 4) (v := ?vq183) rfl (by kernel_rfl) (by kernel_rfl) (fun _ _ _ h => h) (Or.inl ⟨by rfl, ?yq183⟩) ?rq183
  case yq183 => (intro wq; go_simp; try (with_reducible rfl))
  try simp only [List.getElem_toArray, List.getElem_cons_zero, List.getElem_cons_succ, Act.put, List.setIfInBounds_toArray, List.set_cons_zero, List.set_cons_succ]
  refine wpF_yield (i := 5) (v := ?vq184) rfl (by kernel_rfl) (by kernel_rfl) (fun _ _ _ h => h) (Or.inl ⟨by rfl, ?yq184⟩) ?rq184
  case yq184 => (intro wq; go_simp; try (with_reducible rfl))
  try simp only [List.getElem_toArray, List.getElem_cons_zero, List.getElem_cons_succ, Act.put, List.setIfInBounds_toArray, List.set_cons_zero, List.set_cons_succ]
  refine wpF_done (bs := []) (vs := []) (by kernel_rfl) (by kernel_rfl) rfl (fun w2 hS => ?_) _
  refine NoPanic.normal ?_
  obtain ⟨hb, _⟩ := hS.1 noBits_nil
  clear hS
  replace cX0_0 := cell_later hb cX0_0; replace cX0_1 := cell_later hb cX0_1; replace cX0_2 := cell_later hb cX0_2; replace cX0_3 := cell_later hb cX0_3
  replace sX0 : w.heap.size < w2.heap.size := World.block_lt_of_cell? _ _ cX0_0
  replace cX1_0 := cell_later hb cX1_0; replace cX1_1 := cell_later hb cX1_1; replace cX1_2 := cell_later hb cX1_2; replace cX1_3 := cell_later hb cX1_3
  replace sX1 : w.heap.size + 1 < w2.heap.size := World.block_lt_of_cell? _ _ cX1_0
  replace kk := bC kk hb
  clear hb
  go_wp2_with fail
  (with_reducible refine (h3.out _).mono ?_); rintro e w3 ⟨rfl, hb⟩
  replace cX0_0 := cell_later hb cX0_0; replace cX0_1 := cell_later hb cX0_1; replace cX0_2 := cell_later hb cX0_2; replace cX0_3 := cell_later hb cX0_3
  replace sX0 : w.heap.size < w3.heap.size := World.block_lt_of_cell? _ _ cX0_0
  clear cX1_0 cX1_1 cX1_2 cX1_3 sX1
  replace kk := bC kk hb
  clear hb
  go_wp2_with fail
  refine wp_region_noPanic ?_
  refine wp_region_F [] [] (LS w3 (fun _ _ => True) (fun _ _ _ => True)) (by kernel_rfl) (bs := []) (vs := []) (by kernel_rfl) rfl (LS.before noBits_nil (Below.refl _ _).drew trivial) ?_
  refine wpF_take (i := 0) (v := ?vq185) rfl (by kernel_rfl) (by kernel_rfl) (fun _ _ _ h => h) (LS.load (by rfl) ?yq185) ?rq185
  case yq185 => (intro wq hb; have lcX0_0 := cell_later hb cX0_0; have lcX0_1 := cell_later hb cX0_1; have lcX0_2 := cell_later hb cX0_2; have lcX0_3 := cell_later hb cX0_3; go_simp; try (with_reducible rfl))
  try simp only [List.getElem_toArray, List.getElem_cons_zero, List.getElem_cons_succ, Act.put, List.setIfInBounds_toArray, List.set_cons_zero, List.set_cons_succ]
  refine wpF_yield (i := 1) (v := ?vq186) rfl (by kernel_rfl) (by kernel_rfl) (fun _ _ _ h => h) (Or.inl ⟨by rfl, ?yq186⟩) ?rq186
  case yq186 => (intro wq; go_simp; try (with_reducible rfl))
  try simp only [List.getElem_toArray, List.getElem_cons_zero, List.getElem_cons_succ, Act.put, List.setIfInBounds_toArray, List.set_cons_zero, List.set_cons_succ]
  refine wpF_take (i := 2) (v := _) rfl (by kernel_rfl) (by kernel_rfl) (fun _ _ _ h => h) (LS.call lasts_true (by rfl) _ _ ?yq187 (h4.out)) ?rq187
  case yq187 => (intro wq; go_simp; try (with_reducible rfl))
  try simp only [List.getElem_toArray, List.getElem_cons_zero, List.getElem_cons_succ, Act.put, List.setIfInBounds_toArray, List.set_cons_zero, List.set_cons_succ]
  refine wpF_take (i := 3) (v := _) rfl (by kernel_rfl) (by kernel_rfl) (fun _ _ _ h => h) (LS.call lasts_true (by rfl) _ _ ?yq188 (h5.out)) ?rq188
  case yq188 => (intro wq; go_simp; try (with_reducible rfl))
  try simp only [List.getElem_toArray, List.getElem_cons_zero, List.getElem_cons_succ, Act.put, List.setIfInBounds_toArray, List.set_cons_zero, List.set_cons_succ]
  refine wpF_yield (i := 4) (v := ?vq189) rfl (by kernel_rfl) (by kernel_rfl) (fun _ _ _ h => h) (Or.inl ⟨by rfl, ?yq189⟩) ?rq189
  case yq189 => (intro wq; go_simp; try (with_reducible rfl))
  try simp only [List.getElem_toArray, List.getElem_cons_zero, List.getElem_cons_succ, Act.put, List.setIfInBounds_toArray, List.set_cons_zero, List.set_cons_succ]
  refine wpF_yield (i := 5) (v := ?vq190) rfl (by kernel_rfl) (by kernel_rfl) (fun _ _ _ h => h) (Or.inl ⟨by rfl, ?yq190⟩) ?rq190
  case yq190 => (intro wq; go_simp; try (with_reducible rfl))
  try simp only [List.getElem_toArray, List.getElem_cons_zero, List.getElem_cons_succ, Act.put, List.setIfInBounds_toArray, List.set_cons_zero, List.set_cons_succ]
  refine wpF_yield (i := 6) (v := ?vq191) rfl (by kernel_rfl) (by kernel_rfl) (fun _ _ _ h => h) (Or.inl ⟨by rfl, ?yq191⟩) ?rq191
  case yq191 => (intro wq; go_simp; try (with_reducible rfl))
  try simp only [List.getElem_toArray, List.getElem_cons_zero, List.getElem_cons_succ, Act.put, List.setIfInBounds_toArray, List.set_cons_zero, List.set_cons_succ]
  refine wpF_yield (i := 7) (v := ?vq192) rfl (by kernel_rfl) (by kernel_rfl) (fun _ _ _ h => h) (Or.inl ⟨by rfl, ?yq192⟩) ?rq192
  case yq192 => (intro wq; go_simp; try (with_reducible rfl))
  try simp only [List.getElem_toArray, List.getElem_cons_zero, List.getElem_cons_succ, Act.put, List.setIfInBounds_toArray, List.set_cons_zero, List.set_cons_succ]
  refine wpF_yield (i := 8) (v := ?vq193) rfl (by kernel_rfl) (by kernel_rfl) (fun _ _ _ h => h) (Or.inl ⟨by rfl, ?yq193⟩) ?rq193
  case yq193 => (intro wq; go_simp; try (with_reducible rfl))
  try simp only [List.getElem_toArray, List.getElem_cons_zero, List.getElem_cons_succ, Act.put, List.setIfInBounds_toArray, List.set_cons_zero, List.set_cons_succ]
  refine wpF_take (i := 9) (v := ?vq194) rfl (by kernel_rfl) (by kernel_rfl) (fun _ _ _ h => h) (LS.load (by rfl) ?yq194) ?rq194
  case yq194 => (intro wq hb; have lcX0_0 := cell_later hb cX0_0; have lcX0_1 := cell_later hb cX0_1; have lcX0_2 := cell_later hb cX0_2; have lcX0_3 := cell_later hb cX0_3; go_simp; try (with_reducible rfl))
  try simp only [List.getElem_toArray, List.getElem_cons_zero, List.getElem_cons_succ, Act.put, List.setIfInBounds_toArray, List.set_cons_zero, List.set_cons_succ]
  refine wpF_yield (i := 10) (v := ?vq195) rfl (by kernel_rfl) (by kernel_rfl) (fun _ _ _ h => h) (Or.inl ⟨by rfl, ?yq195⟩) ?rq195
  case yq195 => (intro wq; go_simp; try (with_reducible rfl))
  try simp only [List.getElem_toArray, List.getElem_cons_zero, List.getElem_cons_succ, Act.put, List.setIfInBounds_toArray, List.set_cons_zero, List.set_cons_succ]
  refine wpF_take (i := 11) (v := _) rfl (by kernel_rfl) (by kernel_rfl) (fun _ _ _ h => h) (LS.call lasts_true (by rfl) _ _ ?yq196 (h4.out)) ?rq196
  case yq196 => (intro wq; go_simp; try (with_reducible rfl))
  try simp only [List.getElem_toArray, List.getElem_cons_zero, List.getElem_cons_succ, Act.put, List.setIfInBounds_toArray, List.set_cons_zero, List.set_cons_succ]
  refine wpF_take (i := 12) (v := _) rfl (by kernel_rfl) (by kernel_rfl) (fun _ _ _ h => h) (LS.callW lasts_true (by rfl) _ _ ?yq197 ((fun W hb => h7.out W (tb.later (bC kk hb))))) ?rq197
  case yq197 => (intro wq; go_simp; try (with_reducible rfl))
  try simp only [List.getElem_toArray, List.getElem_cons_zero, List.getElem_cons_succ, Act.put, List.setIfInBounds_toArray, List.set_cons_zero, List.set_cons_succ]
  refine wpF_take (i := 13) (v := ?vq198) rfl (by kernel_rfl) (by kernel_rfl) (fun _ _ _ h => h) (LS.load (by rfl) ?yq198) ?rq198
  case yq198 => (intro wq hb; have lcX0_0 := cell_later hb cX0_0; have lcX0_1 := cell_later hb cX0_1; have lcX0_2 := cell_later hb cX0_2; have lcX0_3 := cell_later hb cX0_3; go_simp; try (with_reducible rfl))
  try simp only [List.getElem_toArray, List.getElem_cons_zero, List.getElem_cons_succ, Act.put, List.setIfInBounds_toArray, List.set_cons_zero, List.set_cons_succ]
  refine wpF_take (i := 14) (v := _) rfl (by kernel_rfl) (by kernel_rfl) (fun _ _ _ h => h) (LS.callW lasts_true (by rfl) _ _ ?yq199 ((fun W hb => h8.out W (tb.later (bC kk hb))))) ?rq199
  case yq199 => (intro wq; go_simp; try (with_reducible rfl))
  try simp only [List.getElem_toArray, List.getElem_cons_zero, List.getElem_cons_succ, Act.put, List.setIfInBounds_toArray, List.set_cons_zero, List.set_cons_succ]
  refine wpF_yield (i := 15) (v := ?vq200) rfl (by kernel_rfl) (by kernel_rfl) (fun _ _ _ h => h) (Or.inl ⟨by rfl, ?yq200⟩) ?rq200
  case yq200 => (intro wq; go_simp; try (with_reducible rfl))
  try simp only [List.getElem_toArray, List.getElem_cons_zero, List.getElem_cons_succ, Act.put, List.setIfInBounds_toArray, List.set_cons_zero, List.set_cons_succ]
  refine wpF_yield (i := 16) (v := ?vq201) rfl (by kernel_rfl) (by kernel_rfl) (fun _ _ _ h => h) (Or.inl ⟨by rfl, ?yq201⟩) ?rq201
  case yq201 => (intro wq; go_simp; try (with_reducible rfl))
  try simp only [List.getElem_toArray, List.getElem_cons_zero, List.getElem_cons_succ, Act.put, List.setIfInBounds_toArray, List.set_cons_zero, List.set_cons_succ]
  refine wpF_yield (i := 17) (v := ?vq202) rfl (by kernel_rfl) (by kernel_rfl) (fun _ _ _ h => h) (Or.inl ⟨by rfl, ?yq202⟩) ?rq202
  case yq202 => (intro wq; go_simp; try (with_reducible rfl))
  try simp only [List.getElem_toArray, List.getElem_cons_zero, List.getElem_cons_succ, Act.put, List.setIfInBounds_toArray, List.set_cons_zero, List.set_cons_succ]
  refine wpF_yield (i := 18) (v := ?vq203) rfl (by kernel_rfl) (by kernel_rfl) (fun _ _ _ h => h) (Or.inl ⟨by rfl, ?yq203⟩) ?rq203
  case yq203 => (intro wq; go_simp; try (with_reducible rfl))
  try simp only [List.getElem_toArray, List.getElem_cons_zero, List.getElem_cons_succ, Act.put, List.setIfInBounds_toArray, List.set_cons_zero, List.set_cons_succ]
  refine wpF_yield (i := 19) (v := ?vq204) rfl (by kernel_rfl) (by kernel_rfl) (fun _ _ _ h => h) (Or.inl ⟨by rfl, ?yq204⟩) ?rq204
  case yq204 => (intro wq; go_simp; try (with_reducible rfl))
  try simp only [List.getElem_toArray, List.getElem_cons_zero, List.getElem_cons_succ, Act.put, List.setIfInBounds_toArray, List.set_cons_zero, List.set_cons_succ]
  refine wpF_take (i := 20) (v := _) rfl (by kernel_rfl) (by kernel_rfl) (fun _ _ _ h => h) (LS.callW lasts_true (by rfl) _ _ ?yq205 ((fun W hb => h9.out W (tb.later (bC kk hb))))) ?rq205
  case yq205 => (intro wq; go_simp; try (with_reducible rfl))
  try simp only [List.getElem_toArray, List.getElem_cons_zero, List.getElem_cons_succ, Act.put, List.setIfInBounds_toArray, List.set_cons_zero, List.set_cons_succ]
  refine wpF_yield (i := 21) (v := ?vq206) rfl (by kernel_rfl) (by kernel_rfl) (fun _ _ _ h => h) (Or.inl ⟨by rfl, ?yq206⟩) ?rq206
  case yq206 => (intro wq; go_simp; try (with_reducible rfl))
  try simp only [List.getElem_toArray, List.getElem_cons_zero, List.getElem_cons_succ, Act.put, List.setIfInBounds_toArray, List.set_cons_zero, List.set_cons_succ]
  refine wpF_yield (i := 22) (v := ?vq207) rfl (by kernel_rfl) (by kernel_rfl) (fun _ _ _ h => h) (Or.inl ⟨by rfl, ?yq207⟩) ?rq207
  case yq207 => (intro wq; go_simp; try (with_reducible rfl))
  try simp only [List.getElem_toArray, List.getElem_cons_zero, List.getElem_cons_succ, Act.put, List.setIfInBounds_toArray, List.set_cons_zero, List.set_cons_succ]
  refine wpF_done (bs := []) (vs := []) (by kernel_rfl) (by kernel_rfl) rfl (fun w5 hS => ?_) _
  refine NoPanic.normal ?_
  obtain ⟨hb, _⟩ := hS.1 noBits_nil
  clear hS
  clear cX0_0 cX0_1 cX0_2 cX0_3 sX0
  replace kk := bC kk hb
  clear hb
  go_wp2_with fail
  go_ret
  exact ⟨rfl, kk⟩

end Go.Proofs.YtkhcbioohoeegaaDoor
