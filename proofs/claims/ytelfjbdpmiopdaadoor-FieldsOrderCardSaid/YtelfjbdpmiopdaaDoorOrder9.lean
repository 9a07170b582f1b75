/-
  The walk of the statement FieldsOrder.
-/
import Derived.Test.YtelfjbdpmiopdaaDoorForm7T
import Derived.Test.YtelfjbdpmiopdaaDoorGaA
import Derived.Test.YtelfjbdpmiopdaaDoorLater4
import Derived.Test.YtelfjbdpmiopdaaDoorNum9
set_option linter.unusedVariables false
set_option linter.unusedSimpArgs false
set_option maxRecDepth 100000
namespace Go.Proofs.YtelfjbdpmiopdaaDoor
open Go.RowKit
attribute [local go_sem ↓] Go.wp_at_zero Go.wp_at_succ

set_option maxHeartbeats 4000000 in
set_option maxRecDepth 100000 in
theorem order9_e0 (f ah al bh bl xc xe xh xl yc ye yh yl : Int) (xg yg : Bool)
    (h0 : Hid (∀ w, FTab w → Calls Tryd.prog 10 #[.int .u8 f, .agg #[.int .u64 ah, .int .u64 al]] w fun e w' => e = .returned (.agg #[.bool xg, .int .u8 xc, .int .i64 xe, .int .u64 xh, .int .u64 xl]) ∧ Below w.heap.size w w'))
    (h1 : Hid (∀ w, FTab w → Calls Tryd.prog 10 #[.int .u8 f, .agg #[.int .u64 bh, .int .u64 bl]] w fun e w' => e = .returned (.agg #[.bool yg, .int .u8 yc, .int .i64 ye, .int .u64 yh, .int .u64 yl]) ∧ Below w.heap.size w w'))
    (h2 : Hid (∀ w, FTab w → Calls Tryd.prog 18 #[.int .u8 f, .agg #[.int .u64 ah, .int .u64 al]] w fun e w' => e = .returned (.bool false) ∧ Below w.heap.size w w'))
    (h4 : Hid (∀ w, FTab w → Calls Tryd.prog 12 #[] w fun e w' => e = .returned (.bool true) ∧ Below w.heap.size w w')) (w : World) (ft : FTab w) :
    Calls Tryd.prog 6 #[.int .u8 f, .agg #[.int .u64 ah, .int .u64 al], .agg #[.int .u64 bh, .int .u64 bl]] w fun e w' => e = .returned (.bool true) ∧ Below w.heap.size w w' := by
  go_enter Tryd.func6, Tryd.ntmps6
  go_wp2_with fail
  refine wp_forget (fun W => W.cell? ⟨w.heap.size, 0, none⟩ = some (.int .u64 ah) ∧ W.cell? ⟨w.heap.size, 1, none⟩ = some (.int .u64 al) ∧ W.cell? ⟨w.heap.size + 1, 0, none⟩ = some (.int .u64 bh) ∧ W.cell? ⟨w.heap.size + 1, 1, none⟩ = some (.int .u64 bl) ∧ Below w.heap.size w W) ⟨by go_simp, by go_simp, by go_simp, by go_simp, (bA (bA (Below.refl _ _) _) _)⟩ (fun w1 hst => ?_)
  obtain ⟨cX0_0, cX0_1, cX1_0, cX1_1, kk⟩ := hst
  have sX0 : w.heap.size < w1.heap.size := World.block_lt_of_cell? _ _ cX0_0
  have sX1 : w.heap.size + 1 < w1.heap.size ∧ w.heap.size < w1.heap.size := by have h : w.heap.size + 1 < w1.heap.size := World.block_lt_of_cell? _ _ cX1_0; exact ⟨h, by omega⟩
  refine wp_region_noPanic ?_
  refine wp_region_F [8, 9] [7, 8] (LS w1 (ANN w1 28 #[.bool false, .int .u8 0, .int .i64 0, .int .u64 0, .int .u64 0]) (ZNN w1 28 #[.bool false, .int .u8 0, .int .i64 0, .int .u64 0, .int .u64 0] (.bool xg) (.int .u8 xc) (.int .i64 xe) (.int .u64 xh) (.int .u64 xl) (.bool yg) (.int .u8 yc) (.int .i64 ye) (.int .u64 yh) (.int .u64 yl))) (by kernel_rfl) (bs := [false, false]) (vs := [undef, undef]) (by kernel_rfl) rfl (LS.before noBits_ff (Below.refl _ _).drew (ANN.start _ _ _ _)) ?_
  refine wpF_yield (i := 0) (v := ?vq48) rfl (by kernel_rfl) (by kernel_rfl) (fun _ _ _ h => h) (Or.inl ⟨by rfl, ?yq48⟩) ?rq48
  case yq48 => (intro wq; go_simp; try (with_reducible rfl))
  try simp only [List.getElem_toArray, List.getElem_cons_zero, List.getElem_cons_succ, Act.put, List.setIfInBounds_toArray, List.set_cons_zero, List.set_cons_succ]
  refine wpF_take3 (i := 1) (v := ?vq49) rfl (by kernel_rfl) (by kernel_rfl) (fun _ _ _ h => h) (LS.load (by rfl) ?yq49) ?rq49
  case yq49 => (intro wq hb; have lcX0_0 := cell_later hb cX0_0; have lcX0_1 := cell_later hb cX0_1; go_simp; try (with_reducible rfl))
  try simp only [List.getElem_toArray, List.getElem_cons_zero, List.getElem_cons_succ, Act.put, List.setIfInBounds_toArray, List.set_cons_zero, List.set_cons_succ]
  refine wpF_take3 (i := 2) (v := _) rfl (by kernel_rfl) (by kernel_rfl) (fun _ _ _ h => h) (LS.callW (ANN.lasts w1 _ _) (by rfl) _ _ ?yq50 ((fun W hb => h0.out W (ft.later (bC kk hb))))) ?rq50
  case yq50 => (intro wq; go_simp; try (with_reducible rfl))
  try simp only [List.getElem_toArray, List.getElem_cons_zero, List.getElem_cons_succ, Act.put, List.setIfInBounds_toArray, List.set_cons_zero, List.set_cons_succ]
  refine wpF_yield (i := 3) (v := ?vq51) rfl (by kernel_rfl) (by kernel_rfl) (fun _ _ _ h => h) (Or.inl ⟨by rfl, ?yq51⟩) ?rq51
  case yq51 => (intro wq; go_simp; try (with_reducible rfl))
  try simp only [List.getElem_toArray, List.getElem_cons_zero, List.getElem_cons_succ, Act.put, List.setIfInBounds_toArray, List.set_cons_zero, List.set_cons_succ]
  refine wpF_take3 (i := 4) (v := ?vq52) rfl (by kernel_rfl) (by kernel_rfl) (fun _ _ _ h => h) (LS.load (by rfl) ?yq52) ?rq52
  case yq52 => (intro wq hb; have lcX1_0 := cell_later hb cX1_0; have lcX1_1 := cell_later hb cX1_1; go_simp; try (with_reducible rfl))
  try simp only [List.getElem_toArray, List.getElem_cons_zero, List.getElem_cons_succ, Act.put, List.setIfInBounds_toArray, List.set_cons_zero, List.set_cons_succ]
  refine wpF_take3 (i := 5) (v := _) rfl (by kernel_rfl) (by kernel_rfl) (fun _ _ _ h => h) (LS.callW (ANN.lasts w1 _ _) (by rfl) _ _ ?yq53 ((fun W hb => h1.out W (ft.later (bC kk hb))))) ?rq53
  case yq53 => (intro wq; go_simp; try (with_reducible rfl))
  try simp only [List.getElem_toArray, List.getElem_cons_zero, List.getElem_cons_succ, Act.put, List.setIfInBounds_toArray, List.set_cons_zero, List.set_cons_succ]
  refine wpF_two (i := 6) (j := 7) (bs := [false, false]) (bi := [false, false]) (bj := [false, false]) (vs := [undef, undef]) (by kernel_rfl) rfl rfl (by kernel_rfl) rfl (by kernel_rfl) (by kernel_rfl) (fun wq hS K hK => ?_) (fun wq hS K hK => ?_)
  obtain ⟨hb, hA⟩ := hS.1 noBits_ff
  go_simp
  refine hK.out _ _ (LS.before noBits_ff (bA hb _) (ANN.first hb rfl)) ?_
  clear hK hA hb hS
  generalize wq.heap.size = pp1 at *
  try simp only [List.getElem_toArray, List.getElem_cons_zero, List.getElem_cons_succ, Act.put, List.setIfInBounds_toArray, List.set_cons_zero, List.set_cons_succ]
  clear K wq
  refine wpF_step (i := 7) (bs := [false, false]) (bs' := [false, false]) (vs := [.pointer (some ⟨pp1, 0, none⟩), undef]) (by kernel_rfl) rfl (by kernel_rfl) rfl (by kernel_rfl) (fun wq hS K hK => ?_)
  obtain ⟨hb, hA⟩ := hS.1 noBits_ff
  go_simp
  refine hK.out _ _ (LS.before noBits_ff (bA hb _) (ANN.second hb hA rfl)) ?_
  clear hK hA hb hS
  generalize wq.heap.size = qq1 at *
  try simp only [List.getElem_toArray, List.getElem_cons_zero, List.getElem_cons_succ, Act.put, List.setIfInBounds_toArray, List.set_cons_zero, List.set_cons_succ]
  clear K wq
  revert pp1 qq1
  refine ?rest
  rotate_left
  obtain ⟨hb, hA⟩ := hS.1 noBits_ff
  go_simp
  refine hK.out _ _ (LS.before noBits_ff (bA hb _) (ANN.first' hb rfl)) ?_
  clear hK hA hb hS
  generalize wq.heap.size = qq1 at *
  try simp only [List.getElem_toArray, List.getElem_cons_zero, List.getElem_cons_succ, Act.put, List.setIfInBounds_toArray, List.set_cons_zero, List.set_cons_succ]
  clear K wq
  refine wpF_step (i := 6) (bs := [false, false]) (bs' := [false, false]) (vs := [undef, .pointer (some ⟨qq1, 0, none⟩)]) (by kernel_rfl) rfl (by kernel_rfl) rfl (by kernel_rfl) (fun wq hS K hK => ?_)
  obtain ⟨hb, hA⟩ := hS.1 noBits_ff
  go_simp
  refine hK.out _ _ (LS.before noBits_ff (bA hb _) (ANN.second' hb hA rfl)) ?_
  clear hK hA hb hS
  generalize wq.heap.size = pp1 at *
  try simp only [List.getElem_toArray, List.getElem_cons_zero, List.getElem_cons_succ, Act.put, List.setIfInBounds_toArray, List.set_cons_zero, List.set_cons_succ]
  clear K wq
  rw [Array.setIfInBounds_comm true true (i := 7) (j := 6) (by decide)]
  exact ?rest pp1 qq1
  intro pp1 qq1
  refine wpF_step (i := 8) (bs := [false, false]) (bs' := [true, false]) (vs := [.pointer (some ⟨pp1, 0, none⟩), .pointer (some ⟨qq1, 0, none⟩)]) (by kernel_rfl) rfl (by kernel_rfl) rfl (by kernel_rfl) (fun wq hS K hK => ?_)
  obtain ⟨hb, hA⟩ := hS.1 noBits_ff
  have ZZ := Lib.hid (ZNN.one hb hA (.bool xg) (.int .u8 xc) (.int .i64 xe) (.int .u64 xh) (.int .u64 xl) (.bool yg) (.int .u8 yc) (.int .i64 ye) (.int .u64 yh) (.int .u64 yl))
  obtain ⟨⟨hp, x⟩, _, _⟩ := hA.both
  obtain ⟨z0, z1, z2, z3, z4⟩ := x.five
  have f0 := x.frozen 0; have f1 := x.frozen 1; have f2 := x.frozen 2; have f3 := x.frozen 3; have f4 := x.frozen 4
  go_simp
  refine hK.out _ _ (LS.behind bits_tf' ZZ.out) ?_
  clear hK hA hb ZZ hS hp x z0 z1 z2 z3 z4 f0 f1 f2 f3 f4
  try simp only [List.getElem_toArray, List.getElem_cons_zero, List.getElem_cons_succ, Act.put, List.setIfInBounds_toArray, List.set_cons_zero, List.set_cons_succ]
  refine wpF_step (i := 9) (bs := [true, false]) (bs' := [true, true]) (vs := [.pointer (some ⟨pp1, 0, none⟩), .pointer (some ⟨qq1, 0, none⟩)]) (by kernel_rfl) rfl (by kernel_rfl) rfl (by kernel_rfl) (fun wq hS K hK => ?_)
  have hZ := hS.2 bits_tf'
  have ZZ := Lib.hid hZ.two
  have x := hZ.cells
  obtain ⟨z0, z1, z2, z3, z4⟩ := x.five
  have f0 := x.frozen 0; have f1 := x.frozen 1; have f2 := x.frozen 2; have f3 := x.frozen 3; have f4 := x.frozen 4
  go_simp
  refine hK.out _ _ (LS.behind bits_tt' ZZ.out) ?_
  clear hK hZ ZZ hS x z0 z1 z2 z3 z4 f0 f1 f2 f3 f4
  try simp only [List.getElem_toArray, List.getElem_cons_zero, List.getElem_cons_succ, Act.put, List.setIfInBounds_toArray, List.set_cons_zero, List.set_cons_succ]
  refine wpF_done (bs := [true, true]) (vs := [.pointer (some ⟨pp1, 0, none⟩), .pointer (some ⟨qq1, 0, none⟩)]) (by kernel_rfl) (by kernel_rfl) rfl (fun w2 hS => ?_) _
  refine NoPanic.normal ?_
  obtain ⟨hge, hge2, hne, hbox, hbox2, hb⟩ := (hS.2 bits_tt').done
  obtain ⟨cX2_0, cX2_1, cX2_2, cX2_3, cX2_4⟩ := hbox.five
  obtain ⟨cX3_0, cX3_1, cX3_2, cX3_3, cX3_4⟩ := hbox2.five
  clear hge hge2 hne hbox hbox2
  clear hS
  replace cX0_0 := cell_later hb cX0_0; replace cX0_1 := cell_later hb cX0_1
  replace sX0 : w.heap.size < w2.heap.size := World.block_lt_of_cell? _ _ cX0_0
  replace cX1_0 := cell_later hb cX1_0; replace cX1_1 := cell_later hb cX1_1
  replace sX1 : w.heap.size + 1 < w2.heap.size ∧ w.heap.size < w2.heap.size := by have h : w.heap.size + 1 < w2.heap.size := World.block_lt_of_cell? _ _ cX1_0; exact ⟨h, by omega⟩
  have sX2 : pp1 < w2.heap.size := World.block_lt_of_cell? _ _ cX2_0
  have sX3 : qq1 < w2.heap.size := World.block_lt_of_cell? _ _ cX3_0
  replace kk := bC kk hb
  clear hb
  go_wp2_with fail
  (with_reducible refine (h2.out _ (ft.later kk)).mono ?_); rintro e w3 ⟨rfl, hb⟩
  clear cX0_0 cX0_1 sX0
  replace cX1_0 := cell_later hb cX1_0; replace cX1_1 := cell_later hb cX1_1
  replace sX1 : w.heap.size + 1 < w3.heap.size ∧ w.heap.size < w3.heap.size := by have h : w.heap.size + 1 < w3.heap.size := World.block_lt_of_cell? _ _ cX1_0; exact ⟨h, by omega⟩
  replace cX2_0 := cell_later hb cX2_0; replace cX2_1 := cell_later hb cX2_1; replace cX2_2 := cell_later hb cX2_2; replace cX2_3 := cell_later hb cX2_3; replace cX2_4 := cell_later hb cX2_4
  replace sX2 : pp1 < w3.heap.size := World.block_lt_of_cell? _ _ cX2_0
  replace cX3_0 := cell_later hb cX3_0; replace cX3_1 := cell_later hb cX3_1; replace cX3_2 := cell_later hb cX3_2; replace cX3_3 := cell_later hb cX3_3; replace cX3_4 := cell_later hb cX3_4
  replace sX3 : qq1 < w3.heap.size := World.block_lt_of_cell? _ _ cX3_0
  replace kk := bC kk hb
  clear hb
  go_wp2_with fail
  (with_reducible refine (h4.out _ (ft.later kk)).mono ?_); rintro e w4 ⟨rfl, hb⟩
  clear cX1_0 cX1_1 sX1
  clear cX2_0 cX2_1 cX2_2 cX2_3 cX2_4 sX2
  clear cX3_0 cX3_1 cX3_2 cX3_3 cX3_4 sX3
  replace kk := bC kk hb
  clear hb
  go_wp2_with fail
  go_ret
  exact ⟨rfl, kk⟩

set_option maxHeartbeats 4000000 in
set_option maxRecDepth 100000 in
theorem order9_e1 (f ah al bh bl xc xe xh xl yc ye yh yl : Int) (xg yg : Bool)
    (h0 : Hid (∀ w, FTab w → Calls Tryd.prog 10 #[.int .u8 f, .agg #[.int .u64 ah, .int .u64 al]] w fun e w' => e = .returned (.agg #[.bool xg, .int .u8 xc, .int .i64 xe, .int .u64 xh, .int .u64 xl]) ∧ Below w.heap.size w w'))
    (h1 : Hid (∀ w, FTab w → Calls Tryd.prog 10 #[.int .u8 f, .agg #[.int .u64 bh, .int .u64 bl]] w fun e w' => e = .returned (.agg #[.bool yg, .int .u8 yc, .int .i64 ye, .int .u64 yh, .int .u64 yl]) ∧ Below w.heap.size w w'))
    (h2 : Hid (∀ w, FTab w → Calls Tryd.prog 18 #[.int .u8 f, .agg #[.int .u64 ah, .int .u64 al]] w fun e w' => e = .returned (.bool true) ∧ Below w.heap.size w w'))
    (h3 : Hid (∀ w, FTab w → Calls Tryd.prog 18 #[.int .u8 f, .agg #[.int .u64 bh, .int .u64 bl]] w fun e w' => e = .returned (.bool false) ∧ Below w.heap.size w w'))
    (h4 : Hid (∀ w, FTab w → Calls Tryd.prog 12 #[] w fun e w' => e = .returned (.bool true) ∧ Below w.heap.size w w')) (w : World) (ft : FTab w) :
    Calls Tryd.prog 6 #[.int .u8 f, .agg #[.int .u64 ah, .int .u64 al], .agg #[.int .u64 bh, .int .u64 bl]] w fun e w' => e = .returned (.bool true) ∧ Below w.heap.size w w' := by
  go_enter Tryd.func6, Tryd.ntmps6
  go_wp2_with fail
  refine wp_forget (fun W => W.cell? ⟨w.heap.size, 0, none⟩ = some (.int .u64 ah) ∧ W.cell? ⟨w.heap.size, 1, none⟩ = some (.int .u64 al) ∧ W.cell? ⟨w.heap.size + 1, 0, none⟩ = some (.int .u64 bh) ∧ W.cell? ⟨w.heap.size + 1, 1, none⟩ = some (.int .u64 bl) ∧ Below w.heap.size w W) ⟨by go_simp, by go_simp, by go_simp, by go_simp, (bA (bA (Below.refl _ _) _) _)⟩ (fun w1 hst => ?_)
  obtain ⟨cX0_0, cX0_1, cX1_0, cX1_1, kk⟩ := hst
  have sX0 : w.heap.size < w1.heap.size := World.block_lt_of_cell? _ _ cX0_0
  have sX1 : w.heap.size + 1 < w1.heap.size ∧ w.heap.size < w1.heap.size := by have h : w.heap.size + 1 < w1.heap.size := World.block_lt_of_cell? _ _ cX1_0; exact ⟨h, by omega⟩
  refine wp_region_noPanic ?_
  refine wp_region_F [8, 9] [7, 8] (LS w1 (ANN w1 28 #[.bool false, .int .u8 0, .int .i64 0, .int .u64 0, .int .u64 0]) (ZNN w1 28 #[.bool false, .int .u8 0, .int .i64 0, .int .u64 0, .int .u64 0] (.bool xg) (.int .u8 xc) (.int .i64 xe) (.int .u64 xh) (.int .u64 xl) (.bool yg) (.int .u8 yc) (.int .i64 ye) (.int .u64 yh) (.int .u64 yl))) (by kernel_rfl) (bs := [false, false]) (vs := [undef, undef]) (by kernel_rfl) rfl (LS.before noBits_ff (Below.refl _ _).drew (ANN.start _ _ _ _)) ?_
  refine wpF_yield (i := 0) (v := ?vq54) rfl (by kernel_rfl) (by kernel_rfl) (fun _ _ _ h => h) (Or.inl ⟨by rfl, ?yq54⟩) ?rq54
  case yq54 => (intro wq; go_simp; try (with_reducible rfl))
  try simp only [List.getElem_toArray, List.getElem_cons_zero, List.getElem_cons_succ, Act.put, List.setIfInBounds_toArray, List.set_cons_zero, List.set_cons_succ]
  refine wpF_take3 (i := 1) (v := ?vq55) rfl (by kernel_rfl) (by kernel_rfl) (fun _ _ _ h => h) (LS.load (by rfl) ?yq55) ?rq55
  case yq55 => (intro wq hb; have lcX0_0 := cell_later hb cX0_0; have lcX0_1 := cell_later hb cX0_1; go_simp; try (with_reducible rfl))
  try simp only [List.getElem_toArray, List.getElem_cons_zero, List.getElem_cons_succ, Act.put, List.setIfInBounds_toArray, List.set_cons_zero, List.set_cons_succ]
  refine wpF_take3 (i := 2) (v := _) rfl (by kernel_rfl) (by kernel_rfl) (fun _ _ _ h => h) (LS.callW (ANN.lasts w1 _ _) (by rfl) _ _ ?yq56 ((fun W hb => h0.out W (ft.later (bC kk hb))))) ?rq56
  case yq56 => (intro wq; go_simp; try (with_reducible rfl))
  try simp only [List.getElem_toArray, List.getElem_cons_zero, List.getElem_cons_succ, Act.put, List.setIfInBounds_toArray, List.set_cons_zero, List.set_cons_succ]
  refine wpF_yield (i := 3) (v := ?vq57) rfl (by kernel_rfl) (by kernel_rfl) (fun _ _ _ h => h) (Or.inl ⟨by rfl, ?yq57⟩) ?rq57
  case yq57 => (intro wq; go_simp; try (with_reducible rfl))
  try simp only [List.getElem_toArray, List.getElem_cons_zero, List.getElem_cons_succ, Act.put, List.setIfInBounds_toArray, List.set_cons_zero, List.set_cons_succ]
  refine wpF_take3 (i := 4) (v := ?vq58) rfl (by kernel_rfl) (by kernel_rfl) (fun _ _ _ h => h) (LS.load (by rfl) ?yq58) ?rq58
  case yq58 => (intro wq hb; have lcX1_0 := cell_later hb cX1_0; have lcX1_1 := cell_later hb cX1_1; go_simp; try (with_reducible rfl))
  try simp only [List.getElem_toArray, List.getElem_cons_zero, List.getElem_cons_succ, Act.put, List.setIfInBounds_toArray, List.set_cons_zero, List.set_cons_succ]
  refine wpF_take3 (i := 5) (v := _) rfl (by kernel_rfl) (by kernel_rfl) (fun _ _ _ h => h) (LS.callW (ANN.lasts w1 _ _) (by rfl) _ _ ?yq59 ((fun W hb => h1.out W (ft.later (bC kk hb))))) ?rq59
  case yq59 => (intro wq; go_simp; try (with_reducible rfl))
  try simp only [List.getElem_toArray, List.getElem_cons_zero, List.getElem_cons_succ, Act.put, List.setIfInBounds_toArray, List.set_cons_zero, List.set_cons_succ]
  refine wpF_two (i := 6) (j := 7) (bs := [false, false]) (bi := [false, false]) (bj := [false, false]) (vs := [undef, undef]) (by kernel_rfl) rfl rfl (by kernel_rfl) rfl (by kernel_rfl) (by kernel_rfl) (fun wq hS K hK => ?_) (fun wq hS K hK => ?_)
  obtain ⟨hb, hA⟩ := hS.1 noBits_ff
  go_simp
  refine hK.out _ _ (LS.before noBits_ff (bA hb _) (ANN.first hb rfl)) ?_
  clear hK hA hb hS
  generalize wq.heap.size = pp1 at *
  try simp only [List.getElem_toArray, List.getElem_cons_zero, List.getElem_cons_succ, Act.put, List.setIfInBounds_toArray, List.set_cons_zero, List.set_cons_succ]
  clear K wq
  refine wpF_step (i := 7) (bs := [false, false]) (bs' := [false, false]) (vs := [.pointer (some ⟨pp1, 0, none⟩), undef]) (by kernel_rfl) rfl (by kernel_rfl) rfl (by kernel_rfl) (fun wq hS K hK => ?_)
  obtain ⟨hb, hA⟩ := hS.1 noBits_ff
  go_simp
  refine hK.out _ _ (LS.before noBits_ff (bA hb _) (ANN.second hb hA rfl)) ?_
  clear hK hA hb hS
  generalize wq.heap.size = qq1 at *
  try simp only [List.getElem_toArray, List.getElem_cons_zero, List.getElem_cons_succ, Act.put, List.setIfInBounds_toArray, List.set_cons_zero, List.set_cons_succ]
  clear K wq
  revert pp1 qq1
  refine ?rest
  rotate_left
  obtain ⟨hb, hA⟩ := hS.1 noBits_ff
  go_simp
  refine hK.out _ _ (LS.before noBits_ff (bA hb _) (ANN.first' hb rfl)) ?_
  clear hK hA hb hS
  generalize wq.heap.size = qq1 at *
  try simp only [List.getElem_toArray, List.getElem_cons_zero, List.getElem_cons_succ, Act.put, List.setIfInBounds_toArray, List.set_cons_zero, List.set_cons_succ]
  clear K wq
  refine wpF_step (i := 6) (bs := [false, false]) (bs' := [false, false]) (vs := [undef, .pointer (some ⟨qq1, 0, none⟩)]) (by kernel_rfl) rfl (by kernel_rfl) rfl (by kernel_rfl) (fun wq hS K hK => ?_)
  obtain ⟨hb, hA⟩ := hS.1 noBits_ff
  go_simp
  refine hK.out _ _ (LS.before noBits_ff (bA hb _) (ANN.second' hb hA rfl)) ?_
  clear hK hA hb hS
  generalize wq.heap.size = pp1 at *
  try simp only [List.getElem_toArray, List.getElem_cons_zero, List.getElem_cons_succ, Act.put, List.setIfInBounds_toArray, List.set_cons_zero, List.set_cons_succ]
  clear K wq
  rw [Array.setIfInBounds_comm true true (i := 7) (j := 6) (by decide)]
  exact ?rest pp1 qq1
  intro pp1 qq1
  refine wpF_step (i := 8) (bs := [false, false]) (bs' := [true, false]) (vs := [.pointer (some ⟨pp1, 0, none⟩), .pointer (some ⟨qq1, 0, none⟩)]) (by kernel_rfl) rfl (by kernel_rfl) rfl (by kernel_rfl) (fun wq hS K hK => ?_)
  obtain ⟨hb, hA⟩ := hS.1 noBits_ff
  have ZZ := Lib.hid (ZNN.one hb hA (.bool xg) (.int .u8 xc) (.int .i64 xe) (.int .u64 xh) (.int .u64 xl) (.bool yg) (.int .u8 yc) (.int .i64 ye) (.int .u64 yh) (.int .u64 yl))
  obtain ⟨⟨hp, x⟩, _, _⟩ := hA.both
  obtain ⟨z0, z1, z2, z3, z4⟩ := x.five
  have f0 := x.frozen 0; have f1 := x.frozen 1; have f2 := x.frozen 2; have f3 := x.frozen 3; have f4 := x.frozen 4
  go_simp
  refine hK.out _ _ (LS.behind bits_tf' ZZ.out) ?_
  clear hK hA hb ZZ hS hp x z0 z1 z2 z3 z4 f0 f1 f2 f3 f4
  try simp only [List.getElem_toArray, List.getElem_cons_zero, List.getElem_cons_succ, Act.put, List.setIfInBounds_toArray, List.set_cons_zero, List.set_cons_succ]
  refine wpF_step (i := 9) (bs := [true, false]) (bs' := [true, true]) (vs := [.pointer (some ⟨pp1, 0, none⟩), .pointer (some ⟨qq1, 0, none⟩)]) (by kernel_rfl) rfl (by kernel_rfl) rfl (by kernel_rfl) (fun wq hS K hK => ?_)
  have hZ := hS.2 bits_tf'
  have ZZ := Lib.hid hZ.two
  have x := hZ.cells
  obtain ⟨z0, z1, z2, z3, z4⟩ := x.five
  have f0 := x.frozen 0; have f1 := x.frozen 1; have f2 := x.frozen 2; have f3 := x.frozen 3; have f4 := x.frozen 4
  go_simp
  refine hK.out _ _ (LS.behind bits_tt' ZZ.out) ?_
  clear hK hZ ZZ hS x z0 z1 z2 z3 z4 f0 f1 f2 f3 f4
  try simp only [List.getElem_toArray, List.getElem_cons_zero, List.getElem_cons_succ, Act.put, List.setIfInBounds_toArray, List.set_cons_zero, List.set_cons_succ]
  refine wpF_done (bs := [true, true]) (vs := [.pointer (some ⟨pp1, 0, none⟩), .pointer (some ⟨qq1, 0, none⟩)]) (by kernel_rfl) (by kernel_rfl) rfl (fun w2 hS => ?_) _
  refine NoPanic.normal ?_
  obtain ⟨hge, hge2, hne, hbox, hbox2, hb⟩ := (hS.2 bits_tt').done
  obtain ⟨cX2_0, cX2_1, cX2_2, cX2_3, cX2_4⟩ := hbox.five
  obtain ⟨cX3_0, cX3_1, cX3_2, cX3_3, cX3_4⟩ := hbox2.five
  clear hge hge2 hne hbox hbox2
  clear hS
  replace cX0_0 := cell_later hb cX0_0; replace cX0_1 := cell_later hb cX0_1
  replace sX0 : w.heap.size < w2.heap.size := World.block_lt_of_cell? _ _ cX0_0
  replace cX1_0 := cell_later hb cX1_0; replace cX1_1 := cell_later hb cX1_1
  replace sX1 : w.heap.size + 1 < w2.heap.size ∧ w.heap.size < w2.heap.size := by have h : w.heap.size + 1 < w2.heap.size := World.block_lt_of_cell? _ _ cX1_0; exact ⟨h, by omega⟩
  have sX2 : pp1 < w2.heap.size := World.block_lt_of_cell? _ _ cX2_0
  have sX3 : qq1 < w2.heap.size := World.block_lt_of_cell? _ _ cX3_0
  replace kk := bC kk hb
  clear hb
  go_wp2_with fail
  (with_reducible refine (h2.out _ (ft.later kk)).mono ?_); rintro e w3 ⟨rfl, hb⟩
  clear cX0_0 cX0_1 sX0
  replace cX1_0 := cell_later hb cX1_0; replace cX1_1 := cell_later hb cX1_1
  replace sX1 : w.heap.size + 1 < w3.heap.size ∧ w.heap.size < w3.heap.size := by have h : w.heap.size + 1 < w3.heap.size := World.block_lt_of_cell? _ _ cX1_0; exact ⟨h, by omega⟩
  replace cX2_0 := cell_later hb cX2_0; replace cX2_1 := cell_later hb cX2_1; replace cX2_2 := cell_later hb cX2_2; replace cX2_3 := cell_later hb cX2_3; replace cX2_4 := cell_later hb cX2_4
  replace sX2 : pp1 < w3.heap.size := World.block_lt_of_cell? _ _ cX2_0
  replace cX3_0 := cell_later hb cX3_0; replace cX3_1 := cell_later hb cX3_1; replace cX3_2 := cell_later hb cX3_2; replace cX3_3 := cell_later hb cX3_3; replace cX3_4 := cell_later hb cX3_4
  replace sX3 : qq1 < w3.heap.size := World.block_lt_of_cell? _ _ cX3_0
  replace kk := bC kk hb
  clear hb
  go_wp2_with fail
  (with_reducible refine (h3.out _ (ft.later kk)).mono ?_); rintro e w4 ⟨rfl, hb⟩
  clear cX1_0 cX1_1 sX1
  replace cX2_0 := cell_later hb cX2_0; replace cX2_1 := cell_later hb cX2_1; replace cX2_2 := cell_later hb cX2_2; replace cX2_3 := cell_later hb cX2_3; replace cX2_4 := cell_later hb cX2_4
  replace sX2 : pp1 < w4.heap.size := World.block_lt_of_cell? _ _ cX2_0
  replace cX3_0 := cell_later hb cX3_0; replace cX3_1 := cell_later hb cX3_1; replace cX3_2 := cell_later hb cX3_2; replace cX3_3 := cell_later hb cX3_3; replace cX3_4 := cell_later hb cX3_4
  replace sX3 : qq1 < w4.heap.size := World.block_lt_of_cell? _ _ cX3_0
  replace kk := bC kk hb
  clear hb
  go_wp2_with fail
  (with_reducible refine (h4.out _ (ft.later kk)).mono ?_); rintro e w5 ⟨rfl, hb⟩
  clear cX2_0 cX2_1 cX2_2 cX2_3 cX2_4 sX2
  clear cX3_0 cX3_1 cX3_2 cX3_3 cX3_4 sX3
  replace kk := bC kk hb
  clear hb
  go_wp2_with fail
  go_ret
  exact ⟨rfl, kk⟩

set_option maxHeartbeats 4000000 in
set_option maxRecDepth 100000 in
theorem order9_e2 (f ah al bh bl xc xe xh xl yc ye yh yl : Int) (yg : Bool)
    (h0 : Hid (∀ w, FTab w → Calls Tryd.prog 10 #[.int .u8 f, .agg #[.int .u64 ah, .int .u64 al]] w fun e w' => e = .returned (.agg #[.bool true, .int .u8 xc, .int .i64 xe, .int .u64 xh, .int .u64 xl]) ∧ Below w.heap.size w w'))
    (h1 : Hid (∀ w, FTab w → Calls Tryd.prog 10 #[.int .u8 f, .agg #[.int .u64 bh, .int .u64 bl]] w fun e w' => e = .returned (.agg #[.bool yg, .int .u8 yc, .int .i64 ye, .int .u64 yh, .int .u64 yl]) ∧ Below w.heap.size w w'))
    (h2 : Hid (∀ w, FTab w → Calls Tryd.prog 18 #[.int .u8 f, .agg #[.int .u64 ah, .int .u64 al]] w fun e w' => e = .returned (.bool true) ∧ Below w.heap.size w w'))
    (h3 : Hid (∀ w, FTab w → Calls Tryd.prog 18 #[.int .u8 f, .agg #[.int .u64 bh, .int .u64 bl]] w fun e w' => e = .returned (.bool true) ∧ Below w.heap.size w w'))
    (h4 : Hid (∀ w, FTab w → Calls Tryd.prog 12 #[] w fun e w' => e = .returned (.bool true) ∧ Below w.heap.size w w')) (w : World) (ft : FTab w) :
    Calls Tryd.prog 6 #[.int .u8 f, .agg #[.int .u64 ah, .int .u64 al], .agg #[.int .u64 bh, .int .u64 bl]] w fun e w' => e = .returned (.bool true) ∧ Below w.heap.size w w' := by
  go_enter Tryd.func6, Tryd.ntmps6
  go_wp2_with fail
  refine wp_forget (fun W => W.cell? ⟨w.heap.size, 0, none⟩ = some (.int .u64 ah) ∧ W.cell? ⟨w.heap.size, 1, none⟩ = some (.int .u64 al) ∧ W.cell? ⟨w.heap.size + 1, 0, none⟩ = some (.int .u64 bh) ∧ W.cell? ⟨w.heap.size + 1, 1, none⟩ = some (.int .u64 bl) ∧ Below w.heap.size w W) ⟨by go_simp, by go_simp, by go_simp, by go_simp, (bA (bA (Below.refl _ _) _) _)⟩ (fun w1 hst => ?_)
  obtain ⟨cX0_0, cX0_1, cX1_0, cX1_1, kk⟩ := hst
  have sX0 : w.heap.size < w1.heap.size := World.block_lt_of_cell? _ _ cX0_0
  have sX1 : w.heap.size + 1 < w1.heap.size ∧ w.heap.size < w1.heap.size := by have h : w.heap.size + 1 < w1.heap.size := World.block_lt_of_cell? _ _ cX1_0; exact ⟨h, by omega⟩
  refine wp_region_noPanic ?_
  refine wp_region_F [8, 9] [7, 8] (LS w1 (ANN w1 28 #[.bool false, .int .u8 0, .int .i64 0, .int .u64 0, .int .u64 0]) (ZNN w1 28 #[.bool false, .int .u8 0, .int .i64 0, .int .u64 0, .int .u64 0] (.bool true) (.int .u8 xc) (.int .i64 xe) (.int .u64 xh) (.int .u64 xl) (.bool yg) (.int .u8 yc) (.int .i64 ye) (.int .u64 yh) (.int .u64 yl))) (by kernel_rfl) (bs := [false, false]) (vs := [undef, undef]) (by kernel_rfl) rfl (LS.before noBits_ff (Below.refl _ _).drew (ANN.start _ _ _ _)) ?_
  refine wpF_yield (i := 0) (v := ?vq60) rfl (by kernel_rfl) (by kernel_rfl) (fun _ _ _ h => h) (Or.inl ⟨by rfl, ?yq60⟩) ?rq60
  case yq60 => (intro wq; go_simp; try (with_reducible rfl))
  try simp only [List.getElem_toArray, List.getElem_cons_zero, List.getElem_cons_succ, Act.put, List.setIfInBounds_toArray, List.set_cons_zero, List.set_cons_succ]
  refine wpF_take3 (i := 1) (v := ?vq61) rfl (by kernel_rfl) (by kernel_rfl) (fun _ _ _ h => h) (LS.load (by rfl) ?yq61) ?rq61
  case yq61 => (intro wq hb; have lcX0_0 := cell_later hb cX0_0; have lcX0_1 := cell_later hb cX0_1; go_simp; try (with_reducible rfl))
  try simp only [List.getElem_toArray, List.getElem_cons_zero, List.getElem_cons_succ, Act.put, List.setIfInBounds_toArray, List.set_cons_zero, List.set_cons_succ]
  refine wpF_take3 (i := 2) (v := _) rfl (by kernel_rfl) (by kernel_rfl) (fun _ _ _ h => h) (LS.callW (ANN.lasts w1 _ _) (by rfl) _ _ ?yq62 ((fun W hb => h0.out W (ft.later (bC kk hb))))) ?rq62
  case yq62 => (intro wq; go_simp; try (with_reducible rfl))
  try simp only [List.getElem_toArray, List.getElem_cons_zero, List.getElem_cons_succ, Act.put, List.setIfInBounds_toArray, List.set_cons_zero, List.set_cons_succ]
  refine wpF_yield (i := 3) (v := ?vq63) rfl (by kernel_rfl) (by kernel_rfl) (fun _ _ _ h => h) (Or.inl ⟨by rfl, ?yq63⟩) ?rq63
  case yq63 => (intro wq; go_simp; try (with_reducible rfl))
  try simp only [List.getElem_toArray, List.getElem_cons_zero, List.getElem_cons_succ, Act.put, List.setIfInBounds_toArray, List.set_cons_zero, List.set_cons_succ]
  refine wpF_take3 (i := 4) (v := ?vq64) rfl (by kernel_rfl) (by kernel_rfl) (fun _ _ _ h => h) (LS.load (by rfl) ?yq64) ?rq64
  case yq64 => (intro wq hb; have lcX1_0 := cell_later hb cX1_0; have lcX1_1 := cell_later hb cX1_1; go_simp; try (with_reducible rfl))
  try simp only [List.getElem_toArray, List.getElem_cons_zero, List.getElem_cons_succ, Act.put, List.setIfInBounds_toArray, List.set_cons_zero, List.set_cons_succ]
  refine wpF_take3 (i := 5) (v := _) rfl (by kernel_rfl) (by kernel_rfl) (fun _ _ _ h => h) (LS.callW (ANN.lasts w1 _ _) (by rfl) _ _ ?yq65 ((fun W hb => h1.out W (ft.later (bC kk hb))))) ?rq65
  case yq65 => (intro wq; go_simp; try (with_reducible rfl))
  try simp only [List.getElem_toArray, List.getElem_cons_zero, List.getElem_cons_succ, Act.put, List.setIfInBounds_toArray, List.set_cons_zero, List.set_cons_succ]
  refine wpF_two (i := 6) (j := 7) (bs := [false, false]) (bi := [false, false]) (bj := [false, false]) (vs := [undef, undef]) (by kernel_rfl) rfl rfl (by kernel_rfl) rfl (by kernel_rfl) (by kernel_rfl) (fun wq hS K hK => ?_) (fun wq hS K hK => ?_)
  obtain ⟨hb, hA⟩ := hS.1 noBits_ff
  go_simp
  refine hK.out _ _ (LS.before noBits_ff (bA hb _) (ANN.first hb rfl)) ?_
  clear hK hA hb hS
  generalize wq.heap.size = pp1 at *
  try simp only [List.getElem_toArray, List.getElem_cons_zero, List.getElem_cons_succ, Act.put, List.setIfInBounds_toArray, List.set_cons_zero, List.set_cons_succ]
  clear K wq
  refine wpF_step (i := 7) (bs := [false, false]) (bs' := [false, false]) (vs := [.pointer (some ⟨pp1, 0, none⟩), undef]) (by kernel_rfl) rfl (by kernel_rfl) rfl (by kernel_rfl) (fun wq hS K hK => ?_)
  obtain ⟨hb, hA⟩ := hS.1 noBits_ff
  go_simp
  refine hK.out _ _ (LS.before noBits_ff (bA hb _) (ANN.second hb hA rfl)) ?_
  clear hK hA hb hS
  generalize wq.heap.size = qq1 at *
  try simp only [List.getElem_toArray, List.getElem_cons_zero, List.getElem_cons_succ, Act.put, List.setIfInBounds_toArray, List.set_cons_zero, List.set_cons_succ]
  clear K wq
  revert pp1 qq1
  refine ?rest
  rotate_left
  obtain ⟨hb, hA⟩ := hS.1 noBits_ff
  go_simp
  refine hK.out _ _ (LS.before noBits_ff (bA hb _) (ANN.first' hb rfl)) ?_
  clear hK hA hb hS
  generalize wq.heap.size = qq1 at *
  try simp only [List.getElem_toArray, List.getElem_cons_zero, List.getElem_cons_succ, Act.put, List.setIfInBounds_toArray, List.set_cons_zero, List.set_cons_succ]
  clear K wq
  refine wpF_step (i := 6) (bs := [false, false]) (bs' := [false, false]) (vs := [undef, .pointer (some ⟨qq1, 0, none⟩)]) (by kernel_rfl) rfl (by kernel_rfl) rfl (by kernel_rfl) (fun wq hS K hK => ?_)
  obtain ⟨hb, hA⟩ := hS.1 noBits_ff
  go_simp
  refine hK.out _ _ (LS.before noBits_ff (bA hb _) (ANN.second' hb hA rfl)) ?_
  clear hK hA hb hS
  generalize wq.heap.size = pp1 at *
  try simp only [List.getElem_toArray, List.getElem_cons_zero, List.getElem_cons_succ, Act.put, List.setIfInBounds_toArray, List.set_cons_zero, List.set_cons_succ]
  clear K wq
  rw [Array.setIfInBounds_comm true true (i := 7) (j := 6) (by decide)]
  exact ?rest pp1 qq1
  intro pp1 qq1
  refine wpF_step (i := 8) (bs := [false, false]) (bs' := [true, false]) (vs := [.pointer (some ⟨pp1, 0, none⟩), .pointer (some ⟨qq1, 0, none⟩)]) (by kernel_rfl) rfl (by kernel_rfl) rfl (by kernel_rfl) (fun wq hS K hK => ?_)
  obtain ⟨hb, hA⟩ := hS.1 noBits_ff
  have ZZ := Lib.hid (ZNN.one hb hA (.bool true) (.int .u8 xc) (.int .i64 xe) (.int .u64 xh) (.int .u64 xl) (.bool yg) (.int .u8 yc) (.int .i64 ye) (.int .u64 yh) (.int .u64 yl))
  obtain ⟨⟨hp, x⟩, _, _⟩ := hA.both
  obtain ⟨z0, z1, z2, z3, z4⟩ := x.five
  have f0 := x.frozen 0; have f1 := x.frozen 1; have f2 := x.frozen 2; have f3 := x.frozen 3; have f4 := x.frozen 4
  go_simp
  refine hK.out _ _ (LS.behind bits_tf' ZZ.out) ?_
  clear hK hA hb ZZ hS hp x z0 z1 z2 z3 z4 f0 f1 f2 f3 f4
  try simp only [List.getElem_toArray, List.getElem_cons_zero, List.getElem_cons_succ, Act.put, List.setIfInBounds_toArray, List.set_cons_zero, List.set_cons_succ]
  refine wpF_step (i := 9) (bs := [true, false]) (bs' := [true, true]) (vs := [.pointer (some ⟨pp1, 0, none⟩), .pointer (some ⟨qq1, 0, none⟩)]) (by kernel_rfl) rfl (by kernel_rfl) rfl (by kernel_rfl) (fun wq hS K hK => ?_)
  have hZ := hS.2 bits_tf'
  have ZZ := Lib.hid hZ.two
  have x := hZ.cells
  obtain ⟨z0, z1, z2, z3, z4⟩ := x.five
  have f0 := x.frozen 0; have f1 := x.frozen 1; have f2 := x.frozen 2; have f3 := x.frozen 3; have f4 := x.frozen 4
  go_simp
  refine hK.out _ _ (LS.behind bits_tt' ZZ.out) ?_
  clear hK hZ ZZ hS x z0 z1 z2 z3 z4 f0 f1 f2 f3 f4
  try simp only [List.getElem_toArray, List.getElem_cons_zero, List.getElem_cons_succ, Act.put, List.setIfInBounds_toArray, List.set_cons_zero, List.set_cons_succ]
  refine wpF_done (bs := [true, true]) (vs := [.pointer (some ⟨pp1, 0, none⟩), .pointer (some ⟨qq1, 0, none⟩)]) (by kernel_rfl) (by kernel_rfl) rfl (fun w2 hS => ?_) _
  refine NoPanic.normal ?_
  obtain ⟨hge, hge2, hne, hbox, hbox2, hb⟩ := (hS.2 bits_tt').done
  obtain ⟨cX2_0, cX2_1, cX2_2, cX2_3, cX2_4⟩ := hbox.five
  obtain ⟨cX3_0, cX3_1, cX3_2, cX3_3, cX3_4⟩ := hbox2.five
  clear hge hge2 hne hbox hbox2
  clear hS
  replace cX0_0 := cell_later hb cX0_0; replace cX0_1 := cell_later hb cX0_1
  replace sX0 : w.heap.size < w2.heap.size := World.block_lt_of_cell? _ _ cX0_0
  replace cX1_0 := cell_later hb cX1_0; replace cX1_1 := cell_later hb cX1_1
  replace sX1 : w.heap.size + 1 < w2.heap.size ∧ w.heap.size < w2.heap.size := by have h : w.heap.size + 1 < w2.heap.size := World.block_lt_of_cell? _ _ cX1_0; exact ⟨h, by omega⟩
  have sX2 : pp1 < w2.heap.size := World.block_lt_of_cell? _ _ cX2_0
  have sX3 : qq1 < w2.heap.size := World.block_lt_of_cell? _ _ cX3_0
  replace kk := bC kk hb
  clear hb
  go_wp2_with fail
  (with_reducible refine (h2.out _ (ft.later kk)).mono ?_); rintro e w3 ⟨rfl, hb⟩
  clear cX0_0 cX0_1 sX0
  replace cX1_0 := cell_later hb cX1_0; replace cX1_1 := cell_later hb cX1_1
  replace sX1 : w.heap.size + 1 < w3.heap.size ∧ w.heap.size < w3.heap.size := by have h : w.heap.size + 1 < w3.heap.size := World.block_lt_of_cell? _ _ cX1_0; exact ⟨h, by omega⟩
  replace cX2_0 := cell_later hb cX2_0; replace cX2_1 := cell_later hb cX2_1; replace cX2_2 := cell_later hb cX2_2; replace cX2_3 := cell_later hb cX2_3; replace cX2_4 := cell_later hb cX2_4
  replace sX2 : pp1 < w3.heap.size := World.block_lt_of_cell? _ _ cX2_0
  replace cX3_0 := cell_later hb cX3_0; replace cX3_1 := cell_later hb cX3_1; replace cX3_2 := cell_later hb cX3_2; replace cX3_3 := cell_later hb cX3_3; replace cX3_4 := cell_later hb cX3_4
  replace sX3 : qq1 < w3.heap.size := World.block_lt_of_cell? _ _ cX3_0
  replace kk := bC kk hb
  clear hb
  go_wp2_with fail
  (with_reducible refine (h3.out _ (ft.later kk)).mono ?_); rintro e w4 ⟨rfl, hb⟩
  clear cX1_0 cX1_1 sX1
  replace cX2_0 := cell_later hb cX2_0; replace cX2_1 := cell_later hb cX2_1; replace cX2_2 := cell_later hb cX2_2; replace cX2_3 := cell_later hb cX2_3; replace cX2_4 := cell_later hb cX2_4
  replace sX2 : pp1 < w4.heap.size := World.block_lt_of_cell? _ _ cX2_0
  replace cX3_0 := cell_later hb cX3_0; replace cX3_1 := cell_later hb cX3_1; replace cX3_2 := cell_later hb cX3_2; replace cX3_3 := cell_later hb cX3_3; replace cX3_4 := cell_later hb cX3_4
  replace sX3 : qq1 < w4.heap.size := World.block_lt_of_cell? _ _ cX3_0
  replace kk := bC kk hb
  clear hb
  go_wp2_with fail
  (with_reducible refine (h4.out _ (ft.later kk)).mono ?_); rintro e w5 ⟨rfl, hb⟩
  clear cX2_0 cX2_1 cX2_2 cX2_3 cX2_4 sX2
  clear cX3_0 cX3_1 cX3_2 cX3_3 cX3_4 sX3
  replace kk := bC kk hb
  clear hb
  go_wp2_with fail
  go_ret
  exact ⟨rfl, kk⟩

set_option maxHeartbeats 4000000 in
set_option maxRecDepth 100000 in
theorem order9_e3 (f ah al bh bl xc xe xh xl yc ye yh yl : Int)
    (h0 : Hid (∀ w, FTab w → Calls Tryd.prog 10 #[.int .u8 f, .agg #[.int .u64 ah, .int .u64 al]] w fun e w' => e = .returned (.agg #[.bool false, .int .u8 xc, .int .i64 xe, .int .u64 xh, .int .u64 xl]) ∧ Below w.heap.size w w'))
    (h1 : Hid (∀ w, FTab w → Calls Tryd.prog 10 #[.int .u8 f, .agg #[.int .u64 bh, .int .u64 bl]] w fun e w' => e = .returned (.agg #[.bool true, .int .u8 yc, .int .i64 ye, .int .u64 yh, .int .u64 yl]) ∧ Below w.heap.size w w'))
    (h2 : Hid (∀ w, FTab w → Calls Tryd.prog 18 #[.int .u8 f, .agg #[.int .u64 ah, .int .u64 al]] w fun e w' => e = .returned (.bool true) ∧ Below w.heap.size w w'))
    (h3 : Hid (∀ w, FTab w → Calls Tryd.prog 18 #[.int .u8 f, .agg #[.int .u64 bh, .int .u64 bl]] w fun e w' => e = .returned (.bool true) ∧ Below w.heap.size w w'))
    (h4 : Hid (∀ w, FTab w → Calls Tryd.prog 12 #[] w fun e w' => e = .returned (.bool true) ∧ Below w.heap.size w w')) (w : World) (ft : FTab w) :
    Calls Tryd.prog 6 #[.int .u8 f, .agg #[.int .u64 ah, .int .u64 al], .agg #[.int .u64 bh, .int .u64 bl]] w fun e w' => e = .returned (.bool true) ∧ Below w.heap.size w w' := by
  go_enter Tryd.func6, Tryd.ntmps6
  go_wp2_with fail
  refine wp_forget (fun W => W.cell? ⟨w.heap.size, 0, none⟩ = some (.int .u64 ah) ∧ W.cell? ⟨w.heap.size, 1, none⟩ = some (.int .u64 al) ∧ W.cell? ⟨w.heap.size + 1, 0, none⟩ = some (.int .u64 bh) ∧ W.cell? ⟨w.heap.size + 1, 1, none⟩ = some (.int .u64 bl) ∧ Below w.heap.size w W) ⟨by go_simp, by go_simp, by go_simp, by go_simp, (bA (bA (Below.refl _ _) _) _)⟩ (fun w1 hst => ?_)
  obtain ⟨cX0_0, cX0_1, cX1_0, cX1_1, kk⟩ := hst
  have sX0 : w.heap.size < w1.heap.size := World.block_lt_of_cell? _ _ cX0_0
  have sX1 : w.heap.size + 1 < w1.heap.size ∧ w.heap.size < w1.heap.size := by have h : w.heap.size + 1 < w1.heap.size := World.block_lt_of_cell? _ _ cX1_0; exact ⟨h, by omega⟩
  refine wp_region_noPanic ?_
  refine wp_region_F [8, 9] [7, 8] (LS w1 (ANN w1 28 #[.bool false, .int .u8 0, .int .i64 0, .int .u64 0, .int .u64 0]) (ZNN w1 28 #[.bool false, .int .u8 0, .int .i64 0, .int .u64 0, .int .u64 0] (.bool false) (.int .u8 xc) (.int .i64 xe) (.int .u64 xh) (.int .u64 xl) (.bool true) (.int .u8 yc) (.int .i64 ye) (.int .u64 yh) (.int .u64 yl))) (by kernel_rfl) (bs := [false, false]) (vs := [undef, undef]) (by kernel_rfl) rfl (LS.before noBits_ff (Below.refl _ _).drew (ANN.start _ _ _ _)) ?_
  refine wpF_yield (i := 0) (v := ?vq66) rfl (by kernel_rfl) (by kernel_rfl) (fun _ _ _ h => h) (Or.inl ⟨by rfl, ?yq66⟩) ?rq66
  case yq66 => (intro wq; go_simp; try (with_reducible rfl))
  try simp only [List.getElem_toArray, List.getElem_cons_zero, List.getElem_cons_succ, Act.put, List.setIfInBounds_toArray, List.set_cons_zero, List.set_cons_succ]
  refine wpF_take3 (i := 1) (v := ?vq67) rfl (by kernel_rfl) (by kernel_rfl) (fun _ _ _ h => h) (LS.load (by rfl) ?yq67) ?rq67
  case yq67 => (intro wq hb; have lcX0_0 := cell_later hb cX0_0; have lcX0_1 := cell_later hb cX0_1; go_simp; try (with_reducible rfl))
  try simp only [List.getElem_toArray, List.getElem_cons_zero, List.getElem_cons_succ, Act.put, List.setIfInBounds_toArray, List.set_cons_zero, List.set_cons_succ]
  refine wpF_take3 (i := 2) (v := _) rfl (by kernel_rfl) (by kernel_rfl) (fun _ _ _ h => h) (LS.callW (ANN.lasts w1 _ _) (by rfl) _ _ ?yq68 ((fun W hb => h0.out W (ft.later (bC kk hb))))) ?rq68
  case yq68 => (intro wq; go_simp; try (with_reducible rfl))
  try simp only [List.getElem_toArray, List.getElem_cons_zero, List.getElem_cons_succ, Act.put, List.setIfInBounds_toArray, List.set_cons_zero, List.set_cons_succ]
  refine wpF_yield (i := 3) (v := ?vq69) rfl (by kernel_rfl) (by kernel_rfl) (fun _ _ _ h => h) (Or.inl ⟨by rfl, ?yq69⟩) ?rq69
  case yq69 => (intro wq; go_simp; try (with_reducible rfl))
  try simp only [List.getElem_toArray, List.getElem_cons_zero, List.getElem_cons_succ, Act.put, List.setIfInBounds_toArray, List.set_cons_zero, List.set_cons_succ]
  refine wpF_take3 (i := 4) (v := ?vq70) rfl (by kernel_rfl) (by kernel_rfl) (fun _ _ _ h => h) (LS.load (by rfl) ?yq70) ?rq70
  case yq70 => (intro wq hb; have lcX1_0 := cell_later hb cX1_0; have lcX1_1 := cell_later hb cX1_1; go_simp; try (with_reducible rfl))
  try simp only [List.getElem_toArray, List.getElem_cons_zero, List.getElem_cons_succ, Act.put, List.setIfInBounds_toArray, List.set_cons_zero, List.set_cons_succ]
  refine wpF_take3 (i := 5) (v := _) rfl (by kernel_rfl) (by kernel_rfl) (fun _ _ _ h => h) (LS.callW (ANN.lasts w1 _ _) (by rfl) _ _ ?yq71 ((fun W hb => h1.out W (ft.later (bC kk hb))))) ?rq71
  case yq71 => (intro wq; go_simp; try (with_reducible rfl))
  try simp only [List.getElem_toArray, List.getElem_cons_zero, List.getElem_cons_succ, Act.put, List.setIfInBounds_toArray, List.set_cons_zero, List.set_cons_succ]
  refine wpF_two (i := 6) (j := 7) (bs := [false, false]) (bi := [false, false]) (bj := [false, false]) (vs := [undef, undef]) (by kernel_rfl) rfl rfl (by kernel_rfl) rfl (by kernel_rfl) (by kernel_rfl) (fun wq hS K hK => ?_) (fun wq hS K hK => ?_)
  obtain ⟨hb, hA⟩ := hS.1 noBits_ff
  go_simp
  refine hK.out _ _ (LS.before noBits_ff (bA hb _) (ANN.first hb rfl)) ?_
  clear hK hA hb hS
  generalize wq.heap.size = pp1 at *
  try simp only [List.getElem_toArray, List.getElem_cons_zero, List.getElem_cons_succ, Act.put, List.setIfInBounds_toArray, List.set_cons_zero, List.set_cons_succ]
  clear K wq
  refine wpF_step (i := 7) (bs := [false, false]) (bs' := [false, false]) (vs := [.pointer (some ⟨pp1, 0, none⟩), undef]) (by kernel_rfl) rfl (by kernel_rfl) rfl (by kernel_rfl) (fun wq hS K hK => ?_)
  obtain ⟨hb, hA⟩ := hS.1 noBits_ff
  go_simp
  refine hK.out _ _ (LS.before noBits_ff (bA hb _) (ANN.second hb hA rfl)) ?_
  clear hK hA hb hS
  generalize wq.heap.size = qq1 at *
  try simp only [List.getElem_toArray, List.getElem_cons_zero, List.getElem_cons_succ, Act.put, List.setIfInBounds_toArray, List.set_cons_zero, List.set_cons_succ]
  clear K wq
  revert pp1 qq1
  refine ?rest
  rotate_left
  obtain ⟨hb, hA⟩ := hS.1 noBits_ff
  go_simp
  refine hK.out _ _ (LS.before noBits_ff (bA hb _) (ANN.first' hb rfl)) ?_
  clear hK hA hb hS
  generalize wq.heap.size = qq1 at *
  try simp only [List.getElem_toArray, List.getElem_cons_zero, List.getElem_cons_succ, Act.put, List.setIfInBounds_toArray, List.set_cons_zero, List.set_cons_succ]
  clear K wq
  refine wpF_step (i := 6) (bs := [false, false]) (bs' := [false, false]) (vs := [undef, .pointer (some ⟨qq1, 0, none⟩)]) (by kernel_rfl) rfl (by kernel_rfl) rfl (by kernel_rfl) (fun wq hS K hK => ?_)
  obtain ⟨hb, hA⟩ := hS.1 noBits_ff
  go_simp
  refine hK.out _ _ (LS.before noBits_ff (bA hb _) (ANN.second' hb hA rfl)) ?_
  clear hK hA hb hS
  generalize wq.heap.size = pp1 at *
  try simp only [List.getElem_toArray, List.getElem_cons_zero, List.getElem_cons_succ, Act.put, List.setIfInBounds_toArray, List.set_cons_zero, List.set_cons_succ]
  clear K wq
  rw [Array.setIfInBounds_comm true true (i := 7) (j := 6) (by decide)]
  exact ?rest pp1 qq1
  intro pp1 qq1
  refine wpF_step (i := 8) (bs := [false, false]) (bs' := [true, false]) (vs := [.pointer (some ⟨pp1, 0, none⟩), .pointer (some ⟨qq1, 0, none⟩)]) (by kernel_rfl) rfl (by kernel_rfl) rfl (by kernel_rfl) (fun wq hS K hK => ?_)
  obtain ⟨hb, hA⟩ := hS.1 noBits_ff
  have ZZ := Lib.hid (ZNN.one hb hA (.bool false) (.int .u8 xc) (.int .i64 xe) (.int .u64 xh) (.int .u64 xl) (.bool true) (.int .u8 yc) (.int .i64 ye) (.int .u64 yh) (.int .u64 yl))
  obtain ⟨⟨hp, x⟩, _, _⟩ := hA.both
  obtain ⟨z0, z1, z2, z3, z4⟩ := x.five
  have f0 := x.frozen 0; have f1 := x.frozen 1; have f2 := x.frozen 2; have f3 := x.frozen 3; have f4 := x.frozen 4
  go_simp
  refine hK.out _ _ (LS.behind bits_tf' ZZ.out) ?_
  clear hK hA hb ZZ hS hp x z0 z1 z2 z3 z4 f0 f1 f2 f3 f4
  try simp only [List.getElem_toArray, List.getElem_cons_zero, List.getElem_cons_succ, Act.put, List.setIfInBounds_toArray, List.set_cons_zero, List.set_cons_succ]
  refine wpF_step (i := 9) (bs := [true, false]) (bs' := [true, true]) (vs := [.pointer (some ⟨pp1, 0, none⟩), .pointer (some ⟨qq1, 0, none⟩)]) (by kernel_rfl) rfl (by kernel_rfl) rfl (by kernel_rfl) (fun wq hS K hK => ?_)
  have hZ := hS.2 bits_tf'
  have ZZ := Lib.hid hZ.two
  have x := hZ.cells
  obtain ⟨z0, z1, z2, z3, z4⟩ := x.five
  have f0 := x.frozen 0; have f1 := x.frozen 1; have f2 := x.frozen 2; have f3 := x.frozen 3; have f4 := x.frozen 4
  go_simp
  refine hK.out _ _ (LS.behind bits_tt' ZZ.out) ?_
  clear hK hZ ZZ hS x z0 z1 z2 z3 z4 f0 f1 f2 f3 f4
  try simp only [List.getElem_toArray, List.getElem_cons_zero, List.getElem_cons_succ, Act.put, List.setIfInBounds_toArray, List.set_cons_zero, List.set_cons_succ]
  refine wpF_done (bs := [true, true]) (vs := [.pointer (some ⟨pp1, 0, none⟩), .pointer (some ⟨qq1, 0, none⟩)]) (by kernel_rfl) (by kernel_rfl) rfl (fun w2 hS => ?_) _
  refine NoPanic.normal ?_
  obtain ⟨hge, hge2, hne, hbox, hbox2, hb⟩ := (hS.2 bits_tt').done
  obtain ⟨cX2_0, cX2_1, cX2_2, cX2_3, cX2_4⟩ := hbox.five
  obtain ⟨cX3_0, cX3_1, cX3_2, cX3_3, cX3_4⟩ := hbox2.five
  clear hge hge2 hne hbox hbox2
  clear hS
  replace cX0_0 := cell_later hb cX0_0; replace cX0_1 := cell_later hb cX0_1
  replace sX0 : w.heap.size < w2.heap.size := World.block_lt_of_cell? _ _ cX0_0
  replace cX1_0 := cell_later hb cX1_0; replace cX1_1 := cell_later hb cX1_1
  replace sX1 : w.heap.size + 1 < w2.heap.size ∧ w.heap.size < w2.heap.size := by have h : w.heap.size + 1 < w2.heap.size := World.block_lt_of_cell? _ _ cX1_0; exact ⟨h, by omega⟩
  have sX2 : pp1 < w2.heap.size := World.block_lt_of_cell? _ _ cX2_0
  have sX3 : qq1 < w2.heap.size := World.block_lt_of_cell? _ _ cX3_0
  replace kk := bC kk hb
  clear hb
  go_wp2_with fail
  (with_reducible refine (h2.out _ (ft.later kk)).mono ?_); rintro e w3 ⟨rfl, hb⟩
  clear cX0_0 cX0_1 sX0
  replace cX1_0 := cell_later hb cX1_0; replace cX1_1 := cell_later hb cX1_1
  replace sX1 : w.heap.size + 1 < w3.heap.size ∧ w.heap.size < w3.heap.size := by have h : w.heap.size + 1 < w3.heap.size := World.block_lt_of_cell? _ _ cX1_0; exact ⟨h, by omega⟩
  replace cX2_0 := cell_later hb cX2_0; replace cX2_1 := cell_later hb cX2_1; replace cX2_2 := cell_later hb cX2_2; replace cX2_3 := cell_later hb cX2_3; replace cX2_4 := cell_later hb cX2_4
  replace sX2 : pp1 < w3.heap.size := World.block_lt_of_cell? _ _ cX2_0
  replace cX3_0 := cell_later hb cX3_0; replace cX3_1 := cell_later hb cX3_1; replace cX3_2 := cell_later hb cX3_2; replace cX3_3 := cell_later hb cX3_3; replace cX3_4 := cell_later hb cX3_4
  replace sX3 : qq1 < w3.heap.size := World.block_lt_of_cell? _ _ cX3_0
  replace kk := bC kk hb
  clear hb
  go_wp2_with fail
  (with_reducible refine (h3.out _ (ft.later kk)).mono ?_); rintro e w4 ⟨rfl, hb⟩
  clear cX1_0 cX1_1 sX1
  replace cX2_0 := cell_later hb cX2_0; replace cX2_1 := cell_later hb cX2_1; replace cX2_2 := cell_later hb cX2_2; replace cX2_3 := cell_later hb cX2_3; replace cX2_4 := cell_later hb cX2_4
  replace sX2 : pp1 < w4.heap.size := World.block_lt_of_cell? _ _ cX2_0
  replace cX3_0 := cell_later hb cX3_0; replace cX3_1 := cell_later hb cX3_1; replace cX3_2 := cell_later hb cX3_2; replace cX3_3 := cell_later hb cX3_3; replace cX3_4 := cell_later hb cX3_4
  replace sX3 : qq1 < w4.heap.size := World.block_lt_of_cell? _ _ cX3_0
  replace kk := bC kk hb
  clear hb
  go_wp2_with fail
  (with_reducible refine (h4.out _ (ft.later kk)).mono ?_); rintro e w5 ⟨rfl, hb⟩
  clear cX2_0 cX2_1 cX2_2 cX2_3 cX2_4 sX2
  clear cX3_0 cX3_1 cX3_2 cX3_3 cX3_4 sX3
  replace kk := bC kk hb
  clear hb
  go_wp2_with fail
  go_ret
  exact ⟨rfl, kk⟩

set_option maxHeartbeats 4000000 in
set_option maxRecDepth 100000 in
theorem order9_e4 (f ah al bh bl xe xh xl yc ye yh yl : Int)
    (h0 : Hid (∀ w, FTab w → Calls Tryd.prog 10 #[.int .u8 f, .agg #[.int .u64 ah, .int .u64 al]] w fun e w' => e = .returned (.agg #[.bool false, .int .u8 0, .int .i64 xe, .int .u64 xh, .int .u64 xl]) ∧ Below w.heap.size w w'))
    (h1 : Hid (∀ w, FTab w → Calls Tryd.prog 10 #[.int .u8 f, .agg #[.int .u64 bh, .int .u64 bl]] w fun e w' => e = .returned (.agg #[.bool false, .int .u8 yc, .int .i64 ye, .int .u64 yh, .int .u64 yl]) ∧ Below w.heap.size w w'))
    (h2 : Hid (∀ w, FTab w → Calls Tryd.prog 18 #[.int .u8 f, .agg #[.int .u64 ah, .int .u64 al]] w fun e w' => e = .returned (.bool true) ∧ Below w.heap.size w w'))
    (h3 : Hid (∀ w, FTab w → Calls Tryd.prog 18 #[.int .u8 f, .agg #[.int .u64 bh, .int .u64 bl]] w fun e w' => e = .returned (.bool true) ∧ Below w.heap.size w w'))
    (h4 : Hid (∀ w, FTab w → Calls Tryd.prog 12 #[] w fun e w' => e = .returned (.bool true) ∧ Below w.heap.size w w')) (w : World) (ft : FTab w) :
    Calls Tryd.prog 6 #[.int .u8 f, .agg #[.int .u64 ah, .int .u64 al], .agg #[.int .u64 bh, .int .u64 bl]] w fun e w' => e = .returned (.bool true) ∧ Below w.heap.size w w' := by
  go_enter Tryd.func6, Tryd.ntmps6
  go_wp2_with fail
  refine wp_forget (fun W => W.cell? ⟨w.heap.size, 0, none⟩ = some (.int .u64 ah) ∧ W.cell? ⟨w.heap.size, 1, none⟩ = some (.int .u64 al) ∧ W.cell? ⟨w.heap.size + 1, 0, none⟩ = some (.int .u64 bh) ∧ W.cell? ⟨w.heap.size + 1, 1, none⟩ = some (.int .u64 bl) ∧ Below w.heap.size w W) ⟨by go_simp, by go_simp, by go_simp, by go_simp, (bA (bA (Below.refl _ _) _) _)⟩ (fun w1 hst => ?_)
  obtain ⟨cX0_0, cX0_1, cX1_0, cX1_1, kk⟩ := hst
  have sX0 : w.heap.size < w1.heap.size := World.block_lt_of_cell? _ _ cX0_0
  have sX1 : w.heap.size + 1 < w1.heap.size ∧ w.heap.size < w1.heap.size := by have h : w.heap.size + 1 < w1.heap.size := World.block_lt_of_cell? _ _ cX1_0; exact ⟨h, by omega⟩
  refine wp_region_noPanic ?_
  refine wp_region_F [8, 9] [7, 8] (LS w1 (ANN w1 28 #[.bool false, .int .u8 0, .int .i64 0, .int .u64 0, .int .u64 0]) (ZNN w1 28 #[.bool false, .int .u8 0, .int .i64 0, .int .u64 0, .int .u64 0] (.bool false) (.int .u8 0) (.int .i64 xe) (.int .u64 xh) (.int .u64 xl) (.bool false) (.int .u8 yc) (.int .i64 ye) (.int .u64 yh) (.int .u64 yl))) (by kernel_rfl) (bs := [false, false]) (vs := [undef, undef]) (by kernel_rfl) rfl (LS.before noBits_ff (Below.refl _ _).drew (ANN.start _ _ _ _)) ?_
  refine wpF_yield (i := 0) (v := ?vq72) rfl (by kernel_rfl) (by kernel_rfl) (fun _ _ _ h => h) (Or.inl ⟨by rfl, ?yq72⟩) ?rq72
  case yq72 => (intro wq; go_simp; try (with_reducible rfl))
  try simp only [List.getElem_toArray, List.getElem_cons_zero, List.getElem_cons_succ, Act.put, List.setIfInBounds_toArray, List.set_cons_zero, List.set_cons_succ]
  refine wpF_take3 (i := 1) (v := ?vq73) rfl (by kernel_rfl) (by kernel_rfl) (fun _ _ _ h => h) (LS.load (by rfl) ?yq73) ?rq73
  case yq73 => (intro wq hb; have lcX0_0 := cell_later hb cX0_0; have lcX0_1 := cell_later hb cX0_1; go_simp; try (with_reducible rfl))
  try simp only [List.getElem_toArray, List.getElem_cons_zero, List.getElem_cons_succ, Act.put, List.setIfInBounds_toArray, List.set_cons_zero, List.set_cons_succ]
  refine wpF_take3 (i := 2) (v := _) rfl (by kernel_rfl) (by kernel_rfl) (fun _ _ _ h => h) (LS.callW (ANN.lasts w1 _ _) (by rfl) _ _ ?yq74 ((fun W hb => h0.out W (ft.later (bC kk hb))))) ?rq74
  case yq74 => (intro wq; go_simp; try (with_reducible rfl))
  try simp only [List.getElem_toArray, List.getElem_cons_zero, List.getElem_cons_succ, Act.put, List.setIfInBounds_toArray, List.set_cons_zero, List.set_cons_succ]
  refine wpF_yield (i := 3) (v := ?vq75) rfl (by kernel_rfl) (by kernel_rfl) (fun _ _ _ h => h) (Or.inl ⟨by rfl, ?yq75⟩) ?rq75
  case yq75 => (intro wq; go_simp; try (with_reducible rfl))
  try simp only [List.getElem_toArray, List.getElem_cons_zero, List.getElem_cons_succ, Act.put, List.setIfInBounds_toArray, List.set_cons_zero, List.set_cons_succ]
  refine wpF_take3 (i := 4) (v := ?vq76) rfl (by kernel_rfl) (by kernel_rfl) (fun _ _ _ h => h) (LS.load (by rfl) ?yq76) ?rq76
  case yq76 => (intro wq hb; have lcX1_0 := cell_later hb cX1_0; have lcX1_1 := cell_later hb cX1_1; go_simp; try (with_reducible rfl))
  try simp only [List.getElem_toArray, List.getElem_cons_zero, List.getElem_cons_succ, Act.put, List.setIfInBounds_toArray, List.set_cons_zero, List.set_cons_succ]
  refine wpF_take3 (i := 5) (v := _) rfl (by kernel_rfl) (by kernel_rfl) (fun _ _ _ h => h) (LS.callW (ANN.lasts w1 _ _) (by rfl) _ _ ?yq77 ((fun W hb => h1.out W (ft.later (bC kk hb))))) ?rq77
  case yq77 => (intro wq; go_simp; try (with_reducible rfl))
  try simp only [List.getElem_toArray, List.getElem_cons_zero, List.getElem_cons_succ, Act.put, List.setIfInBounds_toArray, List.set_cons_zero, List.set_cons_succ]
  refine wpF_two (i := 6) (j := 7) (bs := [false, false]) (bi := [false, false]) (bj := [false, false]) (vs := [undef, undef]) (by kernel_rfl) rfl rfl (by kernel_rfl) rfl (by kernel_rfl) (by kernel_rfl) (fun wq hS K hK => ?_) (fun wq hS K hK => ?_)
  obtain ⟨hb, hA⟩ := hS.1 noBits_ff
  go_simp
  refine hK.out _ _ (LS.before noBits_ff (bA hb _) (ANN.first hb rfl)) ?_
  clear hK hA hb hS
  generalize wq.heap.size = pp1 at *
  try simp only [List.getElem_toArray, List.getElem_cons_zero, List.getElem_cons_succ, Act.put, List.setIfInBounds_toArray, List.set_cons_zero, List.set_cons_succ]
  clear K wq
  refine wpF_step (i := 7) (bs := [false, false]) (bs' := [false, false]) (vs := [.pointer (some ⟨pp1, 0, none⟩), undef]) (by kernel_rfl) rfl (by kernel_rfl) rfl (by kernel_rfl) (fun wq hS K hK => ?_)
  obtain ⟨hb, hA⟩ := hS.1 noBits_ff
  go_simp
  refine hK.out _ _ (LS.before noBits_ff (bA hb _) (ANN.second hb hA rfl)) ?_
  clear hK hA hb hS
  generalize wq.heap.size = qq1 at *
  try simp only [List.getElem_toArray, List.getElem_cons_zero, List.getElem_cons_succ, Act.put, List.setIfInBounds_toArray, List.set_cons_zero, List.set_cons_succ]
  clear K wq
  revert pp1 qq1
  refine ?rest
  rotate_left
  obtain ⟨hb, hA⟩ := hS.1 noBits_ff
  go_simp
  refine hK.out _ _ (LS.before noBits_ff (bA hb _) (ANN.first' hb rfl)) ?_
  clear hK hA hb hS
  generalize wq.heap.size = qq1 at *
  try simp only [List.getElem_toArray, List.getElem_cons_zero, List.getElem_cons_succ, Act.put, List.setIfInBounds_toArray, List.set_cons_zero, List.set_cons_succ]
  clear K wq
  refine wpF_step (i := 6) (bs := [false, false]) (bs' := [false, false]) (vs := [undef, .pointer (some ⟨qq1, 0, none⟩)]) (by kernel_rfl) rfl (by kernel_rfl) rfl (by kernel_rfl) (fun wq hS K hK => ?_)
  obtain ⟨hb, hA⟩ := hS.1 noBits_ff
  go_simp
  refine hK.out _ _ (LS.before noBits_ff (bA hb _) (ANN.second' hb hA rfl)) ?_
  clear hK hA hb hS
  generalize wq.heap.size = pp1 at *
  try simp only [List.getElem_toArray, List.getElem_cons_zero, List.getElem_cons_succ, Act.put, List.setIfInBounds_toArray, List.set_cons_zero, List.set_cons_succ]
  clear K wq
  rw [Array.setIfInBounds_comm true true (i := 7) (j := 6) (by decide)]
  exact ?rest pp1 qq1
  intro pp1 qq1
  refine wpF_step (i := 8) (bs := [false, false]) (bs' := [true, false]) (vs := [.pointer (some ⟨pp1, 0, none⟩), .pointer (some ⟨qq1, 0, none⟩)]) (by kernel_rfl) rfl (by kernel_rfl) rfl (by kernel_rfl) (fun wq hS K hK => ?_)
  obtain ⟨hb, hA⟩ := hS.1 noBits_ff
  have ZZ := Lib.hid (ZNN.one hb hA (.bool false) (.int .u8 0) (.int .i64 xe) (.int .u64 xh) (.int .u64 xl) (.bool false) (.int .u8 yc) (.int .i64 ye) (.int .u64 yh) (.int .u64 yl))
  obtain ⟨⟨hp, x⟩, _, _⟩ := hA.both
  obtain ⟨z0, z1, z2, z3, z4⟩ := x.five
  have f0 := x.frozen 0; have f1 := x.frozen 1; have f2 := x.frozen 2; have f3 := x.frozen 3; have f4 := x.frozen 4
  go_simp
  refine hK.out _ _ (LS.behind bits_tf' ZZ.out) ?_
  clear hK hA hb ZZ hS hp x z0 z1 z2 z3 z4 f0 f1 f2 f3 f4
  try simp only [List.getElem_toArray, List.getElem_cons_zero, List.getElem_cons_succ, Act.put, List.setIfInBounds_toArray, List.set_cons_zero, List.set_cons_succ]
  refine wpF_step (i := 9) (bs := [true, false]) (bs' := [true, true]) (vs := [.pointer (some ⟨pp1, 0, none⟩), .pointer (some ⟨qq1, 0, none⟩)]) (by kernel_rfl) rfl (by kernel_rfl) rfl (by kernel_rfl) (fun wq hS K hK => ?_)
  have hZ := hS.2 bits_tf'
  have ZZ := Lib.hid hZ.two
  have x := hZ.cells
  obtain ⟨z0, z1, z2, z3, z4⟩ := x.five
  have f0 := x.frozen 0; have f1 := x.frozen 1; have f2 := x.frozen 2; have f3 := x.frozen 3; have f4 := x.frozen 4
  go_simp
  refine hK.out _ _ (LS.behind bits_tt' ZZ.out) ?_
  clear hK hZ ZZ hS x z0 z1 z2 z3 z4 f0 f1 f2 f3 f4
  try simp only [List.getElem_toArray, List.getElem_cons_zero, List.getElem_cons_succ, Act.put, List.setIfInBounds_toArray, List.set_cons_zero, List.set_cons_succ]
  refine wpF_done (bs := [true, true]) (vs := [.pointer (some ⟨pp1, 0, none⟩), .pointer (some ⟨qq1, 0, none⟩)]) (by kernel_rfl) (by kernel_rfl) rfl (fun w2 hS => ?_) _
  refine NoPanic.normal ?_
  obtain ⟨hge, hge2, hne, hbox, hbox2, hb⟩ := (hS.2 bits_tt').done
  obtain ⟨cX2_0, cX2_1, cX2_2, cX2_3, cX2_4⟩ := hbox.five
  obtain ⟨cX3_0, cX3_1, cX3_2, cX3_3, cX3_4⟩ := hbox2.five
  clear hge hge2 hne hbox hbox2
  clear hS
  replace cX0_0 := cell_later hb cX0_0; replace cX0_1 := cell_later hb cX0_1
  replace sX0 : w.heap.size < w2.heap.size := World.block_lt_of_cell? _ _ cX0_0
  replace cX1_0 := cell_later hb cX1_0; replace cX1_1 := cell_later hb cX1_1
  replace sX1 : w.heap.size + 1 < w2.heap.size ∧ w.heap.size < w2.heap.size := by have h : w.heap.size + 1 < w2.heap.size := World.block_lt_of_cell? _ _ cX1_0; exact ⟨h, by omega⟩
  have sX2 : pp1 < w2.heap.size := World.block_lt_of_cell? _ _ cX2_0
  have sX3 : qq1 < w2.heap.size := World.block_lt_of_cell? _ _ cX3_0
  replace kk := bC kk hb
  clear hb
  go_wp2_with fail
  (with_reducible refine (h2.out _ (ft.later kk)).mono ?_); rintro e w3 ⟨rfl, hb⟩
  clear cX0_0 cX0_1 sX0
  replace cX1_0 := cell_later hb cX1_0; replace cX1_1 := cell_later hb cX1_1
  replace sX1 : w.heap.size + 1 < w3.heap.size ∧ w.heap.size < w3.heap.size := by have h : w.heap.size + 1 < w3.heap.size := World.block_lt_of_cell? _ _ cX1_0; exact ⟨h, by omega⟩
  replace cX2_0 := cell_later hb cX2_0; replace cX2_1 := cell_later hb cX2_1; replace cX2_2 := cell_later hb cX2_2; replace cX2_3 := cell_later hb cX2_3; replace cX2_4 := cell_later hb cX2_4
  replace sX2 : pp1 < w3.heap.size := World.block_lt_of_cell? _ _ cX2_0
  replace cX3_0 := cell_later hb cX3_0; replace cX3_1 := cell_later hb cX3_1; replace cX3_2 := cell_later hb cX3_2; replace cX3_3 := cell_later hb cX3_3; replace cX3_4 := cell_later hb cX3_4
  replace sX3 : qq1 < w3.heap.size := World.block_lt_of_cell? _ _ cX3_0
  replace kk := bC kk hb
  clear hb
  go_wp2_with fail
  (with_reducible refine (h3.out _ (ft.later kk)).mono ?_); rintro e w4 ⟨rfl, hb⟩
  clear cX1_0 cX1_1 sX1
  replace cX2_0 := cell_later hb cX2_0; replace cX2_1 := cell_later hb cX2_1; replace cX2_2 := cell_later hb cX2_2; replace cX2_3 := cell_later hb cX2_3; replace cX2_4 := cell_later hb cX2_4
  replace sX2 : pp1 < w4.heap.size := World.block_lt_of_cell? _ _ cX2_0
  replace cX3_0 := cell_later hb cX3_0; replace cX3_1 := cell_later hb cX3_1; replace cX3_2 := cell_later hb cX3_2; replace cX3_3 := cell_later hb cX3_3; replace cX3_4 := cell_later hb cX3_4
  replace sX3 : qq1 < w4.heap.size := World.block_lt_of_cell? _ _ cX3_0
  replace kk := bC kk hb
  clear hb
  go_wp2_with fail
  (with_reducible refine (h4.out _ (ft.later kk)).mono ?_); rintro e w5 ⟨rfl, hb⟩
  clear cX2_0 cX2_1 cX2_2 cX2_3 cX2_4 sX2
  clear cX3_0 cX3_1 cX3_2 cX3_3 cX3_4 sX3
  replace kk := bC kk hb
  clear hb
  go_wp2_with fail
  go_ret
  exact ⟨rfl, kk⟩

set_option maxHeartbeats 4000000 in
set_option maxRecDepth 100000 in
theorem order9_e5 (f ah al bh bl xc xe xh xl ye yh yl : Int)
    (h0 : Hid (∀ w, FTab w → Calls Tryd.prog 10 #[.int .u8 f, .agg #[.int .u64 ah, .int .u64 al]] w fun e w' => e = .returned (.agg #[.bool false, .int .u8 xc, .int .i64 xe, .int .u64 xh, .int .u64 xl]) ∧ Below w.heap.size w w'))
    (h1 : Hid (∀ w, FTab w → Calls Tryd.prog 10 #[.int .u8 f, .agg #[.int .u64 bh, .int .u64 bl]] w fun e w' => e = .returned (.agg #[.bool false, .int .u8 0, .int .i64 ye, .int .u64 yh, .int .u64 yl]) ∧ Below w.heap.size w w'))
    (h2 : Hid (∀ w, FTab w → Calls Tryd.prog 18 #[.int .u8 f, .agg #[.int .u64 ah, .int .u64 al]] w fun e w' => e = .returned (.bool true) ∧ Below w.heap.size w w'))
    (h3 : Hid (∀ w, FTab w → Calls Tryd.prog 18 #[.int .u8 f, .agg #[.int .u64 bh, .int .u64 bl]] w fun e w' => e = .returned (.bool true) ∧ Below w.heap.size w w'))
    (h4 : Hid (∀ w, FTab w → Calls Tryd.prog 12 #[] w fun e w' => e = .returned (.bool true) ∧ Below w.heap.size w w')) (j4 : (xc == 0) = false) (w : World) (ft : FTab w) :
    Calls Tryd.prog 6 #[.int .u8 f, .agg #[.int .u64 ah, .int .u64 al], .agg #[.int .u64 bh, .int .u64 bl]] w fun e w' => e = .returned (.bool true) ∧ Below w.heap.size w w' := by
  go_enter Tryd.func6, Tryd.ntmps6
  go_wp2_with fail
  refine wp_forget (fun W => W.cell? ⟨w.heap.size, 0, none⟩ = some (.int .u64 ah) ∧ W.cell? ⟨w.heap.size, 1, none⟩ = some (.int .u64 al) ∧ W.cell? ⟨w.heap.size + 1, 0, none⟩ = some (.int .u64 bh) ∧ W.cell? ⟨w.heap.size + 1, 1, none⟩ = some (.int .u64 bl) ∧ Below w.heap.size w W) ⟨by go_simp, by go_simp, by go_simp, by go_simp, (bA (bA (Below.refl _ _) _) _)⟩ (fun w1 hst => ?_)
  obtain ⟨cX0_0, cX0_1, cX1_0, cX1_1, kk⟩ := hst
  have sX0 : w.heap.size < w1.heap.size := World.block_lt_of_cell? _ _ cX0_0
  have sX1 : w.heap.size + 1 < w1.heap.size ∧ w.heap.size < w1.heap.size := by have h : w.heap.size + 1 < w1.heap.size := World.block_lt_of_cell? _ _ cX1_0; exact ⟨h, by omega⟩
  refine wp_region_noPanic ?_
  refine wp_region_F [8, 9] [7, 8] (LS w1 (ANN w1 28 #[.bool false, .int .u8 0, .int .i64 0, .int .u64 0, .int .u64 0]) (ZNN w1 28 #[.bool false, .int .u8 0, .int .i64 0, .int .u64 0, .int .u64 0] (.bool false) (.int .u8 xc) (.int .i64 xe) (.int .u64 xh) (.int .u64 xl) (.bool false) (.int .u8 0) (.int .i64 ye) (.int .u64 yh) (.int .u64 yl))) (by kernel_rfl) (bs := [false, false]) (vs := [undef, undef]) (by kernel_rfl) rfl (LS.before noBits_ff (Below.refl _ _).drew (ANN.start _ _ _ _)) ?_
  refine wpF_yield (i := 0) (v := ?vq78) rfl (by kernel_rfl) (by kernel_rfl) (fun _ _ _ h => h) (Or.inl ⟨by rfl, ?yq78⟩) ?rq78
  case yq78 => (intro wq; go_simp; try (with_reducible rfl))
  try simp only [List.getElem_toArray, List.getElem_cons_zero, List.getElem_cons_succ, Act.put, List.setIfInBounds_toArray, List.set_cons_zero, List.set_cons_succ]
  refine wpF_take3 (i := 1) (v := ?vq79) rfl (by kernel_rfl) (by kernel_rfl) (fun _ _ _ h => h) (LS.load (by rfl) ?yq79) ?rq79
  case yq79 => (intro wq hb; have lcX0_0 := cell_later hb cX0_0; have lcX0_1 := cell_later hb cX0_1; go_simp; try (with_reducible rfl))
  try simp only [List.getElem_toArray, List.getElem_cons_zero, List.getElem_cons_succ, Act.put, List.setIfInBounds_toArray, List.set_cons_zero, List.set_cons_succ]
  refine wpF_take3 (i := 2) (v := _) rfl (by kernel_rfl) (by kernel_rfl) (fun _ _ _ h => h) (LS.callW (ANN.lasts w1 _ _) (by rfl) _ _ ?yq80 ((fun W hb => h0.out W (ft.later (bC kk hb))))) ?rq80
  case yq80 => (intro wq; go_simp; try (with_reducible rfl))
  try simp only [List.getElem_toArray, List.getElem_cons_zero, List.getElem_cons_succ, Act.put, List.setIfInBounds_toArray, List.set_cons_zero, List.set_cons_succ]
  refine wpF_yield (i := 3) (v := ?vq81) rfl (by kernel_rfl) (by kernel_rfl) (fun _ _ _ h => h) (Or.inl ⟨by rfl, ?yq81⟩) ?rq81
  case yq81 => (intro wq; go_simp; try (with_reducible rfl))
  try simp only [List.getElem_toArray, List.getElem_cons_zero, List.getElem_cons_succ, Act.put, List.setIfInBounds_toArray, List.set_cons_zero, List.set_cons_succ]
  refine wpF_take3 (i := 4) (v := ?vq82) rfl (by kernel_rfl) (by kernel_rfl) (fun _ _ _ h => h) (LS.load (by rfl) ?yq82) ?rq82
  case yq82 => (intro wq hb; have lcX1_0 := cell_later hb cX1_0; have lcX1_1 := cell_later hb cX1_1; go_simp; try (with_reducible rfl))
  try simp only [List.getElem_toArray, List.getElem_cons_zero, List.getElem_cons_succ, Act.put, List.setIfInBounds_toArray, List.set_cons_zero, List.set_cons_succ]
  refine wpF_take3 (i := 5) (v := _) rfl (by kernel_rfl) (by kernel_rfl) (fun _ _ _ h => h) (LS.callW (ANN.lasts w1 _ _) (by rfl) _ _ ?yq83 ((fun W hb => h1.out W (ft.later (bC kk hb))))) ?rq83
  case yq83 => (intro wq; go_simp; try (with_reducible rfl))
  try simp only [List.getElem_toArray, List.getElem_cons_zero, List.getElem_cons_succ, Act.put, List.setIfInBounds_toArray, List.set_cons_zero, List.set_cons_succ]
  refine wpF_two (i := 6) (j := 7) (bs := [false, false]) (bi := [false, false]) (bj := [false, false]) (vs := [undef, undef]) (by kernel_rfl) rfl rfl (by kernel_rfl) rfl (by kernel_rfl) (by kernel_rfl) (fun wq hS K hK => ?_) (fun wq hS K hK => ?_)
  obtain ⟨hb, hA⟩ := hS.1 noBits_ff
  go_simp
  refine hK.out _ _ (LS.before noBits_ff (bA hb _) (ANN.first hb rfl)) ?_
  clear hK hA hb hS
  generalize wq.heap.size = pp1 at *
  try simp only [List.getElem_toArray, List.getElem_cons_zero, List.getElem_cons_succ, Act.put, List.setIfInBounds_toArray, List.set_cons_zero, List.set_cons_succ]
  clear K wq
  refine wpF_step (i := 7) (bs := [false, false]) (bs' := [false, false]) (vs := [.pointer (some ⟨pp1, 0, none⟩), undef]) (by kernel_rfl) rfl (by kernel_rfl) rfl (by kernel_rfl) (fun wq hS K hK => ?_)
  obtain ⟨hb, hA⟩ := hS.1 noBits_ff
  go_simp
  refine hK.out _ _ (LS.before noBits_ff (bA hb _) (ANN.second hb hA rfl)) ?_
  clear hK hA hb hS
  generalize wq.heap.size = qq1 at *
  try simp only [List.getElem_toArray, List.getElem_cons_zero, List.getElem_cons_succ, Act.put, List.setIfInBounds_toArray, List.set_cons_zero, List.set_cons_succ]
  clear K wq
  revert pp1 qq1
  refine ?rest
  rotate_left
  obtain ⟨hb, hA⟩ := hS.1 noBits_ff
  go_simp
  refine hK.out _ _ (LS.before noBits_ff (bA hb _) (ANN.first' hb rfl)) ?_
  clear hK hA hb hS
  generalize wq.heap.size = qq1 at *
  try simp only [List.getElem_toArray, List.getElem_cons_zero, List.getElem_cons_succ, Act.put, List.setIfInBounds_toArray, List.set_cons_zero, List.set_cons_succ]
  clear K wq
  refine wpF_step (i := 6) (bs := [false, false]) (bs' := [false, false]) (vs := [undef, .pointer (some ⟨qq1, 0, none⟩)]) (by kernel_rfl) rfl (by kernel_rfl) rfl (by kernel_rfl) (fun wq hS K hK => ?_)
  obtain ⟨hb, hA⟩ := hS.1 noBits_ff
  go_simp
  refine hK.out _ _ (LS.before noBits_ff (bA hb _) (ANN.second' hb hA rfl)) ?_
  clear hK hA hb hS
  generalize wq.heap.size = pp1 at *
  try simp only [List.getElem_toArray, List.getElem_cons_zero, List.getElem_cons_succ, Act.put, List.setIfInBounds_toArray, List.set_cons_zero, List.set_cons_succ]
  clear K wq
  rw [Array.setIfInBounds_comm true true (i := 7) (j := 6) (by decide)]
  exact ?rest pp1 qq1
  intro pp1 qq1
  refine wpF_step (i := 8) (bs := [false, false]) (bs' := [true, false]) (vs := [.pointer (some ⟨pp1, 0, none⟩), .pointer (some ⟨qq1, 0, none⟩)]) (by kernel_rfl) rfl (by kernel_rfl) rfl (by kernel_rfl) (fun wq hS K hK => ?_)
  obtain ⟨hb, hA⟩ := hS.1 noBits_ff
  have ZZ := Lib.hid (ZNN.one hb hA (.bool false) (.int .u8 xc) (.int .i64 xe) (.int .u64 xh) (.int .u64 xl) (.bool false) (.int .u8 0) (.int .i64 ye) (.int .u64 yh) (.int .u64 yl))
  obtain ⟨⟨hp, x⟩, _, _⟩ := hA.both
  obtain ⟨z0, z1, z2, z3, z4⟩ := x.five
  have f0 := x.frozen 0; have f1 := x.frozen 1; have f2 := x.frozen 2; have f3 := x.frozen 3; have f4 := x.frozen 4
  go_simp
  refine hK.out _ _ (LS.behind bits_tf' ZZ.out) ?_
  clear hK hA hb ZZ hS hp x z0 z1 z2 z3 z4 f0 f1 f2 f3 f4
  try simp only [List.getElem_toArray, List.getElem_cons_zero, List.getElem_cons_succ, Act.put, List.setIfInBounds_toArray, List.set_cons_zero, List.set_cons_succ]
  refine wpF_step (i := 9) (bs := [true, false]) (bs' := [true, true]) (vs := [.pointer (some ⟨pp1, 0, none⟩), .pointer (some ⟨qq1, 0, none⟩)]) (by kernel_rfl) rfl (by kernel_rfl) rfl (by kernel_rfl) (fun wq hS K hK => ?_)
  have hZ := hS.2 bits_tf'
  have ZZ := Lib.hid hZ.two
  have x := hZ.cells
  obtain ⟨z0, z1, z2, z3, z4⟩ := x.five
  have f0 := x.frozen 0; have f1 := x.frozen 1; have f2 := x.frozen 2; have f3 := x.frozen 3; have f4 := x.frozen 4
  go_simp
  refine hK.out _ _ (LS.behind bits_tt' ZZ.out) ?_
  clear hK hZ ZZ hS x z0 z1 z2 z3 z4 f0 f1 f2 f3 f4
  try simp only [List.getElem_toArray, List.getElem_cons_zero, List.getElem_cons_succ, Act.put, List.setIfInBounds_toArray, List.set_cons_zero, List.set_cons_succ]
  refine wpF_done (bs := [true, true]) (vs := [.pointer (some ⟨pp1, 0, none⟩), .pointer (some ⟨qq1, 0, none⟩)]) (by kernel_rfl) (by kernel_rfl) rfl (fun w2 hS => ?_) _
  refine NoPanic.normal ?_
  obtain ⟨hge, hge2, hne, hbox, hbox2, hb⟩ := (hS.2 bits_tt').done
  obtain ⟨cX2_0, cX2_1, cX2_2, cX2_3, cX2_4⟩ := hbox.five
  obtain ⟨cX3_0, cX3_1, cX3_2, cX3_3, cX3_4⟩ := hbox2.five
  clear hge hge2 hne hbox hbox2
  clear hS
  replace cX0_0 := cell_later hb cX0_0; replace cX0_1 := cell_later hb cX0_1
  replace sX0 : w.heap.size < w2.heap.size := World.block_lt_of_cell? _ _ cX0_0
  replace cX1_0 := cell_later hb cX1_0; replace cX1_1 := cell_later hb cX1_1
  replace sX1 : w.heap.size + 1 < w2.heap.size ∧ w.heap.size < w2.heap.size := by have h : w.heap.size + 1 < w2.heap.size := World.block_lt_of_cell? _ _ cX1_0; exact ⟨h, by omega⟩
  have sX2 : pp1 < w2.heap.size := World.block_lt_of_cell? _ _ cX2_0
  have sX3 : qq1 < w2.heap.size := World.block_lt_of_cell? _ _ cX3_0
  replace kk := bC kk hb
  clear hb
  go_wp2_with fail
  (with_reducible refine (h2.out _ (ft.later kk)).mono ?_); rintro e w3 ⟨rfl, hb⟩
  clear cX0_0 cX0_1 sX0
  replace cX1_0 := cell_later hb cX1_0; replace cX1_1 := cell_later hb cX1_1
  replace sX1 : w.heap.size + 1 < w3.heap.size ∧ w.heap.size < w3.heap.size := by have h : w.heap.size + 1 < w3.heap.size := World.block_lt_of_cell? _ _ cX1_0; exact ⟨h, by omega⟩
  replace cX2_0 := cell_later hb cX2_0; replace cX2_1 := cell_later hb cX2_1; replace cX2_2 := cell_later hb cX2_2; replace cX2_3 := cell_later hb cX2_3; replace cX2_4 := cell_later hb cX2_4
  replace sX2 : pp1 < w3.heap.size := World.block_lt_of_cell? _ _ cX2_0
  replace cX3_0 := cell_later hb cX3_0; replace cX3_1 := cell_later hb cX3_1; replace cX3_2 := cell_later hb cX3_2; replace cX3_3 := cell_later hb cX3_3; replace cX3_4 := cell_later hb cX3_4
  replace sX3 : qq1 < w3.heap.size := World.block_lt_of_cell? _ _ cX3_0
  replace kk := bC kk hb
  clear hb
  go_wp2_with fail
  (with_reducible refine (h3.out _ (ft.later kk)).mono ?_); rintro e w4 ⟨rfl, hb⟩
  clear cX1_0 cX1_1 sX1
  replace cX2_0 := cell_later hb cX2_0; replace cX2_1 := cell_later hb cX2_1; replace cX2_2 := cell_later hb cX2_2; replace cX2_3 := cell_later hb cX2_3; replace cX2_4 := cell_later hb cX2_4
  replace sX2 : pp1 < w4.heap.size := World.block_lt_of_cell? _ _ cX2_0
  replace cX3_0 := cell_later hb cX3_0; replace cX3_1 := cell_later hb cX3_1; replace cX3_2 := cell_later hb cX3_2; replace cX3_3 := cell_later hb cX3_3; replace cX3_4 := cell_later hb cX3_4
  replace sX3 : qq1 < w4.heap.size := World.block_lt_of_cell? _ _ cX3_0
  replace kk := bC kk hb
  clear hb
  go_wp2_with fail
  (with_reducible refine (h4.out _ (ft.later kk)).mono ?_); rintro e w5 ⟨rfl, hb⟩
  clear cX2_0 cX2_1 cX2_2 cX2_3 cX2_4 sX2
  clear cX3_0 cX3_1 cX3_2 cX3_3 cX3_4 sX3
  replace kk := bC kk hb
  clear hb
  go_wp2_with fail
  go_ret
  exact ⟨rfl, kk⟩

set_option maxHeartbeats 4000000 in
set_option maxRecDepth 100000 in
theorem order9_lt (f ah al bh bl ph pl qh ql k xc xe xh xl yc ye yh yl : Int) (less same : Bool)
    (h0 : Hid (∀ w, FTab w → Calls Tryd.prog 10 #[.int .u8 f, .agg #[.int .u64 ah, .int .u64 al]] w fun e w' => e = .returned (.agg #[.bool false, .int .u8 xc, .int .i64 xe, .int .u64 xh, .int .u64 xl]) ∧ Below w.heap.size w w'))
    (h1 : Hid (∀ w, FTab w → Calls Tryd.prog 10 #[.int .u8 f, .agg #[.int .u64 bh, .int .u64 bl]] w fun e w' => e = .returned (.agg #[.bool false, .int .u8 yc, .int .i64 ye, .int .u64 yh, .int .u64 yl]) ∧ Below w.heap.size w w'))
    (h2 : Hid (∀ w, FTab w → Calls Tryd.prog 18 #[.int .u8 f, .agg #[.int .u64 ah, .int .u64 al]] w fun e w' => e = .returned (.bool true) ∧ Below w.heap.size w w'))
    (h3 : Hid (∀ w, FTab w → Calls Tryd.prog 18 #[.int .u8 f, .agg #[.int .u64 bh, .int .u64 bl]] w fun e w' => e = .returned (.bool true) ∧ Below w.heap.size w w'))
    (h4 : Hid (∀ w, FTab w → Calls Tryd.prog 17 #[.int .u8 f, .agg #[.int .u64 ah, .int .u64 al]] w fun e w' => e = .returned (.agg #[.int .u64 ph, .int .u64 pl]) ∧ Below w.heap.size w w'))
    (h5 : Hid (∀ w, FTab w → Calls Tryd.prog 17 #[.int .u8 f, .agg #[.int .u64 bh, .int .u64 bl]] w fun e w' => e = .returned (.agg #[.int .u64 qh, .int .u64 ql]) ∧ Below w.heap.size w w'))
    (h6 : Hid (∀ w, Calls Tryd.prog 19 #[.agg #[.int .u64 ph, .int .u64 pl], .agg #[.int .u64 qh, .int .u64 ql]] w fun e w' => e = .returned (.int .i64 k) ∧ Below w.heap.size w w'))
    (h8 : Hid (∀ w, FTab w → Calls Tryd.prog 12 #[] w fun e w' => e = .returned (.bool true) ∧ Below w.heap.size w w')) (j0 : (xc == 0) = false) (j1 : (yc == 0) = false) (j2 : decide (k < 0) = less) (j3 : (k == 0) = same) (e1 : decide (xe < ye) = true) (hl : less = true) (e2 : (xe == ye) = false) (hs : same = false) (w : World) (ft : FTab w) :
    Calls Tryd.prog 6 #[.int .u8 f, .agg #[.int .u64 ah, .int .u64 al], .agg #[.int .u64 bh, .int .u64 bl]] w fun e w' => e = .returned (.bool true) ∧ Below w.heap.size w w' := by
  subst hl hs
  go_enter Tryd.func6, Tryd.ntmps6
  go_wp2_with fail
  refine wp_forget (fun W => W.cell? ⟨w.heap.size, 0, none⟩ = some (.int .u64 ah) ∧ W.cell? ⟨w.heap.size, 1, none⟩ = some (.int .u64 al) ∧ W.cell? ⟨w.heap.size + 1, 0, none⟩ = some (.int .u64 bh) ∧ W.cell? ⟨w.heap.size + 1, 1, none⟩ = some (.int .u64 bl) ∧ Below w.heap.size w W) ⟨by go_simp, by go_simp, by go_simp, by go_simp, (bA (bA (Below.refl _ _) _) _)⟩ (fun w1 hst => ?_)
  obtain ⟨cX0_0, cX0_1, cX1_0, cX1_1, kk⟩ := hst
  have sX0 : w.heap.size < w1.heap.size := World.block_lt_of_cell? _ _ cX0_0
  have sX1 : w.heap.size + 1 < w1.heap.size ∧ w.heap.size < w1.heap.size := by have h : w.heap.size + 1 < w1.heap.size := World.block_lt_of_cell? _ _ cX1_0; exact ⟨h, by omega⟩
  refine wp_region_noPanic ?_
  refine wp_region_F [8, 9] [7, 8] (LS w1 (ANN w1 28 #[.bool false, .int .u8 0, .int .i64 0, .int .u64 0, .int .u64 0]) (ZNN w1 28 #[.bool false, .int .u8 0, .int .i64 0, .int .u64 0, .int .u64 0] (.bool false) (.int .u8 xc) (.int .i64 xe) (.int .u64 xh) (.int .u64 xl) (.bool false) (.int .u8 yc) (.int .i64 ye) (.int .u64 yh) (.int .u64 yl))) (by kernel_rfl) (bs := [false, false]) (vs := [undef, undef]) (by kernel_rfl) rfl (LS.before noBits_ff (Below.refl _ _).drew (ANN.start _ _ _ _)) ?_
  refine wpF_yield (i := 0) (v := ?vq84) rfl (by kernel_rfl) (by kernel_rfl) (fun _ _ _ h => h) (Or.inl ⟨by rfl, ?yq84⟩) ?rq84
  case yq84 => (intro wq; go_simp; try (with_reducible rfl))
  try simp only [List.getElem_toArray, List.getElem_cons_zero, List.getElem_cons_succ, Act.put, List.setIfInBounds_toArray, List.set_cons_zero, List.set_cons_succ]
  refine wpF_take3 (i := 1) (v := ?vq85) rfl (by kernel_rfl) (by kernel_rfl) (fun _ _ _ h => h) (LS.load (by rfl) ?yq85) ?rq85
  case yq85 => (intro wq hb; have lcX0_0 := cell_later hb cX0_0; have lcX0_1 := cell_later hb cX0_1; go_simp; try (with_reducible rfl))
  try simp only [List.getElem_toArray, List.getElem_cons_zero, List.getElem_cons_succ, Act.put, List.setIfInBounds_toArray, List.set_cons_zero, List.set_cons_succ]
  refine wpF_take3 (i := 2) (v := _) rfl (by kernel_rfl) (by kernel_rfl) (fun _ _ _ h => h) (LS.callW (ANN.lasts w1 _ _) (by rfl) _ _ ?yq86 ((fun W hb => h0.out W (ft.later (bC kk hb))))) ?rq86
  case yq86 => (intro wq; go_simp; try (with_reducible rfl))
  try simp only [List.getElem_toArray, List.getElem_cons_zero, List.getElem_cons_succ, Act.put, List.setIfInBounds_toArray, List.set_cons_zero, List.set_cons_succ]
  refine wpF_yield (i := 3) (v := ?vq87) rfl (by kernel_rfl) (by kernel_rfl) (fun _ _ _ h => h) (Or.inl ⟨by rfl, ?yq87⟩) ?rq87
  case yq87 => (intro wq; go_simp; try (with_reducible rfl))
  try simp only [List.getElem_toArray, List.getElem_cons_zero, List.getElem_cons_succ, Act.put, List.setIfInBounds_toArray, List.set_cons_zero, List.set_cons_succ]
  refine wpF_take3 (i := 4) (v := ?vq88) rfl (by kernel_rfl) (by kernel_rfl) (fun _ _ _ h => h) (LS.load (by rfl) ?yq88) ?rq88
  case yq88 => (intro wq hb; have lcX1_0 := cell_later hb cX1_0; have lcX1_1 := cell_later hb cX1_1; go_simp; try (with_reducible rfl))
  try simp only [List.getElem_toArray, List.getElem_cons_zero, List.getElem_cons_succ, Act.put, List.setIfInBounds_toArray, List.set_cons_zero, List.set_cons_succ]
  refine wpF_take3 (i := 5) (v := _) rfl (by kernel_rfl) (by kernel_rfl) (fun _ _ _ h => h) (LS.callW (ANN.lasts w1 _ _) (by rfl) _ _ ?yq89 ((fun W hb => h1.out W (ft.later (bC kk hb))))) ?rq89
  case yq89 => (intro wq; go_simp; try (with_reducible rfl))
  try simp only [List.getElem_toArray, List.getElem_cons_zero, List.getElem_cons_succ, Act.put, List.setIfInBounds_toArray, List.set_cons_zero, List.set_cons_succ]
  refine wpF_two (i := 6) (j := 7) (bs := [false, false]) (bi := [false, false]) (bj := [false, false]) (vs := [undef, undef]) (by kernel_rfl) rfl rfl (by kernel_rfl) rfl (by kernel_rfl) (by kernel_rfl) (fun wq hS K hK => ?_) (fun wq hS K hK => ?_)
  obtain ⟨hb, hA⟩ := hS.1 noBits_ff
  go_simp
  refine hK.out _ _ (LS.before noBits_ff (bA hb _) (ANN.first hb rfl)) ?_
  clear hK hA hb hS
  generalize wq.heap.size = pp1 at *
  try simp only [List.getElem_toArray, List.getElem_cons_zero, List.getElem_cons_succ, Act.put, List.setIfInBounds_toArray, List.set_cons_zero, List.set_cons_succ]
  clear K wq
  refine wpF_step (i := 7) (bs := [false, false]) (bs' := [false, false]) (vs := [.pointer (some ⟨pp1, 0, none⟩), undef]) (by kernel_rfl) rfl (by kernel_rfl) rfl (by kernel_rfl) (fun wq hS K hK => ?_)
  obtain ⟨hb, hA⟩ := hS.1 noBits_ff
  go_simp
  refine hK.out _ _ (LS.before noBits_ff (bA hb _) (ANN.second hb hA rfl)) ?_
  clear hK hA hb hS
  generalize wq.heap.size = qq1 at *
  try simp only [List.getElem_toArray, List.getElem_cons_zero, List.getElem_cons_succ, Act.put, List.setIfInBounds_toArray, List.set_cons_zero, List.set_cons_succ]
  clear K wq
  revert pp1 qq1
  refine ?rest
  rotate_left
  obtain ⟨hb, hA⟩ := hS.1 noBits_ff
  go_simp
  refine hK.out _ _ (LS.before noBits_ff (bA hb _) (ANN.first' hb rfl)) ?_
  clear hK hA hb hS
  generalize wq.heap.size = qq1 at *
  try simp only [List.getElem_toArray, List.getElem_cons_zero, List.getElem_cons_succ, Act.put, List.setIfInBounds_toArray, List.set_cons_zero, List.set_cons_succ]
  clear K wq
  refine wpF_step (i := 6) (bs := [false, false]) (bs' := [false, false]) (vs := [undef, .pointer (some ⟨qq1, 0, none⟩)]) (by kernel_rfl) rfl (by kernel_rfl) rfl (by kernel_rfl) (fun wq hS K hK => ?_)
  obtain ⟨hb, hA⟩ := hS.1 noBits_ff
  go_simp
  refine hK.out _ _ (LS.before noBits_ff (bA hb _) (ANN.second' hb hA rfl)) ?_
  clear hK hA hb hS
  generalize wq.heap.size = pp1 at *
  try simp only [List.getElem_toArray, List.getElem_cons_zero, List.getElem_cons_succ, Act.put, List.setIfInBounds_toArray, List.set_cons_zero, List.set_cons_succ]
  clear K wq
  rw [Array.setIfInBounds_comm true true (i := 7) (j := 6) (by decide)]
  exact ?rest pp1 qq1
  intro pp1 qq1
  refine wpF_step (i := 8) (bs := [false, false]) (bs' := [true, false]) (vs := [.pointer (some ⟨pp1, 0, none⟩), .pointer (some ⟨qq1, 0, none⟩)]) (by kernel_rfl) rfl (by kernel_rfl) rfl (by kernel_rfl) (fun wq hS K hK => ?_)
  obtain ⟨hb, hA⟩ := hS.1 noBits_ff
  have ZZ := Lib.hid (ZNN.one hb hA (.bool false) (.int .u8 xc) (.int .i64 xe) (.int .u64 xh) (.int .u64 xl) (.bool false) (.int .u8 yc) (.int .i64 ye) (.int .u64 yh) (.int .u64 yl))
  obtain ⟨⟨hp, x⟩, _, _⟩ := hA.both
  obtain ⟨z0, z1, z2, z3, z4⟩ := x.five
  have f0 := x.frozen 0; have f1 := x.frozen 1; have f2 := x.frozen 2; have f3 := x.frozen 3; have f4 := x.frozen 4
  go_simp
  refine hK.out _ _ (LS.behind bits_tf' ZZ.out) ?_
  clear hK hA hb ZZ hS hp x z0 z1 z2 z3 z4 f0 f1 f2 f3 f4
  try simp only [List.getElem_toArray, List.getElem_cons_zero, List.getElem_cons_succ, Act.put, List.setIfInBounds_toArray, List.set_cons_zero, List.set_cons_succ]
  refine wpF_step (i := 9) (bs := [true, false]) (bs' := [true, true]) (vs := [.pointer (some ⟨pp1, 0, none⟩), .pointer (some ⟨qq1, 0, none⟩)]) (by kernel_rfl) rfl (by kernel_rfl) rfl (by kernel_rfl) (fun wq hS K hK => ?_)
  have hZ := hS.2 bits_tf'
  have ZZ := Lib.hid hZ.two
  have x := hZ.cells
  obtain ⟨z0, z1, z2, z3, z4⟩ := x.five
  have f0 := x.frozen 0; have f1 := x.frozen 1; have f2 := x.frozen 2; have f3 := x.frozen 3; have f4 := x.frozen 4
  go_simp
  refine hK.out _ _ (LS.behind bits_tt' ZZ.out) ?_
  clear hK hZ ZZ hS x z0 z1 z2 z3 z4 f0 f1 f2 f3 f4
  try simp only [List.getElem_toArray, List.getElem_cons_zero, List.getElem_cons_succ, Act.put, List.setIfInBounds_toArray, List.set_cons_zero, List.set_cons_succ]
  refine wpF_done (bs := [true, true]) (vs := [.pointer (some ⟨pp1, 0, none⟩), .pointer (some ⟨qq1, 0, none⟩)]) (by kernel_rfl) (by kernel_rfl) rfl (fun w2 hS => ?_) _
  refine NoPanic.normal ?_
  obtain ⟨hge, hge2, hne, hbox, hbox2, hb⟩ := (hS.2 bits_tt').done
  obtain ⟨cX2_0, cX2_1, cX2_2, cX2_3, cX2_4⟩ := hbox.five
  obtain ⟨cX3_0, cX3_1, cX3_2, cX3_3, cX3_4⟩ := hbox2.five
  clear hge hge2 hne hbox hbox2
  clear hS
  replace cX0_0 := cell_later hb cX0_0; replace cX0_1 := cell_later hb cX0_1
  replace sX0 : w.heap.size < w2.heap.size := World.block_lt_of_cell? _ _ cX0_0
  replace cX1_0 := cell_later hb cX1_0; replace cX1_1 := cell_later hb cX1_1
  replace sX1 : w.heap.size + 1 < w2.heap.size ∧ w.heap.size < w2.heap.size := by have h : w.heap.size + 1 < w2.heap.size := World.block_lt_of_cell? _ _ cX1_0; exact ⟨h, by omega⟩
  have sX2 : pp1 < w2.heap.size := World.block_lt_of_cell? _ _ cX2_0
  have sX3 : qq1 < w2.heap.size := World.block_lt_of_cell? _ _ cX3_0
  replace kk := bC kk hb
  clear hb
  go_wp2_with fail
  (with_reducible refine (h2.out _ (ft.later kk)).mono ?_); rintro e w3 ⟨rfl, hb⟩
  replace cX0_0 := cell_later hb cX0_0; replace cX0_1 := cell_later hb cX0_1
  replace sX0 : w.heap.size < w3.heap.size := World.block_lt_of_cell? _ _ cX0_0
  replace cX1_0 := cell_later hb cX1_0; replace cX1_1 := cell_later hb cX1_1
  replace sX1 : w.heap.size + 1 < w3.heap.size ∧ w.heap.size < w3.heap.size := by have h : w.heap.size + 1 < w3.heap.size := World.block_lt_of_cell? _ _ cX1_0; exact ⟨h, by omega⟩
  replace cX2_0 := cell_later hb cX2_0; replace cX2_1 := cell_later hb cX2_1; replace cX2_2 := cell_later hb cX2_2; replace cX2_3 := cell_later hb cX2_3; replace cX2_4 := cell_later hb cX2_4
  replace sX2 : pp1 < w3.heap.size := World.block_lt_of_cell? _ _ cX2_0
  replace cX3_0 := cell_later hb cX3_0; replace cX3_1 := cell_later hb cX3_1; replace cX3_2 := cell_later hb cX3_2; replace cX3_3 := cell_later hb cX3_3; replace cX3_4 := cell_later hb cX3_4
  replace sX3 : qq1 < w3.heap.size := World.block_lt_of_cell? _ _ cX3_0
  replace kk := bC kk hb
  clear hb
  go_wp2_with fail
  (with_reducible refine (h3.out _ (ft.later kk)).mono ?_); rintro e w4 ⟨rfl, hb⟩
  replace cX0_0 := cell_later hb cX0_0; replace cX0_1 := cell_later hb cX0_1
  replace sX0 : w.heap.size < w4.heap.size := World.block_lt_of_cell? _ _ cX0_0
  replace cX1_0 := cell_later hb cX1_0; replace cX1_1 := cell_later hb cX1_1
  replace sX1 : w.heap.size + 1 < w4.heap.size ∧ w.heap.size < w4.heap.size := by have h : w.heap.size + 1 < w4.heap.size := World.block_lt_of_cell? _ _ cX1_0; exact ⟨h, by omega⟩
  replace cX2_0 := cell_later hb cX2_0; replace cX2_1 := cell_later hb cX2_1; replace cX2_2 := cell_later hb cX2_2; replace cX2_3 := cell_later hb cX2_3; replace cX2_4 := cell_later hb cX2_4
  replace sX2 : pp1 < w4.heap.size := World.block_lt_of_cell? _ _ cX2_0
  replace cX3_0 := cell_later hb cX3_0; replace cX3_1 := cell_later hb cX3_1; replace cX3_2 := cell_later hb cX3_2; replace cX3_3 := cell_later hb cX3_3; replace cX3_4 := cell_later hb cX3_4
  replace sX3 : qq1 < w4.heap.size := World.block_lt_of_cell? _ _ cX3_0
  replace kk := bC kk hb
  clear hb
  go_wp2_with fail
  refine wp_region_noPanic ?_
  refine wp_region_F [] [] (LS w4 (fun _ _ => True) (fun _ _ _ => True)) (by kernel_rfl) (bs := []) (vs := []) (by kernel_rfl) rfl (LS.before noBits_nil (Below.refl _ _).drew trivial) ?_
  refine wpF_yield (i := 0) (v := ?vq90) rfl (by kernel_rfl) (by kernel_rfl) (fun _ _ _ h => h) (Or.inl ⟨by rfl, ?yq90⟩) ?rq90
  case yq90 => (intro wq; go_simp; try (with_reducible rfl))
  try simp only [List.getElem_toArray, List.getElem_cons_zero, List.getElem_cons_succ, Act.put, List.setIfInBounds_toArray, List.set_cons_zero, List.set_cons_succ]
  refine wpF_take (i := 1) (v := ?vq91) rfl (by kernel_rfl) (by kernel_rfl) (fun _ _ _ h => h) (LS.load (by rfl) ?yq91) ?rq91
  case yq91 => (intro wq hb; have lcX0_0 := cell_later hb cX0_0; have lcX0_1 := cell_later hb cX0_1; go_simp; try (with_reducible rfl))
  try simp only [List.getElem_toArray, List.getElem_cons_zero, List.getElem_cons_succ, Act.put, List.setIfInBounds_toArray, List.set_cons_zero, List.set_cons_succ]
  refine wpF_take (i := 2) (v := _) rfl (by kernel_rfl) (by kernel_rfl) (fun _ _ _ h => h) (LS.callW lasts_true (by rfl) _ _ ?yq92 ((fun W hb => h4.out W (ft.later (bC kk hb))))) ?rq92
  case yq92 => (intro wq; go_simp; try (with_reducible rfl))
  try simp only [List.getElem_toArray, List.getElem_cons_zero, List.getElem_cons_succ, Act.put, List.setIfInBounds_toArray, List.set_cons_zero, List.set_cons_succ]
  refine wpF_yield (i := 3) (v := ?vq93) rfl (by kernel_rfl) (by kernel_rfl) (fun _ _ _ h => h) (Or.inl ⟨by rfl, ?yq93⟩) ?rq93
  case yq93 => (intro wq; go_simp; try (with_reducible rfl))
  try simp only [List.getElem_toArray, List.getElem_cons_zero, List.getElem_cons_succ, Act.put, List.setIfInBounds_toArray, List.set_cons_zero, List.set_cons_succ]
  refine wpF_take (i := 4) (v := ?vq94) rfl (by kernel_rfl) (by kernel_rfl) (fun _ _ _ h => h) (LS.load (by rfl) ?yq94) ?rq94
  case yq94 => (intro wq hb; have lcX1_0 := cell_later hb cX1_0; have lcX1_1 := cell_later hb cX1_1; go_simp; try (with_reducible rfl))
  try simp only [List.getElem_toArray, List.getElem_cons_zero, List.getElem_cons_succ, Act.put, List.setIfInBounds_toArray, List.set_cons_zero, List.set_cons_succ]
  refine wpF_take (i := 5) (v := _) rfl (by kernel_rfl) (by kernel_rfl) (fun _ _ _ h => h) (LS.callW lasts_true (by rfl) _ _ ?yq95 ((fun W hb => h5.out W (ft.later (bC kk hb))))) ?rq95
  case yq95 => (intro wq; go_simp; try (with_reducible rfl))
  try simp only [List.getElem_toArray, List.getElem_cons_zero, List.getElem_cons_succ, Act.put, List.setIfInBounds_toArray, List.set_cons_zero, List.set_cons_succ]
  refine wpF_take (i := 6) (v := _) rfl (by kernel_rfl) (by kernel_rfl) (fun _ _ _ h => h) (LS.call lasts_true (by rfl) _ _ ?yq96 (h6.out)) ?rq96
  case yq96 => (intro wq; go_simp; try (with_reducible rfl))
  try simp only [List.getElem_toArray, List.getElem_cons_zero, List.getElem_cons_succ, Act.put, List.setIfInBounds_toArray, List.set_cons_zero, List.set_cons_succ]
  refine wpF_yield (i := 7) (v := ?vq97) rfl (by kernel_rfl) (by kernel_rfl) (fun _ _ _ h => h) (Or.inl ⟨by rfl, ?yq97⟩) ?rq97
  case yq97 => (intro wq; go_simp; try (with_reducible rfl))
  try simp only [List.getElem_toArray, List.getElem_cons_zero, List.getElem_cons_succ, Act.put, List.setIfInBounds_toArray, List.set_cons_zero, List.set_cons_succ]
  refine wpF_done (bs := []) (vs := []) (by kernel_rfl) (by kernel_rfl) rfl (fun w6 hS => ?_) _
  refine NoPanic.normal ?_
  obtain ⟨hb, _⟩ := hS.1 noBits_nil
  clear hS
  clear cX0_0 cX0_1 sX0
  clear cX1_0 cX1_1 sX1
  replace cX2_0 := cell_later hb cX2_0; replace cX2_1 := cell_later hb cX2_1; replace cX2_2 := cell_later hb cX2_2; replace cX2_3 := cell_later hb cX2_3; replace cX2_4 := cell_later hb cX2_4
  replace sX2 : pp1 < w6.heap.size := World.block_lt_of_cell? _ _ cX2_0
  replace cX3_0 := cell_later hb cX3_0; replace cX3_1 := cell_later hb cX3_1; replace cX3_2 := cell_later hb cX3_2; replace cX3_3 := cell_later hb cX3_3; replace cX3_4 := cell_later hb cX3_4
  replace sX3 : qq1 < w6.heap.size := World.block_lt_of_cell? _ _ cX3_0
  replace kk := bC kk hb
  clear hb
  go_wp2_with fail
  (with_reducible refine (h8.out _ (ft.later kk)).mono ?_); rintro e w7 ⟨rfl, hb⟩
  clear cX2_0 cX2_1 cX2_2 cX2_3 cX2_4 sX2
  clear cX3_0 cX3_1 cX3_2 cX3_3 cX3_4 sX3
  replace kk := bC kk hb
  clear hb
  go_wp2_with fail
  go_ret
  exact ⟨rfl, kk⟩

set_option maxHeartbeats 4000000 in
set_option maxRecDepth 100000 in
theorem order9_gt (f ah al bh bl ph pl qh ql k xc xe xh xl yc ye yh yl : Int) (less same : Bool)
    (h0 : Hid (∀ w, FTab w → Calls Tryd.prog 10 #[.int .u8 f, .agg #[.int .u64 ah, .int .u64 al]] w fun e w' => e = .returned (.agg #[.bool false, .int .u8 xc, .int .i64 xe, .int .u64 xh, .int .u64 xl]) ∧ Below w.heap.size w w'))
    (h1 : Hid (∀ w, FTab w → Calls Tryd.prog 10 #[.int .u8 f, .agg #[.int .u64 bh, .int .u64 bl]] w fun e w' => e = .returned (.agg #[.bool false, .int .u8 yc, .int .i64 ye, .int .u64 yh, .int .u64 yl]) ∧ Below w.heap.size w w'))
    (h2 : Hid (∀ w, FTab w → Calls Tryd.prog 18 #[.int .u8 f, .agg #[.int .u64 ah, .int .u64 al]] w fun e w' => e = .returned (.bool true) ∧ Below w.heap.size w w'))
    (h3 : Hid (∀ w, FTab w → Calls Tryd.prog 18 #[.int .u8 f, .agg #[.int .u64 bh, .int .u64 bl]] w fun e w' => e = .returned (.bool true) ∧ Below w.heap.size w w'))
    (h4 : Hid (∀ w, FTab w → Calls Tryd.prog 17 #[.int .u8 f, .agg #[.int .u64 ah, .int .u64 al]] w fun e w' => e = .returned (.agg #[.int .u64 ph, .int .u64 pl]) ∧ Below w.heap.size w w'))
    (h5 : Hid (∀ w, FTab w → Calls Tryd.prog 17 #[.int .u8 f, .agg #[.int .u64 bh, .int .u64 bl]] w fun e w' => e = .returned (.agg #[.int .u64 qh, .int .u64 ql]) ∧ Below w.heap.size w w'))
    (h6 : Hid (∀ w, Calls Tryd.prog 19 #[.agg #[.int .u64 ph, .int .u64 pl], .agg #[.int .u64 qh, .int .u64 ql]] w fun e w' => e = .returned (.int .i64 k) ∧ Below w.heap.size w w'))
    (h8 : Hid (∀ w, FTab w → Calls Tryd.prog 12 #[] w fun e w' => e = .returned (.bool true) ∧ Below w.heap.size w w')) (j0 : (xc == 0) = false) (j1 : (yc == 0) = false) (j2 : decide (k < 0) = less) (j3 : (k == 0) = same) (e1 : decide (xe < ye) = false) (hl : less = false) (e2 : (xe == ye) = false) (hs : same = false) (w : World) (ft : FTab w) :
    Calls Tryd.prog 6 #[.int .u8 f, .agg #[.int .u64 ah, .int .u64 al], .agg #[.int .u64 bh, .int .u64 bl]] w fun e w' => e = .returned (.bool true) ∧ Below w.heap.size w w' := by
  subst hl hs
  go_enter Tryd.func6, Tryd.ntmps6
  go_wp2_with fail
  refine wp_forget (fun W => W.cell? ⟨w.heap.size, 0, none⟩ = some (.int .u64 ah) ∧ W.cell? ⟨w.heap.size, 1, none⟩ = some (.int .u64 al) ∧ W.cell? ⟨w.heap.size + 1, 0, none⟩ = some (.int .u64 bh) ∧ W.cell? ⟨w.heap.size + 1, 1, none⟩ = some (.int .u64 bl) ∧ Below w.heap.size w W) ⟨by go_simp, by go_simp, by go_simp, by go_simp, (bA (bA (Below.refl _ _) _) _)⟩ (fun w1 hst => ?_)
  obtain ⟨cX0_0, cX0_1, cX1_0, cX1_1, kk⟩ := hst
  have sX0 : w.heap.size < w1.heap.size := World.block_lt_of_cell? _ _ cX0_0
  have sX1 : w.heap.size + 1 < w1.heap.size ∧ w.heap.size < w1.heap.size := by have h : w.heap.size + 1 < w1.heap.size := World.block_lt_of_cell? _ _ cX1_0; exact ⟨h, by omega⟩
  refine wp_region_noPanic ?_
  refine wp_region_F [8, 9] [7, 8] (LS w1 (ANN w1 28 #[.bool false, .int .u8 0, .int .i64 0, .int .u64 0, .int .u64 0]) (ZNN w1 28 #[.bool false, .int .u8 0, .int .i64 0, .int .u64 0, .int .u64 0] (.bool false) (.int .u8 xc) (.int .i64 xe) (.int .u64 xh) (.int .u64 xl) (.bool false) (.int .u8 yc) (.int .i64 ye) (.int .u64 yh) (.int .u64 yl))) (by kernel_rfl) (bs := [false, false]) (vs := [undef, undef]) (by kernel_rfl) rfl (LS.before noBits_ff (Below.refl _ _).drew (ANN.start _ _ _ _)) ?_
  refine wpF_yield (i := 0) (v := ?vq98) rfl (by kernel_rfl) (by kernel_rfl) (fun _ _ _ h => h) (Or.inl ⟨by rfl, ?yq98⟩) ?rq98
  case yq98 => (intro wq; go_simp; try (with_reducible rfl))
  try simp only [List.getElem_toArray, List.getElem_cons_zero, List.getElem_cons_succ, Act.put, List.setIfInBounds_toArray, List.set_cons_zero, List.set_cons_succ]
  refine wpF_take3 (i := 1) (v := ?vq99) rfl (by kernel_rfl) (by kernel_rfl) (fun _ _ _ h => h) (LS.load (by rfl) ?yq99) ?rq99
  case yq99 => (intro wq hb; have lcX0_0 := cell_later hb cX0_0; have lcX0_1 := cell_later hb cX0_1; go_simp; try (with_reducible rfl))
  try simp only [List.getElem_toArray, List.getElem_cons_zero, List.getElem_cons_succ, Act.put, List.setIfInBounds_toArray, List.set_cons_zero, List.set_cons_succ]
  refine wpF_take3 (i := 2) (v := _) rfl (by kernel_rfl) (by kernel_rfl) (fun _ _ _ h => h) (LS.callW (ANN.lasts w1 _ _) (by rfl) _ _ ?yq100 ((fun W hb => h0.out W (ft.later (bC kk hb))))) ?rq100
  case yq100 => (intro wq; go_simp; try (with_reducible rfl))
  try simp only [List.getElem_toArray, List.getElem_cons_zero, List.getElem_cons_succ, Act.put, List.setIfInBounds_toArray, List.set_cons_zero, List.set_cons_succ]
  refine wpF_yield (i := 3) (v := ?vq101) rfl (by kernel_rfl) (by kernel_rfl) (fun _ _ _ h => h) (Or.inl ⟨by rfl, ?yq101⟩) ?rq101
  case yq101 => (intro wq; go_simp; try (with_reducible rfl))
  try simp only [List.getElem_toArray, List.getElem_cons_zero, List.getElem_cons_succ, Act.put, List.setIfInBounds_toArray, List.set_cons_zero, List.set_cons_succ]
  refine wpF_take3 (i := 4) (v := ?vq102) rfl (by kernel_rfl) (by kernel_rfl) (fun _ _ _ h => h) (LS.load (by rfl) ?yq102) ?rq102
  case yq102 => (intro wq hb; have lcX1_0 := cell_later hb cX1_0; have lcX1_1 := cell_later hb cX1_1; go_simp; try (with_reducible rfl))
  try simp only [List.getElem_toArray, List.getElem_cons_zero, List.getElem_cons_succ, Act.put, List.setIfInBounds_toArray, List.set_cons_zero, List.set_cons_succ]
  refine wpF_take3 (i := 5) (v := _) rfl (by kernel_rfl) (by kernel_rfl) (fun _ _ _ h => h) (LS.callW (ANN.lasts w1 _ _) (by rfl) _ _ ?yq103 ((fun W hb => h1.out W (ft.later (bC kk hb))))) ?rq103
  case yq103 => (intro wq; go_simp; try (with_reducible rfl))
  try simp only [List.getElem_toArray, List.getElem_cons_zero, List.getElem_cons_succ, Act.put, List.setIfInBounds_toArray, List.set_cons_zero, List.set_cons_succ]
  refine wpF_two (i := 6) (j := 7) (bs := [false, false]) (bi := [false, false]) (bj := [false, false]) (vs := [undef, undef]) (by kernel_rfl) rfl rfl (by kernel_rfl) rfl (by kernel_rfl) (by kernel_rfl) (fun wq hS K hK => ?_) (fun wq hS K hK => ?_)
  obtain ⟨hb, hA⟩ := hS.1 noBits_ff
  go_simp
  refine hK.out _ _ (LS.before noBits_ff (bA hb _) (ANN.first hb rfl)) ?_
  clear hK hA hb hS
  generalize wq.heap.size = pp1 at *
  try simp only [List.getElem_toArray, List.getElem_cons_zero, List.getElem_cons_succ, Act.put, List.setIfInBounds_toArray, List.set_cons_zero, List.set_cons_succ]
  clear K wq
  refine wpF_step (i := 7) (bs := [false, false]) (bs' := [false, false]) (vs := [.pointer (some ⟨pp1, 0, none⟩), undef]) (by kernel_rfl) rfl (by kernel_rfl) rfl (by kernel_rfl) (fun wq hS K hK => ?_)
  obtain ⟨hb, hA⟩ := hS.1 noBits_ff
  go_simp
  refine hK.out _ _ (LS.before noBits_ff (bA hb _) (ANN.second hb hA rfl)) ?_
  clear hK hA hb hS
  generalize wq.heap.size = qq1 at *
  try simp only [List.getElem_toArray, List.getElem_cons_zero, List.getElem_cons_succ, Act.put, List.setIfInBounds_toArray, List.set_cons_zero, List.set_cons_succ]
  clear K wq
  revert pp1 qq1
  refine ?rest
  rotate_left
  obtain ⟨hb, hA⟩ := hS.1 noBits_ff
  go_simp
  refine hK.out _ _ (LS.before noBits_ff (bA hb _) (ANN.first' hb rfl)) ?_
  clear hK hA hb hS
  generalize wq.heap.size = qq1 at *
  try simp only [List.getElem_toArray, List.getElem_cons_zero, List.getElem_cons_succ, Act.put, List.setIfInBounds_toArray, List.set_cons_zero, List.set_cons_succ]
  clear K wq
  refine wpF_step (i := 6) (bs := [false, false]) (bs' := [false, false]) (vs := [undef, .pointer (some ⟨qq1, 0, none⟩)]) (by kernel_rfl) rfl (by kernel_rfl) rfl (by kernel_rfl) (fun wq hS K hK => ?_)
  obtain ⟨hb, hA⟩ := hS.1 noBits_ff
  go_simp
  refine hK.out _ _ (LS.before noBits_ff (bA hb _) (ANN.second' hb hA rfl)) ?_
  clear hK hA hb hS
  generalize wq.heap.size = pp1 at *
  try simp only [List.getElem_toArray, List.getElem_cons_zero, List.getElem_cons_succ, Act.put, List.setIfInBounds_toArray, List.set_cons_zero, List.set_cons_succ]
  clear K wq
  rw [Array.setIfInBounds_comm true true (i := 7) (j := 6) (by decide)]
  exact ?rest pp1 qq1
  intro pp1 qq1
  refine wpF_step (i := 8) (bs := [false, false]) (bs' := [true, false]) (vs := [.pointer (some ⟨pp1, 0, none⟩), .pointer (some ⟨qq1, 0, none⟩)]) (by kernel_rfl) rfl (by kernel_rfl) rfl (by kernel_rfl) (fun wq hS K hK => ?_)
  obtain ⟨hb, hA⟩ := hS.1 noBits_ff
  have ZZ := Lib.hid (ZNN.one hb hA (.bool false) (.int .u8 xc) (.int .i64 xe) (.int .u64 xh) (.int .u64 xl) (.bool false) (.int .u8 yc) (.int .i64 ye) (.int .u64 yh) (.int .u64 yl))
  obtain ⟨⟨hp, x⟩, _, _⟩ := hA.both
  obtain ⟨z0, z1, z2, z3, z4⟩ := x.five
  have f0 := x.frozen 0; have f1 := x.frozen 1; have f2 := x.frozen 2; have f3 := x.frozen 3; have f4 := x.frozen 4
  go_simp
  refine hK.out _ _ (LS.behind bits_tf' ZZ.out) ?_
  clear hK hA hb ZZ hS hp x z0 z1 z2 z3 z4 f0 f1 f2 f3 f4
  try simp only [List.getElem_toArray, List.getElem_cons_zero, List.getElem_cons_succ, Act.put, List.setIfInBounds_toArray, List.set_cons_zero, List.set_cons_succ]
  refine wpF_step (i := 9) (bs := [true, false]) (bs' := [true, true]) (vs := [.pointer (some ⟨pp1, 0, none⟩), .pointer (some ⟨qq1, 0, none⟩)]) (by kernel_rfl) rfl (by kernel_rfl) rfl (by kernel_rfl) (fun wq hS K hK => ?_)
  have hZ := hS.2 bits_tf'
  have ZZ := Lib.hid hZ.two
  have x := hZ.cells
  obtain ⟨z0, z1, z2, z3, z4⟩ := x.five
  have f0 := x.frozen 0; have f1 := x.frozen 1; have f2 := x.frozen 2; have f3 := x.frozen 3; have f4 := x.frozen 4
  go_simp
  refine hK.out _ _ (LS.behind bits_tt' ZZ.out) ?_
  clear hK hZ ZZ hS x z0 z1 z2 z3 z4 f0 f1 f2 f3 f4
  try simp only [List.getElem_toArray, List.getElem_cons_zero, List.getElem_cons_succ, Act.put, List.setIfInBounds_toArray, List.set_cons_zero, List.set_cons_succ]
  refine wpF_done (bs := [true, true]) (vs := [.pointer (some ⟨pp1, 0, none⟩), .pointer (some ⟨qq1, 0, none⟩)]) (by kernel_rfl) (by kernel_rfl) rfl (fun w2 hS => ?_) _
  refine NoPanic.normal ?_
  obtain ⟨hge, hge2, hne, hbox, hbox2, hb⟩ := (hS.2 bits_tt').done
  obtain ⟨cX2_0, cX2_1, cX2_2, cX2_3, cX2_4⟩ := hbox.five
  obtain ⟨cX3_0, cX3_1, cX3_2, cX3_3, cX3_4⟩ := hbox2.five
  clear hge hge2 hne hbox hbox2
  clear hS
  replace cX0_0 := cell_later hb cX0_0; replace cX0_1 := cell_later hb cX0_1
  replace sX0 : w.heap.size < w2.heap.size := World.block_lt_of_cell? _ _ cX0_0
  replace cX1_0 := cell_later hb cX1_0; replace cX1_1 := cell_later hb cX1_1
  replace sX1 : w.heap.size + 1 < w2.heap.size ∧ w.heap.size < w2.heap.size := by have h : w.heap.size + 1 < w2.heap.size := World.block_lt_of_cell? _ _ cX1_0; exact ⟨h, by omega⟩
  have sX2 : pp1 < w2.heap.size := World.block_lt_of_cell? _ _ cX2_0
  have sX3 : qq1 < w2.heap.size := World.block_lt_of_cell? _ _ cX3_0
  replace kk := bC kk hb
  clear hb
  go_wp2_with fail
  (with_reducible refine (h2.out _ (ft.later kk)).mono ?_); rintro e w3 ⟨rfl, hb⟩
  replace cX0_0 := cell_later hb cX0_0; replace cX0_1 := cell_later hb cX0_1
  replace sX0 : w.heap.size < w3.heap.size := World.block_lt_of_cell? _ _ cX0_0
  replace cX1_0 := cell_later hb cX1_0; replace cX1_1 := cell_later hb cX1_1
  replace sX1 : w.heap.size + 1 < w3.heap.size ∧ w.heap.size < w3.heap.size := by have h : w.heap.size + 1 < w3.heap.size := World.block_lt_of_cell? _ _ cX1_0; exact ⟨h, by omega⟩
  replace cX2_0 := cell_later hb cX2_0; replace cX2_1 := cell_later hb cX2_1; replace cX2_2 := cell_later hb cX2_2; replace cX2_3 := cell_later hb cX2_3; replace cX2_4 := cell_later hb cX2_4
  replace sX2 : pp1 < w3.heap.size := World.block_lt_of_cell? _ _ cX2_0
  replace cX3_0 := cell_later hb cX3_0; replace cX3_1 := cell_later hb cX3_1; replace cX3_2 := cell_later hb cX3_2; replace cX3_3 := cell_later hb cX3_3; replace cX3_4 := cell_later hb cX3_4
  replace sX3 : qq1 < w3.heap.size := World.block_lt_of_cell? _ _ cX3_0
  replace kk := bC kk hb
  clear hb
  go_wp2_with fail
  (with_reducible refine (h3.out _ (ft.later kk)).mono ?_); rintro e w4 ⟨rfl, hb⟩
  replace cX0_0 := cell_later hb cX0_0; replace cX0_1 := cell_later hb cX0_1
  replace sX0 : w.heap.size < w4.heap.size := World.block_lt_of_cell? _ _ cX0_0
  replace cX1_0 := cell_later hb cX1_0; replace cX1_1 := cell_later hb cX1_1
  replace sX1 : w.heap.size + 1 < w4.heap.size ∧ w.heap.size < w4.heap.size := by have h : w.heap.size + 1 < w4.heap.size := World.block_lt_of_cell? _ _ cX1_0; exact ⟨h, by omega⟩
  replace cX2_0 := cell_later hb cX2_0; replace cX2_1 := cell_later hb cX2_1; replace cX2_2 := cell_later hb cX2_2; replace cX2_3 := cell_later hb cX2_3; replace cX2_4 := cell_later hb cX2_4
  replace sX2 : pp1 < w4.heap.size := World.block_lt_of_cell? _ _ cX2_0
  replace cX3_0 := cell_later hb cX3_0; replace cX3_1 := cell_later hb cX3_1; replace cX3_2 := cell_later hb cX3_2; replace cX3_3 := cell_later hb cX3_3; replace cX3_4 := cell_later hb cX3_4
  replace sX3 : qq1 < w4.heap.size := World.block_lt_of_cell? _ _ cX3_0
  replace kk := bC kk hb
  clear hb
  go_wp2_with fail
  refine wp_region_noPanic ?_
  refine wp_region_F [] [] (LS w4 (fun _ _ => True) (fun _ _ _ => True)) (by kernel_rfl) (bs := []) (vs := []) (by kernel_rfl) rfl (LS.before noBits_nil (Below.refl _ _).drew trivial) ?_
  refine wpF_yield (i := 0) (v := ?vq104) rfl (by kernel_rfl) (by kernel_rfl) (fun _ _ _ h => h) (Or.inl ⟨by rfl, ?yq104⟩) ?rq104
  case yq104 => (intro wq; go_simp; try (with_reducible rfl))
  try simp only [List.getElem_toArray, List.getElem_cons_zero, List.getElem_cons_succ, Act.put, List.setIfInBounds_toArray, List.set_cons_zero, List.set_cons_succ]
  refine wpF_take (i := 1) (v := ?vq105) rfl (by kernel_rfl) (by kernel_rfl) (fun _ _ _ h => h) (LS.load (by rfl) ?yq105) ?rq105
  case yq105 => (intro wq hb; have lcX0_0 := cell_later hb cX0_0; have lcX0_1 := cell_later hb cX0_1; go_simp; try (with_reducible rfl))
  try simp only [List.getElem_toArray, List.getElem_cons_zero, List.getElem_cons_succ, Act.put, List.setIfInBounds_toArray, List.set_cons_zero, List.set_cons_succ]
  refine wpF_take (i := 2) (v := _) rfl (by kernel_rfl) (by kernel_rfl) (fun _ _ _ h => h) (LS.callW lasts_true (by rfl) _ _ ?yq106 ((fun W hb => h4.out W (ft.later (bC kk hb))))) ?rq106
  case yq106 => (intro wq; go_simp; try (with_reducible rfl))
  try simp only [List.getElem_toArray, List.getElem_cons_zero, List.getElem_cons_succ, Act.put, List.setIfInBounds_toArray, List.set_cons_zero, List.set_cons_succ]
  refine wpF_yield (i := 3) (v := ?vq107) rfl (by kernel_rfl) (by kernel_rfl) (fun _ _ _ h => h) (Or.inl ⟨by rfl, ?yq107⟩) ?rq107
  case yq107 => (intro wq; go_simp; try (with_reducible rfl))
  try simp only [List.getElem_toArray, List.getElem_cons_zero, List.getElem_cons_succ, Act.put, List.setIfInBounds_toArray, List.set_cons_zero, List.set_cons_succ]
  refine wpF_take (i := 4) (v := ?vq108) rfl (by kernel_rfl) (by kernel_rfl) (fun _ _ _ h => h) (LS.load (by rfl) ?yq108) ?rq108
  case yq108 => (intro wq hb; have lcX1_0 := cell_later hb cX1_0; have lcX1_1 := cell_later hb cX1_1; go_simp; try (with_reducible rfl))
  try simp only [List.getElem_toArray, List.getElem_cons_zero, List.getElem_cons_succ, Act.put, List.setIfInBounds_toArray, List.set_cons_zero, List.set_cons_succ]
  refine wpF_take (i := 5) (v := _) rfl (by kernel_rfl) (by kernel_rfl) (fun _ _ _ h => h) (LS.callW lasts_true (by rfl) _ _ ?yq109 ((fun W hb => h5.out W (ft.later (bC kk hb))))) ?rq109
  case yq109 => (intro wq; go_simp; try (with_reducible rfl))
  try simp only [List.getElem_toArray, List.getElem_cons_zero, List.getElem_cons_succ, Act.put, List.setIfInBounds_toArray, List.set_cons_zero, List.set_cons_succ]
  refine wpF_take (i := 6) (v := _) rfl (by kernel_rfl) (by kernel_rfl) (fun _ _ _ h => h) (LS.call lasts_true (by rfl) _ _ ?yq110 (h6.out)) ?rq110
  case yq110 => (intro wq; go_simp; try (with_reducible rfl))
  try simp only [List.getElem_toArray, List.getElem_cons_zero, List.getElem_cons_succ, Act.put, List.setIfInBounds_toArray, List.set_cons_zero, List.set_cons_succ]
  refine wpF_yield (i := 7) (v := ?vq111) rfl (by kernel_rfl) (by kernel_rfl) (fun _ _ _ h => h) (Or.inl ⟨by rfl, ?yq111⟩) ?rq111
  case yq111 => (intro wq; go_simp; try (with_reducible rfl))
  try simp only [List.getElem_toArray, List.getElem_cons_zero, List.getElem_cons_succ, Act.put, List.setIfInBounds_toArray, List.set_cons_zero, List.set_cons_succ]
  refine wpF_done (bs := []) (vs := []) (by kernel_rfl) (by kernel_rfl) rfl (fun w6 hS => ?_) _
  refine NoPanic.normal ?_
  obtain ⟨hb, _⟩ := hS.1 noBits_nil
  clear hS
  clear cX0_0 cX0_1 sX0
  clear cX1_0 cX1_1 sX1
  replace cX2_0 := cell_later hb cX2_0; replace cX2_1 := cell_later hb cX2_1; replace cX2_2 := cell_later hb cX2_2; replace cX2_3 := cell_later hb cX2_3; replace cX2_4 := cell_later hb cX2_4
  replace sX2 : pp1 < w6.heap.size := World.block_lt_of_cell? _ _ cX2_0
  replace cX3_0 := cell_later hb cX3_0; replace cX3_1 := cell_later hb cX3_1; replace cX3_2 := cell_later hb cX3_2; replace cX3_3 := cell_later hb cX3_3; replace cX3_4 := cell_later hb cX3_4
  replace sX3 : qq1 < w6.heap.size := World.block_lt_of_cell? _ _ cX3_0
  replace kk := bC kk hb
  clear hb
  go_wp2_with fail
  (with_reducible refine (h8.out _ (ft.later kk)).mono ?_); rintro e w7 ⟨rfl, hb⟩
  clear cX2_0 cX2_1 cX2_2 cX2_3 cX2_4 sX2
  clear cX3_0 cX3_1 cX3_2 cX3_3 cX3_4 sX3
  replace kk := bC kk hb
  clear hb
  go_wp2_with fail
  go_ret
  exact ⟨rfl, kk⟩

set_option maxHeartbeats 4000000 in
set_option maxRecDepth 100000 in
theorem order9_eq (f ah al bh bl ph pl qh ql k xc xe xh xl yc yh yl z : Int) (less same : Bool)
    (h0 : Hid (∀ w, FTab w → Calls Tryd.prog 10 #[.int .u8 f, .agg #[.int .u64 ah, .int .u64 al]] w fun e w' => e = .returned (.agg #[.bool false, .int .u8 xc, .int .i64 xe, .int .u64 xh, .int .u64 xl]) ∧ Below w.heap.size w w'))
    (h1 : Hid (∀ w, FTab w → Calls Tryd.prog 10 #[.int .u8 f, .agg #[.int .u64 bh, .int .u64 bl]] w fun e w' => e = .returned (.agg #[.bool false, .int .u8 yc, .int .i64 xe, .int .u64 yh, .int .u64 yl]) ∧ Below w.heap.size w w'))
    (h2 : Hid (∀ w, FTab w → Calls Tryd.prog 18 #[.int .u8 f, .agg #[.int .u64 ah, .int .u64 al]] w fun e w' => e = .returned (.bool true) ∧ Below w.heap.size w w'))
    (h3 : Hid (∀ w, FTab w → Calls Tryd.prog 18 #[.int .u8 f, .agg #[.int .u64 bh, .int .u64 bl]] w fun e w' => e = .returned (.bool true) ∧ Below w.heap.size w w'))
    (h4 : Hid (∀ w, FTab w → Calls Tryd.prog 17 #[.int .u8 f, .agg #[.int .u64 ah, .int .u64 al]] w fun e w' => e = .returned (.agg #[.int .u64 ph, .int .u64 pl]) ∧ Below w.heap.size w w'))
    (h5 : Hid (∀ w, FTab w → Calls Tryd.prog 17 #[.int .u8 f, .agg #[.int .u64 bh, .int .u64 bl]] w fun e w' => e = .returned (.agg #[.int .u64 qh, .int .u64 ql]) ∧ Below w.heap.size w w'))
    (h6 : Hid (∀ w, Calls Tryd.prog 19 #[.agg #[.int .u64 ph, .int .u64 pl], .agg #[.int .u64 qh, .int .u64 ql]] w fun e w' => e = .returned (.int .i64 k) ∧ Below w.heap.size w w'))
    (h7 : Hid (∀ w, Calls Tryd.prog 19 #[.agg #[.int .u64 xh, .int .u64 xl], .agg #[.int .u64 yh, .int .u64 yl]] w fun e w' => e = .returned (.int .i64 z) ∧ Below w.heap.size w w'))
    (h8 : Hid (∀ w, FTab w → Calls Tryd.prog 12 #[] w fun e w' => e = .returned (.bool true) ∧ Below w.heap.size w w')) (j0 : (xc == 0) = false) (j1 : (yc == 0) = false) (j2 : decide (k < 0) = less) (j3 : (k == 0) = same) (e1 : decide (xe < xe) = false) (e3 : decide (z < 0) = less) (hne : decide (xh = yh ∧ xl = yl) = false) (hs : same = false) (w : World) (ft : FTab w) :
    Calls Tryd.prog 6 #[.int .u8 f, .agg #[.int .u64 ah, .int .u64 al], .agg #[.int .u64 bh, .int .u64 bl]] w fun e w' => e = .returned (.bool true) ∧ Below w.heap.size w w' := by
  have EB := eql_bits xh xl yh yl
  rw [hne] at EB
  clear hne
  subst hs
  go_enter Tryd.func6, Tryd.ntmps6
  go_wp2_with fail
  refine wp_forget (fun W => W.cell? ⟨w.heap.size, 0, none⟩ = some (.int .u64 ah) ∧ W.cell? ⟨w.heap.size, 1, none⟩ = some (.int .u64 al) ∧ W.cell? ⟨w.heap.size + 1, 0, none⟩ = some (.int .u64 bh) ∧ W.cell? ⟨w.heap.size + 1, 1, none⟩ = some (.int .u64 bl) ∧ Below w.heap.size w W) ⟨by go_simp, by go_simp, by go_simp, by go_simp, (bA (bA (Below.refl _ _) _) _)⟩ (fun w1 hst => ?_)
  obtain ⟨cX0_0, cX0_1, cX1_0, cX1_1, kk⟩ := hst
  have sX0 : w.heap.size < w1.heap.size := World.block_lt_of_cell? _ _ cX0_0
  have sX1 : w.heap.size + 1 < w1.heap.size ∧ w.heap.size < w1.heap.size := by have h : w.heap.size + 1 < w1.heap.size := World.block_lt_of_cell? _ _ cX1_0; exact ⟨h, by omega⟩
  refine wp_region_noPanic ?_
  refine wp_region_F [8, 9] [7, 8] (LS w1 (ANN w1 28 #[.bool false, .int .u8 0, .int .i64 0, .int .u64 0, .int .u64 0]) (ZNN w1 28 #[.bool false, .int .u8 0, .int .i64 0, .int .u64 0, .int .u64 0] (.bool false) (.int .u8 xc) (.int .i64 xe) (.int .u64 xh) (.int .u64 xl) (.bool false) (.int .u8 yc) (.int .i64 xe) (.int .u64 yh) (.int .u64 yl))) (by kernel_rfl) (bs := [false, false]) (vs := [undef, undef]) (by kernel_rfl) rfl (LS.before noBits_ff (Below.refl _ _).drew (ANN.start _ _ _ _)) ?_
  refine wpF_yield (i := 0) (v := ?vq112) rfl (by kernel_rfl) (by kernel_rfl) (fun _ _ _ h => h) (Or.inl ⟨by rfl, ?yq112⟩) ?rq112
  case yq112 => (intro wq; go_simp; try (with_reducible rfl))
  try simp only [List.getElem_toArray, List.getElem_cons_zero, List.getElem_cons_succ, Act.put, List.setIfInBounds_toArray, List.set_cons_zero, List.set_cons_succ]
  refine wpF_take3 (i := 1) (v := ?vq113) rfl (by kernel_rfl) (by kernel_rfl) (fun _ _ _ h => h) (LS.load (by rfl) ?yq113) ?rq113
  case yq113 => (intro wq hb; have lcX0_0 := cell_later hb cX0_0; have lcX0_1 := cell_later hb cX0_1; go_simp; try (with_reducible rfl))
  try simp only [List.getElem_toArray, List.getElem_cons_zero, List.getElem_cons_succ, Act.put, List.setIfInBounds_toArray, List.set_cons_zero, List.set_cons_succ]
  refine wpF_take3 (i := 2) (v := _) rfl (by kernel_rfl) (by kernel_rfl) (fun _ _ _ h => h) (LS.callW (ANN.lasts w1 _ _) (by rfl) _ _ ?yq114 ((fun W hb => h0.out W (ft.later (bC kk hb))))) ?rq114
  case yq114 => (intro wq; go_simp; try (with_reducible rfl))
  try simp only [List.getElem_toArray, List.getElem_cons_zero, List.getElem_cons_succ, Act.put, List.setIfInBounds_toArray, List.set_cons_zero, List.set_cons_succ]
  refine wpF_yield (i := 3) (v := ?vq115) rfl (by kernel_rfl) (by kernel_rfl) (fun _ _ _ h => h) (Or.inl ⟨by rfl, ?yq115⟩) ?rq115
  case yq115 => (intro wq; go_simp; try (with_reducible rfl))
  try simp only [List.getElem_toArray, List.getElem_cons_zero, List.getElem_cons_succ, Act.put, List.setIfInBounds_toArray, List.set_cons_zero, List.set_cons_succ]
  refine wpF_take3 (i := 4) (v := ?vq116) rfl (by kernel_rfl) (by kernel_rfl) (fun _ _ _ h => h) (LS.load (by rfl) ?yq116) ?rq116
  case yq116 => (intro wq hb; have lcX1_0 := cell_later hb cX1_0; have lcX1_1 := cell_later hb cX1_1; go_simp; try (with_reducible rfl))
  try simp only [List.getElem_toArray, List.getElem_cons_zero, List.getElem_cons_succ, Act.put, List.setIfInBounds_toArray, List.set_cons_zero, List.set_cons_succ]
  refine wpF_take3 (i := 5) (v := _) rfl (by kernel_rfl) (by kernel_rfl) (fun _ _ _ h => h) (LS.callW (ANN.lasts w1 _ _) (by rfl) _ _ ?yq117 ((fun W hb => h1.out W (ft.later (bC kk hb))))) ?rq117
  case yq117 => (intro wq; go_simp; try (with_reducible rfl))
  try simp only [List.getElem_toArray, List.getElem_cons_zero, List.getElem_cons_succ, Act.put, List.setIfInBounds_toArray, List.set_cons_zero, List.set_cons_succ]
  refine wpF_two (i := 6) (j := 7) (bs := [false, false]) (bi := [false, false]) (bj := [false, false]) (vs := [undef, undef]) (by kernel_rfl) rfl rfl (by kernel_rfl) rfl (by kernel_rfl) (by kernel_rfl) (fun wq hS K hK => ?_) (fun wq hS K hK => ?_)
  obtain ⟨hb, hA⟩ := hS.1 noBits_ff
  go_simp
  refine hK.out _ _ (LS.before noBits_ff (bA hb _) (ANN.first hb rfl)) ?_
  clear hK hA hb hS
  generalize wq.heap.size = pp1 at *
  try simp only [List.getElem_toArray, List.getElem_cons_zero, List.getElem_cons_succ, Act.put, List.setIfInBounds_toArray, List.set_cons_zero, List.set_cons_succ]
  clear K wq
  refine wpF_step (i := 7) (bs := [false, false]) (bs' := [false, false]) (vs := [.pointer (some ⟨pp1, 0, none⟩), undef]) (by kernel_rfl) rfl (by kernel_rfl) rfl (by kernel_rfl) (fun wq hS K hK => ?_)
  obtain ⟨hb, hA⟩ := hS.1 noBits_ff
  go_simp
  refine hK.out _ _ (LS.before noBits_ff (bA hb _) (ANN.second hb hA rfl)) ?_
  clear hK hA hb hS
  generalize wq.heap.size = qq1 at *
  try simp only [List.getElem_toArray, List.getElem_cons_zero, List.getElem_cons_succ, Act.put, List.setIfInBounds_toArray, List.set_cons_zero, List.set_cons_succ]
  clear K wq
  revert pp1 qq1
  refine ?rest
  rotate_left
  obtain ⟨hb, hA⟩ := hS.1 noBits_ff
  go_simp
  refine hK.out _ _ (LS.before noBits_ff (bA hb _) (ANN.first' hb rfl)) ?_
  clear hK hA hb hS
  generalize wq.heap.size = qq1 at *
  try simp only [List.getElem_toArray, List.getElem_cons_zero, List.getElem_cons_succ, Act.put, List.setIfInBounds_toArray, List.set_cons_zero, List.set_cons_succ]
  clear K wq
  refine wpF_step (i := 6) (bs := [false, false]) (bs' := [false, false]) (vs := [undef, .pointer (some ⟨qq1, 0, none⟩)]) (by kernel_rfl) rfl (by kernel_rfl) rfl (by kernel_rfl) (fun wq hS K hK => ?_)
  obtain ⟨hb, hA⟩ := hS.1 noBits_ff
  go_simp
  refine hK.out _ _ (LS.before noBits_ff (bA hb _) (ANN.second' hb hA rfl)) ?_
  clear hK hA hb hS
  generalize wq.heap.size = pp1 at *
  try simp only [List.getElem_toArray, List.getElem_cons_zero, List.getElem_cons_succ, Act.put, List.setIfInBounds_toArray, List.set_cons_zero, List.set_cons_succ]
  clear K wq
  rw [Array.setIfInBounds_comm true true (i := 7) (j := 6) (by decide)]
  exact ?rest pp1 qq1
  intro pp1 qq1
  refine wpF_step (i := 8) (bs := [false, false]) (bs' := [true, false]) (vs := [.pointer (some ⟨pp1, 0, none⟩), .pointer (some ⟨qq1, 0, none⟩)]) (by kernel_rfl) rfl (by kernel_rfl) rfl (by kernel_rfl) (fun wq hS K hK => ?_)
  obtain ⟨hb, hA⟩ := hS.1 noBits_ff
  have ZZ := Lib.hid (ZNN.one hb hA (.bool false) (.int .u8 xc) (.int .i64 xe) (.int .u64 xh) (.int .u64 xl) (.bool false) (.int .u8 yc) (.int .i64 xe) (.int .u64 yh) (.int .u64 yl))
  obtain ⟨⟨hp, x⟩, _, _⟩ := hA.both
  obtain ⟨z0, z1, z2, z3, z4⟩ := x.five
  have f0 := x.frozen 0; have f1 := x.frozen 1; have f2 := x.frozen 2; have f3 := x.frozen 3; have f4 := x.frozen 4
  go_simp
  refine hK.out _ _ (LS.behind bits_tf' ZZ.out) ?_
  clear hK hA hb ZZ hS hp x z0 z1 z2 z3 z4 f0 f1 f2 f3 f4
  try simp only [List.getElem_toArray, List.getElem_cons_zero, List.getElem_cons_succ, Act.put, List.setIfInBounds_toArray, List.set_cons_zero, List.set_cons_succ]
  refine wpF_step (i := 9) (bs := [true, false]) (bs' := [true, true]) (vs := [.pointer (some ⟨pp1, 0, none⟩), .pointer (some ⟨qq1, 0, none⟩)]) (by kernel_rfl) rfl (by kernel_rfl) rfl (by kernel_rfl) (fun wq hS K hK => ?_)
  have hZ := hS.2 bits_tf'
  have ZZ := Lib.hid hZ.two
  have x := hZ.cells
  obtain ⟨z0, z1, z2, z3, z4⟩ := x.five
  have f0 := x.frozen 0; have f1 := x.frozen 1; have f2 := x.frozen 2; have f3 := x.frozen 3; have f4 := x.frozen 4
  go_simp
  refine hK.out _ _ (LS.behind bits_tt' ZZ.out) ?_
  clear hK hZ ZZ hS x z0 z1 z2 z3 z4 f0 f1 f2 f3 f4
  try simp only [List.getElem_toArray, List.getElem_cons_zero, List.getElem_cons_succ, Act.put, List.setIfInBounds_toArray, List.set_cons_zero, List.set_cons_succ]
  refine wpF_done (bs := [true, true]) (vs := [.pointer (some ⟨pp1, 0, none⟩), .pointer (some ⟨qq1, 0, none⟩)]) (by kernel_rfl) (by kernel_rfl) rfl (fun w2 hS => ?_) _
  refine NoPanic.normal ?_
  obtain ⟨hge, hge2, hne, hbox, hbox2, hb⟩ := (hS.2 bits_tt').done
  obtain ⟨cX2_0, cX2_1, cX2_2, cX2_3, cX2_4⟩ := hbox.five
  obtain ⟨cX3_0, cX3_1, cX3_2, cX3_3, cX3_4⟩ := hbox2.five
  clear hge hge2 hne hbox hbox2
  clear hS
  replace cX0_0 := cell_later hb cX0_0; replace cX0_1 := cell_later hb cX0_1
  replace sX0 : w.heap.size < w2.heap.size := World.block_lt_of_cell? _ _ cX0_0
  replace cX1_0 := cell_later hb cX1_0; replace cX1_1 := cell_later hb cX1_1
  replace sX1 : w.heap.size + 1 < w2.heap.size ∧ w.heap.size < w2.heap.size := by have h : w.heap.size + 1 < w2.heap.size := World.block_lt_of_cell? _ _ cX1_0; exact ⟨h, by omega⟩
  have sX2 : pp1 < w2.heap.size := World.block_lt_of_cell? _ _ cX2_0
  have sX3 : qq1 < w2.heap.size := World.block_lt_of_cell? _ _ cX3_0
  replace kk := bC kk hb
  clear hb
  go_wp2_with fail
  (with_reducible refine (h2.out _ (ft.later kk)).mono ?_); rintro e w3 ⟨rfl, hb⟩
  replace cX0_0 := cell_later hb cX0_0; replace cX0_1 := cell_later hb cX0_1
  replace sX0 : w.heap.size < w3.heap.size := World.block_lt_of_cell? _ _ cX0_0
  replace cX1_0 := cell_later hb cX1_0; replace cX1_1 := cell_later hb cX1_1
  replace sX1 : w.heap.size + 1 < w3.heap.size ∧ w.heap.size < w3.heap.size := by have h : w.heap.size + 1 < w3.heap.size := World.block_lt_of_cell? _ _ cX1_0; exact ⟨h, by omega⟩
  replace cX2_0 := cell_later hb cX2_0; replace cX2_1 := cell_later hb cX2_1; replace cX2_2 := cell_later hb cX2_2; replace cX2_3 := cell_later hb cX2_3; replace cX2_4 := cell_later hb cX2_4
  replace sX2 : pp1 < w3.heap.size := World.block_lt_of_cell? _ _ cX2_0
  replace cX3_0 := cell_later hb cX3_0; replace cX3_1 := cell_later hb cX3_1; replace cX3_2 := cell_later hb cX3_2; replace cX3_3 := cell_later hb cX3_3; replace cX3_4 := cell_later hb cX3_4
  replace sX3 : qq1 < w3.heap.size := World.block_lt_of_cell? _ _ cX3_0
  replace kk := bC kk hb
  clear hb
  go_wp2_with fail
  (with_reducible refine (h3.out _ (ft.later kk)).mono ?_); rintro e w4 ⟨rfl, hb⟩
  replace cX0_0 := cell_later hb cX0_0; replace cX0_1 := cell_later hb cX0_1
  replace sX0 : w.heap.size < w4.heap.size := World.block_lt_of_cell? _ _ cX0_0
  replace cX1_0 := cell_later hb cX1_0; replace cX1_1 := cell_later hb cX1_1
  replace sX1 : w.heap.size + 1 < w4.heap.size ∧ w.heap.size < w4.heap.size := by have h : w.heap.size + 1 < w4.heap.size := World.block_lt_of_cell? _ _ cX1_0; exact ⟨h, by omega⟩
  replace cX2_0 := cell_later hb cX2_0; replace cX2_1 := cell_later hb cX2_1; replace cX2_2 := cell_later hb cX2_2; replace cX2_3 := cell_later hb cX2_3; replace cX2_4 := cell_later hb cX2_4
  replace sX2 : pp1 < w4.heap.size := World.block_lt_of_cell? _ _ cX2_0
  replace cX3_0 := cell_later hb cX3_0; replace cX3_1 := cell_later hb cX3_1; replace cX3_2 := cell_later hb cX3_2; replace cX3_3 := cell_later hb cX3_3; replace cX3_4 := cell_later hb cX3_4
  replace sX3 : qq1 < w4.heap.size := World.block_lt_of_cell? _ _ cX3_0
  replace kk := bC kk hb
  clear hb
  go_wp2_with fail
  refine wp_region_noPanic ?_
  refine wp_region_F [] [] (LS w4 (fun _ _ => True) (fun _ _ _ => True)) (by kernel_rfl) (bs := []) (vs := []) (by kernel_rfl) rfl (LS.before noBits_nil (Below.refl _ _).drew trivial) ?_
  refine wpF_yield (i := 0) (v := ?vq118) rfl (by kernel_rfl) (by kernel_rfl) (fun _ _ _ h => h) (Or.inl ⟨by rfl, ?yq118⟩) ?rq118
  case yq118 => (intro wq; go_simp; try (with_reducible rfl))
  try simp only [List.getElem_toArray, List.getElem_cons_zero, List.getElem_cons_succ, Act.put, List.setIfInBounds_toArray, List.set_cons_zero, List.set_cons_succ]
  refine wpF_take (i := 1) (v := ?vq119) rfl (by kernel_rfl) (by kernel_rfl) (fun _ _ _ h => h) (LS.load (by rfl) ?yq119) ?rq119
  case yq119 => (intro wq hb; have lcX0_0 := cell_later hb cX0_0; have lcX0_1 := cell_later hb cX0_1; go_simp; try (with_reducible rfl))
  try simp only [List.getElem_toArray, List.getElem_cons_zero, List.getElem_cons_succ, Act.put, List.setIfInBounds_toArray, List.set_cons_zero, List.set_cons_succ]
  refine wpF_take (i := 2) (v := _) rfl (by kernel_rfl) (by kernel_rfl) (fun _ _ _ h => h) (LS.callW lasts_true (by rfl) _ _ ?yq120 ((fun W hb => h4.out W (ft.later (bC kk hb))))) ?rq120
  case yq120 => (intro wq; go_simp; try (with_reducible rfl))
  try simp only [List.getElem_toArray, List.getElem_cons_zero, List.getElem_cons_succ, Act.put, List.setIfInBounds_toArray, List.set_cons_zero, List.set_cons_succ]
  refine wpF_yield (i := 3) (v := ?vq121) rfl (by kernel_rfl) (by kernel_rfl) (fun _ _ _ h => h) (Or.inl ⟨by rfl, ?yq121⟩) ?rq121
  case yq121 => (intro wq; go_simp; try (with_reducible rfl))
  try simp only [List.getElem_toArray, List.getElem_cons_zero, List.getElem_cons_succ, Act.put, List.setIfInBounds_toArray, List.set_cons_zero, List.set_cons_succ]
  refine wpF_take (i := 4) (v := ?vq122) rfl (by kernel_rfl) (by kernel_rfl) (fun _ _ _ h => h) (LS.load (by rfl) ?yq122) ?rq122
  case yq122 => (intro wq hb; have lcX1_0 := cell_later hb cX1_0; have lcX1_1 := cell_later hb cX1_1; go_simp; try (with_reducible rfl))
  try simp only [List.getElem_toArray, List.getElem_cons_zero, List.getElem_cons_succ, Act.put, List.setIfInBounds_toArray, List.set_cons_zero, List.set_cons_succ]
  refine wpF_take (i := 5) (v := _) rfl (by kernel_rfl) (by kernel_rfl) (fun _ _ _ h => h) (LS.callW lasts_true (by rfl) _ _ ?yq123 ((fun W hb => h5.out W (ft.later (bC kk hb))))) ?rq123
  case yq123 => (intro wq; go_simp; try (with_reducible rfl))
  try simp only [List.getElem_toArray, List.getElem_cons_zero, List.getElem_cons_succ, Act.put, List.setIfInBounds_toArray, List.set_cons_zero, List.set_cons_succ]
  refine wpF_take (i := 6) (v := _) rfl (by kernel_rfl) (by kernel_rfl) (fun _ _ _ h => h) (LS.call lasts_true (by rfl) _ _ ?yq124 (h6.out)) ?rq124
  case yq124 => (intro wq; go_simp; try (with_reducible rfl))
  try simp only [List.getElem_toArray, List.getElem_cons_zero, List.getElem_cons_succ, Act.put, List.setIfInBounds_toArray, List.set_cons_zero, List.set_cons_succ]
  refine wpF_yield (i := 7) (v := ?vq125) rfl (by kernel_rfl) (by kernel_rfl) (fun _ _ _ h => h) (Or.inl ⟨by rfl, ?yq125⟩) ?rq125
  case yq125 => (intro wq; go_simp; try (with_reducible rfl))
  try simp only [List.getElem_toArray, List.getElem_cons_zero, List.getElem_cons_succ, Act.put, List.setIfInBounds_toArray, List.set_cons_zero, List.set_cons_succ]
  refine wpF_done (bs := []) (vs := []) (by kernel_rfl) (by kernel_rfl) rfl (fun w6 hS => ?_) _
  refine NoPanic.normal ?_
  obtain ⟨hb, _⟩ := hS.1 noBits_nil
  clear hS
  clear cX0_0 cX0_1 sX0
  clear cX1_0 cX1_1 sX1
  replace cX2_0 := cell_later hb cX2_0; replace cX2_1 := cell_later hb cX2_1; replace cX2_2 := cell_later hb cX2_2; replace cX2_3 := cell_later hb cX2_3; replace cX2_4 := cell_later hb cX2_4
  replace sX2 : pp1 < w6.heap.size := World.block_lt_of_cell? _ _ cX2_0
  replace cX3_0 := cell_later hb cX3_0; replace cX3_1 := cell_later hb cX3_1; replace cX3_2 := cell_later hb cX3_2; replace cX3_3 := cell_later hb cX3_3; replace cX3_4 := cell_later hb cX3_4
  replace sX3 : qq1 < w6.heap.size := World.block_lt_of_cell? _ _ cX3_0
  replace kk := bC kk hb
  clear hb
  go_wp2_with fail
  (with_reducible refine (h7.out _).mono ?_); rintro e w7 ⟨rfl, hb⟩
  replace cX2_0 := cell_later hb cX2_0; replace cX2_1 := cell_later hb cX2_1; replace cX2_2 := cell_later hb cX2_2; replace cX2_3 := cell_later hb cX2_3; replace cX2_4 := cell_later hb cX2_4
  replace sX2 : pp1 < w7.heap.size := World.block_lt_of_cell? _ _ cX2_0
  replace cX3_0 := cell_later hb cX3_0; replace cX3_1 := cell_later hb cX3_1; replace cX3_2 := cell_later hb cX3_2; replace cX3_3 := cell_later hb cX3_3; replace cX3_4 := cell_later hb cX3_4
  replace sX3 : qq1 < w7.heap.size := World.block_lt_of_cell? _ _ cX3_0
  replace kk := bC kk hb
  clear hb
  go_wp2_with fail
  (with_reducible refine (h8.out _ (ft.later kk)).mono ?_); rintro e w8 ⟨rfl, hb⟩
  clear cX2_0 cX2_1 cX2_2 cX2_3 cX2_4 sX2
  clear cX3_0 cX3_1 cX3_2 cX3_3 cX3_4 sX3
  replace kk := bC kk hb
  clear hb
  go_wp2_with fail
  go_ret
  exact ⟨rfl, kk⟩

set_option maxHeartbeats 4000000 in
set_option maxRecDepth 100000 in
theorem order9_same (f ah al bh bl ph pl qh ql k xc xe xh xl yc z : Int) (less same : Bool)
    (h0 : Hid (∀ w, FTab w → Calls Tryd.prog 10 #[.int .u8 f, .agg #[.int .u64 ah, .int .u64 al]] w fun e w' => e = .returned (.agg #[.bool false, .int .u8 xc, .int .i64 xe, .int .u64 xh, .int .u64 xl]) ∧ Below w.heap.size w w'))
    (h1 : Hid (∀ w, FTab w → Calls Tryd.prog 10 #[.int .u8 f, .agg #[.int .u64 bh, .int .u64 bl]] w fun e w' => e = .returned (.agg #[.bool false, .int .u8 yc, .int .i64 xe, .int .u64 xh, .int .u64 xl]) ∧ Below w.heap.size w w'))
    (h2 : Hid (∀ w, FTab w → Calls Tryd.prog 18 #[.int .u8 f, .agg #[.int .u64 ah, .int .u64 al]] w fun e w' => e = .returned (.bool true) ∧ Below w.heap.size w w'))
    (h3 : Hid (∀ w, FTab w → Calls Tryd.prog 18 #[.int .u8 f, .agg #[.int .u64 bh, .int .u64 bl]] w fun e w' => e = .returned (.bool true) ∧ Below w.heap.size w w'))
    (h4 : Hid (∀ w, FTab w → Calls Tryd.prog 17 #[.int .u8 f, .agg #[.int .u64 ah, .int .u64 al]] w fun e w' => e = .returned (.agg #[.int .u64 ph, .int .u64 pl]) ∧ Below w.heap.size w w'))
    (h5 : Hid (∀ w, FTab w → Calls Tryd.prog 17 #[.int .u8 f, .agg #[.int .u64 bh, .int .u64 bl]] w fun e w' => e = .returned (.agg #[.int .u64 qh, .int .u64 ql]) ∧ Below w.heap.size w w'))
    (h6 : Hid (∀ w, Calls Tryd.prog 19 #[.agg #[.int .u64 ph, .int .u64 pl], .agg #[.int .u64 qh, .int .u64 ql]] w fun e w' => e = .returned (.int .i64 k) ∧ Below w.heap.size w w'))
    (h7 : Hid (∀ w, Calls Tryd.prog 19 #[.agg #[.int .u64 xh, .int .u64 xl], .agg #[.int .u64 xh, .int .u64 xl]] w fun e w' => e = .returned (.int .i64 z) ∧ Below w.heap.size w w'))
    (h8 : Hid (∀ w, FTab w → Calls Tryd.prog 12 #[] w fun e w' => e = .returned (.bool true) ∧ Below w.heap.size w w')) (j0 : (xc == 0) = false) (j1 : (yc == 0) = false) (j2 : decide (k < 0) = less) (j3 : (k == 0) = same) (e1 : decide (xe < xe) = false) (e3 : decide (z < 0) = less) (hs : same = true) (w : World) (ft : FTab w) :
    Calls Tryd.prog 6 #[.int .u8 f, .agg #[.int .u64 ah, .int .u64 al], .agg #[.int .u64 bh, .int .u64 bl]] w fun e w' => e = .returned (.bool true) ∧ Below w.heap.size w w' := by
  subst hs
  go_enter Tryd.func6, Tryd.ntmps6
  go_wp2_with fail
  refine wp_forget (fun W => W.cell? ⟨w.heap.size, 0, none⟩ = some (.int .u64 ah) ∧ W.cell? ⟨w.heap.size, 1, none⟩ = some (.int .u64 al) ∧ W.cell? ⟨w.heap.size + 1, 0, none⟩ = some (.int .u64 bh) ∧ W.cell? ⟨w.heap.size + 1, 1, none⟩ = some (.int .u64 bl) ∧ Below w.heap.size w W) ⟨by go_simp, by go_simp, by go_simp, by go_simp, (bA (bA (Below.refl _ _) _) _)⟩ (fun w1 hst => ?_)
  obtain ⟨cX0_0, cX0_1, cX1_0, cX1_1, kk⟩ := hst
  have sX0 : w.heap.size < w1.heap.size := World.block_lt_of_cell? _ _ cX0_0
  have sX1 : w.heap.size + 1 < w1.heap.size ∧ w.heap.size < w1.heap.size := by have h : w.heap.size + 1 < w1.heap.size := World.block_lt_of_cell? _ _ cX1_0; exact ⟨h, by omega⟩
  refine wp_region_noPanic ?_
  refine wp_region_F [8, 9] [7, 8] (LS w1 (ANN w1 28 #[.bool false, .int .u8 0, .int .i64 0, .int .u64 0, .int .u64 0]) (ZNN w1 28 #[.bool false, .int .u8 0, .int .i64 0, .int .u64 0, .int .u64 0] (.bool false) (.int .u8 xc) (.int .i64 xe) (.int .u64 xh) (.int .u64 xl) (.bool false) (.int .u8 yc) (.int .i64 xe) (.int .u64 xh) (.int .u64 xl))) (by kernel_rfl) (bs := [false, false]) (vs := [undef, undef]) (by kernel_rfl) rfl (LS.before noBits_ff (Below.refl _ _).drew (ANN.start _ _ _ _)) ?_
  refine wpF_yield (i := 0) (v := ?vq126) rfl (by kernel_rfl) (by kernel_rfl) (fun _ _ _ h => h) (Or.inl ⟨by rfl, ?yq126⟩) ?rq126
  case yq126 => (intro wq; go_simp; try (with_reducible rfl))
  try simp only [List.getElem_toArray, List.getElem_cons_zero, List.getElem_cons_succ, Act.put, List.setIfInBounds_toArray, List.set_cons_zero, List.set_cons_succ]
  refine wpF_take3 (i := 1) (v := ?vq127) rfl (by kernel_rfl) (by kernel_rfl) (fun _ _ _ h => h) (LS.load (by rfl) ?yq127) ?rq127
  case yq127 => (intro wq hb; have lcX0_0 := cell_later hb cX0_0; have lcX0_1 := cell_later hb cX0_1; go_simp; try (with_reducible rfl))
  try simp only [List.getElem_toArray, List.getElem_cons_zero, List.getElem_cons_succ, Act.put, List.setIfInBounds_toArray, List.set_cons_zero, List.set_cons_succ]
  refine wpF_take3 (i := 2) (v := _) rfl (by kernel_rfl) (by kernel_rfl) (fun _ _ _ h => h) (LS.callW (ANN.lasts w1 _ _) (by rfl) _ _ ?yq128 ((fun W hb => h0.out W (ft.later (bC kk hb))))) ?rq128
  case yq128 => (intro wq; go_simp; try (with_reducible rfl))
  try simp only [List.getElem_toArray, List.getElem_cons_zero, List.getElem_cons_succ, Act.put, List.setIfInBounds_toArray, List.set_cons_zero, List.set_cons_succ]
  refine wpF_yield (i := 3) (v := ?vq129) rfl (by kernel_rfl) (by kernel_rfl) (fun _ _ _ h => h) (Or.inl ⟨by rfl, ?yq129⟩) ?rq129
  case yq129 => (intro wq; go_simp; try (with_reducible rfl))
  try simp only [List.getElem_toArray, List.getElem_cons_zero, List.getElem_cons_succ, Act.put, List.setIfInBounds_toArray, List.set_cons_zero, List.set_cons_succ]
  refine wpF_take3 (i := 4) (v := ?vq130) rfl (by kernel_rfl) (by kernel_rfl) (fun _ _ _ h => h) (LS.load (by rfl) ?yq130) ?rq130
  case yq130 => (intro wq hb; have lcX1_0 := cell_later hb cX1_0; have lcX1_1 := cell_later hb cX1_1; go_simp; try (with_reducible rfl))
  try simp only [List.getElem_toArray, List.getElem_cons_zero, List.getElem_cons_succ, Act.put, List.setIfInBounds_toArray, List.set_cons_zero, List.set_cons_succ]
  refine wpF_take3 (i := 5) (v := _) rfl (by kernel_rfl) (by kernel_rfl) (fun _ _ _ h => h) (LS.callW (ANN.lasts w1 _ _) (by rfl) _ _ ?yq131 ((fun W hb => h1.out W (ft.later (bC kk hb))))) ?rq131
  case yq131 => (intro wq; go_simp; try (with_reducible rfl))
  try simp only [List.getElem_toArray, List.getElem_cons_zero, List.getElem_cons_succ, Act.put, List.setIfInBounds_toArray, List.set_cons_zero, List.set_cons_succ]
  refine wpF_two (i := 6) (j := 7) (bs := [false, false]) (bi := [false, false]) (bj := [false, false]) (vs := [undef, undef]) (by kernel_rfl) rfl rfl (by kernel_rfl) rfl (by kernel_rfl) (by kernel_rfl) (fun wq hS K hK => ?_) (fun wq hS K hK => ?_)
  obtain ⟨hb, hA⟩ := hS.1 noBits_ff
  go_simp
  refine hK.out _ _ (LS.before noBits_ff (bA hb _) (ANN.first hb rfl)) ?_
  clear hK hA hb hS
  generalize wq.heap.size = pp1 at *
  try simp only [List.getElem_toArray, List.getElem_cons_zero, List.getElem_cons_succ, Act.put, List.setIfInBounds_toArray, List.set_cons_zero, List.set_cons_succ]
  clear K wq
  refine wpF_step (i := 7) (bs := [false, false]) (bs' := [false, false]) (vs := [.pointer (some ⟨pp1, 0, none⟩), undef]) (by kernel_rfl) rfl (by kernel_rfl) rfl (by kernel_rfl) (fun wq hS K hK => ?_)
  obtain ⟨hb, hA⟩ := hS.1 noBits_ff
  go_simp
  refine hK.out _ _ (LS.before noBits_ff (bA hb _) (ANN.second hb hA rfl)) ?_
  clear hK hA hb hS
  generalize wq.heap.size = qq1 at *
  try simp only [List.getElem_toArray, List.getElem_cons_zero, List.getElem_cons_succ, Act.put, List.setIfInBounds_toArray, List.set_cons_zero, List.set_cons_succ]
  clear K wq
  revert pp1 qq1
  refine ?rest
  rotate_left
  obtain ⟨hb, hA⟩ := hS.1 noBits_ff
  go_simp
  refine hK.out _ _ (LS.before noBits_ff (bA hb _) (ANN.first' hb rfl)) ?_
  clear hK hA hb hS
  generalize wq.heap.size = qq1 at *
  try simp only [List.getElem_toArray, List.getElem_cons_zero, List.getElem_cons_succ, Act.put, List.setIfInBounds_toArray, List.set_cons_zero, List.set_cons_succ]
  clear K wq
  refine wpF_step (i := 6) (bs := [false, false]) (bs' := [false, false]) (vs := [undef, .pointer (some ⟨qq1, 0, none⟩)]) (by kernel_rfl) rfl (by kernel_rfl) rfl (by kernel_rfl) (fun wq hS K hK => ?_)
  obtain ⟨hb, hA⟩ := hS.1 noBits_ff
  go_simp
  refine hK.out _ _ (LS.before noBits_ff (bA hb _) (ANN.second' hb hA rfl)) ?_
  clear hK hA hb hS
  generalize wq.heap.size = pp1 at *
  try simp only [List.getElem_toArray, List.getElem_cons_zero, List.getElem_cons_succ, Act.put, List.setIfInBounds_toArray, List.set_cons_zero, List.set_cons_succ]
  clear K wq
  rw [Array.setIfInBounds_comm true true (i := 7) (j := 6) (by decide)]
  exact ?rest pp1 qq1
  intro pp1 qq1
  refine wpF_step (i := 8) (bs := [false, false]) (bs' := [true, false]) (vs := [.pointer (some ⟨pp1, 0, none⟩), .pointer (some ⟨qq1, 0, none⟩)]) (by kernel_rfl) rfl (by kernel_rfl) rfl (by kernel_rfl) (fun wq hS K hK => ?_)
  obtain ⟨hb, hA⟩ := hS.1 noBits_ff
  have ZZ := Lib.hid (ZNN.one hb hA (.bool false) (.int .u8 xc) (.int .i64 xe) (.int .u64 xh) (.int .u64 xl) (.bool false) (.int .u8 yc) (.int .i64 xe) (.int .u64 xh) (.int .u64 xl))
  obtain ⟨⟨hp, x⟩, _, _⟩ := hA.both
  obtain ⟨z0, z1, z2, z3, z4⟩ := x.five
  have f0 := x.frozen 0; have f1 := x.frozen 1; have f2 := x.frozen 2; have f3 := x.frozen 3; have f4 := x.frozen 4
  go_simp
  refine hK.out _ _ (LS.behind bits_tf' ZZ.out) ?_
  clear hK hA hb ZZ hS hp x z0 z1 z2 z3 z4 f0 f1 f2 f3 f4
  try simp only [List.getElem_toArray, List.getElem_cons_zero, List.getElem_cons_succ, Act.put, List.setIfInBounds_toArray, List.set_cons_zero, List.set_cons_succ]
  refine wpF_step (i := 9) (bs := [true, false]) (bs' := [true, true]) (vs := [.pointer (some ⟨pp1, 0, none⟩), .pointer (some ⟨qq1, 0, none⟩)]) (by kernel_rfl) rfl (by kernel_rfl) rfl (by kernel_rfl) (fun wq hS K hK => ?_)
  have hZ := hS.2 bits_tf'
  have ZZ := Lib.hid hZ.two
  have x := hZ.cells
  obtain ⟨z0, z1, z2, z3, z4⟩ := x.five
  have f0 := x.frozen 0; have f1 := x.frozen 1; have f2 := x.frozen 2; have f3 := x.frozen 3; have f4 := x.frozen 4
  go_simp
  refine hK.out _ _ (LS.behind bits_tt' ZZ.out) ?_
  clear hK hZ ZZ hS x z0 z1 z2 z3 z4 f0 f1 f2 f3 f4
  try simp only [List.getElem_toArray, List.getElem_cons_zero, List.getElem_cons_succ, Act.put, List.setIfInBounds_toArray, List.set_cons_zero, List.set_cons_succ]
  refine wpF_done (bs := [true, true]) (vs := [.pointer (some ⟨pp1, 0, none⟩), .pointer (some ⟨qq1, 0, none⟩)]) (by kernel_rfl) (by kernel_rfl) rfl (fun w2 hS => ?_) _
  refine NoPanic.normal ?_
  obtain ⟨hge, hge2, hne, hbox, hbox2, hb⟩ := (hS.2 bits_tt').done
  obtain ⟨cX2_0, cX2_1, cX2_2, cX2_3, cX2_4⟩ := hbox.five
  obtain ⟨cX3_0, cX3_1, cX3_2, cX3_3, cX3_4⟩ := hbox2.five
  clear hge hge2 hne hbox hbox2
  clear hS
  replace cX0_0 := cell_later hb cX0_0; replace cX0_1 := cell_later hb cX0_1
  replace sX0 : w.heap.size < w2.heap.size := World.block_lt_of_cell? _ _ cX0_0
  replace cX1_0 := cell_later hb cX1_0; replace cX1_1 := cell_later hb cX1_1
  replace sX1 : w.heap.size + 1 < w2.heap.size ∧ w.heap.size < w2.heap.size := by have h : w.heap.size + 1 < w2.heap.size := World.block_lt_of_cell? _ _ cX1_0; exact ⟨h, by omega⟩
  have sX2 : pp1 < w2.heap.size := World.block_lt_of_cell? _ _ cX2_0
  have sX3 : qq1 < w2.heap.size := World.block_lt_of_cell? _ _ cX3_0
  replace kk := bC kk hb
  clear hb
  go_wp2_with fail
  (with_reducible refine (h2.out _ (ft.later kk)).mono ?_); rintro e w3 ⟨rfl, hb⟩
  replace cX0_0 := cell_later hb cX0_0; replace cX0_1 := cell_later hb cX0_1
  replace sX0 : w.heap.size < w3.heap.size := World.block_lt_of_cell? _ _ cX0_0
  replace cX1_0 := cell_later hb cX1_0; replace cX1_1 := cell_later hb cX1_1
  replace sX1 : w.heap.size + 1 < w3.heap.size ∧ w.heap.size < w3.heap.size := by have h : w.heap.size + 1 < w3.heap.size := World.block_lt_of_cell? _ _ cX1_0; exact ⟨h, by omega⟩
  replace cX2_0 := cell_later hb cX2_0; replace cX2_1 := cell_later hb cX2_1; replace cX2_2 := cell_later hb cX2_2; replace cX2_3 := cell_later hb cX2_3; replace cX2_4 := cell_later hb cX2_4
  replace sX2 : pp1 < w3.heap.size := World.block_lt_of_cell? _ _ cX2_0
  replace cX3_0 := cell_later hb cX3_0; replace cX3_1 := cell_later hb cX3_1; replace cX3_2 := cell_later hb cX3_2; replace cX3_3 := cell_later hb cX3_3; replace cX3_4 := cell_later hb cX3_4
  replace sX3 : qq1 < w3.heap.size := World.block_lt_of_cell? _ _ cX3_0
  replace kk := bC kk hb
  clear hb
  go_wp2_with fail
  (with_reducible refine (h3.out _ (ft.later kk)).mono ?_); rintro e w4 ⟨rfl, hb⟩
  replace cX0_0 := cell_later hb cX0_0; replace cX0_1 := cell_later hb cX0_1
  replace sX0 : w.heap.size < w4.heap.size := World.block_lt_of_cell? _ _ cX0_0
  replace cX1_0 := cell_later hb cX1_0; replace cX1_1 := cell_later hb cX1_1
  replace sX1 : w.heap.size + 1 < w4.heap.size ∧ w.heap.size < w4.heap.size := by have h : w.heap.size + 1 < w4.heap.size := World.block_lt_of_cell? _ _ cX1_0; exact ⟨h, by omega⟩
  replace cX2_0 := cell_later hb cX2_0; replace cX2_1 := cell_later hb cX2_1; replace cX2_2 := cell_later hb cX2_2; replace cX2_3 := cell_later hb cX2_3; replace cX2_4 := cell_later hb cX2_4
  replace sX2 : pp1 < w4.heap.size := World.block_lt_of_cell? _ _ cX2_0
  replace cX3_0 := cell_later hb cX3_0; replace cX3_1 := cell_later hb cX3_1; replace cX3_2 := cell_later hb cX3_2; replace cX3_3 := cell_later hb cX3_3; replace cX3_4 := cell_later hb cX3_4
  replace sX3 : qq1 < w4.heap.size := World.block_lt_of_cell? _ _ cX3_0
  replace kk := bC kk hb
  clear hb
  go_wp2_with fail
  refine wp_region_noPanic ?_
  refine wp_region_F [] [] (LS w4 (fun _ _ => True) (fun _ _ _ => True)) (by kernel_rfl) (bs := []) (vs := []) (by kernel_rfl) rfl (LS.before noBits_nil (Below.refl _ _).drew trivial) ?_
  refine wpF_yield (i := 0) (v := ?vq132) rfl (by kernel_rfl) (by kernel_rfl) (fun _ _ _ h => h) (Or.inl ⟨by rfl, ?yq132⟩) ?rq132
  case yq132 => (intro wq; go_simp; try (with_reducible rfl))
  try simp only [List.getElem_toArray, List.getElem_cons_zero, List.getElem_cons_succ, Act.put, List.setIfInBounds_toArray, List.set_cons_zero, List.set_cons_succ]
  refine wpF_take (i := 1) (v := ?vq133) rfl (by kernel_rfl) (by kernel_rfl) (fun _ _ _ h => h) (LS.load (by rfl) ?yq133) ?rq133
  case yq133 => (intro wq hb; have lcX0_0 := cell_later hb cX0_0; have lcX0_1 := cell_later hb cX0_1; go_simp; try (with_reducible rfl))
  try simp only [List.getElem_toArray, List.getElem_cons_zero, List.getElem_cons_succ, Act.put, List.setIfInBounds_toArray, List.set_cons_zero, List.set_cons_succ]
  refine wpF_take (i := 2) (v := _) rfl (by kernel_rfl) (by kernel_rfl) (fun _ _ _ h => h) (LS.callW lasts_true (by rfl) _ _ ?yq134 ((fun W hb => h4.out W (ft.later (bC kk hb))))) ?rq134
  case yq134 => (intro wq; go_simp; try (with_reducible rfl))
  try simp only [List.getElem_toArray, List.getElem_cons_zero, List.getElem_cons_succ, Act.put, List.setIfInBounds_toArray, List.set_cons_zero, List.set_cons_succ]
  refine wpF_yield (i := 3) (v := ?vq135) rfl (by kernel_rfl) (by kernel_rfl) (fun _ _ _ h => h) (Or.inl ⟨by rfl, ?yq135⟩) ?rq135
  case yq135 => (intro wq; go_simp; try (with_reducible rfl))
  try simp only [List.getElem_toArray, List.getElem_cons_zero, List.getElem_cons_succ, Act.put, List.setIfInBounds_toArray, List.set_cons_zero, List.set_cons_succ]
  refine wpF_take (i := 4) (v := ?vq136) rfl (by kernel_rfl) (by kernel_rfl) (fun _ _ _ h => h) (LS.load (by rfl) ?yq136) ?rq136
  case yq136 => (intro wq hb; have lcX1_0 := cell_later hb cX1_0; have lcX1_1 := cell_later hb cX1_1; go_simp; try (with_reducible rfl))
  try simp only [List.getElem_toArray, List.getElem_cons_zero, List.getElem_cons_succ, Act.put, List.setIfInBounds_toArray, List.set_cons_zero, List.set_cons_succ]
  refine wpF_take (i := 5) (v := _) rfl (by kernel_rfl) (by kernel_rfl) (fun _ _ _ h => h) (LS.callW lasts_true (by rfl) _ _ ?yq137 ((fun W hb => h5.out W (ft.later (bC kk hb))))) ?rq137
  case yq137 => (intro wq; go_simp; try (with_reducible rfl))
  try simp only [List.getElem_toArray, List.getElem_cons_zero, List.getElem_cons_succ, Act.put, List.setIfInBounds_toArray, List.set_cons_zero, List.set_cons_succ]
  refine wpF_take (i := 6) (v := _) rfl (by kernel_rfl) (by kernel_rfl) (fun _ _ _ h => h) (LS.call lasts_true (by rfl) _ _ ?yq138 (h6.out)) ?rq138
  case yq138 => (intro wq; go_simp; try (with_reducible rfl))
  try simp only [List.getElem_toArray, List.getElem_cons_zero, List.getElem_cons_succ, Act.put, List.setIfInBounds_toArray, List.set_cons_zero, List.set_cons_succ]
  refine wpF_yield (i := 7) (v := ?vq139) rfl (by kernel_rfl) (by kernel_rfl) (fun _ _ _ h => h) (Or.inl ⟨by rfl, ?yq139⟩) ?rq139
  case yq139 => (intro wq; go_simp; try (with_reducible rfl))
  try simp only [List.getElem_toArray, List.getElem_cons_zero, List.getElem_cons_succ, Act.put, List.setIfInBounds_toArray, List.set_cons_zero, List.set_cons_succ]
  refine wpF_done (bs := []) (vs := []) (by kernel_rfl) (by kernel_rfl) rfl (fun w6 hS => ?_) _
  refine NoPanic.normal ?_
  obtain ⟨hb, _⟩ := hS.1 noBits_nil
  clear hS
  clear cX0_0 cX0_1 sX0
  clear cX1_0 cX1_1 sX1
  replace cX2_0 := cell_later hb cX2_0; replace cX2_1 := cell_later hb cX2_1; replace cX2_2 := cell_later hb cX2_2; replace cX2_3 := cell_later hb cX2_3; replace cX2_4 := cell_later hb cX2_4
  replace sX2 : pp1 < w6.heap.size := World.block_lt_of_cell? _ _ cX2_0
  replace cX3_0 := cell_later hb cX3_0; replace cX3_1 := cell_later hb cX3_1; replace cX3_2 := cell_later hb cX3_2; replace cX3_3 := cell_later hb cX3_3; replace cX3_4 := cell_later hb cX3_4
  replace sX3 : qq1 < w6.heap.size := World.block_lt_of_cell? _ _ cX3_0
  replace kk := bC kk hb
  clear hb
  go_wp2_with fail
  (with_reducible refine (h7.out _).mono ?_); rintro e w7 ⟨rfl, hb⟩
  replace cX2_0 := cell_later hb cX2_0; replace cX2_1 := cell_later hb cX2_1; replace cX2_2 := cell_later hb cX2_2; replace cX2_3 := cell_later hb cX2_3; replace cX2_4 := cell_later hb cX2_4
  replace sX2 : pp1 < w7.heap.size := World.block_lt_of_cell? _ _ cX2_0
  replace cX3_0 := cell_later hb cX3_0; replace cX3_1 := cell_later hb cX3_1; replace cX3_2 := cell_later hb cX3_2; replace cX3_3 := cell_later hb cX3_3; replace cX3_4 := cell_later hb cX3_4
  replace sX3 : qq1 < w7.heap.size := World.block_lt_of_cell? _ _ cX3_0
  replace kk := bC kk hb
  clear hb
  go_wp2_with fail
  (with_reducible refine (h8.out _ (ft.later kk)).mono ?_); rintro e w8 ⟨rfl, hb⟩
  clear cX2_0 cX2_1 cX2_2 cX2_3 cX2_4 sX2
  clear cX3_0 cX3_1 cX3_2 cX3_3 cX3_4 sX3
  replace kk := bC kk hb
  clear hb
  go_wp2_with fail
  go_ret
  exact ⟨rfl, kk⟩



end Go.Proofs.YtelfjbdpmiopdaaDoor
