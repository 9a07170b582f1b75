/-
  The walk of the statement QuotTwice (2).
-/
import Derived.Test.YtlmgebanfjclcaaQuotW
set_option linter.unusedVariables false
set_option linter.unusedSimpArgs false
set_option maxRecDepth 100000
namespace Go.Proofs.Ytlmgebanfjclcaa
open Go.RowKit
attribute [local go_sem ↓] Go.wp_at_zero Go.wp_at_succ

set_option maxHeartbeats 4000000 in
set_option maxRecDepth 100000 in
theorem twice5_n_nil (rh rl dh dl ah al bh bl n m x y s c q0 q1 q2 q3 x0 x1 x2 x3 : Int) (o p p2 : Bool)
    (h0 : Hid (∀ w, Calls Try.prog 14 #[.agg #[.int .u64 rh, .int .u64 rl], .int .i64 x, .agg #[.int .u64 dh, .int .u64 dl]] w fun e w' => e = .returned (.tuple #[.agg #[.int .u64 ah, .int .u64 al], .bool o, .bool true]) ∧ Below w.heap.size w w'))
    (h1 : Hid (∀ w, Calls Try.prog 24 #[.agg #[.int .u64 rh, .int .u64 rl], .agg #[.int .u64 dh, .int .u64 dl]] w fun e w' => e = .returned (.int .i64 c) ∧ Below w.heap.size w w'))
    (h2 : Hid (∀ w, Calls Try.prog 14 #[.agg #[.int .u64 ah, .int .u64 al], .int .i64 y, .agg #[.int .u64 dh, .int .u64 dl]] w fun e w' => e = .returned (.tuple #[.agg #[.int .u64 bh, .int .u64 bl], .bool p, .bool true]) ∧ Below w.heap.size w w'))
    (h3 : Hid (∀ w, Calls Try.prog 14 #[.agg #[.int .u64 rh, .int .u64 rl], .int .i64 s, .agg #[.int .u64 dh, .int .u64 dl]] w fun e w' => e = .returned (.tuple #[.agg #[.int .u64 bh, .int .u64 bl], .bool p2, .bool true]) ∧ Below w.heap.size w w'))
    (h4 : Hid (∀ w, Calls Try.prog 23 #[.agg #[.int .u64 rh, .int .u64 rl]] w fun e w' => e = .returned (.agg #[.int .u64 rl, .int .u64 rh, .int .u64 0, .int .u64 0]) ∧ Below w.heap.size w w'))
    (h5 : Hid (∀ w, Calls Try.prog 27 #[.agg #[.int .u64 rl, .int .u64 rh, .int .u64 0, .int .u64 0], .int .i64 x] w fun e w' => e = .returned (.agg #[.int .u64 x0, .int .u64 x1, .int .u64 x2, .int .u64 x3]) ∧ Below w.heap.size w w'))
    (h6 : Hid (∀ w, Calls Try.prog 10 #[.agg #[.int .u64 x0, .int .u64 x1, .int .u64 x2, .int .u64 x3], .agg #[.int .u64 dh, .int .u64 dl]] w fun e w' => e = .returned (.tuple #[.agg #[.int .u64 q0, .int .u64 q1, .int .u64 q2, .int .u64 q3], .agg #[.int .u64 ah, .int .u64 al], .bool true]) ∧ Below w.heap.size w w'))
    (h8 : Hid (∀ w, Calls Try.prog 13 #[] w fun e w' => e = .returned (.bool true) ∧ Below w.heap.size w w')) (n0 : 0 ≤ n) (n1 : n ≤ 65535) (m0 : 0 ≤ m) (m1 : m ≤ 65535) (hx : n % 3000 = x) (hy : m % 3000 = y) (hc : decide (0 ≤ c) = false) (hs : IntKind.i64.wrap (x + y) = s) (hs2 : wrap64 (x + y) = s) (gy : decide (0 < y) = false) (gx : decide (128 < x) = false) (gz : decide (0 < x) = false) (ho : o = false) (w : World) :
    Calls Try.prog 8 #[.agg #[.int .u64 rh, .int .u64 rl], .int .u16 n, .int .u16 m, .agg #[.int .u64 dh, .int .u64 dl]] w fun e w' => e = .returned (.bool true) ∧ Below w.heap.size w w' := by
  subst ho
  go_enter Try.func8, Try.ntmps8
  go_wp2_with fail
  (with_reducible refine (h0.out _).mono ?_); rintro e w1 ⟨rfl, hb⟩
  have hz := bC (bA (bA (Below.refl _ _) _) _) hb
  have cX0_0 := cell_later hb (a := ⟨w.heap.size, 0, none⟩) (v := .int .u64 rh) (by go_simp)
  have cX0_1 := cell_later hb (a := ⟨w.heap.size, 1, none⟩) (v := .int .u64 rl) (by go_simp)
  have sX0 : w.heap.size < w1.heap.size := World.block_lt_of_cell? _ _ cX0_0
  have cX1_0 := cell_later hb (a := ⟨w.heap.size + 1, 0, none⟩) (v := .int .u64 dh) (by go_simp)
  have cX1_1 := cell_later hb (a := ⟨w.heap.size + 1, 1, none⟩) (v := .int .u64 dl) (by go_simp)
  have sX1 : w.heap.size + 1 < w1.heap.size ∧ w.heap.size < w1.heap.size := by have h : w.heap.size + 1 < w1.heap.size := World.block_lt_of_cell? _ _ cX1_0; exact ⟨h, by omega⟩
  have kk := hz
  clear hb hz
  go_wp2_with fail
  (with_reducible refine (h1.out _).mono ?_); rintro e w2 ⟨rfl, hb⟩
  have hz := bC (bA (Below.refl _ _) _) hb
  replace cX0_0 := cell_later hz cX0_0; replace cX0_1 := cell_later hz cX0_1
  replace sX0 : w.heap.size < w2.heap.size := World.block_lt_of_cell? _ _ cX0_0
  replace cX1_0 := cell_later hz cX1_0; replace cX1_1 := cell_later hz cX1_1
  replace sX1 : w.heap.size + 1 < w2.heap.size ∧ w.heap.size < w2.heap.size := by have h : w.heap.size + 1 < w2.heap.size := World.block_lt_of_cell? _ _ cX1_0; exact ⟨h, by omega⟩
  have cX2_0 := cell_later hb (a := ⟨w1.heap.size, 0, none⟩) (v := .int .u64 ah) (by go_simp)
  have cX2_1 := cell_later hb (a := ⟨w1.heap.size, 1, none⟩) (v := .int .u64 al) (by go_simp)
  have sX2 : w1.heap.size < w2.heap.size := World.block_lt_of_cell? _ _ cX2_0
  replace kk := bC kk hz
  clear hb hz
  go_wp2_with fail
  (with_reducible refine (h2.out _).mono ?_); rintro e w3 ⟨rfl, hb⟩
  replace cX0_0 := cell_later hb cX0_0; replace cX0_1 := cell_later hb cX0_1
  replace sX0 : w.heap.size < w3.heap.size := World.block_lt_of_cell? _ _ cX0_0
  replace cX1_0 := cell_later hb cX1_0; replace cX1_1 := cell_later hb cX1_1
  replace sX1 : w.heap.size + 1 < w3.heap.size ∧ w.heap.size < w3.heap.size := by have h : w.heap.size + 1 < w3.heap.size := World.block_lt_of_cell? _ _ cX1_0; exact ⟨h, by omega⟩
  clear cX2_0 cX2_1 sX2
  replace kk := bC kk hb
  clear hb
  go_wp2_with fail
  (with_reducible refine (h3.out _).mono ?_); rintro e w4 ⟨rfl, hb⟩
  have hz := bC (bA (Below.refl _ _) _) hb
  replace cX0_0 := cell_later hz cX0_0; replace cX0_1 := cell_later hz cX0_1
  replace sX0 : w.heap.size < w4.heap.size := World.block_lt_of_cell? _ _ cX0_0
  replace cX1_0 := cell_later hz cX1_0; replace cX1_1 := cell_later hz cX1_1
  replace sX1 : w.heap.size + 1 < w4.heap.size ∧ w.heap.size < w4.heap.size := by have h : w.heap.size + 1 < w4.heap.size := World.block_lt_of_cell? _ _ cX1_0; exact ⟨h, by omega⟩
  have cX3_0 := cell_later hb (a := ⟨w3.heap.size, 0, none⟩) (v := .int .u64 bh) (by go_simp)
  have cX3_1 := cell_later hb (a := ⟨w3.heap.size, 1, none⟩) (v := .int .u64 bl) (by go_simp)
  have sX3 : w3.heap.size < w4.heap.size := World.block_lt_of_cell? _ _ cX3_0
  replace kk := bC kk hz
  clear hb hz
  go_wp2_with fail
  refine wp_forget (fun W => W.cell? ⟨w.heap.size, 0, none⟩ = some (.int .u64 rh) ∧ W.cell? ⟨w.heap.size, 1, none⟩ = some (.int .u64 rl) ∧ W.cell? ⟨w.heap.size + 1, 0, none⟩ = some (.int .u64 dh) ∧ W.cell? ⟨w.heap.size + 1, 1, none⟩ = some (.int .u64 dl) ∧ Below w.heap.size w W) ⟨cell_later (bA (Below.refl _ _) _) cX0_0, cell_later (bA (Below.refl _ _) _) cX0_1, cell_later (bA (Below.refl _ _) _) cX1_0, cell_later (bA (Below.refl _ _) _) cX1_1, bC kk (bA (Below.refl _ _) _)⟩ (fun w5 hst => ?_)
  clear cX0_0 cX0_1 sX0 cX1_0 cX1_1 sX1 cX3_0 cX3_1 sX3 kk
  obtain ⟨cX0_0, cX0_1, cX1_0, cX1_1, kk⟩ := hst
  have sX0 : w.heap.size < w5.heap.size := World.block_lt_of_cell? _ _ cX0_0
  have sX1 : w.heap.size + 1 < w5.heap.size ∧ w.heap.size < w5.heap.size := by have h : w.heap.size + 1 < w5.heap.size := World.block_lt_of_cell? _ _ cX1_0; exact ⟨h, by omega⟩
  refine wp_region_noPanic ?_
  refine wp_region_F [12, 13] [20, 21] (LS w5 (AWB w5) (ZWB w5 q0 q1 q2 q3 ah al)) (by kernel_rfl) (bs := [false, false]) (vs := [undef, undef]) (by kernel_rfl) rfl (LS.before noBits_ff (Below.refl _ _).drew (AWB.start _ _)) ?_
  refine wpF_take3 (i := 0) (v := ?vq11) rfl (by kernel_rfl) (by kernel_rfl) (fun _ _ _ h => h) (LS.load (by rfl) ?yq11) ?rq11
  case yq11 => (intro wq hb; have lcX0_0 := cell_later hb cX0_0; have lcX0_1 := cell_later hb cX0_1; go_simp; try (with_reducible rfl))
  try simp only [List.getElem_toArray, List.getElem_cons_zero, List.getElem_cons_succ, Act.put, List.setIfInBounds_toArray, List.set_cons_zero, List.set_cons_succ]
  refine wpF_take3 (i := 1) (v := _) rfl (by kernel_rfl) (by kernel_rfl) (fun _ _ _ h => h) (LS.call (AWB.lasts w5) (by rfl) _ _ ?yq12 (h4.out)) ?rq12
  case yq12 => (intro wq; go_simp; try (with_reducible rfl))
  try simp only [List.getElem_toArray, List.getElem_cons_zero, List.getElem_cons_succ, Act.put, List.setIfInBounds_toArray, List.set_cons_zero, List.set_cons_succ]
  refine wpF_yield (i := 2) (v := ?vq13) rfl (by kernel_rfl) (by kernel_rfl) (fun _ _ _ h => h) (Or.inl ⟨by rfl, ?yq13⟩) ?rq13
  case yq13 => (intro wq; go_simp; try (with_reducible rfl))
  try simp only [List.getElem_toArray, List.getElem_cons_zero, List.getElem_cons_succ, Act.put, List.setIfInBounds_toArray, List.set_cons_zero, List.set_cons_succ]
  refine wpF_take3 (i := 3) (v := _) rfl (by kernel_rfl) (by kernel_rfl) (fun _ _ _ h => h) (LS.call (AWB.lasts w5) (by rfl) _ _ ?yq14 (h5.out)) ?rq14
  case yq14 => (intro wq; go_simp; try (with_reducible rfl))
  try simp only [List.getElem_toArray, List.getElem_cons_zero, List.getElem_cons_succ, Act.put, List.setIfInBounds_toArray, List.set_cons_zero, List.set_cons_succ]
  refine wpF_take3 (i := 4) (v := ?vq15) rfl (by kernel_rfl) (by kernel_rfl) (fun _ _ _ h => h) (LS.load (by rfl) ?yq15) ?rq15
  case yq15 => (intro wq hb; have lcX1_0 := cell_later hb cX1_0; have lcX1_1 := cell_later hb cX1_1; go_simp; try (with_reducible rfl))
  try simp only [List.getElem_toArray, List.getElem_cons_zero, List.getElem_cons_succ, Act.put, List.setIfInBounds_toArray, List.set_cons_zero, List.set_cons_succ]
  refine wpF_take3 (i := 5) (v := _) rfl (by kernel_rfl) (by kernel_rfl) (fun _ _ _ h => h) (LS.call (AWB.lasts w5) (by rfl) _ _ ?yq16 (h6.out)) ?rq16
  case yq16 => (intro wq; go_simp; try (with_reducible rfl))
  try simp only [List.getElem_toArray, List.getElem_cons_zero, List.getElem_cons_succ, Act.put, List.setIfInBounds_toArray, List.set_cons_zero, List.set_cons_succ]
  refine wpF_yield (i := 6) (v := ?vq17) rfl (by kernel_rfl) (by kernel_rfl) (fun _ _ _ h => h) (Or.inl ⟨by rfl, ?yq17⟩) ?rq17
  case yq17 => (intro wq; go_simp; try (with_reducible rfl))
  try simp only [List.getElem_toArray, List.getElem_cons_zero, List.getElem_cons_succ, Act.put, List.setIfInBounds_toArray, List.set_cons_zero, List.set_cons_succ]
  refine wpF_yield (i := 7) (v := ?vq18) rfl (by kernel_rfl) (by kernel_rfl) (fun _ _ _ h => h) (Or.inl ⟨by rfl, ?yq18⟩) ?rq18
  case yq18 => (intro wq; go_simp; try (with_reducible rfl))
  try simp only [List.getElem_toArray, List.getElem_cons_zero, List.getElem_cons_succ, Act.put, List.setIfInBounds_toArray, List.set_cons_zero, List.set_cons_succ]
  refine wpF_yield (i := 8) (v := ?vq19) rfl (by kernel_rfl) (by kernel_rfl) (fun _ _ _ h => h) (Or.inl ⟨by rfl, ?yq19⟩) ?rq19
  case yq19 => (intro wq; go_simp; try (with_reducible rfl))
  try simp only [List.getElem_toArray, List.getElem_cons_zero, List.getElem_cons_succ, Act.put, List.setIfInBounds_toArray, List.set_cons_zero, List.set_cons_succ]
  refine wpF_yield (i := 9) (v := ?vq20) rfl (by kernel_rfl) (by kernel_rfl) (fun _ _ _ h => h) (Or.inl ⟨by rfl, ?yq20⟩) ?rq20
  case yq20 => (intro wq; go_simp; try (with_reducible rfl))
  try simp only [List.getElem_toArray, List.getElem_cons_zero, List.getElem_cons_succ, Act.put, List.setIfInBounds_toArray, List.set_cons_zero, List.set_cons_succ]
  refine wpF_two (i := 10) (j := 11) (bs := [false, false]) (bi := [false, false]) (bj := [false, false]) (vs := [undef, undef]) (by kernel_rfl) rfl rfl (by kernel_rfl) rfl (by kernel_rfl) (by kernel_rfl) (fun wq hS K hK => ?_) (fun wq hS K hK => ?_)
  obtain ⟨hb, hA⟩ := hS.1 noBits_ff
  go_simp
  refine hK.out _ _ (LS.before noBits_ff (bA hb _) (AWB.first hb _ rfl)) ?_
  clear hK hA hb hS
  generalize wq.heap.size = pp5 at *
  try simp only [List.getElem_toArray, List.getElem_cons_zero, List.getElem_cons_succ, Act.put, List.setIfInBounds_toArray, List.set_cons_zero, List.set_cons_succ]
  clear K wq
  refine wpF_step (i := 11) (bs := [false, false]) (bs' := [false, false]) (vs := [.pointer (some ⟨pp5, 0, none⟩), undef]) (by kernel_rfl) rfl (by kernel_rfl) rfl (by kernel_rfl) (fun wq hS K hK => ?_)
  obtain ⟨hb, hA⟩ := hS.1 noBits_ff
  go_simp
  refine hK.out _ _ (LS.before noBits_ff (bA hb _) (AWB.second hb hA _ rfl)) ?_
  clear hK hA hb hS
  generalize wq.heap.size = qq5 at *
  try simp only [List.getElem_toArray, List.getElem_cons_zero, List.getElem_cons_succ, Act.put, List.setIfInBounds_toArray, List.set_cons_zero, List.set_cons_succ]
  clear K wq
  revert pp5 qq5
  refine ?rest
  rotate_left
  obtain ⟨hb, hA⟩ := hS.1 noBits_ff
  go_simp
  refine hK.out _ _ (LS.before noBits_ff (bA hb _) (AWB.first' hb _ rfl)) ?_
  clear hK hA hb hS
  generalize wq.heap.size = qq5 at *
  try simp only [List.getElem_toArray, List.getElem_cons_zero, List.getElem_cons_succ, Act.put, List.setIfInBounds_toArray, List.set_cons_zero, List.set_cons_succ]
  clear K wq
  refine wpF_step (i := 10) (bs := [false, false]) (bs' := [false, false]) (vs := [undef, .pointer (some ⟨qq5, 0, none⟩)]) (by kernel_rfl) rfl (by kernel_rfl) rfl (by kernel_rfl) (fun wq hS K hK => ?_)
  obtain ⟨hb, hA⟩ := hS.1 noBits_ff
  go_simp
  refine hK.out _ _ (LS.before noBits_ff (bA hb _) (AWB.second' hb hA _ rfl)) ?_
  clear hK hA hb hS
  generalize wq.heap.size = pp5 at *
  try simp only [List.getElem_toArray, List.getElem_cons_zero, List.getElem_cons_succ, Act.put, List.setIfInBounds_toArray, List.set_cons_zero, List.set_cons_succ]
  clear K wq
  rw [Array.setIfInBounds_comm true true (i := 11) (j := 10) (by decide)]
  exact ?rest pp5 qq5
  intro pp5 qq5
  refine wpF_step (i := 12) (bs := [false, false]) (bs' := [true, false]) (vs := [.pointer (some ⟨pp5, 0, none⟩), .pointer (some ⟨qq5, 0, none⟩)]) (by kernel_rfl) rfl (by kernel_rfl) rfl (by kernel_rfl) (fun wq hS K hK => ?_)
  obtain ⟨hb, hA⟩ := hS.1 noBits_ff
  have ZZ := Lib.hid (ZWB.one hb hA q0 q1 q2 q3 ah al)
  obtain ⟨⟨hp, x, f⟩, _, _⟩ := hA.both
  obtain ⟨_, z0, z1, z2, z3⟩ := x
  obtain ⟨f0, f1, f2, f3⟩ := f
  go_simp
  refine hK.out _ _ (LS.behind bits_tf' ZZ.out) ?_
  clear hK hA hb ZZ hS z0 z1 z2 z3 f0 f1 f2 f3 hp
  try simp only [List.getElem_toArray, List.getElem_cons_zero, List.getElem_cons_succ, Act.put, List.setIfInBounds_toArray, List.set_cons_zero, List.set_cons_succ]
  refine wpF_step (i := 13) (bs := [true, false]) (bs' := [true, true]) (vs := [.pointer (some ⟨pp5, 0, none⟩), .pointer (some ⟨qq5, 0, none⟩)]) (by kernel_rfl) rfl (by kernel_rfl) rfl (by kernel_rfl) (fun wq hS K hK => ?_)
  have hZ := hS.2 bits_tf'
  have ZZ := Lib.hid hZ.two
  obtain ⟨⟨_, z0, z1⟩, f0, f1⟩ := hZ.cells
  go_simp
  refine hK.out _ _ (LS.behind bits_tt' ZZ.out) ?_
  clear hK hZ ZZ hS z0 z1 f0 f1
  try simp only [List.getElem_toArray, List.getElem_cons_zero, List.getElem_cons_succ, Act.put, List.setIfInBounds_toArray, List.set_cons_zero, List.set_cons_succ]
  refine wpF_yield (i := 14) (v := ?vq21) rfl (by kernel_rfl) (by kernel_rfl) (fun _ _ _ h => h) (Or.inl ⟨by rfl, ?yq21⟩) ?rq21
  case yq21 => (intro wq; go_simp; try (with_reducible rfl))
  try simp only [List.getElem_toArray, List.getElem_cons_zero, List.getElem_cons_succ, Act.put, List.setIfInBounds_toArray, List.set_cons_zero, List.set_cons_succ]
  refine wpF_done (bs := [true, true]) (vs := [.pointer (some ⟨pp5, 0, none⟩), .pointer (some ⟨qq5, 0, none⟩)]) (by kernel_rfl) (by kernel_rfl) rfl (fun w6 hS => ?_) _
  refine NoPanic.normal ?_
  obtain ⟨hge, hge2, hne, hbox, hfr, hbox2, hb⟩ := (hS.2 bits_tt').done
  obtain ⟨_, cX5_0, cX5_1, cX5_2, cX5_3⟩ := hbox
  obtain ⟨⟨_, cX6_0, cX6_1⟩, _, _⟩ := hbox2
  clear hfr hge hge2 hne
  clear hS
  replace cX0_0 := cell_later hb cX0_0; replace cX0_1 := cell_later hb cX0_1
  replace sX0 : w.heap.size < w6.heap.size := World.block_lt_of_cell? _ _ cX0_0
  replace cX1_0 := cell_later hb cX1_0; replace cX1_1 := cell_later hb cX1_1
  replace sX1 : w.heap.size + 1 < w6.heap.size ∧ w.heap.size < w6.heap.size := by have h : w.heap.size + 1 < w6.heap.size := World.block_lt_of_cell? _ _ cX1_0; exact ⟨h, by omega⟩
  have sX5 : pp5 < w6.heap.size := World.block_lt_of_cell? _ _ cX5_0
  have sX6 : qq5 < w6.heap.size := World.block_lt_of_cell? _ _ cX6_0
  replace kk := bC kk hb
  clear hb
  go_wp2_with fail
  (with_reducible refine (h0.out _).mono ?_); rintro e w7 ⟨rfl, hb⟩
  clear cX0_0 cX0_1 sX0
  clear cX1_0 cX1_1 sX1
  replace cX5_0 := cell_later hb cX5_0; replace cX5_1 := cell_later hb cX5_1; replace cX5_2 := cell_later hb cX5_2; replace cX5_3 := cell_later hb cX5_3
  replace sX5 : pp5 < w7.heap.size := World.block_lt_of_cell? _ _ cX5_0
  replace cX6_0 := cell_later hb cX6_0; replace cX6_1 := cell_later hb cX6_1
  replace sX6 : qq5 < w7.heap.size := World.block_lt_of_cell? _ _ cX6_0
  replace kk := bC kk hb
  clear hb
  go_wp2_with fail
  (with_reducible refine (h8.out _).mono ?_); rintro e w8 ⟨rfl, hb⟩
  have hz := bC (bA (Below.refl _ _) _) hb
  clear cX5_0 cX5_1 cX5_2 cX5_3 sX5
  clear cX6_0 cX6_1 sX6
  replace kk := bC kk hz
  clear hb hz
  go_wp2_with fail
  go_ret
  exact ⟨rfl, kk⟩

end Go.Proofs.Ytlmgebanfjclcaa
