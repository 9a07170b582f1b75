/-
  The walk of the statement QuotKnown.
-/
import Derived.Test.YtlmgebanfjclcaaQuotW
set_option linter.unusedVariables false
set_option linter.unusedSimpArgs false
set_option maxRecDepth 100000
namespace Go.Proofs.Ytlmgebanfjclcaa
open Go.RowKit
attribute [local go_sem ↓] Go.wp_at_zero Go.wp_at_succ

set_option maxHeartbeats 4000000 in
set_option maxRecDepth 100000 in
theorem known5_core (o : Bool)
    (h0 : Hid (∀ w, Calls Try.prog 12 #[.int .u64 2, .int .u64 0, .int .u64 2] w fun e w' => e = .returned (.tuple #[.int .u64 0, .int .u64 0, .bool false]) ∧ Below w.heap.size w w'))
    (h1 : Hid (∀ w, Calls Try.prog 12 #[.int .u64 0, .int .u64 5, .int .u64 0] w fun e w' => e = .returned (.tuple #[.int .u64 0, .int .u64 0, .bool false]) ∧ Below w.heap.size w w'))
    (h2 : Hid (∀ w, Calls Try.prog 12 #[.int .u64 0, .int .u64 5, .int .u64 3] w fun e w' => e = .returned (.tuple #[.int .u64 1, .int .u64 2, .bool true]) ∧ Below w.heap.size w w'))
    (h3 : Hid (∀ w, Calls Try.prog 10 #[.agg #[.int .u64 7, .int .u64 0, .int .u64 0, .int .u64 0], .agg #[.int .u64 0, .int .u64 0]] w fun e w' => e = .returned (.tuple #[.agg #[.int .u64 0, .int .u64 0, .int .u64 0, .int .u64 0], .agg #[.int .u64 0, .int .u64 0], .bool false]) ∧ Below w.heap.size w w'))
    (h4 : Hid (∀ w, Calls Try.prog 22 #[.agg #[.int .u64 18446744073709551615, .int .u64 18446744073709551615], .agg #[.int .u64 18446744073709551615, .int .u64 18446744073709551615]] w fun e w' => e = .returned (.agg #[.int .u64 18446744073709551615, .int .u64 18446744073709551615, .int .u64 18446744073709551615, .int .u64 18446744073709551615]) ∧ Below w.heap.size w w'))
    (h5 : Hid (∀ w, Calls Try.prog 10 #[.agg #[.int .u64 18446744073709551615, .int .u64 18446744073709551615, .int .u64 18446744073709551615, .int .u64 18446744073709551615], .agg #[.int .u64 18446744073709551615, .int .u64 18446744073709551615]] w fun e w' => e = .returned (.tuple #[.agg #[.int .u64 1, .int .u64 0, .int .u64 1, .int .u64 0], .agg #[.int .u64 0, .int .u64 0], .bool true]) ∧ Below w.heap.size w w'))
    (h6 : Hid (∀ w, Calls Try.prog 14 #[.agg #[.int .u64 0, .int .u64 3], .int .i64 0, .agg #[.int .u64 0, .int .u64 3]] w fun e w' => e = .returned (.tuple #[.agg #[.int .u64 0, .int .u64 0], .bool false, .bool false]) ∧ Below w.heap.size w w'))
    (h7 : Hid (∀ w, Calls Try.prog 14 #[.agg #[.int .u64 0, .int .u64 0], .int .i64 0, .agg #[.int .u64 0, .int .u64 0]] w fun e w' => e = .returned (.tuple #[.agg #[.int .u64 0, .int .u64 0], .bool false, .bool false]) ∧ Below w.heap.size w w'))
    (h8 : Hid (∀ w, Calls Try.prog 14 #[.agg #[.int .u64 0, .int .u64 0], .int .i64 (-1), .agg #[.int .u64 0, .int .u64 1]] w fun e w' => e = .returned (.tuple #[.agg #[.int .u64 0, .int .u64 0], .bool false, .bool false]) ∧ Below w.heap.size w w'))
    (h9 : Hid (∀ w, Calls Try.prog 14 #[.agg #[.int .u64 0, .int .u64 0], .int .i64 40001, .agg #[.int .u64 0, .int .u64 1]] w fun e w' => e = .returned (.tuple #[.agg #[.int .u64 0, .int .u64 0], .bool false, .bool false]) ∧ Below w.heap.size w w'))
    (h10 : Hid (∀ w, Calls Try.prog 14 #[.agg #[.int .u64 0, .int .u64 1], .int .i64 2, .agg #[.int .u64 0, .int .u64 3]] w fun e w' => e = .returned (.tuple #[.agg #[.int .u64 0, .int .u64 1], .bool true, .bool true]) ∧ Below w.heap.size w w'))
    (h11 : Hid (∀ w, Calls Try.prog 14 #[.agg #[.int .u64 0, .int .u64 1], .int .i64 40000, .agg #[.int .u64 0, .int .u64 3]] w fun e w' => e = .returned (.tuple #[.agg #[.int .u64 0, .int .u64 1], .bool o, .bool true]) ∧ Below w.heap.size w w'))
    (h12 : Hid (∀ w, Calls Try.prog 16 #[.agg #[.int .u64 0, .int .u64 0]] w fun e w' => e = .returned (.bool true) ∧ Below w.heap.size w w'))
    (h13 : Hid (∀ w, Calls Try.prog 13 #[] w fun e w' => e = .returned (.bool true) ∧ Below w.heap.size w w')) (w : World) :
    Calls Try.prog 9 #[] w fun e w' => e = .returned (.bool true) ∧ Below w.heap.size w w' := by
  have E1 := eqw4 1 0 1 0
  go_enter Try.func9, Try.ntmps9
  go_wp2_with fail
  (with_reducible refine (h0.out _).mono ?_); rintro e w1 ⟨rfl, hb⟩
  have kk := hb
  clear hb
  go_wp2_with fail
  (with_reducible refine (h1.out _).mono ?_); rintro e w2 ⟨rfl, hb⟩
  replace kk := bC kk hb
  clear hb
  go_wp2_with fail
  (with_reducible refine (h2.out _).mono ?_); rintro e w3 ⟨rfl, hb⟩
  replace kk := bC kk hb
  clear hb
  go_wp2_with fail
  (with_reducible refine (h3.out _).mono ?_); rintro e w4 ⟨rfl, hb⟩
  replace kk := bC kk hb
  clear hb
  go_wp2_with fail
  refine wp_forget (fun W => W.cell? ⟨w4.heap.size + 1 + 1, 0, none⟩ = some (.int .u64 18446744073709551615) ∧ W.cell? ⟨w4.heap.size + 1 + 1, 1, none⟩ = some (.int .u64 18446744073709551615) ∧ Below w.heap.size w W) ⟨by go_simp, by go_simp, bC kk (bA (bA (bA (Below.refl _ _) _) _) _)⟩ (fun w5 hst => ?_)
  clear kk
  obtain ⟨cX2_0, cX2_1, kk⟩ := hst
  have sX2 : w4.heap.size + 1 + 1 < w5.heap.size := World.block_lt_of_cell? _ _ cX2_0
  refine wp_region_noPanic ?_
  refine wp_region_F [11, 12] [14, 15] (LS w5 (AWB w5) (ZWB w5 1 0 1 0 0 0)) (by kernel_rfl) (bs := [false, false]) (vs := [undef, undef]) (by kernel_rfl) rfl (LS.before noBits_ff (Below.refl _ _).drew (AWB.start _ _)) ?_
  refine wpF_take3 (i := 0) (v := ?vq1) rfl (by kernel_rfl) (by kernel_rfl) (fun _ _ _ h => h) (LS.load (by rfl) ?yq1) ?rq1
  case yq1 => (intro wq hb; have lcX2_0 := cell_later hb cX2_0; have lcX2_1 := cell_later hb cX2_1; go_simp; try (with_reducible rfl))
  try simp only [List.getElem_toArray, List.getElem_cons_zero, List.getElem_cons_succ, Act.put, List.setIfInBounds_toArray, List.set_cons_zero, List.set_cons_succ]
  refine wpF_take3 (i := 1) (v := ?vq2) rfl (by kernel_rfl) (by kernel_rfl) (fun _ _ _ h => h) (LS.load (by rfl) ?yq2) ?rq2
  case yq2 => (intro wq hb; have lcX2_0 := cell_later hb cX2_0; have lcX2_1 := cell_later hb cX2_1; go_simp; try (with_reducible rfl))
  try simp only [List.getElem_toArray, List.getElem_cons_zero, List.getElem_cons_succ, Act.put, List.setIfInBounds_toArray, List.set_cons_zero, List.set_cons_succ]
  refine wpF_take3 (i := 2) (v := _) rfl (by kernel_rfl) (by kernel_rfl) (fun _ _ _ h => h) (LS.call (AWB.lasts w5) (by rfl) _ _ ?yq3 (h4.out)) ?rq3
  case yq3 => (intro wq; go_simp; try (with_reducible rfl))
  try simp only [List.getElem_toArray, List.getElem_cons_zero, List.getElem_cons_succ, Act.put, List.setIfInBounds_toArray, List.set_cons_zero, List.set_cons_succ]
  refine wpF_take3 (i := 3) (v := ?vq4) rfl (by kernel_rfl) (by kernel_rfl) (fun _ _ _ h => h) (LS.load (by rfl) ?yq4) ?rq4
  case yq4 => (intro wq hb; have lcX2_0 := cell_later hb cX2_0; have lcX2_1 := cell_later hb cX2_1; go_simp; try (with_reducible rfl))
  try simp only [List.getElem_toArray, List.getElem_cons_zero, List.getElem_cons_succ, Act.put, List.setIfInBounds_toArray, List.set_cons_zero, List.set_cons_succ]
  refine wpF_take3 (i := 4) (v := _) rfl (by kernel_rfl) (by kernel_rfl) (fun _ _ _ h => h) (LS.call (AWB.lasts w5) (by rfl) _ _ ?yq5 (h5.out)) ?rq5
  case yq5 => (intro wq; go_simp; try (with_reducible rfl))
  try simp only [List.getElem_toArray, List.getElem_cons_zero, List.getElem_cons_succ, Act.put, List.setIfInBounds_toArray, List.set_cons_zero, List.set_cons_succ]
  refine wpF_yield (i := 5) (v := ?vq6) rfl (by kernel_rfl) (by kernel_rfl) (fun _ _ _ h => h) (Or.inl ⟨by rfl, ?yq6⟩) ?rq6
  case yq6 => (intro wq; go_simp; try (with_reducible rfl))
  try simp only [List.getElem_toArray, List.getElem_cons_zero, List.getElem_cons_succ, Act.put, List.setIfInBounds_toArray, List.set_cons_zero, List.set_cons_succ]
  refine wpF_yield (i := 6) (v := ?vq7) rfl (by kernel_rfl) (by kernel_rfl) (fun _ _ _ h => h) (Or.inl ⟨by rfl, ?yq7⟩) ?rq7
  case yq7 => (intro wq; go_simp; try (with_reducible rfl))
  try simp only [List.getElem_toArray, List.getElem_cons_zero, List.getElem_cons_succ, Act.put, List.setIfInBounds_toArray, List.set_cons_zero, List.set_cons_succ]
  refine wpF_yield (i := 7) (v := ?vq8) rfl (by kernel_rfl) (by kernel_rfl) (fun _ _ _ h => h) (Or.inl ⟨by rfl, ?yq8⟩) ?rq8
  case yq8 => (intro wq; go_simp; try (with_reducible rfl))
  try simp only [List.getElem_toArray, List.getElem_cons_zero, List.getElem_cons_succ, Act.put, List.setIfInBounds_toArray, List.set_cons_zero, List.set_cons_succ]
  refine wpF_yield (i := 8) (v := ?vq9) rfl (by kernel_rfl) (by kernel_rfl) (fun _ _ _ h => h) (Or.inl ⟨by rfl, ?yq9⟩) ?rq9
  case yq9 => (intro wq; go_simp; try (with_reducible rfl))
  try simp only [List.getElem_toArray, List.getElem_cons_zero, List.getElem_cons_succ, Act.put, List.setIfInBounds_toArray, List.set_cons_zero, List.set_cons_succ]
  refine wpF_two (i := 9) (j := 10) (bs := [false, false]) (bi := [false, false]) (bj := [false, false]) (vs := [undef, undef]) (by kernel_rfl) rfl rfl (by kernel_rfl) rfl (by kernel_rfl) (by kernel_rfl) (fun wq hS K hK => ?_) (fun wq hS K hK => ?_)
  obtain ⟨hb, hA⟩ := hS.1 noBits_ff
  go_simp
  refine hK.out _ _ (LS.before noBits_ff (bA hb _) (AWB.first hb _ rfl)) ?_
  clear hK hA hb hS
  generalize wq.heap.size = pp5 at *
  try simp only [List.getElem_toArray, List.getElem_cons_zero, List.getElem_cons_succ, Act.put, List.setIfInBounds_toArray, List.set_cons_zero, List.set_cons_succ]
  clear K wq
  refine wpF_step (i := 10) (bs := [false, false]) (bs' := [false, false]) (vs := [.pointer (some ⟨pp5, 0, none⟩), undef]) (by kernel_rfl) rfl (by kernel_rfl) rfl (by kernel_rfl) (fun wq hS K hK => ?_)
  obtain ⟨hb, hA⟩ := hS.1 noBits_ff
  go_simp
  refine hK.out _ _ (LS.before noBits_ff (bA hb _) (AWB.second hb hA _ rfl)) ?_
  clear hK hA hb hS
  generalize wq.heap.size = qq5 at *
  try simp only [List.getElem_toArray, List.getElem_cons_zero, List.getElem_cons_succ, Act.put, List.setIfInBounds_toArray, List.set_cons_zero, List.set_cons_succ]
  clear K wq
  revert pp5 qq5
  refine ?rest
  rotate_left
  obtain ⟨hb, hA⟩ := hS.1 noBits_ff
  go_simp
  refine hK.out _ _ (LS.before noBits_ff (bA hb _) (AWB.first' hb _ rfl)) ?_
  clear hK hA hb hS
  generalize wq.heap.size = qq5 at *
  try simp only [List.getElem_toArray, List.getElem_cons_zero, List.getElem_cons_succ, Act.put, List.setIfInBounds_toArray, List.set_cons_zero, List.set_cons_succ]
  clear K wq
  refine wpF_step (i := 9) (bs := [false, false]) (bs' := [false, false]) (vs := [undef, .pointer (some ⟨qq5, 0, none⟩)]) (by kernel_rfl) rfl (by kernel_rfl) rfl (by kernel_rfl) (fun wq hS K hK => ?_)
  obtain ⟨hb, hA⟩ := hS.1 noBits_ff
  go_simp
  refine hK.out _ _ (LS.before noBits_ff (bA hb _) (AWB.second' hb hA _ rfl)) ?_
  clear hK hA hb hS
  generalize wq.heap.size = pp5 at *
  try simp only [List.getElem_toArray, List.getElem_cons_zero, List.getElem_cons_succ, Act.put, List.setIfInBounds_toArray, List.set_cons_zero, List.set_cons_succ]
  clear K wq
  rw [Array.setIfInBounds_comm true true (i := 10) (j := 9) (by decide)]
  exact ?rest pp5 qq5
  intro pp5 qq5
  refine wpF_step (i := 11) (bs := [false, false]) (bs' := [true, false]) (vs := [.pointer (some ⟨pp5, 0, none⟩), .pointer (some ⟨qq5, 0, none⟩)]) (by kernel_rfl) rfl (by kernel_rfl) rfl (by kernel_rfl) (fun wq hS K hK => ?_)
  obtain ⟨hb, hA⟩ := hS.1 noBits_ff
  have ZZ := Lib.hid (ZWB.one hb hA 1 0 1 0 0 0)
  obtain ⟨⟨hp, x, f⟩, _, _⟩ := hA.both
  obtain ⟨_, z0, z1, z2, z3⟩ := x
  obtain ⟨f0, f1, f2, f3⟩ := f
  go_simp
  refine hK.out _ _ (LS.behind bits_tf' ZZ.out) ?_
  clear hK hA hb ZZ hS z0 z1 z2 z3 f0 f1 f2 f3 hp
  try simp only [List.getElem_toArray, List.getElem_cons_zero, List.getElem_cons_succ, Act.put, List.setIfInBounds_toArray, List.set_cons_zero, List.set_cons_succ]
  refine wpF_step (i := 12) (bs := [true, false]) (bs' := [true, true]) (vs := [.pointer (some ⟨pp5, 0, none⟩), .pointer (some ⟨qq5, 0, none⟩)]) (by kernel_rfl) rfl (by kernel_rfl) rfl (by kernel_rfl) (fun wq hS K hK => ?_)
  have hZ := hS.2 bits_tf'
  have ZZ := Lib.hid hZ.two
  obtain ⟨⟨_, z0, z1⟩, f0, f1⟩ := hZ.cells
  go_simp
  refine hK.out _ _ (LS.behind bits_tt' ZZ.out) ?_
  clear hK hZ ZZ hS z0 z1 f0 f1
  try simp only [List.getElem_toArray, List.getElem_cons_zero, List.getElem_cons_succ, Act.put, List.setIfInBounds_toArray, List.set_cons_zero, List.set_cons_succ]
  refine wpF_yield (i := 13) (v := ?vq10) rfl (by kernel_rfl) (by kernel_rfl) (fun _ _ _ h => h) (Or.inl ⟨by rfl, ?yq10⟩) ?rq10
  case yq10 => (intro wq; go_simp; try (with_reducible rfl))
  try simp only [List.getElem_toArray, List.getElem_cons_zero, List.getElem_cons_succ, Act.put, List.setIfInBounds_toArray, List.set_cons_zero, List.set_cons_succ]
  refine wpF_done (bs := [true, true]) (vs := [.pointer (some ⟨pp5, 0, none⟩), .pointer (some ⟨qq5, 0, none⟩)]) (by kernel_rfl) (by kernel_rfl) rfl (fun w6 hS => ?_) _
  refine NoPanic.normal ?_
  obtain ⟨hge, hge2, hne, hbox, hfr, hbox2, hb⟩ := (hS.2 bits_tt').done
  obtain ⟨_, cX3_0, cX3_1, cX3_2, cX3_3⟩ := hbox
  obtain ⟨⟨_, cX4_0, cX4_1⟩, _, _⟩ := hbox2
  clear hfr hge hge2 hne
  clear hS
  clear cX2_0 cX2_1 sX2
  have sX3 : pp5 < w6.heap.size := World.block_lt_of_cell? _ _ cX3_0
  have sX4 : qq5 < w6.heap.size := World.block_lt_of_cell? _ _ cX4_0
  replace kk := bC kk hb
  clear hb
  go_wp2_with fail
  (with_reducible refine (h6.out _).mono ?_); rintro e w7 ⟨rfl, hb⟩
  replace cX3_0 := cell_later hb cX3_0; replace cX3_1 := cell_later hb cX3_1; replace cX3_2 := cell_later hb cX3_2; replace cX3_3 := cell_later hb cX3_3
  replace sX3 : pp5 < w7.heap.size := World.block_lt_of_cell? _ _ cX3_0
  replace cX4_0 := cell_later hb cX4_0; replace cX4_1 := cell_later hb cX4_1
  replace sX4 : qq5 < w7.heap.size := World.block_lt_of_cell? _ _ cX4_0
  replace kk := bC kk hb
  clear hb
  go_wp2_with fail
  (with_reducible refine (h7.out _).mono ?_); rintro e w8 ⟨rfl, hb⟩
  have hz := bC (bA (Below.refl _ _) _) hb
  replace cX3_0 := cell_later hz cX3_0; replace cX3_1 := cell_later hz cX3_1; replace cX3_2 := cell_later hz cX3_2; replace cX3_3 := cell_later hz cX3_3
  replace sX3 : pp5 < w8.heap.size := World.block_lt_of_cell? _ _ cX3_0
  replace cX4_0 := cell_later hz cX4_0; replace cX4_1 := cell_later hz cX4_1
  replace sX4 : qq5 < w8.heap.size := World.block_lt_of_cell? _ _ cX4_0
  replace kk := bC kk hz
  clear hb hz
  go_wp2_with fail
  (with_reducible refine (h8.out _).mono ?_); rintro e w9 ⟨rfl, hb⟩
  have hz := bC (bA (Below.refl _ _) _) hb
  replace cX3_0 := cell_later hz cX3_0; replace cX3_1 := cell_later hz cX3_1; replace cX3_2 := cell_later hz cX3_2; replace cX3_3 := cell_later hz cX3_3
  replace sX3 : pp5 < w9.heap.size := World.block_lt_of_cell? _ _ cX3_0
  replace cX4_0 := cell_later hz cX4_0; replace cX4_1 := cell_later hz cX4_1
  replace sX4 : qq5 < w9.heap.size := World.block_lt_of_cell? _ _ cX4_0
  replace kk := bC kk hz
  clear hb hz
  go_wp2_with fail
  (with_reducible refine (h9.out _).mono ?_); rintro e w10 ⟨rfl, hb⟩
  have hz := bC (bA (Below.refl _ _) _) hb
  replace cX3_0 := cell_later hz cX3_0; replace cX3_1 := cell_later hz cX3_1; replace cX3_2 := cell_later hz cX3_2; replace cX3_3 := cell_later hz cX3_3
  replace sX3 : pp5 < w10.heap.size := World.block_lt_of_cell? _ _ cX3_0
  replace cX4_0 := cell_later hz cX4_0; replace cX4_1 := cell_later hz cX4_1
  replace sX4 : qq5 < w10.heap.size := World.block_lt_of_cell? _ _ cX4_0
  replace kk := bC kk hz
  clear hb hz
  go_wp2_with fail
  (with_reducible refine (h10.out _).mono ?_); rintro e w11 ⟨rfl, hb⟩
  have hz := bC (bA (Below.refl _ _) _) hb
  replace cX3_0 := cell_later hz cX3_0; replace cX3_1 := cell_later hz cX3_1; replace cX3_2 := cell_later hz cX3_2; replace cX3_3 := cell_later hz cX3_3
  replace sX3 : pp5 < w11.heap.size := World.block_lt_of_cell? _ _ cX3_0
  replace cX4_0 := cell_later hz cX4_0; replace cX4_1 := cell_later hz cX4_1
  replace sX4 : qq5 < w11.heap.size := World.block_lt_of_cell? _ _ cX4_0
  replace kk := bC kk hz
  clear hb hz
  go_wp2_with fail
  (with_reducible refine (h11.out _).mono ?_); rintro e w12 ⟨rfl, hb⟩
  have hz := bC (bA (Below.refl _ _) _) hb
  replace cX3_0 := cell_later hz cX3_0; replace cX3_1 := cell_later hz cX3_1; replace cX3_2 := cell_later hz cX3_2; replace cX3_3 := cell_later hz cX3_3
  replace sX3 : pp5 < w12.heap.size := World.block_lt_of_cell? _ _ cX3_0
  replace cX4_0 := cell_later hz cX4_0; replace cX4_1 := cell_later hz cX4_1
  replace sX4 : qq5 < w12.heap.size := World.block_lt_of_cell? _ _ cX4_0
  have cX9_0 := cell_later hb (a := ⟨w11.heap.size, 0, none⟩) (v := .int .u64 0) (by go_simp)
  have cX9_1 := cell_later hb (a := ⟨w11.heap.size, 1, none⟩) (v := .int .u64 1) (by go_simp)
  have sX9 : w11.heap.size < w12.heap.size := World.block_lt_of_cell? _ _ cX9_0
  replace kk := bC kk hz
  clear hb hz
  go_wp2_with fail
  (with_reducible refine (h12.out _).mono ?_); rintro e w13 ⟨rfl, hb⟩
  have hz := bC (bA (Below.refl _ _) _) hb
  clear cX3_0 cX3_1 cX3_2 cX3_3 sX3
  clear cX4_0 cX4_1 sX4
  replace cX9_0 := cell_later hz cX9_0; replace cX9_1 := cell_later hz cX9_1
  replace sX9 : w11.heap.size < w13.heap.size := World.block_lt_of_cell? _ _ cX9_0
  have cX10_0 := cell_later hb (a := ⟨w12.heap.size, 0, none⟩) (v := .int .u64 0) (by go_simp)
  have cX10_1 := cell_later hb (a := ⟨w12.heap.size, 1, none⟩) (v := .int .u64 1) (by go_simp)
  have sX10 : w12.heap.size < w13.heap.size := World.block_lt_of_cell? _ _ cX10_0
  replace kk := bC kk hz
  clear hb hz
  go_wp2_with fail
  (with_reducible refine (h13.out _).mono ?_); rintro e w14 ⟨rfl, hb⟩
  clear cX9_0 cX9_1 sX9
  clear cX10_0 cX10_1 sX10
  replace kk := bC kk hb
  clear hb
  go_wp2_with fail
  go_ret
  exact ⟨rfl, kk⟩

end Go.Proofs.Ytlmgebanfjclcaa
