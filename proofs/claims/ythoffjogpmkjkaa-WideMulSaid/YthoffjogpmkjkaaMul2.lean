/-
  The walk of the statement WideMul.
-/
import Derived.Test.YthoffjogpmkjkaaCounts2
import Derived.Test.YthoffjogpmkjkaaWideN
set_option linter.unusedVariables false
set_option linter.unusedSimpArgs false
namespace Go.Proofs.Ythoffjogpmkjkaa
open Go.RowKit
attribute [local go_sem ↓] Go.wp_at_zero Go.wp_at_succ

set_option maxHeartbeats 4000000 in
set_option maxRecDepth 100000 in
theorem mul2_plain (ah al bh bl ch cl sh sl m0 m1 m2 m3 n0 n1 n2 n3 x0 x1 x2 x3 : Int) (k : Bool)
    (h0 : Hid (∀ w, Calls Try.prog 38 #[.agg #[.int .u64 bh, .int .u64 bl], .agg #[.int .u64 ch, .int .u64 cl]] w fun e w' => e = .returned (.tuple #[.agg #[.int .u64 sh, .int .u64 sl], .bool false]) ∧ Below w.heap.size w w'))
    (h1 : Hid (∀ w, Calls Try.prog 29 #[.agg #[.int .u64 ah, .int .u64 al], .agg #[.int .u64 bh, .int .u64 bl]] w fun e w' => e = .returned (.agg #[.int .u64 m0, .int .u64 m1, .int .u64 m2, .int .u64 m3]) ∧ Below w.heap.size w w'))
    (h2 : Hid (∀ w, Calls Try.prog 29 #[.agg #[.int .u64 ah, .int .u64 al], .agg #[.int .u64 ch, .int .u64 cl]] w fun e w' => e = .returned (.agg #[.int .u64 n0, .int .u64 n1, .int .u64 n2, .int .u64 n3]) ∧ Below w.heap.size w w'))
    (h3 : Hid (∀ w, Calls Try.prog 17 #[.agg #[.int .u64 m0, .int .u64 m1, .int .u64 m2, .int .u64 m3], .agg #[.int .u64 n0, .int .u64 n1, .int .u64 n2, .int .u64 n3]] w fun e w' => e = .returned (.tuple #[.agg #[.int .u64 x0, .int .u64 x1, .int .u64 x2, .int .u64 x3], .bool k]) ∧ Below w.heap.size w w'))
    (h4 : Hid (∀ w, Calls Try.prog 29 #[.agg #[.int .u64 ah, .int .u64 al], .agg #[.int .u64 sh, .int .u64 sl]] w fun e w' => e = .returned (.agg #[.int .u64 x0, .int .u64 x1, .int .u64 x2, .int .u64 x3]) ∧ Below w.heap.size w w'))
    (h6 : Hid (∀ w, Calls Try.prog 29 #[.agg #[.int .u64 bh, .int .u64 bl], .agg #[.int .u64 ah, .int .u64 al]] w fun e w' => e = .returned (.agg #[.int .u64 m0, .int .u64 m1, .int .u64 m2, .int .u64 m3]) ∧ Below w.heap.size w w'))
    (h7 : Hid (∀ w, Calls Try.prog 29 #[.agg #[.int .u64 ah, .int .u64 al], .agg #[.int .u64 0, .int .u64 1]] w fun e w' => e = .returned (.agg #[.int .u64 al, .int .u64 ah, .int .u64 0, .int .u64 0]) ∧ Below w.heap.size w w'))
    (h9 : Hid (∀ w, Calls Try.prog 29 #[.agg #[.int .u64 ah, .int .u64 al], .agg #[.int .u64 1, .int .u64 0]] w fun e w' => e = .returned (.agg #[.int .u64 0, .int .u64 al, .int .u64 ah, .int .u64 0]) ∧ Below w.heap.size w w')) (w : World) :
    Calls Try.prog 6 #[.agg #[.int .u64 ah, .int .u64 al], .agg #[.int .u64 bh, .int .u64 bl], .agg #[.int .u64 ch, .int .u64 cl]] w fun e w' => e = .returned (.bool true) ∧ Below w.heap.size w w' := by
  have Ex := eqw x0 x1 x2 x3
  have Em := eqw m0 m1 m2 m3
  have Eo := eqw al ah 0 0
  have Es := eqw 0 al ah 0
  go_enter Try.func6, Try.ntmps6
  go_wp2_with fail
  (with_reducible refine (h0.out _).mono ?_); rintro e w1 ⟨rfl, hb⟩
  have hz := bC (bA (bA (bA (Below.refl _ _) _) _) _) hb
  have cX0_0 := cell_later hb (a := ⟨w.heap.size, 0, none⟩) (v := .int .u64 ah) (by go_simp)
  have cX0_1 := cell_later hb (a := ⟨w.heap.size, 1, none⟩) (v := .int .u64 al) (by go_simp)
  have sX0 : w.heap.size < w1.heap.size := World.block_lt_of_cell? _ _ cX0_0
  have cX1_0 := cell_later hb (a := ⟨w.heap.size + 1, 0, none⟩) (v := .int .u64 bh) (by go_simp)
  have cX1_1 := cell_later hb (a := ⟨w.heap.size + 1, 1, none⟩) (v := .int .u64 bl) (by go_simp)
  have sX1 : w.heap.size + 1 < w1.heap.size := World.block_lt_of_cell? _ _ cX1_0
  have cX2_0 := cell_later hb (a := ⟨w.heap.size + 1 + 1, 0, none⟩) (v := .int .u64 ch) (by go_simp)
  have cX2_1 := cell_later hb (a := ⟨w.heap.size + 1 + 1, 1, none⟩) (v := .int .u64 cl) (by go_simp)
  have sX2 : w.heap.size + 1 + 1 < w1.heap.size := World.block_lt_of_cell? _ _ cX2_0
  have kk := hz
  clear hb hz
  go_wp2_with fail
  have nX0_X3 : w.heap.size < w1.heap.size := by omega
  have nX1_X3 : w.heap.size + 1 < w1.heap.size := by omega
  have gX3 : w.heap.size ≤ w1.heap.size := by have := kk.size; omega
  refine wp_forget (fun W => W.cell? ⟨w.heap.size, 0, none⟩ = some (.int .u64 ah) ∧ W.cell? ⟨w.heap.size, 1, none⟩ = some (.int .u64 al) ∧ W.cell? ⟨w.heap.size + 1, 0, none⟩ = some (.int .u64 bh) ∧ W.cell? ⟨w.heap.size + 1, 1, none⟩ = some (.int .u64 bl) ∧ W.cell? ⟨w.heap.size + 1 + 1, 0, none⟩ = some (.int .u64 ch) ∧ W.cell? ⟨w.heap.size + 1 + 1, 1, none⟩ = some (.int .u64 cl) ∧ W.cell? ⟨w1.heap.size, 0, none⟩ = some (.int .u64 sh) ∧ W.cell? ⟨w1.heap.size, 1, none⟩ = some (.int .u64 sl) ∧ W.frozen? ⟨w1.heap.size, 0, none⟩ = false ∧ W.frozen? ⟨w1.heap.size, 1, none⟩ = false ∧ Below w.heap.size w W) ⟨cell_later (bA (Below.refl _ _) _) cX0_0, cell_later (bA (Below.refl _ _) _) cX0_1, cell_later (bA (Below.refl _ _) _) cX1_0, cell_later (bA (Below.refl _ _) _) cX1_1, cell_later (bA (Below.refl _ _) _) cX2_0, cell_later (bA (Below.refl _ _) _) cX2_1, by go_simp, by go_simp, by go_simp, by go_simp, bC kk (bA (Below.refl _ _) _)⟩ (fun w2 hst => ?_)
  clear cX0_0 cX0_1 sX0 cX1_0 cX1_1 sX1 cX2_0 cX2_1 sX2 kk
  obtain ⟨cX0_0, cX0_1, cX1_0, cX1_1, cX2_0, cX2_1, cX3_0, cX3_1, fX3_0, fX3_1, kk⟩ := hst
  have sX0 : w.heap.size < w2.heap.size := World.block_lt_of_cell? _ _ cX0_0
  have sX1 : w.heap.size + 1 < w2.heap.size := World.block_lt_of_cell? _ _ cX1_0
  have sX2 : w.heap.size + 1 + 1 < w2.heap.size := World.block_lt_of_cell? _ _ cX2_0
  have sX3 : w1.heap.size < w2.heap.size := World.block_lt_of_cell? _ _ cX3_0
  refine wp_region_noPanic ?_
  refine wp_region_F [11] [9] (LS w2 (AW w2) (ZW w2 x0 x1 x2 x3)) (by kernel_rfl) (bs := [false]) (vs := [undef]) (by kernel_rfl) rfl (LS.before noBits_f (Below.refl _ _).drew (AW.start _ _)) ?_
  refine wpF_take (i := 0) (v := ?vq25) rfl (by kernel_rfl) (by kernel_rfl) (fun _ _ _ h => h) (LS.load (by rfl) ?yq25) ?rq25
  case yq25 => (intro wq hb; have lcX0_0 := cell_later hb cX0_0; have lcX0_1 := cell_later hb cX0_1; go_simp; try (with_reducible rfl))
  try simp only [List.getElem_toArray, List.getElem_cons_zero, List.getElem_cons_succ, Act.put, List.setIfInBounds_toArray, List.set_cons_zero, List.set_cons_succ]
  refine wpF_take (i := 1) (v := ?vq26) rfl (by kernel_rfl) (by kernel_rfl) (fun _ _ _ h => h) (LS.load (by rfl) ?yq26) ?rq26
  case yq26 => (intro wq hb; have lcX1_0 := cell_later hb cX1_0; have lcX1_1 := cell_later hb cX1_1; go_simp; try (with_reducible rfl))
  try simp only [List.getElem_toArray, List.getElem_cons_zero, List.getElem_cons_succ, Act.put, List.setIfInBounds_toArray, List.set_cons_zero, List.set_cons_succ]
  refine wpF_take (i := 2) (v := _) rfl (by kernel_rfl) (by kernel_rfl) (fun _ _ _ h => h) (LS.call (AW.lasts w2) (by rfl) _ _ ?yq27 (h1.out)) ?rq27
  case yq27 => (intro wq; go_simp; try (with_reducible rfl))
  try simp only [List.getElem_toArray, List.getElem_cons_zero, List.getElem_cons_succ, Act.put, List.setIfInBounds_toArray, List.set_cons_zero, List.set_cons_succ]
  refine wpF_take (i := 3) (v := ?vq28) rfl (by kernel_rfl) (by kernel_rfl) (fun _ _ _ h => h) (LS.load (by rfl) ?yq28) ?rq28
  case yq28 => (intro wq hb; have lcX0_0 := cell_later hb cX0_0; have lcX0_1 := cell_later hb cX0_1; go_simp; try (with_reducible rfl))
  try simp only [List.getElem_toArray, List.getElem_cons_zero, List.getElem_cons_succ, Act.put, List.setIfInBounds_toArray, List.set_cons_zero, List.set_cons_succ]
  refine wpF_take (i := 4) (v := ?vq29) rfl (by kernel_rfl) (by kernel_rfl) (fun _ _ _ h => h) (LS.load (by rfl) ?yq29) ?rq29
  case yq29 => (intro wq hb; have lcX2_0 := cell_later hb cX2_0; have lcX2_1 := cell_later hb cX2_1; go_simp; try (with_reducible rfl))
  try simp only [List.getElem_toArray, List.getElem_cons_zero, List.getElem_cons_succ, Act.put, List.setIfInBounds_toArray, List.set_cons_zero, List.set_cons_succ]
  refine wpF_take (i := 5) (v := _) rfl (by kernel_rfl) (by kernel_rfl) (fun _ _ _ h => h) (LS.call (AW.lasts w2) (by rfl) _ _ ?yq30 (h2.out)) ?rq30
  case yq30 => (intro wq; go_simp; try (with_reducible rfl))
  try simp only [List.getElem_toArray, List.getElem_cons_zero, List.getElem_cons_succ, Act.put, List.setIfInBounds_toArray, List.set_cons_zero, List.set_cons_succ]
  refine wpF_take (i := 6) (v := _) rfl (by kernel_rfl) (by kernel_rfl) (fun _ _ _ h => h) (LS.call (AW.lasts w2) (by rfl) _ _ ?yq31 (h3.out)) ?rq31
  case yq31 => (intro wq; go_simp; try (with_reducible rfl))
  try simp only [List.getElem_toArray, List.getElem_cons_zero, List.getElem_cons_succ, Act.put, List.setIfInBounds_toArray, List.set_cons_zero, List.set_cons_succ]
  refine wpF_yield (i := 7) (v := ?vq32) rfl (by kernel_rfl) (by kernel_rfl) (fun _ _ _ h => h) (Or.inl ⟨by rfl, ?yq32⟩) ?rq32
  case yq32 => (intro wq; go_simp; try (with_reducible rfl))
  try simp only [List.getElem_toArray, List.getElem_cons_zero, List.getElem_cons_succ, Act.put, List.setIfInBounds_toArray, List.set_cons_zero, List.set_cons_succ]
  refine wpF_yield (i := 8) (v := ?vq33) rfl (by kernel_rfl) (by kernel_rfl) (fun _ _ _ h => h) (Or.inl ⟨by rfl, ?yq33⟩) ?rq33
  case yq33 => (intro wq; go_simp; try (with_reducible rfl))
  try simp only [List.getElem_toArray, List.getElem_cons_zero, List.getElem_cons_succ, Act.put, List.setIfInBounds_toArray, List.set_cons_zero, List.set_cons_succ]
  refine wpF_yield (i := 9) (v := ?vq34) rfl (by kernel_rfl) (by kernel_rfl) (fun _ _ _ h => h) (Or.inl ⟨by rfl, ?yq34⟩) ?rq34
  case yq34 => (intro wq; go_simp; try (with_reducible rfl))
  try simp only [List.getElem_toArray, List.getElem_cons_zero, List.getElem_cons_succ, Act.put, List.setIfInBounds_toArray, List.set_cons_zero, List.set_cons_succ]
  refine wpF_step (i := 10) (bs := [false]) (bs' := [false]) (vs := [undef]) (by kernel_rfl) rfl (by kernel_rfl) rfl (by kernel_rfl) (fun wq hS K hK => ?_)
  obtain ⟨hb, hA⟩ := hS.1 noBits_f
  go_simp
  refine hK.out _ _ (LS.before noBits_f (bA hb _) (AW.new hb _ rfl)) ?_
  clear hK hA hb hS
  generalize wq.heap.size = p2 at *
  try simp only [List.getElem_toArray, List.getElem_cons_zero, List.getElem_cons_succ, Act.put, List.setIfInBounds_toArray, List.set_cons_zero, List.set_cons_succ]
  refine wpF_step (i := 11) (bs := [false]) (bs' := [true]) (vs := [.pointer (some ⟨p2, 0, none⟩)]) (by kernel_rfl) rfl (by kernel_rfl) rfl (by kernel_rfl) (fun wq hS K hK => ?_)
  obtain ⟨hb, hA⟩ := hS.1 noBits_f
  have ZZ := Lib.hid (ZW.of hb hA x0 x1 x2 x3 [true])
  obtain ⟨hp, x, f⟩ := hA _ rfl
  obtain ⟨_, z0, z1, z2, z3⟩ := x
  obtain ⟨f0, f1, f2, f3⟩ := f
  go_simp
  refine hK.out _ _ (LS.behind bits_t ZZ.out) ?_
  clear hK hA hb ZZ hS z0 z1 z2 z3 f0 f1 f2 f3 hp
  try simp only [List.getElem_toArray, List.getElem_cons_zero, List.getElem_cons_succ, Act.put, List.setIfInBounds_toArray, List.set_cons_zero, List.set_cons_succ]
  refine wpF_yield (i := 12) (v := ?vq35) rfl (by kernel_rfl) (by kernel_rfl) (fun _ _ _ h => h) (Or.inl ⟨by rfl, ?yq35⟩) ?rq35
  case yq35 => (intro wq; go_simp; try (with_reducible rfl))
  try simp only [List.getElem_toArray, List.getElem_cons_zero, List.getElem_cons_succ, Act.put, List.setIfInBounds_toArray, List.set_cons_zero, List.set_cons_succ]
  refine wpF_done (bs := [true]) (vs := [.pointer (some ⟨p2, 0, none⟩)]) (by kernel_rfl) (by kernel_rfl) rfl (fun w3 hS => ?_) _
  refine NoPanic.normal ?_
  obtain ⟨q, hpp, hge, hbox, hfr, hb⟩ := hS.2 bits_t
  obtain rfl := ptr_eq hpp rfl
  have nX0_X4 : w.heap.size < p2 := by omega
  have nX1_X4 : w.heap.size + 1 < p2 := by omega
  have nX3_X4 : w1.heap.size < p2 := by omega
  have gX4 : w.heap.size ≤ p2 := by have := kk.size; omega
  obtain ⟨_, cX4_0, cX4_1, cX4_2, cX4_3⟩ := hbox
  clear hS
  obtain ⟨fX4_0, fX4_1, fX4_2, fX4_3⟩ := hfr
  replace cX0_0 := cell_later hb cX0_0; replace cX0_1 := cell_later hb cX0_1
  replace sX0 : w.heap.size < w3.heap.size := World.block_lt_of_cell? _ _ cX0_0
  replace cX1_0 := cell_later hb cX1_0; replace cX1_1 := cell_later hb cX1_1
  replace sX1 : w.heap.size + 1 < w3.heap.size := World.block_lt_of_cell? _ _ cX1_0
  clear cX2_0 cX2_1 sX2
  replace fX3_0 := frozen_later hb cX3_0 fX3_0; replace fX3_1 := frozen_later hb cX3_1 fX3_1
  replace cX3_0 := cell_later hb cX3_0; replace cX3_1 := cell_later hb cX3_1
  replace sX3 : w1.heap.size < w3.heap.size := World.block_lt_of_cell? _ _ cX3_0
  have sX4 : p2 < w3.heap.size := World.block_lt_of_cell? _ _ cX4_0
  replace kk := bC kk hb
  clear hb
  go_wp2_with fail
  (with_reducible refine (h4.out _).mono ?_); rintro e w4 ⟨rfl, hb⟩
  replace cX0_0 := cell_later hb cX0_0; replace cX0_1 := cell_later hb cX0_1
  replace sX0 : w.heap.size < w4.heap.size := World.block_lt_of_cell? _ _ cX0_0
  replace cX1_0 := cell_later hb cX1_0; replace cX1_1 := cell_later hb cX1_1
  replace sX1 : w.heap.size + 1 < w4.heap.size := World.block_lt_of_cell? _ _ cX1_0
  clear cX3_0 cX3_1 sX3
  replace fX4_0 := frozen_later hb cX4_0 fX4_0; replace fX4_1 := frozen_later hb cX4_1 fX4_1; replace fX4_2 := frozen_later hb cX4_2 fX4_2; replace fX4_3 := frozen_later hb cX4_3 fX4_3
  replace cX4_0 := cell_later hb cX4_0; replace cX4_1 := cell_later hb cX4_1; replace cX4_2 := cell_later hb cX4_2; replace cX4_3 := cell_later hb cX4_3
  replace sX4 : p2 < w4.heap.size := World.block_lt_of_cell? _ _ cX4_0
  replace kk := bC kk hb
  clear hb
  go_wp2_with fail
  have gX5 : w.heap.size ≤ w4.heap.size := by have := kk.size; omega
  refine wp_forget (fun W => W.cell? ⟨w.heap.size, 0, none⟩ = some (.int .u64 ah) ∧ W.cell? ⟨w.heap.size, 1, none⟩ = some (.int .u64 al) ∧ W.cell? ⟨w.heap.size + 1, 0, none⟩ = some (.int .u64 bh) ∧ W.cell? ⟨w.heap.size + 1, 1, none⟩ = some (.int .u64 bl) ∧ W.cell? ⟨p2, 0, none⟩ = some (.int .u64 x0) ∧ W.cell? ⟨p2, 1, none⟩ = some (.int .u64 x1) ∧ W.cell? ⟨p2, 2, none⟩ = some (.int .u64 x2) ∧ W.cell? ⟨p2, 3, none⟩ = some (.int .u64 x3) ∧ W.cell? ⟨w4.heap.size, 0, none⟩ = some (.int .u64 x0) ∧ W.cell? ⟨w4.heap.size, 1, none⟩ = some (.int .u64 x1) ∧ W.cell? ⟨w4.heap.size, 2, none⟩ = some (.int .u64 x2) ∧ W.cell? ⟨w4.heap.size, 3, none⟩ = some (.int .u64 x3) ∧ W.frozen? ⟨p2, 0, none⟩ = false ∧ W.frozen? ⟨p2, 1, none⟩ = false ∧ W.frozen? ⟨p2, 2, none⟩ = false ∧ W.frozen? ⟨p2, 3, none⟩ = false ∧ W.frozen? ⟨w4.heap.size, 0, none⟩ = false ∧ W.frozen? ⟨w4.heap.size, 1, none⟩ = false ∧ W.frozen? ⟨w4.heap.size, 2, none⟩ = false ∧ W.frozen? ⟨w4.heap.size, 3, none⟩ = false ∧ Below w.heap.size w W) ⟨cell_later (bA (Below.refl _ _) _) cX0_0, cell_later (bA (Below.refl _ _) _) cX0_1, cell_later (bA (Below.refl _ _) _) cX1_0, cell_later (bA (Below.refl _ _) _) cX1_1, cell_later (bA (Below.refl _ _) _) cX4_0, cell_later (bA (Below.refl _ _) _) cX4_1, cell_later (bA (Below.refl _ _) _) cX4_2, cell_later (bA (Below.refl _ _) _) cX4_3, by go_simp, by go_simp, by go_simp, by go_simp, frozen_later (bA (Below.refl _ _) _) cX4_0 fX4_0, frozen_later (bA (Below.refl _ _) _) cX4_1 fX4_1, frozen_later (bA (Below.refl _ _) _) cX4_2 fX4_2, frozen_later (bA (Below.refl _ _) _) cX4_3 fX4_3, by go_simp, by go_simp, by go_simp, by go_simp, bC kk (bA (Below.refl _ _) _)⟩ (fun w5 hst => ?_)
  clear cX0_0 cX0_1 sX0 cX1_0 cX1_1 sX1 cX4_0 cX4_1 cX4_2 cX4_3 sX4 fX4_0 fX4_1 fX4_2 fX4_3 kk
  obtain ⟨cX0_0, cX0_1, cX1_0, cX1_1, cX4_0, cX4_1, cX4_2, cX4_3, cX5_0, cX5_1, cX5_2, cX5_3, fX4_0, fX4_1, fX4_2, fX4_3, fX5_0, fX5_1, fX5_2, fX5_3, kk⟩ := hst
  have sX0 : w.heap.size < w5.heap.size := World.block_lt_of_cell? _ _ cX0_0
  have sX1 : w.heap.size + 1 < w5.heap.size := World.block_lt_of_cell? _ _ cX1_0
  have sX4 : p2 < w5.heap.size := World.block_lt_of_cell? _ _ cX4_0
  have sX5 : w4.heap.size < w5.heap.size := World.block_lt_of_cell? _ _ cX5_0
  refine wp_region_noPanic ?_
  refine wp_region_F [] [] (LS w5 (fun _ _ => True) (fun _ _ _ => True)) (by kernel_rfl) (bs := []) (vs := []) (by kernel_rfl) rfl (LS.before noBits_nil (Below.refl _ _).drew trivial) ?_
  refine wpF_take (i := 0) (v := ?vq36) rfl (by kernel_rfl) (by kernel_rfl) (fun _ _ _ h => h) (LS.load (by rfl) ?yq36) ?rq36
  case yq36 => (intro wq hb; have lcX4_0 := cell_later hb cX4_0; have lcX4_1 := cell_later hb cX4_1; have lcX4_2 := cell_later hb cX4_2; have lcX4_3 := cell_later hb cX4_3; go_simp; try (with_reducible rfl))
  try simp only [List.getElem_toArray, List.getElem_cons_zero, List.getElem_cons_succ, Act.put, List.setIfInBounds_toArray, List.set_cons_zero, List.set_cons_succ]
  refine wpF_take (i := 1) (v := ?vq37) rfl (by kernel_rfl) (by kernel_rfl) (fun _ _ _ h => h) (LS.load (by rfl) ?yq37) ?rq37
  case yq37 => (intro wq hb; have lcX5_0 := cell_later hb cX5_0; have lcX5_1 := cell_later hb cX5_1; have lcX5_2 := cell_later hb cX5_2; have lcX5_3 := cell_later hb cX5_3; go_simp; try (with_reducible rfl))
  try simp only [List.getElem_toArray, List.getElem_cons_zero, List.getElem_cons_succ, Act.put, List.setIfInBounds_toArray, List.set_cons_zero, List.set_cons_succ]
  refine wpF_yield (i := 2) (v := ?vq38) rfl (by kernel_rfl) (by kernel_rfl) (fun _ _ _ h => h) (Or.inl ⟨by rfl, ?yq38⟩) ?rq38
  case yq38 => (intro wq; go_simp; try (with_reducible rfl))
  try simp only [List.getElem_toArray, List.getElem_cons_zero, List.getElem_cons_succ, Act.put, List.setIfInBounds_toArray, List.set_cons_zero, List.set_cons_succ]
  refine wpF_yield (i := 3) (v := ?vq39) rfl (by kernel_rfl) (by kernel_rfl) (fun _ _ _ h => h) (Or.inl ⟨by rfl, ?yq39⟩) ?rq39
  case yq39 => (intro wq; go_simp; try (with_reducible rfl))
  try simp only [List.getElem_toArray, List.getElem_cons_zero, List.getElem_cons_succ, Act.put, List.setIfInBounds_toArray, List.set_cons_zero, List.set_cons_succ]
  refine wpF_take (i := 4) (v := ?vq40) rfl (by kernel_rfl) (by kernel_rfl) (fun _ _ _ h => h) (LS.load (by rfl) ?yq40) ?rq40
  case yq40 => (intro wq hb; have lcX0_0 := cell_later hb cX0_0; have lcX0_1 := cell_later hb cX0_1; go_simp; try (with_reducible rfl))
  try simp only [List.getElem_toArray, List.getElem_cons_zero, List.getElem_cons_succ, Act.put, List.setIfInBounds_toArray, List.set_cons_zero, List.set_cons_succ]
  refine wpF_take (i := 5) (v := ?vq41) rfl (by kernel_rfl) (by kernel_rfl) (fun _ _ _ h => h) (LS.load (by rfl) ?yq41) ?rq41
  case yq41 => (intro wq hb; have lcX1_0 := cell_later hb cX1_0; have lcX1_1 := cell_later hb cX1_1; go_simp; try (with_reducible rfl))
  try simp only [List.getElem_toArray, List.getElem_cons_zero, List.getElem_cons_succ, Act.put, List.setIfInBounds_toArray, List.set_cons_zero, List.set_cons_succ]
  refine wpF_take (i := 6) (v := _) rfl (by kernel_rfl) (by kernel_rfl) (fun _ _ _ h => h) (LS.call lasts_true (by rfl) _ _ ?yq42 (h1.out)) ?rq42
  case yq42 => (intro wq; go_simp; try (with_reducible rfl))
  try simp only [List.getElem_toArray, List.getElem_cons_zero, List.getElem_cons_succ, Act.put, List.setIfInBounds_toArray, List.set_cons_zero, List.set_cons_succ]
  refine wpF_take (i := 7) (v := ?vq43) rfl (by kernel_rfl) (by kernel_rfl) (fun _ _ _ h => h) (LS.load (by rfl) ?yq43) ?rq43
  case yq43 => (intro wq hb; have lcX1_0 := cell_later hb cX1_0; have lcX1_1 := cell_later hb cX1_1; go_simp; try (with_reducible rfl))
  try simp only [List.getElem_toArray, List.getElem_cons_zero, List.getElem_cons_succ, Act.put, List.setIfInBounds_toArray, List.set_cons_zero, List.set_cons_succ]
  refine wpF_take (i := 8) (v := ?vq44) rfl (by kernel_rfl) (by kernel_rfl) (fun _ _ _ h => h) (LS.load (by rfl) ?yq44) ?rq44
  case yq44 => (intro wq hb; have lcX0_0 := cell_later hb cX0_0; have lcX0_1 := cell_later hb cX0_1; go_simp; try (with_reducible rfl))
  try simp only [List.getElem_toArray, List.getElem_cons_zero, List.getElem_cons_succ, Act.put, List.setIfInBounds_toArray, List.set_cons_zero, List.set_cons_succ]
  refine wpF_take (i := 9) (v := _) rfl (by kernel_rfl) (by kernel_rfl) (fun _ _ _ h => h) (LS.call lasts_true (by rfl) _ _ ?yq45 (h6.out)) ?rq45
  case yq45 => (intro wq; go_simp; try (with_reducible rfl))
  try simp only [List.getElem_toArray, List.getElem_cons_zero, List.getElem_cons_succ, Act.put, List.setIfInBounds_toArray, List.set_cons_zero, List.set_cons_succ]
  refine wpF_yield (i := 10) (v := ?vq46) rfl (by kernel_rfl) (by kernel_rfl) (fun _ _ _ h => h) (Or.inl ⟨by rfl, ?yq46⟩) ?rq46
  case yq46 => (intro wq; go_simp; try (with_reducible rfl))
  try simp only [List.getElem_toArray, List.getElem_cons_zero, List.getElem_cons_succ, Act.put, List.setIfInBounds_toArray, List.set_cons_zero, List.set_cons_succ]
  refine wpF_yield (i := 11) (v := ?vq47) rfl (by kernel_rfl) (by kernel_rfl) (fun _ _ _ h => h) (Or.inl ⟨by rfl, ?yq47⟩) ?rq47
  case yq47 => (intro wq; go_simp; try (with_reducible rfl))
  try simp only [List.getElem_toArray, List.getElem_cons_zero, List.getElem_cons_succ, Act.put, List.setIfInBounds_toArray, List.set_cons_zero, List.set_cons_succ]
  refine wpF_yield (i := 12) (v := ?vq48) rfl (by kernel_rfl) (by kernel_rfl) (fun _ _ _ h => h) (Or.inl ⟨by rfl, ?yq48⟩) ?rq48
  case yq48 => (intro wq; go_simp; try (with_reducible rfl))
  try simp only [List.getElem_toArray, List.getElem_cons_zero, List.getElem_cons_succ, Act.put, List.setIfInBounds_toArray, List.set_cons_zero, List.set_cons_succ]
  refine wpF_take (i := 13) (v := ?vq49) rfl (by kernel_rfl) (by kernel_rfl) (fun _ _ _ h => h) (LS.load (by rfl) ?yq49) ?rq49
  case yq49 => (intro wq hb; have lcX0_0 := cell_later hb cX0_0; have lcX0_1 := cell_later hb cX0_1; go_simp; try (with_reducible rfl))
  try simp only [List.getElem_toArray, List.getElem_cons_zero, List.getElem_cons_succ, Act.put, List.setIfInBounds_toArray, List.set_cons_zero, List.set_cons_succ]
  refine wpF_yield (i := 14) (v := ?vq50) rfl (by kernel_rfl) (by kernel_rfl) (fun _ _ _ h => h) (Or.inl ⟨by rfl, ?yq50⟩) ?rq50
  case yq50 => (intro wq; go_simp; try (with_reducible rfl))
  try simp only [List.getElem_toArray, List.getElem_cons_zero, List.getElem_cons_succ, Act.put, List.setIfInBounds_toArray, List.set_cons_zero, List.set_cons_succ]
  refine wpF_take (i := 15) (v := _) rfl (by kernel_rfl) (by kernel_rfl) (fun _ _ _ h => h) (LS.call lasts_true (by rfl) _ _ ?yq51 (h7.out)) ?rq51
  case yq51 => (intro wq; go_simp; try (with_reducible rfl))
  try simp only [List.getElem_toArray, List.getElem_cons_zero, List.getElem_cons_succ, Act.put, List.setIfInBounds_toArray, List.set_cons_zero, List.set_cons_succ]
  refine wpF_take (i := 16) (v := ?vq52) rfl (by kernel_rfl) (by kernel_rfl) (fun _ _ _ h => h) (LS.load (by rfl) ?yq52) ?rq52
  case yq52 => (intro wq hb; have lcX0_0 := cell_later hb cX0_0; have lcX0_1 := cell_later hb cX0_1; go_simp; try (with_reducible rfl))
  try simp only [List.getElem_toArray, List.getElem_cons_zero, List.getElem_cons_succ, Act.put, List.setIfInBounds_toArray, List.set_cons_zero, List.set_cons_succ]
  refine wpF_take (i := 17) (v := _) rfl (by kernel_rfl) (by kernel_rfl) (fun _ _ _ h => h) (LS.call lasts_true (by rfl) _ _ ?yq53 (of_any ah al)) ?rq53
  case yq53 => (intro wq; go_simp; try (with_reducible rfl))
  try simp only [List.getElem_toArray, List.getElem_cons_zero, List.getElem_cons_succ, Act.put, List.setIfInBounds_toArray, List.set_cons_zero, List.set_cons_succ]
  refine wpF_yield (i := 18) (v := ?vq54) rfl (by kernel_rfl) (by kernel_rfl) (fun _ _ _ h => h) (Or.inl ⟨by rfl, ?yq54⟩) ?rq54
  case yq54 => (intro wq; go_simp; try (with_reducible rfl))
  try simp only [List.getElem_toArray, List.getElem_cons_zero, List.getElem_cons_succ, Act.put, List.setIfInBounds_toArray, List.set_cons_zero, List.set_cons_succ]
  refine wpF_yield (i := 19) (v := ?vq55) rfl (by kernel_rfl) (by kernel_rfl) (fun _ _ _ h => h) (Or.inl ⟨by rfl, ?yq55⟩) ?rq55
  case yq55 => (intro wq; go_simp; try (with_reducible rfl))
  try simp only [List.getElem_toArray, List.getElem_cons_zero, List.getElem_cons_succ, Act.put, List.setIfInBounds_toArray, List.set_cons_zero, List.set_cons_succ]
  refine wpF_yield (i := 20) (v := ?vq56) rfl (by kernel_rfl) (by kernel_rfl) (fun _ _ _ h => h) (Or.inl ⟨by rfl, ?yq56⟩) ?rq56
  case yq56 => (intro wq; go_simp; try (with_reducible rfl))
  try simp only [List.getElem_toArray, List.getElem_cons_zero, List.getElem_cons_succ, Act.put, List.setIfInBounds_toArray, List.set_cons_zero, List.set_cons_succ]
  refine wpF_take (i := 21) (v := ?vq57) rfl (by kernel_rfl) (by kernel_rfl) (fun _ _ _ h => h) (LS.load (by rfl) ?yq57) ?rq57
  case yq57 => (intro wq hb; have lcX0_0 := cell_later hb cX0_0; have lcX0_1 := cell_later hb cX0_1; go_simp; try (with_reducible rfl))
  try simp only [List.getElem_toArray, List.getElem_cons_zero, List.getElem_cons_succ, Act.put, List.setIfInBounds_toArray, List.set_cons_zero, List.set_cons_succ]
  refine wpF_yield (i := 22) (v := ?vq58) rfl (by kernel_rfl) (by kernel_rfl) (fun _ _ _ h => h) (Or.inl ⟨by rfl, ?yq58⟩) ?rq58
  case yq58 => (intro wq; go_simp; try (with_reducible rfl))
  try simp only [List.getElem_toArray, List.getElem_cons_zero, List.getElem_cons_succ, Act.put, List.setIfInBounds_toArray, List.set_cons_zero, List.set_cons_succ]
  refine wpF_take (i := 23) (v := _) rfl (by kernel_rfl) (by kernel_rfl) (fun _ _ _ h => h) (LS.call lasts_true (by rfl) _ _ ?yq59 (h9.out)) ?rq59
  case yq59 => (intro wq; go_simp; try (with_reducible rfl))
  try simp only [List.getElem_toArray, List.getElem_cons_zero, List.getElem_cons_succ, Act.put, List.setIfInBounds_toArray, List.set_cons_zero, List.set_cons_succ]
  refine wpF_yield (i := 24) (v := ?vq60) rfl (by kernel_rfl) (by kernel_rfl) (fun _ _ _ h => h) (Or.inl ⟨by rfl, ?yq60⟩) ?rq60
  case yq60 => (intro wq; go_simp; try (with_reducible rfl))
  try simp only [List.getElem_toArray, List.getElem_cons_zero, List.getElem_cons_succ, Act.put, List.setIfInBounds_toArray, List.set_cons_zero, List.set_cons_succ]
  refine wpF_take (i := 25) (v := ?vq61) rfl (by kernel_rfl) (by kernel_rfl) (fun _ _ _ h => h) (LS.load (by rfl) ?yq61) ?rq61
  case yq61 => (intro wq hb; have lcX0_1 := cell_later hb cX0_1; go_simp; try (with_reducible rfl))
  try simp only [List.getElem_toArray, List.getElem_cons_zero, List.getElem_cons_succ, Act.put, List.setIfInBounds_toArray, List.set_cons_zero, List.set_cons_succ]
  refine wpF_yield (i := 26) (v := ?vq62) rfl (by kernel_rfl) (by kernel_rfl) (fun _ _ _ h => h) (Or.inl ⟨by rfl, ?yq62⟩) ?rq62
  case yq62 => (intro wq; go_simp; try (with_reducible rfl))
  try simp only [List.getElem_toArray, List.getElem_cons_zero, List.getElem_cons_succ, Act.put, List.setIfInBounds_toArray, List.set_cons_zero, List.set_cons_succ]
  refine wpF_take (i := 27) (v := ?vq63) rfl (by kernel_rfl) (by kernel_rfl) (fun _ _ _ h => h) (LS.load (by rfl) ?yq63) ?rq63
  case yq63 => (intro wq hb; have lcX0_0 := cell_later hb cX0_0; go_simp; try (with_reducible rfl))
  try simp only [List.getElem_toArray, List.getElem_cons_zero, List.getElem_cons_succ, Act.put, List.setIfInBounds_toArray, List.set_cons_zero, List.set_cons_succ]
  refine wpF_yield (i := 28) (v := ?vq64) rfl (by kernel_rfl) (by kernel_rfl) (fun _ _ _ h => h) (Or.inl ⟨by rfl, ?yq64⟩) ?rq64
  case yq64 => (intro wq; go_simp; try (with_reducible rfl))
  try simp only [List.getElem_toArray, List.getElem_cons_zero, List.getElem_cons_succ, Act.put, List.setIfInBounds_toArray, List.set_cons_zero, List.set_cons_succ]
  refine wpF_yield (i := 29) (v := ?vq65) rfl (by kernel_rfl) (by kernel_rfl) (fun _ _ _ h => h) (Or.inl ⟨by rfl, ?yq65⟩) ?rq65
  case yq65 => (intro wq; go_simp; try (with_reducible rfl))
  try simp only [List.getElem_toArray, List.getElem_cons_zero, List.getElem_cons_succ, Act.put, List.setIfInBounds_toArray, List.set_cons_zero, List.set_cons_succ]
  refine wpF_yield (i := 30) (v := ?vq66) rfl (by kernel_rfl) (by kernel_rfl) (fun _ _ _ h => h) (Or.inl ⟨by rfl, ?yq66⟩) ?rq66
  case yq66 => (intro wq; go_simp; try (with_reducible rfl))
  try simp only [List.getElem_toArray, List.getElem_cons_zero, List.getElem_cons_succ, Act.put, List.setIfInBounds_toArray, List.set_cons_zero, List.set_cons_succ]
  refine wpF_yield (i := 31) (v := ?vq67) rfl (by kernel_rfl) (by kernel_rfl) (fun _ _ _ h => h) (Or.inl ⟨by rfl, ?yq67⟩) ?rq67
  case yq67 => (intro wq; go_simp; try (with_reducible rfl))
  try simp only [List.getElem_toArray, List.getElem_cons_zero, List.getElem_cons_succ, Act.put, List.setIfInBounds_toArray, List.set_cons_zero, List.set_cons_succ]
  refine wpF_take (i := 32) (v := _) rfl (by kernel_rfl) (by kernel_rfl) (fun _ _ _ h => h) (LS.call lasts_true (by rfl) _ _ ?yq68 (counts2_any)) ?rq68
  case yq68 => (intro wq; go_simp; try (with_reducible rfl))
  try simp only [List.getElem_toArray, List.getElem_cons_zero, List.getElem_cons_succ, Act.put, List.setIfInBounds_toArray, List.set_cons_zero, List.set_cons_succ]
  refine wpF_yield (i := 33) (v := ?vq69) rfl (by kernel_rfl) (by kernel_rfl) (fun _ _ _ h => h) (Or.inl ⟨by rfl, ?yq69⟩) ?rq69
  case yq69 => (intro wq; go_simp; try (with_reducible rfl))
  try simp only [List.getElem_toArray, List.getElem_cons_zero, List.getElem_cons_succ, Act.put, List.setIfInBounds_toArray, List.set_cons_zero, List.set_cons_succ]
  refine wpF_yield (i := 34) (v := ?vq70) rfl (by kernel_rfl) (by kernel_rfl) (fun _ _ _ h => h) (Or.inl ⟨by rfl, ?yq70⟩) ?rq70
  case yq70 => (intro wq; go_simp; try (with_reducible rfl))
  try simp only [List.getElem_toArray, List.getElem_cons_zero, List.getElem_cons_succ, Act.put, List.setIfInBounds_toArray, List.set_cons_zero, List.set_cons_succ]
  refine wpF_done (bs := []) (vs := []) (by kernel_rfl) (by kernel_rfl) rfl (fun w6 hS => ?_) _
  refine NoPanic.normal ?_
  obtain ⟨hb, _⟩ := hS.1 noBits_nil
  clear hS
  clear cX0_0 cX0_1 sX0
  clear cX1_0 cX1_1 sX1
  clear cX4_0 cX4_1 cX4_2 cX4_3 sX4
  clear cX5_0 cX5_1 cX5_2 cX5_3 sX5
  replace kk := bC kk hb
  clear hb
  go_wp2_with fail
  go_ret
  exact ⟨rfl, kk⟩

set_option maxHeartbeats 4000000 in
set_option maxRecDepth 100000 in
theorem mul2_carry (ah al bh bl ch cl sh sl m0 m1 m2 m3 n0 n1 n2 n3 x0 x1 x2 x3 t0 t1 t2 t3 : Int) (k k2 : Bool)
    (h0 : Hid (∀ w, Calls Try.prog 38 #[.agg #[.int .u64 bh, .int .u64 bl], .agg #[.int .u64 ch, .int .u64 cl]] w fun e w' => e = .returned (.tuple #[.agg #[.int .u64 sh, .int .u64 sl], .bool true]) ∧ Below w.heap.size w w'))
    (h1 : Hid (∀ w, Calls Try.prog 29 #[.agg #[.int .u64 ah, .int .u64 al], .agg #[.int .u64 bh, .int .u64 bl]] w fun e w' => e = .returned (.agg #[.int .u64 m0, .int .u64 m1, .int .u64 m2, .int .u64 m3]) ∧ Below w.heap.size w w'))
    (h2 : Hid (∀ w, Calls Try.prog 29 #[.agg #[.int .u64 ah, .int .u64 al], .agg #[.int .u64 ch, .int .u64 cl]] w fun e w' => e = .returned (.agg #[.int .u64 n0, .int .u64 n1, .int .u64 n2, .int .u64 n3]) ∧ Below w.heap.size w w'))
    (h3 : Hid (∀ w, Calls Try.prog 17 #[.agg #[.int .u64 m0, .int .u64 m1, .int .u64 m2, .int .u64 m3], .agg #[.int .u64 n0, .int .u64 n1, .int .u64 n2, .int .u64 n3]] w fun e w' => e = .returned (.tuple #[.agg #[.int .u64 x0, .int .u64 x1, .int .u64 x2, .int .u64 x3], .bool k]) ∧ Below w.heap.size w w'))
    (h4 : Hid (∀ w, Calls Try.prog 29 #[.agg #[.int .u64 ah, .int .u64 al], .agg #[.int .u64 sh, .int .u64 sl]] w fun e w' => e = .returned (.agg #[.int .u64 t0, .int .u64 t1, .int .u64 t2, .int .u64 t3]) ∧ Below w.heap.size w w'))
    (h6 : Hid (∀ w, Calls Try.prog 17 #[.agg #[.int .u64 t0, .int .u64 t1, .int .u64 t2, .int .u64 t3], .agg #[.int .u64 0, .int .u64 0, .int .u64 al, .int .u64 ah]] w fun e w' => e = .returned (.tuple #[.agg #[.int .u64 x0, .int .u64 x1, .int .u64 x2, .int .u64 x3], .bool k2]) ∧ Below w.heap.size w w'))
    (h8 : Hid (∀ w, Calls Try.prog 29 #[.agg #[.int .u64 bh, .int .u64 bl], .agg #[.int .u64 ah, .int .u64 al]] w fun e w' => e = .returned (.agg #[.int .u64 m0, .int .u64 m1, .int .u64 m2, .int .u64 m3]) ∧ Below w.heap.size w w'))
    (h9 : Hid (∀ w, Calls Try.prog 29 #[.agg #[.int .u64 ah, .int .u64 al], .agg #[.int .u64 0, .int .u64 1]] w fun e w' => e = .returned (.agg #[.int .u64 al, .int .u64 ah, .int .u64 0, .int .u64 0]) ∧ Below w.heap.size w w'))
    (h11 : Hid (∀ w, Calls Try.prog 29 #[.agg #[.int .u64 ah, .int .u64 al], .agg #[.int .u64 1, .int .u64 0]] w fun e w' => e = .returned (.agg #[.int .u64 0, .int .u64 al, .int .u64 ah, .int .u64 0]) ∧ Below w.heap.size w w')) (w : World) :
    Calls Try.prog 6 #[.agg #[.int .u64 ah, .int .u64 al], .agg #[.int .u64 bh, .int .u64 bl], .agg #[.int .u64 ch, .int .u64 cl]] w fun e w' => e = .returned (.bool true) ∧ Below w.heap.size w w' := by
  have Ex := eqw x0 x1 x2 x3
  have Em := eqw m0 m1 m2 m3
  have Eo := eqw al ah 0 0
  have Es := eqw 0 al ah 0
  go_enter Try.func6, Try.ntmps6
  go_wp2_with fail
  (with_reducible refine (h0.out _).mono ?_); rintro e w1 ⟨rfl, hb⟩
  have hz := bC (bA (bA (bA (Below.refl _ _) _) _) _) hb
  have cX0_0 := cell_later hb (a := ⟨w.heap.size, 0, none⟩) (v := .int .u64 ah) (by go_simp)
  have cX0_1 := cell_later hb (a := ⟨w.heap.size, 1, none⟩) (v := .int .u64 al) (by go_simp)
  have sX0 : w.heap.size < w1.heap.size := World.block_lt_of_cell? _ _ cX0_0
  have cX1_0 := cell_later hb (a := ⟨w.heap.size + 1, 0, none⟩) (v := .int .u64 bh) (by go_simp)
  have cX1_1 := cell_later hb (a := ⟨w.heap.size + 1, 1, none⟩) (v := .int .u64 bl) (by go_simp)
  have sX1 : w.heap.size + 1 < w1.heap.size := World.block_lt_of_cell? _ _ cX1_0
  have cX2_0 := cell_later hb (a := ⟨w.heap.size + 1 + 1, 0, none⟩) (v := .int .u64 ch) (by go_simp)
  have cX2_1 := cell_later hb (a := ⟨w.heap.size + 1 + 1, 1, none⟩) (v := .int .u64 cl) (by go_simp)
  have sX2 : w.heap.size + 1 + 1 < w1.heap.size := World.block_lt_of_cell? _ _ cX2_0
  have kk := hz
  clear hb hz
  go_wp2_with fail
  have nX0_X3 : w.heap.size < w1.heap.size := by omega
  have nX1_X3 : w.heap.size + 1 < w1.heap.size := by omega
  have gX3 : w.heap.size ≤ w1.heap.size := by have := kk.size; omega
  refine wp_forget (fun W => W.cell? ⟨w.heap.size, 0, none⟩ = some (.int .u64 ah) ∧ W.cell? ⟨w.heap.size, 1, none⟩ = some (.int .u64 al) ∧ W.cell? ⟨w.heap.size + 1, 0, none⟩ = some (.int .u64 bh) ∧ W.cell? ⟨w.heap.size + 1, 1, none⟩ = some (.int .u64 bl) ∧ W.cell? ⟨w.heap.size + 1 + 1, 0, none⟩ = some (.int .u64 ch) ∧ W.cell? ⟨w.heap.size + 1 + 1, 1, none⟩ = some (.int .u64 cl) ∧ W.cell? ⟨w1.heap.size, 0, none⟩ = some (.int .u64 sh) ∧ W.cell? ⟨w1.heap.size, 1, none⟩ = some (.int .u64 sl) ∧ W.frozen? ⟨w1.heap.size, 0, none⟩ = false ∧ W.frozen? ⟨w1.heap.size, 1, none⟩ = false ∧ Below w.heap.size w W) ⟨cell_later (bA (Below.refl _ _) _) cX0_0, cell_later (bA (Below.refl _ _) _) cX0_1, cell_later (bA (Below.refl _ _) _) cX1_0, cell_later (bA (Below.refl _ _) _) cX1_1, cell_later (bA (Below.refl _ _) _) cX2_0, cell_later (bA (Below.refl _ _) _) cX2_1, by go_simp, by go_simp, by go_simp, by go_simp, bC kk (bA (Below.refl _ _) _)⟩ (fun w2 hst => ?_)
  clear cX0_0 cX0_1 sX0 cX1_0 cX1_1 sX1 cX2_0 cX2_1 sX2 kk
  obtain ⟨cX0_0, cX0_1, cX1_0, cX1_1, cX2_0, cX2_1, cX3_0, cX3_1, fX3_0, fX3_1, kk⟩ := hst
  have sX0 : w.heap.size < w2.heap.size := World.block_lt_of_cell? _ _ cX0_0
  have sX1 : w.heap.size + 1 < w2.heap.size := World.block_lt_of_cell? _ _ cX1_0
  have sX2 : w.heap.size + 1 + 1 < w2.heap.size := World.block_lt_of_cell? _ _ cX2_0
  have sX3 : w1.heap.size < w2.heap.size := World.block_lt_of_cell? _ _ cX3_0
  refine wp_region_noPanic ?_
  refine wp_region_F [11] [9] (LS w2 (AW w2) (ZW w2 x0 x1 x2 x3)) (by kernel_rfl) (bs := [false]) (vs := [undef]) (by kernel_rfl) rfl (LS.before noBits_f (Below.refl _ _).drew (AW.start _ _)) ?_
  refine wpF_take (i := 0) (v := ?vq71) rfl (by kernel_rfl) (by kernel_rfl) (fun _ _ _ h => h) (LS.load (by rfl) ?yq71) ?rq71
  case yq71 => (intro wq hb; have lcX0_0 := cell_later hb cX0_0; have lcX0_1 := cell_later hb cX0_1; go_simp; try (with_reducible rfl))
  try simp only [List.getElem_toArray, List.getElem_cons_zero, List.getElem_cons_succ, Act.put, List.setIfInBounds_toArray, List.set_cons_zero, List.set_cons_succ]
  refine wpF_take (i := 1) (v := ?vq72) rfl (by kernel_rfl) (by kernel_rfl) (fun _ _ _ h => h) (LS.load (by rfl) ?yq72) ?rq72
  case yq72 => (intro wq hb; have lcX1_0 := cell_later hb cX1_0; have lcX1_1 := cell_later hb cX1_1; go_simp; try (with_reducible rfl))
  try simp only [List.getElem_toArray, List.getElem_cons_zero, List.getElem_cons_succ, Act.put, List.setIfInBounds_toArray, List.set_cons_zero, List.set_cons_succ]
  refine wpF_take (i := 2) (v := _) rfl (by kernel_rfl) (by kernel_rfl) (fun _ _ _ h => h) (LS.call (AW.lasts w2) (by rfl) _ _ ?yq73 (h1.out)) ?rq73
  case yq73 => (intro wq; go_simp; try (with_reducible rfl))
  try simp only [List.getElem_toArray, List.getElem_cons_zero, List.getElem_cons_succ, Act.put, List.setIfInBounds_toArray, List.set_cons_zero, List.set_cons_succ]
  refine wpF_take (i := 3) (v := ?vq74) rfl (by kernel_rfl) (by kernel_rfl) (fun _ _ _ h => h) (LS.load (by rfl) ?yq74) ?rq74
  case yq74 => (intro wq hb; have lcX0_0 := cell_later hb cX0_0; have lcX0_1 := cell_later hb cX0_1; go_simp; try (with_reducible rfl))
  try simp only [List.getElem_toArray, List.getElem_cons_zero, List.getElem_cons_succ, Act.put, List.setIfInBounds_toArray, List.set_cons_zero, List.set_cons_succ]
  refine wpF_take (i := 4) (v := ?vq75) rfl (by kernel_rfl) (by kernel_rfl) (fun _ _ _ h => h) (LS.load (by rfl) ?yq75) ?rq75
  case yq75 => (intro wq hb; have lcX2_0 := cell_later hb cX2_0; have lcX2_1 := cell_later hb cX2_1; go_simp; try (with_reducible rfl))
  try simp only [List.getElem_toArray, List.getElem_cons_zero, List.getElem_cons_succ, Act.put, List.setIfInBounds_toArray, List.set_cons_zero, List.set_cons_succ]
  refine wpF_take (i := 5) (v := _) rfl (by kernel_rfl) (by kernel_rfl) (fun _ _ _ h => h) (LS.call (AW.lasts w2) (by rfl) _ _ ?yq76 (h2.out)) ?rq76
  case yq76 => (intro wq; go_simp; try (with_reducible rfl))
  try simp only [List.getElem_toArray, List.getElem_cons_zero, List.getElem_cons_succ, Act.put, List.setIfInBounds_toArray, List.set_cons_zero, List.set_cons_succ]
  refine wpF_take (i := 6) (v := _) rfl (by kernel_rfl) (by kernel_rfl) (fun _ _ _ h => h) (LS.call (AW.lasts w2) (by rfl) _ _ ?yq77 (h3.out)) ?rq77
  case yq77 => (intro wq; go_simp; try (with_reducible rfl))
  try simp only [List.getElem_toArray, List.getElem_cons_zero, List.getElem_cons_succ, Act.put, List.setIfInBounds_toArray, List.set_cons_zero, List.set_cons_succ]
  refine wpF_yield (i := 7) (v := ?vq78) rfl (by kernel_rfl) (by kernel_rfl) (fun _ _ _ h => h) (Or.inl ⟨by rfl, ?yq78⟩) ?rq78
  case yq78 => (intro wq; go_simp; try (with_reducible rfl))
  try simp only [List.getElem_toArray, List.getElem_cons_zero, List.getElem_cons_succ, Act.put, List.setIfInBounds_toArray, List.set_cons_zero, List.set_cons_succ]
  refine wpF_yield (i := 8) (v := ?vq79) rfl (by kernel_rfl) (by kernel_rfl) (fun _ _ _ h => h) (Or.inl ⟨by rfl, ?yq79⟩) ?rq79
  case yq79 => (intro wq; go_simp; try (with_reducible rfl))
  try simp only [List.getElem_toArray, List.getElem_cons_zero, List.getElem_cons_succ, Act.put, List.setIfInBounds_toArray, List.set_cons_zero, List.set_cons_succ]
  refine wpF_yield (i := 9) (v := ?vq80) rfl (by kernel_rfl) (by kernel_rfl) (fun _ _ _ h => h) (Or.inl ⟨by rfl, ?yq80⟩) ?rq80
  case yq80 => (intro wq; go_simp; try (with_reducible rfl))
  try simp only [List.getElem_toArray, List.getElem_cons_zero, List.getElem_cons_succ, Act.put, List.setIfInBounds_toArray, List.set_cons_zero, List.set_cons_succ]
  refine wpF_step (i := 10) (bs := [false]) (bs' := [false]) (vs := [undef]) (by kernel_rfl) rfl (by kernel_rfl) rfl (by kernel_rfl) (fun wq hS K hK => ?_)
  obtain ⟨hb, hA⟩ := hS.1 noBits_f
  go_simp
  refine hK.out _ _ (LS.before noBits_f (bA hb _) (AW.new hb _ rfl)) ?_
  clear hK hA hb hS
  generalize wq.heap.size = p2 at *
  try simp only [List.getElem_toArray, List.getElem_cons_zero, List.getElem_cons_succ, Act.put, List.setIfInBounds_toArray, List.set_cons_zero, List.set_cons_succ]
  refine wpF_step (i := 11) (bs := [false]) (bs' := [true]) (vs := [.pointer (some ⟨p2, 0, none⟩)]) (by kernel_rfl) rfl (by kernel_rfl) rfl (by kernel_rfl) (fun wq hS K hK => ?_)
  obtain ⟨hb, hA⟩ := hS.1 noBits_f
  have ZZ := Lib.hid (ZW.of hb hA x0 x1 x2 x3 [true])
  obtain ⟨hp, x, f⟩ := hA _ rfl
  obtain ⟨_, z0, z1, z2, z3⟩ := x
  obtain ⟨f0, f1, f2, f3⟩ := f
  go_simp
  refine hK.out _ _ (LS.behind bits_t ZZ.out) ?_
  clear hK hA hb ZZ hS z0 z1 z2 z3 f0 f1 f2 f3 hp
  try simp only [List.getElem_toArray, List.getElem_cons_zero, List.getElem_cons_succ, Act.put, List.setIfInBounds_toArray, List.set_cons_zero, List.set_cons_succ]
  refine wpF_yield (i := 12) (v := ?vq81) rfl (by kernel_rfl) (by kernel_rfl) (fun _ _ _ h => h) (Or.inl ⟨by rfl, ?yq81⟩) ?rq81
  case yq81 => (intro wq; go_simp; try (with_reducible rfl))
  try simp only [List.getElem_toArray, List.getElem_cons_zero, List.getElem_cons_succ, Act.put, List.setIfInBounds_toArray, List.set_cons_zero, List.set_cons_succ]
  refine wpF_done (bs := [true]) (vs := [.pointer (some ⟨p2, 0, none⟩)]) (by kernel_rfl) (by kernel_rfl) rfl (fun w3 hS => ?_) _
  refine NoPanic.normal ?_
  obtain ⟨q, hpp, hge, hbox, hfr, hb⟩ := hS.2 bits_t
  obtain rfl := ptr_eq hpp rfl
  have nX0_X4 : w.heap.size < p2 := by omega
  have nX1_X4 : w.heap.size + 1 < p2 := by omega
  have nX3_X4 : w1.heap.size < p2 := by omega
  have gX4 : w.heap.size ≤ p2 := by have := kk.size; omega
  obtain ⟨_, cX4_0, cX4_1, cX4_2, cX4_3⟩ := hbox
  clear hS
  obtain ⟨fX4_0, fX4_1, fX4_2, fX4_3⟩ := hfr
  replace cX0_0 := cell_later hb cX0_0; replace cX0_1 := cell_later hb cX0_1
  replace sX0 : w.heap.size < w3.heap.size := World.block_lt_of_cell? _ _ cX0_0
  replace cX1_0 := cell_later hb cX1_0; replace cX1_1 := cell_later hb cX1_1
  replace sX1 : w.heap.size + 1 < w3.heap.size := World.block_lt_of_cell? _ _ cX1_0
  clear cX2_0 cX2_1 sX2
  replace fX3_0 := frozen_later hb cX3_0 fX3_0; replace fX3_1 := frozen_later hb cX3_1 fX3_1
  replace cX3_0 := cell_later hb cX3_0; replace cX3_1 := cell_later hb cX3_1
  replace sX3 : w1.heap.size < w3.heap.size := World.block_lt_of_cell? _ _ cX3_0
  have sX4 : p2 < w3.heap.size := World.block_lt_of_cell? _ _ cX4_0
  replace kk := bC kk hb
  clear hb
  go_wp2_with fail
  (with_reducible refine (h4.out _).mono ?_); rintro e w4 ⟨rfl, hb⟩
  replace cX0_0 := cell_later hb cX0_0; replace cX0_1 := cell_later hb cX0_1
  replace sX0 : w.heap.size < w4.heap.size := World.block_lt_of_cell? _ _ cX0_0
  replace cX1_0 := cell_later hb cX1_0; replace cX1_1 := cell_later hb cX1_1
  replace sX1 : w.heap.size + 1 < w4.heap.size := World.block_lt_of_cell? _ _ cX1_0
  clear cX3_0 cX3_1 sX3
  replace fX4_0 := frozen_later hb cX4_0 fX4_0; replace fX4_1 := frozen_later hb cX4_1 fX4_1; replace fX4_2 := frozen_later hb cX4_2 fX4_2; replace fX4_3 := frozen_later hb cX4_3 fX4_3
  replace cX4_0 := cell_later hb cX4_0; replace cX4_1 := cell_later hb cX4_1; replace cX4_2 := cell_later hb cX4_2; replace cX4_3 := cell_later hb cX4_3
  replace sX4 : p2 < w4.heap.size := World.block_lt_of_cell? _ _ cX4_0
  replace kk := bC kk hb
  clear hb
  go_wp2_with fail
  have nX0_X5 : w.heap.size < w4.heap.size := by omega
  have nX1_X5 : w.heap.size + 1 < w4.heap.size := by omega
  have nX4_X5 : p2 < w4.heap.size := by omega
  have gX5 : w.heap.size ≤ w4.heap.size := by have := kk.size; omega
  refine wp_forget (fun W => W.cell? ⟨w.heap.size, 0, none⟩ = some (.int .u64 ah) ∧ W.cell? ⟨w.heap.size, 1, none⟩ = some (.int .u64 al) ∧ W.cell? ⟨w.heap.size + 1, 0, none⟩ = some (.int .u64 bh) ∧ W.cell? ⟨w.heap.size + 1, 1, none⟩ = some (.int .u64 bl) ∧ W.cell? ⟨p2, 0, none⟩ = some (.int .u64 x0) ∧ W.cell? ⟨p2, 1, none⟩ = some (.int .u64 x1) ∧ W.cell? ⟨p2, 2, none⟩ = some (.int .u64 x2) ∧ W.cell? ⟨p2, 3, none⟩ = some (.int .u64 x3) ∧ W.cell? ⟨w4.heap.size, 0, none⟩ = some (.int .u64 t0) ∧ W.cell? ⟨w4.heap.size, 1, none⟩ = some (.int .u64 t1) ∧ W.cell? ⟨w4.heap.size, 2, none⟩ = some (.int .u64 t2) ∧ W.cell? ⟨w4.heap.size, 3, none⟩ = some (.int .u64 t3) ∧ W.frozen? ⟨p2, 0, none⟩ = false ∧ W.frozen? ⟨p2, 1, none⟩ = false ∧ W.frozen? ⟨p2, 2, none⟩ = false ∧ W.frozen? ⟨p2, 3, none⟩ = false ∧ W.frozen? ⟨w4.heap.size, 0, none⟩ = false ∧ W.frozen? ⟨w4.heap.size, 1, none⟩ = false ∧ W.frozen? ⟨w4.heap.size, 2, none⟩ = false ∧ W.frozen? ⟨w4.heap.size, 3, none⟩ = false ∧ Below w.heap.size w W) ⟨cell_later (bA (Below.refl _ _) _) cX0_0, cell_later (bA (Below.refl _ _) _) cX0_1, cell_later (bA (Below.refl _ _) _) cX1_0, cell_later (bA (Below.refl _ _) _) cX1_1, cell_later (bA (Below.refl _ _) _) cX4_0, cell_later (bA (Below.refl _ _) _) cX4_1, cell_later (bA (Below.refl _ _) _) cX4_2, cell_later (bA (Below.refl _ _) _) cX4_3, by go_simp, by go_simp, by go_simp, by go_simp, frozen_later (bA (Below.refl _ _) _) cX4_0 fX4_0, frozen_later (bA (Below.refl _ _) _) cX4_1 fX4_1, frozen_later (bA (Below.refl _ _) _) cX4_2 fX4_2, frozen_later (bA (Below.refl _ _) _) cX4_3 fX4_3, by go_simp, by go_simp, by go_simp, by go_simp, bC kk (bA (Below.refl _ _) _)⟩ (fun w5 hst => ?_)
  clear cX0_0 cX0_1 sX0 cX1_0 cX1_1 sX1 cX4_0 cX4_1 cX4_2 cX4_3 sX4 fX4_0 fX4_1 fX4_2 fX4_3 kk
  obtain ⟨cX0_0, cX0_1, cX1_0, cX1_1, cX4_0, cX4_1, cX4_2, cX4_3, cX5_0, cX5_1, cX5_2, cX5_3, fX4_0, fX4_1, fX4_2, fX4_3, fX5_0, fX5_1, fX5_2, fX5_3, kk⟩ := hst
  have sX0 : w.heap.size < w5.heap.size := World.block_lt_of_cell? _ _ cX0_0
  have sX1 : w.heap.size + 1 < w5.heap.size := World.block_lt_of_cell? _ _ cX1_0
  have sX4 : p2 < w5.heap.size := World.block_lt_of_cell? _ _ cX4_0
  have sX5 : w4.heap.size < w5.heap.size := World.block_lt_of_cell? _ _ cX5_0
  refine wp_region_noPanic ?_
  refine wp_region_F [8] [] (LS w5 (fun _ _ => True) (fun _ _ wx => wx.cell? ⟨w4.heap.size, 0, none⟩ = some (.int .u64 x0) ∧ wx.cell? ⟨w4.heap.size, 1, none⟩ = some (.int .u64 x1) ∧ wx.cell? ⟨w4.heap.size, 2, none⟩ = some (.int .u64 x2) ∧ wx.cell? ⟨w4.heap.size, 3, none⟩ = some (.int .u64 x3) ∧ wx.frozen? ⟨w4.heap.size, 0, none⟩ = false ∧ wx.frozen? ⟨w4.heap.size, 1, none⟩ = false ∧ wx.frozen? ⟨w4.heap.size, 2, none⟩ = false ∧ wx.frozen? ⟨w4.heap.size, 3, none⟩ = false ∧ wx.cell? ⟨w.heap.size, 0, none⟩ = some (.int .u64 ah) ∧ wx.cell? ⟨w.heap.size, 1, none⟩ = some (.int .u64 al) ∧ wx.cell? ⟨w.heap.size + 1, 0, none⟩ = some (.int .u64 bh) ∧ wx.cell? ⟨w.heap.size + 1, 1, none⟩ = some (.int .u64 bl) ∧ wx.cell? ⟨p2, 0, none⟩ = some (.int .u64 x0) ∧ wx.cell? ⟨p2, 1, none⟩ = some (.int .u64 x1) ∧ wx.cell? ⟨p2, 2, none⟩ = some (.int .u64 x2) ∧ wx.cell? ⟨p2, 3, none⟩ = some (.int .u64 x3) ∧ Below w.heap.size w wx)) (by kernel_rfl) (bs := [false]) (vs := []) (by kernel_rfl) rfl (LS.before noBits_f (Below.refl _ _).drew trivial) ?_
  refine wpF_take (i := 0) (v := ?vq82) rfl (by kernel_rfl) (by kernel_rfl) (fun _ _ _ h => h) (LS.load (by rfl) ?yq82) ?rq82
  case yq82 => (intro wq hb; have lcX5_0 := cell_later hb cX5_0; have lcX5_1 := cell_later hb cX5_1; have lcX5_2 := cell_later hb cX5_2; have lcX5_3 := cell_later hb cX5_3; go_simp; try (with_reducible rfl))
  try simp only [List.getElem_toArray, List.getElem_cons_zero, List.getElem_cons_succ, Act.put, List.setIfInBounds_toArray, List.set_cons_zero, List.set_cons_succ]
  refine wpF_take (i := 1) (v := ?vq83) rfl (by kernel_rfl) (by kernel_rfl) (fun _ _ _ h => h) (LS.load (by rfl) ?yq83) ?rq83
  case yq83 => (intro wq hb; have lcX0_0 := cell_later hb cX0_0; have lcX0_1 := cell_later hb cX0_1; go_simp; try (with_reducible rfl))
  try simp only [List.getElem_toArray, List.getElem_cons_zero, List.getElem_cons_succ, Act.put, List.setIfInBounds_toArray, List.set_cons_zero, List.set_cons_succ]
  refine wpF_yield (i := 2) (v := ?vq84) rfl (by kernel_rfl) (by kernel_rfl) (fun _ _ _ h => h) (Or.inl ⟨by rfl, ?yq84⟩) ?rq84
  case yq84 => (intro wq; go_simp; try (with_reducible rfl))
  try simp only [List.getElem_toArray, List.getElem_cons_zero, List.getElem_cons_succ, Act.put, List.setIfInBounds_toArray, List.set_cons_zero, List.set_cons_succ]
  refine wpF_take (i := 3) (v := _) rfl (by kernel_rfl) (by kernel_rfl) (fun _ _ _ h => h) (LS.call lasts_true (by rfl) _ _ ?yq85 (join_any ah al 0 0)) ?rq85
  case yq85 => (intro wq; go_simp; try (with_reducible rfl))
  try simp only [List.getElem_toArray, List.getElem_cons_zero, List.getElem_cons_succ, Act.put, List.setIfInBounds_toArray, List.set_cons_zero, List.set_cons_succ]
  refine wpF_take (i := 4) (v := _) rfl (by kernel_rfl) (by kernel_rfl) (fun _ _ _ h => h) (LS.call lasts_true (by rfl) _ _ ?yq86 (h6.out)) ?rq86
  case yq86 => (intro wq; go_simp; try (with_reducible rfl))
  try simp only [List.getElem_toArray, List.getElem_cons_zero, List.getElem_cons_succ, Act.put, List.setIfInBounds_toArray, List.set_cons_zero, List.set_cons_succ]
  refine wpF_yield (i := 5) (v := ?vq87) rfl (by kernel_rfl) (by kernel_rfl) (fun _ _ _ h => h) (Or.inl ⟨by rfl, ?yq87⟩) ?rq87
  case yq87 => (intro wq; go_simp; try (with_reducible rfl))
  try simp only [List.getElem_toArray, List.getElem_cons_zero, List.getElem_cons_succ, Act.put, List.setIfInBounds_toArray, List.set_cons_zero, List.set_cons_succ]
  refine wpF_yield (i := 6) (v := ?vq88) rfl (by kernel_rfl) (by kernel_rfl) (fun _ _ _ h => h) (Or.inl ⟨by rfl, ?yq88⟩) ?rq88
  case yq88 => (intro wq; go_simp; try (with_reducible rfl))
  try simp only [List.getElem_toArray, List.getElem_cons_zero, List.getElem_cons_succ, Act.put, List.setIfInBounds_toArray, List.set_cons_zero, List.set_cons_succ]
  refine wpF_yield (i := 7) (v := ?vq89) rfl (by kernel_rfl) (by kernel_rfl) (fun _ _ _ h => h) (Or.inl ⟨by rfl, ?yq89⟩) ?rq89
  case yq89 => (intro wq; go_simp; try (with_reducible rfl))
  try simp only [List.getElem_toArray, List.getElem_cons_zero, List.getElem_cons_succ, Act.put, List.setIfInBounds_toArray, List.set_cons_zero, List.set_cons_succ]
  refine wpF_step (i := 8) (bs := [false]) (bs' := [true]) (vs := []) (by kernel_rfl) rfl (by kernel_rfl) rfl (by kernel_rfl) (fun wq hS K hK => ?_)
  obtain ⟨hb, _⟩ := hS.1 noBits_f
  have z0 := cell_later hb cX5_0; have zf0 := frozen_later hb cX5_0 fX5_0
  have z1 := cell_later hb cX5_1; have zf1 := frozen_later hb cX5_1 fX5_1
  have z2 := cell_later hb cX5_2; have zf2 := frozen_later hb cX5_2 fX5_2
  have z3 := cell_later hb cX5_3; have zf3 := frozen_later hb cX5_3 fX5_3
  have NW := wbox_put4 (WBox.of z0 z1 z2 z3) x0 x1 x2 x3
  have NF := WFree.set4 (⟨zf0, zf1, zf2, zf3⟩ : WFree wq (w4.heap.size)) (w4.heap.size) x0 x1 x2 x3
  have ZZ := Lib.hid (show (set4 wq (w4.heap.size) x0 x1 x2 x3).cell? ⟨w4.heap.size, 0, none⟩ = some (.int .u64 x0) ∧ (set4 wq (w4.heap.size) x0 x1 x2 x3).cell? ⟨w4.heap.size, 1, none⟩ = some (.int .u64 x1) ∧ (set4 wq (w4.heap.size) x0 x1 x2 x3).cell? ⟨w4.heap.size, 2, none⟩ = some (.int .u64 x2) ∧ (set4 wq (w4.heap.size) x0 x1 x2 x3).cell? ⟨w4.heap.size, 3, none⟩ = some (.int .u64 x3) ∧ (set4 wq (w4.heap.size) x0 x1 x2 x3).frozen? ⟨w4.heap.size, 0, none⟩ = false ∧ (set4 wq (w4.heap.size) x0 x1 x2 x3).frozen? ⟨w4.heap.size, 1, none⟩ = false ∧ (set4 wq (w4.heap.size) x0 x1 x2 x3).frozen? ⟨w4.heap.size, 2, none⟩ = false ∧ (set4 wq (w4.heap.size) x0 x1 x2 x3).frozen? ⟨w4.heap.size, 3, none⟩ = false ∧ (set4 wq (w4.heap.size) x0 x1 x2 x3).cell? ⟨w.heap.size, 0, none⟩ = some (.int .u64 ah) ∧ (set4 wq (w4.heap.size) x0 x1 x2 x3).cell? ⟨w.heap.size, 1, none⟩ = some (.int .u64 al) ∧ (set4 wq (w4.heap.size) x0 x1 x2 x3).cell? ⟨w.heap.size + 1, 0, none⟩ = some (.int .u64 bh) ∧ (set4 wq (w4.heap.size) x0 x1 x2 x3).cell? ⟨w.heap.size + 1, 1, none⟩ = some (.int .u64 bl) ∧ (set4 wq (w4.heap.size) x0 x1 x2 x3).cell? ⟨p2, 0, none⟩ = some (.int .u64 x0) ∧ (set4 wq (w4.heap.size) x0 x1 x2 x3).cell? ⟨p2, 1, none⟩ = some (.int .u64 x1) ∧ (set4 wq (w4.heap.size) x0 x1 x2 x3).cell? ⟨p2, 2, none⟩ = some (.int .u64 x2) ∧ (set4 wq (w4.heap.size) x0 x1 x2 x3).cell? ⟨p2, 3, none⟩ = some (.int .u64 x3) ∧ Below w.heap.size w (set4 wq (w4.heap.size) x0 x1 x2 x3) from ⟨NW.2.1, NW.2.2.1, NW.2.2.2.1, NW.2.2.2.2, NF.1, NF.2.1, NF.2.2.1, NF.2.2.2, cell_far4 (cell_later hb cX0_0) (by show w4.heap.size ≠ w.heap.size; omega) _ _ _ _, cell_far4 (cell_later hb cX0_1) (by show w4.heap.size ≠ w.heap.size; omega) _ _ _ _, cell_far4 (cell_later hb cX1_0) (by show w4.heap.size ≠ w.heap.size + 1; omega) _ _ _ _, cell_far4 (cell_later hb cX1_1) (by show w4.heap.size ≠ w.heap.size + 1; omega) _ _ _ _, cell_far4 (cell_later hb cX4_0) (by show w4.heap.size ≠ p2; omega) _ _ _ _, cell_far4 (cell_later hb cX4_1) (by show w4.heap.size ≠ p2; omega) _ _ _ _, cell_far4 (cell_later hb cX4_2) (by show w4.heap.size ≠ p2; omega) _ _ _ _, cell_far4 (cell_later hb cX4_3) (by show w4.heap.size ≠ p2; omega) _ _ _ _, below_set4 (bC kk hb) gX5 _ _ _ _⟩)
  clear NW NF
  clear cX5_0 cX5_1 cX5_2 cX5_3
  go_simp
  refine hK.out _ _ (LS.behind bits_t ZZ.out) ?_
  clear hK hb ZZ hS z0 zf0 z1 zf1 z2 zf2 z3 zf3
  try simp only [List.getElem_toArray, List.getElem_cons_zero, List.getElem_cons_succ, Act.put, List.setIfInBounds_toArray, List.set_cons_zero, List.set_cons_succ]
  refine wpF_done (bs := [true]) (vs := []) (by kernel_rfl) (by kernel_rfl) rfl (fun w6 hS => ?_) _
  refine NoPanic.normal ?_
  clear cX0_0 cX0_1 cX1_0 cX1_1 cX4_0 cX4_1 cX4_2 cX4_3 sX0 sX1 sX4 sX5 fX5_0 fX5_1 fX5_2 fX5_3 kk
  obtain ⟨cX5_0, cX5_1, cX5_2, cX5_3, fX5_0, fX5_1, fX5_2, fX5_3, cX0_0, cX0_1, cX1_0, cX1_1, cX4_0, cX4_1, cX4_2, cX4_3, kk⟩ := hS.2 bits_t
  clear hS
  have sX5 : w4.heap.size < w6.heap.size := World.block_lt_of_cell? _ _ cX5_0
  have sX0 : w.heap.size < w6.heap.size := World.block_lt_of_cell? _ _ cX0_0
  have sX1 : w.heap.size + 1 < w6.heap.size := World.block_lt_of_cell? _ _ cX1_0
  have sX4 : p2 < w6.heap.size := World.block_lt_of_cell? _ _ cX4_0
  go_wp2_with fail
  refine wp_region_noPanic ?_
  refine wp_region_F [] [] (LS w6 (fun _ _ => True) (fun _ _ _ => True)) (by kernel_rfl) (bs := []) (vs := []) (by kernel_rfl) rfl (LS.before noBits_nil (Below.refl _ _).drew trivial) ?_
  refine wpF_take (i := 0) (v := ?vq90) rfl (by kernel_rfl) (by kernel_rfl) (fun _ _ _ h => h) (LS.load (by rfl) ?yq90) ?rq90
  case yq90 => (intro wq hb; have lcX4_0 := cell_later hb cX4_0; have lcX4_1 := cell_later hb cX4_1; have lcX4_2 := cell_later hb cX4_2; have lcX4_3 := cell_later hb cX4_3; go_simp; try (with_reducible rfl))
  try simp only [List.getElem_toArray, List.getElem_cons_zero, List.getElem_cons_succ, Act.put, List.setIfInBounds_toArray, List.set_cons_zero, List.set_cons_succ]
  refine wpF_take (i := 1) (v := ?vq91) rfl (by kernel_rfl) (by kernel_rfl) (fun _ _ _ h => h) (LS.load (by rfl) ?yq91) ?rq91
  case yq91 => (intro wq hb; have lcX5_0 := cell_later hb cX5_0; have lcX5_1 := cell_later hb cX5_1; have lcX5_2 := cell_later hb cX5_2; have lcX5_3 := cell_later hb cX5_3; go_simp; try (with_reducible rfl))
  try simp only [List.getElem_toArray, List.getElem_cons_zero, List.getElem_cons_succ, Act.put, List.setIfInBounds_toArray, List.set_cons_zero, List.set_cons_succ]
  refine wpF_yield (i := 2) (v := ?vq92) rfl (by kernel_rfl) (by kernel_rfl) (fun _ _ _ h => h) (Or.inl ⟨by rfl, ?yq92⟩) ?rq92
  case yq92 => (intro wq; go_simp; try (with_reducible rfl))
  try simp only [List.getElem_toArray, List.getElem_cons_zero, List.getElem_cons_succ, Act.put, List.setIfInBounds_toArray, List.set_cons_zero, List.set_cons_succ]
  refine wpF_yield (i := 3) (v := ?vq93) rfl (by kernel_rfl) (by kernel_rfl) (fun _ _ _ h => h) (Or.inl ⟨by rfl, ?yq93⟩) ?rq93
  case yq93 => (intro wq; go_simp; try (with_reducible rfl))
  try simp only [List.getElem_toArray, List.getElem_cons_zero, List.getElem_cons_succ, Act.put, List.setIfInBounds_toArray, List.set_cons_zero, List.set_cons_succ]
  refine wpF_take (i := 4) (v := ?vq94) rfl (by kernel_rfl) (by kernel_rfl) (fun _ _ _ h => h) (LS.load (by rfl) ?yq94) ?rq94
  case yq94 => (intro wq hb; have lcX0_0 := cell_later hb cX0_0; have lcX0_1 := cell_later hb cX0_1; go_simp; try (with_reducible rfl))
  try simp only [List.getElem_toArray, List.getElem_cons_zero, List.getElem_cons_succ, Act.put, List.setIfInBounds_toArray, List.set_cons_zero, List.set_cons_succ]
  refine wpF_take (i := 5) (v := ?vq95) rfl (by kernel_rfl) (by kernel_rfl) (fun _ _ _ h => h) (LS.load (by rfl) ?yq95) ?rq95
  case yq95 => (intro wq hb; have lcX1_0 := cell_later hb cX1_0; have lcX1_1 := cell_later hb cX1_1; go_simp; try (with_reducible rfl))
  try simp only [List.getElem_toArray, List.getElem_cons_zero, List.getElem_cons_succ, Act.put, List.setIfInBounds_toArray, List.set_cons_zero, List.set_cons_succ]
  refine wpF_take (i := 6) (v := _) rfl (by kernel_rfl) (by kernel_rfl) (fun _ _ _ h => h) (LS.call lasts_true (by rfl) _ _ ?yq96 (h1.out)) ?rq96
  case yq96 => (intro wq; go_simp; try (with_reducible rfl))
  try simp only [List.getElem_toArray, List.getElem_cons_zero, List.getElem_cons_succ, Act.put, List.setIfInBounds_toArray, List.set_cons_zero, List.set_cons_succ]
  refine wpF_take (i := 7) (v := ?vq97) rfl (by kernel_rfl) (by kernel_rfl) (fun _ _ _ h => h) (LS.load (by rfl) ?yq97) ?rq97
  case yq97 => (intro wq hb; have lcX1_0 := cell_later hb cX1_0; have lcX1_1 := cell_later hb cX1_1; go_simp; try (with_reducible rfl))
  try simp only [List.getElem_toArray, List.getElem_cons_zero, List.getElem_cons_succ, Act.put, List.setIfInBounds_toArray, List.set_cons_zero, List.set_cons_succ]
  refine wpF_take (i := 8) (v := ?vq98) rfl (by kernel_rfl) (by kernel_rfl) (fun _ _ _ h => h) (LS.load (by rfl) ?yq98) ?rq98
  case yq98 => (intro wq hb; have lcX0_0 := cell_later hb cX0_0; have lcX0_1 := cell_later hb cX0_1; go_simp; try (with_reducible rfl))
  try simp only [List.getElem_toArray, List.getElem_cons_zero, List.getElem_cons_succ, Act.put, List.setIfInBounds_toArray, List.set_cons_zero, List.set_cons_succ]
  refine wpF_take (i := 9) (v := _) rfl (by kernel_rfl) (by kernel_rfl) (fun _ _ _ h => h) (LS.call lasts_true (by rfl) _ _ ?yq99 (h8.out)) ?rq99
  case yq99 => (intro wq; go_simp; try (with_reducible rfl))
  try simp only [List.getElem_toArray, List.getElem_cons_zero, List.getElem_cons_succ, Act.put, List.setIfInBounds_toArray, List.set_cons_zero, List.set_cons_succ]
  refine wpF_yield (i := 10) (v := ?vq100) rfl (by kernel_rfl) (by kernel_rfl) (fun _ _ _ h => h) (Or.inl ⟨by rfl, ?yq100⟩) ?rq100
  case yq100 => (intro wq; go_simp; try (with_reducible rfl))
  try simp only [List.getElem_toArray, List.getElem_cons_zero, List.getElem_cons_succ, Act.put, List.setIfInBounds_toArray, List.set_cons_zero, List.set_cons_succ]
  refine wpF_yield (i := 11) (v := ?vq101) rfl (by kernel_rfl) (by kernel_rfl) (fun _ _ _ h => h) (Or.inl ⟨by rfl, ?yq101⟩) ?rq101
  case yq101 => (intro wq; go_simp; try (with_reducible rfl))
  try simp only [List.getElem_toArray, List.getElem_cons_zero, List.getElem_cons_succ, Act.put, List.setIfInBounds_toArray, List.set_cons_zero, List.set_cons_succ]
  refine wpF_yield (i := 12) (v := ?vq102) rfl (by kernel_rfl) (by kernel_rfl) (fun _ _ _ h => h) (Or.inl ⟨by rfl, ?yq102⟩) ?rq102
  case yq102 => (intro wq; go_simp; try (with_reducible rfl))
  try simp only [List.getElem_toArray, List.getElem_cons_zero, List.getElem_cons_succ, Act.put, List.setIfInBounds_toArray, List.set_cons_zero, List.set_cons_succ]
  refine wpF_take (i := 13) (v := ?vq103) rfl (by kernel_rfl) (by kernel_rfl) (fun _ _ _ h => h) (LS.load (by rfl) ?yq103) ?rq103
  case yq103 => (intro wq hb; have lcX0_0 := cell_later hb cX0_0; have lcX0_1 := cell_later hb cX0_1; go_simp; try (with_reducible rfl))
  try simp only [List.getElem_toArray, List.getElem_cons_zero, List.getElem_cons_succ, Act.put, List.setIfInBounds_toArray, List.set_cons_zero, List.set_cons_succ]
  refine wpF_yield (i := 14) (v := ?vq104) rfl (by kernel_rfl) (by kernel_rfl) (fun _ _ _ h => h) (Or.inl ⟨by rfl, ?yq104⟩) ?rq104
  case yq104 => (intro wq; go_simp; try (with_reducible rfl))
  try simp only [List.getElem_toArray, List.getElem_cons_zero, List.getElem_cons_succ, Act.put, List.setIfInBounds_toArray, List.set_cons_zero, List.set_cons_succ]
  refine wpF_take (i := 15) (v := _) rfl (by kernel_rfl) (by kernel_rfl) (fun _ _ _ h => h) (LS.call lasts_true (by rfl) _ _ ?yq105 (h9.out)) ?rq105
  case yq105 => (intro wq; go_simp; try (with_reducible rfl))
  try simp only [List.getElem_toArray, List.getElem_cons_zero, List.getElem_cons_succ, Act.put, List.setIfInBounds_toArray, List.set_cons_zero, List.set_cons_succ]
  refine wpF_take (i := 16) (v := ?vq106) rfl (by kernel_rfl) (by kernel_rfl) (fun _ _ _ h => h) (LS.load (by rfl) ?yq106) ?rq106
  case yq106 => (intro wq hb; have lcX0_0 := cell_later hb cX0_0; have lcX0_1 := cell_later hb cX0_1; go_simp; try (with_reducible rfl))
  try simp only [List.getElem_toArray, List.getElem_cons_zero, List.getElem_cons_succ, Act.put, List.setIfInBounds_toArray, List.set_cons_zero, List.set_cons_succ]
  refine wpF_take (i := 17) (v := _) rfl (by kernel_rfl) (by kernel_rfl) (fun _ _ _ h => h) (LS.call lasts_true (by rfl) _ _ ?yq107 (of_any ah al)) ?rq107
  case yq107 => (intro wq; go_simp; try (with_reducible rfl))
  try simp only [List.getElem_toArray, List.getElem_cons_zero, List.getElem_cons_succ, Act.put, List.setIfInBounds_toArray, List.set_cons_zero, List.set_cons_succ]
  refine wpF_yield (i := 18) (v := ?vq108) rfl (by kernel_rfl) (by kernel_rfl) (fun _ _ _ h => h) (Or.inl ⟨by rfl, ?yq108⟩) ?rq108
  case yq108 => (intro wq; go_simp; try (with_reducible rfl))
  try simp only [List.getElem_toArray, List.getElem_cons_zero, List.getElem_cons_succ, Act.put, List.setIfInBounds_toArray, List.set_cons_zero, List.set_cons_succ]
  refine wpF_yield (i := 19) (v := ?vq109) rfl (by kernel_rfl) (by kernel_rfl) (fun _ _ _ h => h) (Or.inl ⟨by rfl, ?yq109⟩) ?rq109
  case yq109 => (intro wq; go_simp; try (with_reducible rfl))
  try simp only [List.getElem_toArray, List.getElem_cons_zero, List.getElem_cons_succ, Act.put, List.setIfInBounds_toArray, List.set_cons_zero, List.set_cons_succ]
  refine wpF_yield (i := 20) (v := ?vq110) rfl (by kernel_rfl) (by kernel_rfl) (fun _ _ _ h => h) (Or.inl ⟨by rfl, ?yq110⟩) ?rq110
  case yq110 => (intro wq; go_simp; try (with_reducible rfl))
  try simp only [List.getElem_toArray, List.getElem_cons_zero, List.getElem_cons_succ, Act.put, List.setIfInBounds_toArray, List.set_cons_zero, List.set_cons_succ]
  refine wpF_take (i := 21) (v := ?vq111) rfl (by kernel_rfl) (by kernel_rfl) (fun _ _ _ h => h) (LS.load (by rfl) ?yq111) ?rq111
  case yq111 => (intro wq hb; have lcX0_0 := cell_later hb cX0_0; have lcX0_1 := cell_later hb cX0_1; go_simp; try (with_reducible rfl))
  try simp only [List.getElem_toArray, List.getElem_cons_zero, List.getElem_cons_succ, Act.put, List.setIfInBounds_toArray, List.set_cons_zero, List.set_cons_succ]
  refine wpF_yield (i := 22) (v := ?vq112) rfl (by kernel_rfl) (by kernel_rfl) (fun _ _ _ h => h) (Or.inl ⟨by rfl, ?yq112⟩) ?rq112
  case yq112 => (intro wq; go_simp; try (with_reducible rfl))
  try simp only [List.getElem_toArray, List.getElem_cons_zero, List.getElem_cons_succ, Act.put, List.setIfInBounds_toArray, List.set_cons_zero, List.set_cons_succ]
  refine wpF_take (i := 23) (v := _) rfl (by kernel_rfl) (by kernel_rfl) (fun _ _ _ h => h) (LS.call lasts_true (by rfl) _ _ ?yq113 (h11.out)) ?rq113
  case yq113 => (intro wq; go_simp; try (with_reducible rfl))
  try simp only [List.getElem_toArray, List.getElem_cons_zero, List.getElem_cons_succ, Act.put, List.setIfInBounds_toArray, List.set_cons_zero, List.set_cons_succ]
  refine wpF_yield (i := 24) (v := ?vq114) rfl (by kernel_rfl) (by kernel_rfl) (fun _ _ _ h => h) (Or.inl ⟨by rfl, ?yq114⟩) ?rq114
  case yq114 => (intro wq; go_simp; try (with_reducible rfl))
  try simp only [List.getElem_toArray, List.getElem_cons_zero, List.getElem_cons_succ, Act.put, List.setIfInBounds_toArray, List.set_cons_zero, List.set_cons_succ]
  refine wpF_take (i := 25) (v := ?vq115) rfl (by kernel_rfl) (by kernel_rfl) (fun _ _ _ h => h) (LS.load (by rfl) ?yq115) ?rq115
  case yq115 => (intro wq hb; have lcX0_1 := cell_later hb cX0_1; go_simp; try (with_reducible rfl))
  try simp only [List.getElem_toArray, List.getElem_cons_zero, List.getElem_cons_succ, Act.put, List.setIfInBounds_toArray, List.set_cons_zero, List.set_cons_succ]
  refine wpF_yield (i := 26) (v := ?vq116) rfl (by kernel_rfl) (by kernel_rfl) (fun _ _ _ h => h) (Or.inl ⟨by rfl, ?yq116⟩) ?rq116
  case yq116 => (intro wq; go_simp; try (with_reducible rfl))
  try simp only [List.getElem_toArray, List.getElem_cons_zero, List.getElem_cons_succ, Act.put, List.setIfInBounds_toArray, List.set_cons_zero, List.set_cons_succ]
  refine wpF_take (i := 27) (v := ?vq117) rfl (by kernel_rfl) (by kernel_rfl) (fun _ _ _ h => h) (LS.load (by rfl) ?yq117) ?rq117
  case yq117 => (intro wq hb; have lcX0_0 := cell_later hb cX0_0; go_simp; try (with_reducible rfl))
  try simp only [List.getElem_toArray, List.getElem_cons_zero, List.getElem_cons_succ, Act.put, List.setIfInBounds_toArray, List.set_cons_zero, List.set_cons_succ]
  refine wpF_yield (i := 28) (v := ?vq118) rfl (by kernel_rfl) (by kernel_rfl) (fun _ _ _ h => h) (Or.inl ⟨by rfl, ?yq118⟩) ?rq118
  case yq118 => (intro wq; go_simp; try (with_reducible rfl))
  try simp only [List.getElem_toArray, List.getElem_cons_zero, List.getElem_cons_succ, Act.put, List.setIfInBounds_toArray, List.set_cons_zero, List.set_cons_succ]
  refine wpF_yield (i := 29) (v := ?vq119) rfl (by kernel_rfl) (by kernel_rfl) (fun _ _ _ h => h) (Or.inl ⟨by rfl, ?yq119⟩) ?rq119
  case yq119 => (intro wq; go_simp; try (with_reducible rfl))
  try simp only [List.getElem_toArray, List.getElem_cons_zero, List.getElem_cons_succ, Act.put, List.setIfInBounds_toArray, List.set_cons_zero, List.set_cons_succ]
  refine wpF_yield (i := 30) (v := ?vq120) rfl (by kernel_rfl) (by kernel_rfl) (fun _ _ _ h => h) (Or.inl ⟨by rfl, ?yq120⟩) ?rq120
  case yq120 => (intro wq; go_simp; try (with_reducible rfl))
  try simp only [List.getElem_toArray, List.getElem_cons_zero, List.getElem_cons_succ, Act.put, List.setIfInBounds_toArray, List.set_cons_zero, List.set_cons_succ]
  refine wpF_yield (i := 31) (v := ?vq121) rfl (by kernel_rfl) (by kernel_rfl) (fun _ _ _ h => h) (Or.inl ⟨by rfl, ?yq121⟩) ?rq121
  case yq121 => (intro wq; go_simp; try (with_reducible rfl))
  try simp only [List.getElem_toArray, List.getElem_cons_zero, List.getElem_cons_succ, Act.put, List.setIfInBounds_toArray, List.set_cons_zero, List.set_cons_succ]
  refine wpF_take (i := 32) (v := _) rfl (by kernel_rfl) (by kernel_rfl) (fun _ _ _ h => h) (LS.call lasts_true (by rfl) _ _ ?yq122 (counts2_any)) ?rq122
  case yq122 => (intro wq; go_simp; try (with_reducible rfl))
  try simp only [List.getElem_toArray, List.getElem_cons_zero, List.getElem_cons_succ, Act.put, List.setIfInBounds_toArray, List.set_cons_zero, List.set_cons_succ]
  refine wpF_yield (i := 33) (v := ?vq123) rfl (by kernel_rfl) (by kernel_rfl) (fun _ _ _ h => h) (Or.inl ⟨by rfl, ?yq123⟩) ?rq123
  case yq123 => (intro wq; go_simp; try (with_reducible rfl))
  try simp only [List.getElem_toArray, List.getElem_cons_zero, List.getElem_cons_succ, Act.put, List.setIfInBounds_toArray, List.set_cons_zero, List.set_cons_succ]
  refine wpF_yield (i := 34) (v := ?vq124) rfl (by kernel_rfl) (by kernel_rfl) (fun _ _ _ h => h) (Or.inl ⟨by rfl, ?yq124⟩) ?rq124
  case yq124 => (intro wq; go_simp; try (with_reducible rfl))
  try simp only [List.getElem_toArray, List.getElem_cons_zero, List.getElem_cons_succ, Act.put, List.setIfInBounds_toArray, List.set_cons_zero, List.set_cons_succ]
  refine wpF_done (bs := []) (vs := []) (by kernel_rfl) (by kernel_rfl) rfl (fun w8 hS => ?_) _
  refine NoPanic.normal ?_
  obtain ⟨hb, _⟩ := hS.1 noBits_nil
  clear hS
  clear cX0_0 cX0_1 sX0
  clear cX1_0 cX1_1 sX1
  clear cX4_0 cX4_1 cX4_2 cX4_3 sX4
  clear cX5_0 cX5_1 cX5_2 cX5_3 sX5
  replace kk := bC kk hb
  clear hb
  go_wp2_with fail
  go_ret
  exact ⟨rfl, kk⟩

end Go.Proofs.Ythoffjogpmkjkaa
