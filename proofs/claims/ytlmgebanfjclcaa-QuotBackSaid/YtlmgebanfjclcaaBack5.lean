/-
  The walk of the statement QuotBack.
-/
import Derived.Test.YtlmgebanfjclcaaQuotW
set_option linter.unusedVariables false
set_option linter.unusedSimpArgs false
set_option maxRecDepth 100000
namespace Go.Proofs.Ytlmgebanfjclcaa
open Go.RowKit
attribute [local go_sem ↓] Go.wp_at_zero Go.wp_at_succ

set_option maxHeartbeats 4000000 in
set_option maxRecDepth 100000 in
theorem back5_zero (n0 n1 n2 n3 ah al dh dl : Int)
    (h0 : Hid (∀ w, Calls Try.prog 10 #[.agg #[.int .u64 n0, .int .u64 n1, .int .u64 n2, .int .u64 n3], .agg #[.int .u64 dh, .int .u64 dl]] w fun e w' => e = .returned (.tuple #[.agg #[.int .u64 0, .int .u64 0, .int .u64 0, .int .u64 0], .agg #[.int .u64 0, .int .u64 0], .bool false]) ∧ Below w.heap.size w w'))
    (h1 : Hid (∀ w, Calls Try.prog 16 #[.agg #[.int .u64 dh, .int .u64 dl]] w fun e w' => e = .returned (.bool true) ∧ Below w.heap.size w w'))
    (h2 : Hid (∀ w, Calls Try.prog 17 #[.agg #[.int .u64 0, .int .u64 0, .int .u64 0, .int .u64 0]] w fun e w' => e = .returned (.bool true) ∧ Below w.heap.size w w'))
    (h3 : Hid (∀ w, Calls Try.prog 16 #[.agg #[.int .u64 0, .int .u64 0]] w fun e w' => e = .returned (.bool true) ∧ Below w.heap.size w w'))
    (h4 : Hid (∀ w, Calls Try.prog 13 #[] w fun e w' => e = .returned (.bool true) ∧ Below w.heap.size w w')) (w : World) :
    Calls Try.prog 5 #[.agg #[.int .u64 n0, .int .u64 n1, .int .u64 n2, .int .u64 n3], .agg #[.int .u64 ah, .int .u64 al], .agg #[.int .u64 dh, .int .u64 dl]] w fun e w' => e = .returned (.bool true) ∧ Below w.heap.size w w' := by
  go_enter Try.func5, Try.ntmps5
  go_wp2_with fail
  (with_reducible refine (h0.out _).mono ?_); rintro e w1 ⟨rfl, hb⟩
  have hz := bC (bA (bA (bA (Below.refl _ _) _) _) _) hb
  have cX2_0 := cell_later hb (a := ⟨w.heap.size + 1 + 1, 0, none⟩) (v := .int .u64 dh) (by go_simp)
  have cX2_1 := cell_later hb (a := ⟨w.heap.size + 1 + 1, 1, none⟩) (v := .int .u64 dl) (by go_simp)
  have sX2 : w.heap.size + 1 + 1 < w1.heap.size ∧ w.heap.size + 1 < w1.heap.size := by have h : w.heap.size + 1 + 1 < w1.heap.size := World.block_lt_of_cell? _ _ cX2_0; exact ⟨h, by omega⟩
  have kk := hz
  clear hb hz
  go_wp2_with fail
  (with_reducible refine (h1.out _).mono ?_); rintro e w2 ⟨rfl, hb⟩
  have hz := bC (bA (bA (Below.refl _ _) _) _) hb
  clear cX2_0 cX2_1 sX2
  have cX3_0 := cell_later hb (a := ⟨w1.heap.size, 0, none⟩) (v := .int .u64 0) (by go_simp)
  have cX3_1 := cell_later hb (a := ⟨w1.heap.size, 1, none⟩) (v := .int .u64 0) (by go_simp)
  have cX3_2 := cell_later hb (a := ⟨w1.heap.size, 2, none⟩) (v := .int .u64 0) (by go_simp)
  have cX3_3 := cell_later hb (a := ⟨w1.heap.size, 3, none⟩) (v := .int .u64 0) (by go_simp)
  have sX3 : w1.heap.size < w2.heap.size := World.block_lt_of_cell? _ _ cX3_0
  have cX4_0 := cell_later hb (a := ⟨w1.heap.size + 1, 0, none⟩) (v := .int .u64 0) (by go_simp)
  have cX4_1 := cell_later hb (a := ⟨w1.heap.size + 1, 1, none⟩) (v := .int .u64 0) (by go_simp)
  have sX4 : w1.heap.size + 1 < w2.heap.size := World.block_lt_of_cell? _ _ cX4_0
  replace kk := bC kk hz
  clear hb hz
  go_wp2_with fail
  (with_reducible refine (h2.out _).mono ?_); rintro e w3 ⟨rfl, hb⟩
  clear cX3_0 cX3_1 cX3_2 cX3_3 sX3
  replace cX4_0 := cell_later hb cX4_0; replace cX4_1 := cell_later hb cX4_1
  replace sX4 : w1.heap.size + 1 < w3.heap.size := World.block_lt_of_cell? _ _ cX4_0
  replace kk := bC kk hb
  clear hb
  go_wp2_with fail
  (with_reducible refine (h3.out _).mono ?_); rintro e w4 ⟨rfl, hb⟩
  clear cX4_0 cX4_1 sX4
  replace kk := bC kk hb
  clear hb
  go_wp2_with fail
  (with_reducible refine (h4.out _).mono ?_); rintro e w5 ⟨rfl, hb⟩
  replace kk := bC kk hb
  clear hb
  go_wp2_with fail
  go_ret
  exact ⟨rfl, kk⟩

set_option maxHeartbeats 4000000 in
set_option maxRecDepth 100000 in
theorem back5_div (n0 n1 n2 n3 q0 q1 q2 q3 f0 f1 f2 f3 j0 j1 j2 j3 l0 l1 l2 l3 x0 x1 x2 x3 y0 y1 y2 y3 ah al dh dl rh rl g0 g1 c : Int)
    (h0 : Hid (∀ w, Calls Try.prog 10 #[.agg #[.int .u64 n0, .int .u64 n1, .int .u64 n2, .int .u64 n3], .agg #[.int .u64 dh, .int .u64 dl]] w fun e w' => e = .returned (.tuple #[.agg #[.int .u64 q0, .int .u64 q1, .int .u64 q2, .int .u64 q3], .agg #[.int .u64 rh, .int .u64 rl], .bool true]) ∧ Below w.heap.size w w'))
    (h1 : Hid (∀ w, Calls Try.prog 16 #[.agg #[.int .u64 dh, .int .u64 dl]] w fun e w' => e = .returned (.bool false) ∧ Below w.heap.size w w'))
    (h2 : Hid (∀ w, Calls Try.prog 19 #[.agg #[.int .u64 q0, .int .u64 q1, .int .u64 q2, .int .u64 q3]] w fun e w' => e = .returned (.agg #[.int .u64 q1, .int .u64 q0]) ∧ Below w.heap.size w w'))
    (h3 : Hid (∀ w, Calls Try.prog 18 #[.agg #[.int .u64 q1, .int .u64 q0], .agg #[.int .u64 dh, .int .u64 dl]] w fun e w' => e = .returned (.agg #[.int .u64 f0, .int .u64 f1, .int .u64 f2, .int .u64 f3]) ∧ Below w.heap.size w w'))
    (h4 : Hid (∀ w, Calls Try.prog 20 #[.agg #[.int .u64 q0, .int .u64 q1, .int .u64 q2, .int .u64 q3]] w fun e w' => e = .returned (.agg #[.int .u64 q3, .int .u64 q2]) ∧ Below w.heap.size w w'))
    (h5 : Hid (∀ w, Calls Try.prog 18 #[.agg #[.int .u64 q3, .int .u64 q2], .agg #[.int .u64 dh, .int .u64 dl]] w fun e w' => e = .returned (.agg #[.int .u64 g0, .int .u64 g1, .int .u64 0, .int .u64 0]) ∧ Below w.heap.size w w'))
    (h6 : Hid (∀ w, Calls Try.prog 19 #[.agg #[.int .u64 g0, .int .u64 g1, .int .u64 0, .int .u64 0]] w fun e w' => e = .returned (.agg #[.int .u64 g1, .int .u64 g0]) ∧ Below w.heap.size w w'))
    (h7 : Hid (∀ w, Calls Try.prog 22 #[.agg #[.int .u64 g1, .int .u64 g0], .agg #[.int .u64 0, .int .u64 0]] w fun e w' => e = .returned (.agg #[.int .u64 j0, .int .u64 j1, .int .u64 j2, .int .u64 j3]) ∧ Below w.heap.size w w'))
    (h8 : Hid (∀ w, Calls Try.prog 21 #[.agg #[.int .u64 f0, .int .u64 f1, .int .u64 f2, .int .u64 f3], .agg #[.int .u64 j0, .int .u64 j1, .int .u64 j2, .int .u64 j3]] w fun e w' => e = .returned (.tuple #[.agg #[.int .u64 l0, .int .u64 l1, .int .u64 l2, .int .u64 l3], .bool false]) ∧ Below w.heap.size w w'))
    (h9 : Hid (∀ w, Calls Try.prog 23 #[.agg #[.int .u64 rh, .int .u64 rl]] w fun e w' => e = .returned (.agg #[.int .u64 x0, .int .u64 x1, .int .u64 x2, .int .u64 x3]) ∧ Below w.heap.size w w'))
    (h10 : Hid (∀ w, Calls Try.prog 21 #[.agg #[.int .u64 l0, .int .u64 l1, .int .u64 l2, .int .u64 l3], .agg #[.int .u64 x0, .int .u64 x1, .int .u64 x2, .int .u64 x3]] w fun e w' => e = .returned (.tuple #[.agg #[.int .u64 n0, .int .u64 n1, .int .u64 n2, .int .u64 n3], .bool false]) ∧ Below w.heap.size w w'))
    (h11 : Hid (∀ w, Calls Try.prog 20 #[.agg #[.int .u64 g0, .int .u64 g1, .int .u64 0, .int .u64 0]] w fun e w' => e = .returned (.agg #[.int .u64 0, .int .u64 0]) ∧ Below w.heap.size w w'))
    (h12 : Hid (∀ w, Calls Try.prog 16 #[.agg #[.int .u64 0, .int .u64 0]] w fun e w' => e = .returned (.bool true) ∧ Below w.heap.size w w'))
    (h13 : Hid (∀ w, Calls Try.prog 24 #[.agg #[.int .u64 rh, .int .u64 rl], .agg #[.int .u64 dh, .int .u64 dl]] w fun e w' => e = .returned (.int .i64 c) ∧ Below w.heap.size w w'))
    (h14 : Hid (∀ w, Calls Try.prog 18 #[.agg #[.int .u64 ah, .int .u64 al], .agg #[.int .u64 dh, .int .u64 dl]] w fun e w' => e = .returned (.agg #[.int .u64 y0, .int .u64 y1, .int .u64 y2, .int .u64 y3]) ∧ Below w.heap.size w w'))
    (h15 : Hid (∀ w, Calls Try.prog 10 #[.agg #[.int .u64 y0, .int .u64 y1, .int .u64 y2, .int .u64 y3], .agg #[.int .u64 dh, .int .u64 dl]] w fun e w' => e = .returned (.tuple #[.agg #[.int .u64 al, .int .u64 ah, .int .u64 0, .int .u64 0], .agg #[.int .u64 0, .int .u64 0], .bool true]) ∧ Below w.heap.size w w'))
    (h16 : Hid (∀ w, Calls Try.prog 23 #[.agg #[.int .u64 ah, .int .u64 al]] w fun e w' => e = .returned (.agg #[.int .u64 al, .int .u64 ah, .int .u64 0, .int .u64 0]) ∧ Below w.heap.size w w'))
    (h18 : Hid (∀ w, Calls Try.prog 13 #[] w fun e w' => e = .returned (.bool true) ∧ Below w.heap.size w w')) (hc : decide (0 ≤ c) = false) (w : World) :
    Calls Try.prog 5 #[.agg #[.int .u64 n0, .int .u64 n1, .int .u64 n2, .int .u64 n3], .agg #[.int .u64 ah, .int .u64 al], .agg #[.int .u64 dh, .int .u64 dl]] w fun e w' => e = .returned (.bool true) ∧ Below w.heap.size w w' := by
  have E1 := neqw5 n0 n1 n2 n3
  have E2 := eqw4 al ah 0 0
  go_enter Try.func5, Try.ntmps5
  go_wp2_with fail
  (with_reducible refine (h0.out _).mono ?_); rintro e w1 ⟨rfl, hb⟩
  have hz := bC (bA (bA (bA (Below.refl _ _) _) _) _) hb
  have cX0_0 := cell_later hb (a := ⟨w.heap.size, 0, none⟩) (v := .int .u64 n0) (by go_simp)
  have cX0_1 := cell_later hb (a := ⟨w.heap.size, 1, none⟩) (v := .int .u64 n1) (by go_simp)
  have cX0_2 := cell_later hb (a := ⟨w.heap.size, 2, none⟩) (v := .int .u64 n2) (by go_simp)
  have cX0_3 := cell_later hb (a := ⟨w.heap.size, 3, none⟩) (v := .int .u64 n3) (by go_simp)
  have sX0 : w.heap.size < w1.heap.size := World.block_lt_of_cell? _ _ cX0_0
  have cX1_0 := cell_later hb (a := ⟨w.heap.size + 1, 0, none⟩) (v := .int .u64 ah) (by go_simp)
  have cX1_1 := cell_later hb (a := ⟨w.heap.size + 1, 1, none⟩) (v := .int .u64 al) (by go_simp)
  have sX1 : w.heap.size + 1 < w1.heap.size ∧ w.heap.size < w1.heap.size := by have h : w.heap.size + 1 < w1.heap.size := World.block_lt_of_cell? _ _ cX1_0; exact ⟨h, by omega⟩
  have cX2_0 := cell_later hb (a := ⟨w.heap.size + 1 + 1, 0, none⟩) (v := .int .u64 dh) (by go_simp)
  have cX2_1 := cell_later hb (a := ⟨w.heap.size + 1 + 1, 1, none⟩) (v := .int .u64 dl) (by go_simp)
  have sX2 : w.heap.size + 1 + 1 < w1.heap.size ∧ w.heap.size + 1 < w1.heap.size := by have h : w.heap.size + 1 + 1 < w1.heap.size := World.block_lt_of_cell? _ _ cX2_0; exact ⟨h, by omega⟩
  have kk := hz
  clear hb hz
  go_wp2_with fail
  (with_reducible refine (h1.out _).mono ?_); rintro e w2 ⟨rfl, hb⟩
  have hz := bC (bA (bA (Below.refl _ _) _) _) hb
  replace cX0_0 := cell_later hz cX0_0; replace cX0_1 := cell_later hz cX0_1; replace cX0_2 := cell_later hz cX0_2; replace cX0_3 := cell_later hz cX0_3
  replace sX0 : w.heap.size < w2.heap.size := World.block_lt_of_cell? _ _ cX0_0
  replace cX1_0 := cell_later hz cX1_0; replace cX1_1 := cell_later hz cX1_1
  replace sX1 : w.heap.size + 1 < w2.heap.size ∧ w.heap.size < w2.heap.size := by have h : w.heap.size + 1 < w2.heap.size := World.block_lt_of_cell? _ _ cX1_0; exact ⟨h, by omega⟩
  replace cX2_0 := cell_later hz cX2_0; replace cX2_1 := cell_later hz cX2_1
  replace sX2 : w.heap.size + 1 + 1 < w2.heap.size ∧ w.heap.size + 1 < w2.heap.size := by have h : w.heap.size + 1 + 1 < w2.heap.size := World.block_lt_of_cell? _ _ cX2_0; exact ⟨h, by omega⟩
  have cX3_0 := cell_later hb (a := ⟨w1.heap.size, 0, none⟩) (v := .int .u64 q0) (by go_simp)
  have cX3_1 := cell_later hb (a := ⟨w1.heap.size, 1, none⟩) (v := .int .u64 q1) (by go_simp)
  have cX3_2 := cell_later hb (a := ⟨w1.heap.size, 2, none⟩) (v := .int .u64 q2) (by go_simp)
  have cX3_3 := cell_later hb (a := ⟨w1.heap.size, 3, none⟩) (v := .int .u64 q3) (by go_simp)
  have sX3 : w1.heap.size < w2.heap.size := World.block_lt_of_cell? _ _ cX3_0
  have cX4_0 := cell_later hb (a := ⟨w1.heap.size + 1, 0, none⟩) (v := .int .u64 rh) (by go_simp)
  have cX4_1 := cell_later hb (a := ⟨w1.heap.size + 1, 1, none⟩) (v := .int .u64 rl) (by go_simp)
  have sX4 : w1.heap.size + 1 < w2.heap.size := World.block_lt_of_cell? _ _ cX4_0
  replace kk := bC kk hz
  clear hb hz
  go_wp2_with fail
  refine wp_region_noPanic ?_
  refine wp_region_F [5] [10] (LS w2 (AW w2) (ZW w2 f0 f1 f2 f3)) (by kernel_rfl) (bs := [false]) (vs := [undef]) (by kernel_rfl) rfl (LS.before noBits_f (Below.refl _ _).drew (AW.start _ _)) ?_
  refine wpF_take3 (i := 0) (v := ?vq99) rfl (by kernel_rfl) (by kernel_rfl) (fun _ _ _ h => h) (LS.load (by rfl) ?yq99) ?rq99
  case yq99 => (intro wq hb; have lcX3_0 := cell_later hb cX3_0; have lcX3_1 := cell_later hb cX3_1; have lcX3_2 := cell_later hb cX3_2; have lcX3_3 := cell_later hb cX3_3; go_simp; try (with_reducible rfl))
  try simp only [List.getElem_toArray, List.getElem_cons_zero, List.getElem_cons_succ, Act.put, List.setIfInBounds_toArray, List.set_cons_zero, List.set_cons_succ]
  refine wpF_take3 (i := 1) (v := _) rfl (by kernel_rfl) (by kernel_rfl) (fun _ _ _ h => h) (LS.call (AW.lasts w2) (by rfl) _ _ ?yq100 (h2.out)) ?rq100
  case yq100 => (intro wq; go_simp; try (with_reducible rfl))
  try simp only [List.getElem_toArray, List.getElem_cons_zero, List.getElem_cons_succ, Act.put, List.setIfInBounds_toArray, List.set_cons_zero, List.set_cons_succ]
  refine wpF_take3 (i := 2) (v := ?vq101) rfl (by kernel_rfl) (by kernel_rfl) (fun _ _ _ h => h) (LS.load (by rfl) ?yq101) ?rq101
  case yq101 => (intro wq hb; have lcX2_0 := cell_later hb cX2_0; have lcX2_1 := cell_later hb cX2_1; go_simp; try (with_reducible rfl))
  try simp only [List.getElem_toArray, List.getElem_cons_zero, List.getElem_cons_succ, Act.put, List.setIfInBounds_toArray, List.set_cons_zero, List.set_cons_succ]
  refine wpF_take3 (i := 3) (v := _) rfl (by kernel_rfl) (by kernel_rfl) (fun _ _ _ h => h) (LS.call (AW.lasts w2) (by rfl) _ _ ?yq102 (h3.out)) ?rq102
  case yq102 => (intro wq; go_simp; try (with_reducible rfl))
  try simp only [List.getElem_toArray, List.getElem_cons_zero, List.getElem_cons_succ, Act.put, List.setIfInBounds_toArray, List.set_cons_zero, List.set_cons_succ]
  refine wpF_step (i := 4) (bs := [false]) (bs' := [false]) (vs := [undef]) (by kernel_rfl) rfl (by kernel_rfl) rfl (by kernel_rfl) (fun wq hS K hK => ?_)
  obtain ⟨hb, hA⟩ := hS.1 noBits_f
  go_simp
  refine hK.out _ _ (LS.before noBits_f (bA hb _) (AW.new hb _ rfl)) ?_
  clear hK hA hb hS
  generalize wq.heap.size = pp3 at *
  try simp only [List.getElem_toArray, List.getElem_cons_zero, List.getElem_cons_succ, Act.put, List.setIfInBounds_toArray, List.set_cons_zero, List.set_cons_succ]
  refine wpF_step (i := 5) (bs := [false]) (bs' := [true]) (vs := [.pointer (some ⟨pp3, 0, none⟩)]) (by kernel_rfl) rfl (by kernel_rfl) rfl (by kernel_rfl) (fun wq hS K hK => ?_)
  obtain ⟨hb, hA⟩ := hS.1 noBits_f
  have ZZ := Lib.hid (ZW.of hb hA f0 f1 f2 f3 [true])
  obtain ⟨hp, x, f⟩ := hA _ rfl
  obtain ⟨_, z0, z1, z2, z3⟩ := x
  obtain ⟨f0, f1, f2, f3⟩ := f
  go_simp
  refine hK.out _ _ (LS.behind bits_t ZZ.out) ?_
  clear hK hA hb ZZ hS z0 z1 z2 z3 f0 f1 f2 f3 hp
  try simp only [List.getElem_toArray, List.getElem_cons_zero, List.getElem_cons_succ, Act.put, List.setIfInBounds_toArray, List.set_cons_zero, List.set_cons_succ]
  refine wpF_done (bs := [true]) (vs := [.pointer (some ⟨pp3, 0, none⟩)]) (by kernel_rfl) (by kernel_rfl) rfl (fun w4 hS => ?_) _
  refine NoPanic.normal ?_
  obtain ⟨q, hpp, hge, hbox, hfr, hb⟩ := hS.2 bits_t
  obtain rfl := ptr_eq hpp rfl
  obtain ⟨_, cX5_0, cX5_1, cX5_2, cX5_3⟩ := hbox
  clear hS
  obtain ⟨fX5_0, fX5_1, fX5_2, fX5_3⟩ := hfr
  clear fX5_0 fX5_1 fX5_2 fX5_3
  replace cX0_0 := cell_later hb cX0_0; replace cX0_1 := cell_later hb cX0_1; replace cX0_2 := cell_later hb cX0_2; replace cX0_3 := cell_later hb cX0_3
  replace sX0 : w.heap.size < w4.heap.size := World.block_lt_of_cell? _ _ cX0_0
  replace cX1_0 := cell_later hb cX1_0; replace cX1_1 := cell_later hb cX1_1
  replace sX1 : w.heap.size + 1 < w4.heap.size ∧ w.heap.size < w4.heap.size := by have h : w.heap.size + 1 < w4.heap.size := World.block_lt_of_cell? _ _ cX1_0; exact ⟨h, by omega⟩
  replace cX2_0 := cell_later hb cX2_0; replace cX2_1 := cell_later hb cX2_1
  replace sX2 : w.heap.size + 1 + 1 < w4.heap.size ∧ w.heap.size + 1 < w4.heap.size := by have h : w.heap.size + 1 + 1 < w4.heap.size := World.block_lt_of_cell? _ _ cX2_0; exact ⟨h, by omega⟩
  replace cX3_0 := cell_later hb cX3_0; replace cX3_1 := cell_later hb cX3_1; replace cX3_2 := cell_later hb cX3_2; replace cX3_3 := cell_later hb cX3_3
  replace sX3 : w1.heap.size < w4.heap.size := World.block_lt_of_cell? _ _ cX3_0
  replace cX4_0 := cell_later hb cX4_0; replace cX4_1 := cell_later hb cX4_1
  replace sX4 : w1.heap.size + 1 < w4.heap.size := World.block_lt_of_cell? _ _ cX4_0
  have sX5 : pp3 < w4.heap.size := World.block_lt_of_cell? _ _ cX5_0
  replace kk := bC kk hb
  clear hb
  go_wp2_with fail
  refine wp_region_noPanic ?_
  refine wp_region_F [5] [11] (LS w4 (AW w4) (ZW w4 g0 g1 0 0)) (by kernel_rfl) (bs := [false]) (vs := [undef]) (by kernel_rfl) rfl (LS.before noBits_f (Below.refl _ _).drew (AW.start _ _)) ?_
  refine wpF_take3 (i := 0) (v := ?vq103) rfl (by kernel_rfl) (by kernel_rfl) (fun _ _ _ h => h) (LS.load (by rfl) ?yq103) ?rq103
  case yq103 => (intro wq hb; have lcX3_0 := cell_later hb cX3_0; have lcX3_1 := cell_later hb cX3_1; have lcX3_2 := cell_later hb cX3_2; have lcX3_3 := cell_later hb cX3_3; go_simp; try (with_reducible rfl))
  try simp only [List.getElem_toArray, List.getElem_cons_zero, List.getElem_cons_succ, Act.put, List.setIfInBounds_toArray, List.set_cons_zero, List.set_cons_succ]
  refine wpF_take3 (i := 1) (v := _) rfl (by kernel_rfl) (by kernel_rfl) (fun _ _ _ h => h) (LS.call (AW.lasts w4) (by rfl) _ _ ?yq104 (h4.out)) ?rq104
  case yq104 => (intro wq; go_simp; try (with_reducible rfl))
  try simp only [List.getElem_toArray, List.getElem_cons_zero, List.getElem_cons_succ, Act.put, List.setIfInBounds_toArray, List.set_cons_zero, List.set_cons_succ]
  refine wpF_take3 (i := 2) (v := ?vq105) rfl (by kernel_rfl) (by kernel_rfl) (fun _ _ _ h => h) (LS.load (by rfl) ?yq105) ?rq105
  case yq105 => (intro wq hb; have lcX2_0 := cell_later hb cX2_0; have lcX2_1 := cell_later hb cX2_1; go_simp; try (with_reducible rfl))
  try simp only [List.getElem_toArray, List.getElem_cons_zero, List.getElem_cons_succ, Act.put, List.setIfInBounds_toArray, List.set_cons_zero, List.set_cons_succ]
  refine wpF_take3 (i := 3) (v := _) rfl (by kernel_rfl) (by kernel_rfl) (fun _ _ _ h => h) (LS.call (AW.lasts w4) (by rfl) _ _ ?yq106 (h5.out)) ?rq106
  case yq106 => (intro wq; go_simp; try (with_reducible rfl))
  try simp only [List.getElem_toArray, List.getElem_cons_zero, List.getElem_cons_succ, Act.put, List.setIfInBounds_toArray, List.set_cons_zero, List.set_cons_succ]
  refine wpF_step (i := 4) (bs := [false]) (bs' := [false]) (vs := [undef]) (by kernel_rfl) rfl (by kernel_rfl) rfl (by kernel_rfl) (fun wq hS K hK => ?_)
  obtain ⟨hb, hA⟩ := hS.1 noBits_f
  go_simp
  refine hK.out _ _ (LS.before noBits_f (bA hb _) (AW.new hb _ rfl)) ?_
  clear hK hA hb hS
  generalize wq.heap.size = pp5 at *
  try simp only [List.getElem_toArray, List.getElem_cons_zero, List.getElem_cons_succ, Act.put, List.setIfInBounds_toArray, List.set_cons_zero, List.set_cons_succ]
  refine wpF_step (i := 5) (bs := [false]) (bs' := [true]) (vs := [.pointer (some ⟨pp5, 0, none⟩)]) (by kernel_rfl) rfl (by kernel_rfl) rfl (by kernel_rfl) (fun wq hS K hK => ?_)
  obtain ⟨hb, hA⟩ := hS.1 noBits_f
  have ZZ := Lib.hid (ZW.of hb hA g0 g1 0 0 [true])
  obtain ⟨hp, x, f⟩ := hA _ rfl
  obtain ⟨_, z0, z1, z2, z3⟩ := x
  obtain ⟨f0, f1, f2, f3⟩ := f
  go_simp
  refine hK.out _ _ (LS.behind bits_t ZZ.out) ?_
  clear hK hA hb ZZ hS z0 z1 z2 z3 f0 f1 f2 f3 hp
  try simp only [List.getElem_toArray, List.getElem_cons_zero, List.getElem_cons_succ, Act.put, List.setIfInBounds_toArray, List.set_cons_zero, List.set_cons_succ]
  refine wpF_done (bs := [true]) (vs := [.pointer (some ⟨pp5, 0, none⟩)]) (by kernel_rfl) (by kernel_rfl) rfl (fun w6 hS => ?_) _
  refine NoPanic.normal ?_
  obtain ⟨q, hpp, hge, hbox, hfr, hb⟩ := hS.2 bits_t
  obtain rfl := ptr_eq hpp rfl
  obtain ⟨_, cX6_0, cX6_1, cX6_2, cX6_3⟩ := hbox
  clear hS
  obtain ⟨fX6_0, fX6_1, fX6_2, fX6_3⟩ := hfr
  clear fX6_0 fX6_1 fX6_2 fX6_3
  replace cX0_0 := cell_later hb cX0_0; replace cX0_1 := cell_later hb cX0_1; replace cX0_2 := cell_later hb cX0_2; replace cX0_3 := cell_later hb cX0_3
  replace sX0 : w.heap.size < w6.heap.size := World.block_lt_of_cell? _ _ cX0_0
  replace cX1_0 := cell_later hb cX1_0; replace cX1_1 := cell_later hb cX1_1
  replace sX1 : w.heap.size + 1 < w6.heap.size ∧ w.heap.size < w6.heap.size := by have h : w.heap.size + 1 < w6.heap.size := World.block_lt_of_cell? _ _ cX1_0; exact ⟨h, by omega⟩
  replace cX2_0 := cell_later hb cX2_0; replace cX2_1 := cell_later hb cX2_1
  replace sX2 : w.heap.size + 1 + 1 < w6.heap.size ∧ w.heap.size + 1 < w6.heap.size := by have h : w.heap.size + 1 + 1 < w6.heap.size := World.block_lt_of_cell? _ _ cX2_0; exact ⟨h, by omega⟩
  clear cX3_0 cX3_1 cX3_2 cX3_3 sX3
  replace cX4_0 := cell_later hb cX4_0; replace cX4_1 := cell_later hb cX4_1
  replace sX4 : w1.heap.size + 1 < w6.heap.size := World.block_lt_of_cell? _ _ cX4_0
  replace cX5_0 := cell_later hb cX5_0; replace cX5_1 := cell_later hb cX5_1; replace cX5_2 := cell_later hb cX5_2; replace cX5_3 := cell_later hb cX5_3
  replace sX5 : pp3 < w6.heap.size := World.block_lt_of_cell? _ _ cX5_0
  have sX6 : pp5 < w6.heap.size := World.block_lt_of_cell? _ _ cX6_0
  replace kk := bC kk hb
  clear hb
  go_wp2_with fail
  refine wp_region_noPanic ?_
  refine wp_region_F [10] [12] (LS w6 (AW w6) (ZW w6 l0 l1 l2 l3)) (by kernel_rfl) (bs := [false]) (vs := [undef]) (by kernel_rfl) rfl (LS.before noBits_f (Below.refl _ _).drew (AW.start _ _)) ?_
  refine wpF_take3 (i := 0) (v := ?vq107) rfl (by kernel_rfl) (by kernel_rfl) (fun _ _ _ h => h) (LS.load (by rfl) ?yq107) ?rq107
  case yq107 => (intro wq hb; have lcX5_0 := cell_later hb cX5_0; have lcX5_1 := cell_later hb cX5_1; have lcX5_2 := cell_later hb cX5_2; have lcX5_3 := cell_later hb cX5_3; go_simp; try (with_reducible rfl))
  try simp only [List.getElem_toArray, List.getElem_cons_zero, List.getElem_cons_succ, Act.put, List.setIfInBounds_toArray, List.set_cons_zero, List.set_cons_succ]
  refine wpF_take3 (i := 1) (v := ?vq108) rfl (by kernel_rfl) (by kernel_rfl) (fun _ _ _ h => h) (LS.load (by rfl) ?yq108) ?rq108
  case yq108 => (intro wq hb; have lcX6_0 := cell_later hb cX6_0; have lcX6_1 := cell_later hb cX6_1; have lcX6_2 := cell_later hb cX6_2; have lcX6_3 := cell_later hb cX6_3; go_simp; try (with_reducible rfl))
  try simp only [List.getElem_toArray, List.getElem_cons_zero, List.getElem_cons_succ, Act.put, List.setIfInBounds_toArray, List.set_cons_zero, List.set_cons_succ]
  refine wpF_take3 (i := 2) (v := _) rfl (by kernel_rfl) (by kernel_rfl) (fun _ _ _ h => h) (LS.call (AW.lasts w6) (by rfl) _ _ ?yq109 (h6.out)) ?rq109
  case yq109 => (intro wq; go_simp; try (with_reducible rfl))
  try simp only [List.getElem_toArray, List.getElem_cons_zero, List.getElem_cons_succ, Act.put, List.setIfInBounds_toArray, List.set_cons_zero, List.set_cons_succ]
  refine wpF_yield (i := 3) (v := ?vq110) rfl (by kernel_rfl) (by kernel_rfl) (fun _ _ _ h => h) (Or.inl ⟨by rfl, ?yq110⟩) ?rq110
  case yq110 => (intro wq; go_simp; try (with_reducible rfl))
  try simp only [List.getElem_toArray, List.getElem_cons_zero, List.getElem_cons_succ, Act.put, List.setIfInBounds_toArray, List.set_cons_zero, List.set_cons_succ]
  refine wpF_take3 (i := 4) (v := _) rfl (by kernel_rfl) (by kernel_rfl) (fun _ _ _ h => h) (LS.call (AW.lasts w6) (by rfl) _ _ ?yq111 (h7.out)) ?rq111
  case yq111 => (intro wq; go_simp; try (with_reducible rfl))
  try simp only [List.getElem_toArray, List.getElem_cons_zero, List.getElem_cons_succ, Act.put, List.setIfInBounds_toArray, List.set_cons_zero, List.set_cons_succ]
  refine wpF_take3 (i := 5) (v := _) rfl (by kernel_rfl) (by kernel_rfl) (fun _ _ _ h => h) (LS.call (AW.lasts w6) (by rfl) _ _ ?yq112 (h8.out)) ?rq112
  case yq112 => (intro wq; go_simp; try (with_reducible rfl))
  try simp only [List.getElem_toArray, List.getElem_cons_zero, List.getElem_cons_succ, Act.put, List.setIfInBounds_toArray, List.set_cons_zero, List.set_cons_succ]
  refine wpF_yield (i := 6) (v := ?vq113) rfl (by kernel_rfl) (by kernel_rfl) (fun _ _ _ h => h) (Or.inl ⟨by rfl, ?yq113⟩) ?rq113
  case yq113 => (intro wq; go_simp; try (with_reducible rfl))
  try simp only [List.getElem_toArray, List.getElem_cons_zero, List.getElem_cons_succ, Act.put, List.setIfInBounds_toArray, List.set_cons_zero, List.set_cons_succ]
  refine wpF_yield (i := 7) (v := ?vq114) rfl (by kernel_rfl) (by kernel_rfl) (fun _ _ _ h => h) (Or.inl ⟨by rfl, ?yq114⟩) ?rq114
  case yq114 => (intro wq; go_simp; try (with_reducible rfl))
  try simp only [List.getElem_toArray, List.getElem_cons_zero, List.getElem_cons_succ, Act.put, List.setIfInBounds_toArray, List.set_cons_zero, List.set_cons_succ]
  refine wpF_yield (i := 8) (v := ?vq115) rfl (by kernel_rfl) (by kernel_rfl) (fun _ _ _ h => h) (Or.inl ⟨by rfl, ?yq115⟩) ?rq115
  case yq115 => (intro wq; go_simp; try (with_reducible rfl))
  try simp only [List.getElem_toArray, List.getElem_cons_zero, List.getElem_cons_succ, Act.put, List.setIfInBounds_toArray, List.set_cons_zero, List.set_cons_succ]
  refine wpF_step (i := 9) (bs := [false]) (bs' := [false]) (vs := [undef]) (by kernel_rfl) rfl (by kernel_rfl) rfl (by kernel_rfl) (fun wq hS K hK => ?_)
  obtain ⟨hb, hA⟩ := hS.1 noBits_f
  go_simp
  refine hK.out _ _ (LS.before noBits_f (bA hb _) (AW.new hb _ rfl)) ?_
  clear hK hA hb hS
  generalize wq.heap.size = pp7 at *
  try simp only [List.getElem_toArray, List.getElem_cons_zero, List.getElem_cons_succ, Act.put, List.setIfInBounds_toArray, List.set_cons_zero, List.set_cons_succ]
  refine wpF_step (i := 10) (bs := [false]) (bs' := [true]) (vs := [.pointer (some ⟨pp7, 0, none⟩)]) (by kernel_rfl) rfl (by kernel_rfl) rfl (by kernel_rfl) (fun wq hS K hK => ?_)
  obtain ⟨hb, hA⟩ := hS.1 noBits_f
  have ZZ := Lib.hid (ZW.of hb hA l0 l1 l2 l3 [true])
  obtain ⟨hp, x, f⟩ := hA _ rfl
  obtain ⟨_, z0, z1, z2, z3⟩ := x
  obtain ⟨f0, f1, f2, f3⟩ := f
  go_simp
  refine hK.out _ _ (LS.behind bits_t ZZ.out) ?_
  clear hK hA hb ZZ hS z0 z1 z2 z3 f0 f1 f2 f3 hp
  try simp only [List.getElem_toArray, List.getElem_cons_zero, List.getElem_cons_succ, Act.put, List.setIfInBounds_toArray, List.set_cons_zero, List.set_cons_succ]
  refine wpF_yield (i := 11) (v := ?vq116) rfl (by kernel_rfl) (by kernel_rfl) (fun _ _ _ h => h) (Or.inl ⟨by rfl, ?yq116⟩) ?rq116
  case yq116 => (intro wq; go_simp; try (with_reducible rfl))
  try simp only [List.getElem_toArray, List.getElem_cons_zero, List.getElem_cons_succ, Act.put, List.setIfInBounds_toArray, List.set_cons_zero, List.set_cons_succ]
  refine wpF_done (bs := [true]) (vs := [.pointer (some ⟨pp7, 0, none⟩)]) (by kernel_rfl) (by kernel_rfl) rfl (fun w8 hS => ?_) _
  refine NoPanic.normal ?_
  obtain ⟨q, hpp, hge, hbox, hfr, hb⟩ := hS.2 bits_t
  obtain rfl := ptr_eq hpp rfl
  obtain ⟨_, cX7_0, cX7_1, cX7_2, cX7_3⟩ := hbox
  clear hS
  obtain ⟨fX7_0, fX7_1, fX7_2, fX7_3⟩ := hfr
  clear fX7_0 fX7_1 fX7_2 fX7_3
  replace cX0_0 := cell_later hb cX0_0; replace cX0_1 := cell_later hb cX0_1; replace cX0_2 := cell_later hb cX0_2; replace cX0_3 := cell_later hb cX0_3
  replace sX0 : w.heap.size < w8.heap.size := World.block_lt_of_cell? _ _ cX0_0
  replace cX1_0 := cell_later hb cX1_0; replace cX1_1 := cell_later hb cX1_1
  replace sX1 : w.heap.size + 1 < w8.heap.size ∧ w.heap.size < w8.heap.size := by have h : w.heap.size + 1 < w8.heap.size := World.block_lt_of_cell? _ _ cX1_0; exact ⟨h, by omega⟩
  replace cX2_0 := cell_later hb cX2_0; replace cX2_1 := cell_later hb cX2_1
  replace sX2 : w.heap.size + 1 + 1 < w8.heap.size ∧ w.heap.size + 1 < w8.heap.size := by have h : w.heap.size + 1 + 1 < w8.heap.size := World.block_lt_of_cell? _ _ cX2_0; exact ⟨h, by omega⟩
  replace cX4_0 := cell_later hb cX4_0; replace cX4_1 := cell_later hb cX4_1
  replace sX4 : w1.heap.size + 1 < w8.heap.size := World.block_lt_of_cell? _ _ cX4_0
  clear cX5_0 cX5_1 cX5_2 cX5_3 sX5
  replace cX6_0 := cell_later hb cX6_0; replace cX6_1 := cell_later hb cX6_1; replace cX6_2 := cell_later hb cX6_2; replace cX6_3 := cell_later hb cX6_3
  replace sX6 : pp5 < w8.heap.size := World.block_lt_of_cell? _ _ cX6_0
  have sX7 : pp7 < w8.heap.size := World.block_lt_of_cell? _ _ cX7_0
  replace kk := bC kk hb
  clear hb
  go_wp2_with fail
  refine wp_region_noPanic ?_
  refine wp_region_F [8] [14] (LS w8 (AW w8) (ZW w8 n0 n1 n2 n3)) (by kernel_rfl) (bs := [false]) (vs := [undef]) (by kernel_rfl) rfl (LS.before noBits_f (Below.refl _ _).drew (AW.start _ _)) ?_
  refine wpF_take3 (i := 0) (v := ?vq117) rfl (by kernel_rfl) (by kernel_rfl) (fun _ _ _ h => h) (LS.load (by rfl) ?yq117) ?rq117
  case yq117 => (intro wq hb; have lcX7_0 := cell_later hb cX7_0; have lcX7_1 := cell_later hb cX7_1; have lcX7_2 := cell_later hb cX7_2; have lcX7_3 := cell_later hb cX7_3; go_simp; try (with_reducible rfl))
  try simp only [List.getElem_toArray, List.getElem_cons_zero, List.getElem_cons_succ, Act.put, List.setIfInBounds_toArray, List.set_cons_zero, List.set_cons_succ]
  refine wpF_take3 (i := 1) (v := ?vq118) rfl (by kernel_rfl) (by kernel_rfl) (fun _ _ _ h => h) (LS.load (by rfl) ?yq118) ?rq118
  case yq118 => (intro wq hb; have lcX4_0 := cell_later hb cX4_0; have lcX4_1 := cell_later hb cX4_1; go_simp; try (with_reducible rfl))
  try simp only [List.getElem_toArray, List.getElem_cons_zero, List.getElem_cons_succ, Act.put, List.setIfInBounds_toArray, List.set_cons_zero, List.set_cons_succ]
  refine wpF_take3 (i := 2) (v := _) rfl (by kernel_rfl) (by kernel_rfl) (fun _ _ _ h => h) (LS.call (AW.lasts w8) (by rfl) _ _ ?yq119 (h9.out)) ?rq119
  case yq119 => (intro wq; go_simp; try (with_reducible rfl))
  try simp only [List.getElem_toArray, List.getElem_cons_zero, List.getElem_cons_succ, Act.put, List.setIfInBounds_toArray, List.set_cons_zero, List.set_cons_succ]
  refine wpF_take3 (i := 3) (v := _) rfl (by kernel_rfl) (by kernel_rfl) (fun _ _ _ h => h) (LS.call (AW.lasts w8) (by rfl) _ _ ?yq120 (h10.out)) ?rq120
  case yq120 => (intro wq; go_simp; try (with_reducible rfl))
  try simp only [List.getElem_toArray, List.getElem_cons_zero, List.getElem_cons_succ, Act.put, List.setIfInBounds_toArray, List.set_cons_zero, List.set_cons_succ]
  refine wpF_yield (i := 4) (v := ?vq121) rfl (by kernel_rfl) (by kernel_rfl) (fun _ _ _ h => h) (Or.inl ⟨by rfl, ?yq121⟩) ?rq121
  case yq121 => (intro wq; go_simp; try (with_reducible rfl))
  try simp only [List.getElem_toArray, List.getElem_cons_zero, List.getElem_cons_succ, Act.put, List.setIfInBounds_toArray, List.set_cons_zero, List.set_cons_succ]
  refine wpF_yield (i := 5) (v := ?vq122) rfl (by kernel_rfl) (by kernel_rfl) (fun _ _ _ h => h) (Or.inl ⟨by rfl, ?yq122⟩) ?rq122
  case yq122 => (intro wq; go_simp; try (with_reducible rfl))
  try simp only [List.getElem_toArray, List.getElem_cons_zero, List.getElem_cons_succ, Act.put, List.setIfInBounds_toArray, List.set_cons_zero, List.set_cons_succ]
  refine wpF_yield (i := 6) (v := ?vq123) rfl (by kernel_rfl) (by kernel_rfl) (fun _ _ _ h => h) (Or.inl ⟨by rfl, ?yq123⟩) ?rq123
  case yq123 => (intro wq; go_simp; try (with_reducible rfl))
  try simp only [List.getElem_toArray, List.getElem_cons_zero, List.getElem_cons_succ, Act.put, List.setIfInBounds_toArray, List.set_cons_zero, List.set_cons_succ]
  refine wpF_step (i := 7) (bs := [false]) (bs' := [false]) (vs := [undef]) (by kernel_rfl) rfl (by kernel_rfl) rfl (by kernel_rfl) (fun wq hS K hK => ?_)
  obtain ⟨hb, hA⟩ := hS.1 noBits_f
  go_simp
  refine hK.out _ _ (LS.before noBits_f (bA hb _) (AW.new hb _ rfl)) ?_
  clear hK hA hb hS
  generalize wq.heap.size = pp9 at *
  try simp only [List.getElem_toArray, List.getElem_cons_zero, List.getElem_cons_succ, Act.put, List.setIfInBounds_toArray, List.set_cons_zero, List.set_cons_succ]
  refine wpF_step (i := 8) (bs := [false]) (bs' := [true]) (vs := [.pointer (some ⟨pp9, 0, none⟩)]) (by kernel_rfl) rfl (by kernel_rfl) rfl (by kernel_rfl) (fun wq hS K hK => ?_)
  obtain ⟨hb, hA⟩ := hS.1 noBits_f
  have ZZ := Lib.hid (ZW.of hb hA n0 n1 n2 n3 [true])
  obtain ⟨hp, x, f⟩ := hA _ rfl
  obtain ⟨_, z0, z1, z2, z3⟩ := x
  obtain ⟨f0, f1, f2, f3⟩ := f
  go_simp
  refine hK.out _ _ (LS.behind bits_t ZZ.out) ?_
  clear hK hA hb ZZ hS z0 z1 z2 z3 f0 f1 f2 f3 hp
  try simp only [List.getElem_toArray, List.getElem_cons_zero, List.getElem_cons_succ, Act.put, List.setIfInBounds_toArray, List.set_cons_zero, List.set_cons_succ]
  refine wpF_yield (i := 9) (v := ?vq124) rfl (by kernel_rfl) (by kernel_rfl) (fun _ _ _ h => h) (Or.inl ⟨by rfl, ?yq124⟩) ?rq124
  case yq124 => (intro wq; go_simp; try (with_reducible rfl))
  try simp only [List.getElem_toArray, List.getElem_cons_zero, List.getElem_cons_succ, Act.put, List.setIfInBounds_toArray, List.set_cons_zero, List.set_cons_succ]
  refine wpF_done (bs := [true]) (vs := [.pointer (some ⟨pp9, 0, none⟩)]) (by kernel_rfl) (by kernel_rfl) rfl (fun w10 hS => ?_) _
  refine NoPanic.normal ?_
  obtain ⟨q, hpp, hge, hbox, hfr, hb⟩ := hS.2 bits_t
  obtain rfl := ptr_eq hpp rfl
  obtain ⟨_, cX8_0, cX8_1, cX8_2, cX8_3⟩ := hbox
  clear hS
  obtain ⟨fX8_0, fX8_1, fX8_2, fX8_3⟩ := hfr
  clear fX8_0 fX8_1 fX8_2 fX8_3
  replace cX0_0 := cell_later hb cX0_0; replace cX0_1 := cell_later hb cX0_1; replace cX0_2 := cell_later hb cX0_2; replace cX0_3 := cell_later hb cX0_3
  replace sX0 : w.heap.size < w10.heap.size := World.block_lt_of_cell? _ _ cX0_0
  replace cX1_0 := cell_later hb cX1_0; replace cX1_1 := cell_later hb cX1_1
  replace sX1 : w.heap.size + 1 < w10.heap.size ∧ w.heap.size < w10.heap.size := by have h : w.heap.size + 1 < w10.heap.size := World.block_lt_of_cell? _ _ cX1_0; exact ⟨h, by omega⟩
  replace cX2_0 := cell_later hb cX2_0; replace cX2_1 := cell_later hb cX2_1
  replace sX2 : w.heap.size + 1 + 1 < w10.heap.size ∧ w.heap.size + 1 < w10.heap.size := by have h : w.heap.size + 1 + 1 < w10.heap.size := World.block_lt_of_cell? _ _ cX2_0; exact ⟨h, by omega⟩
  replace cX4_0 := cell_later hb cX4_0; replace cX4_1 := cell_later hb cX4_1
  replace sX4 : w1.heap.size + 1 < w10.heap.size := World.block_lt_of_cell? _ _ cX4_0
  replace cX6_0 := cell_later hb cX6_0; replace cX6_1 := cell_later hb cX6_1; replace cX6_2 := cell_later hb cX6_2; replace cX6_3 := cell_later hb cX6_3
  replace sX6 : pp5 < w10.heap.size := World.block_lt_of_cell? _ _ cX6_0
  clear cX7_0 cX7_1 cX7_2 cX7_3 sX7
  have sX8 : pp9 < w10.heap.size := World.block_lt_of_cell? _ _ cX8_0
  replace kk := bC kk hb
  clear hb
  go_wp2_with fail
  (with_reducible refine (h11.out _).mono ?_); rintro e w11 ⟨rfl, hb⟩
  replace cX0_0 := cell_later hb cX0_0; replace cX0_1 := cell_later hb cX0_1; replace cX0_2 := cell_later hb cX0_2; replace cX0_3 := cell_later hb cX0_3
  replace sX0 : w.heap.size < w11.heap.size := World.block_lt_of_cell? _ _ cX0_0
  replace cX1_0 := cell_later hb cX1_0; replace cX1_1 := cell_later hb cX1_1
  replace sX1 : w.heap.size + 1 < w11.heap.size ∧ w.heap.size < w11.heap.size := by have h : w.heap.size + 1 < w11.heap.size := World.block_lt_of_cell? _ _ cX1_0; exact ⟨h, by omega⟩
  replace cX2_0 := cell_later hb cX2_0; replace cX2_1 := cell_later hb cX2_1
  replace sX2 : w.heap.size + 1 + 1 < w11.heap.size ∧ w.heap.size + 1 < w11.heap.size := by have h : w.heap.size + 1 + 1 < w11.heap.size := World.block_lt_of_cell? _ _ cX2_0; exact ⟨h, by omega⟩
  replace cX4_0 := cell_later hb cX4_0; replace cX4_1 := cell_later hb cX4_1
  replace sX4 : w1.heap.size + 1 < w11.heap.size := World.block_lt_of_cell? _ _ cX4_0
  clear cX6_0 cX6_1 cX6_2 cX6_3 sX6
  replace cX8_0 := cell_later hb cX8_0; replace cX8_1 := cell_later hb cX8_1; replace cX8_2 := cell_later hb cX8_2; replace cX8_3 := cell_later hb cX8_3
  replace sX8 : pp9 < w11.heap.size := World.block_lt_of_cell? _ _ cX8_0
  replace kk := bC kk hb
  clear hb
  go_wp2_with fail
  (with_reducible refine (h12.out _).mono ?_); rintro e w12 ⟨rfl, hb⟩
  replace cX0_0 := cell_later hb cX0_0; replace cX0_1 := cell_later hb cX0_1; replace cX0_2 := cell_later hb cX0_2; replace cX0_3 := cell_later hb cX0_3
  replace sX0 : w.heap.size < w12.heap.size := World.block_lt_of_cell? _ _ cX0_0
  replace cX1_0 := cell_later hb cX1_0; replace cX1_1 := cell_later hb cX1_1
  replace sX1 : w.heap.size + 1 < w12.heap.size ∧ w.heap.size < w12.heap.size := by have h : w.heap.size + 1 < w12.heap.size := World.block_lt_of_cell? _ _ cX1_0; exact ⟨h, by omega⟩
  replace cX2_0 := cell_later hb cX2_0; replace cX2_1 := cell_later hb cX2_1
  replace sX2 : w.heap.size + 1 + 1 < w12.heap.size ∧ w.heap.size + 1 < w12.heap.size := by have h : w.heap.size + 1 + 1 < w12.heap.size := World.block_lt_of_cell? _ _ cX2_0; exact ⟨h, by omega⟩
  replace cX4_0 := cell_later hb cX4_0; replace cX4_1 := cell_later hb cX4_1
  replace sX4 : w1.heap.size + 1 < w12.heap.size := World.block_lt_of_cell? _ _ cX4_0
  replace cX8_0 := cell_later hb cX8_0; replace cX8_1 := cell_later hb cX8_1; replace cX8_2 := cell_later hb cX8_2; replace cX8_3 := cell_later hb cX8_3
  replace sX8 : pp9 < w12.heap.size := World.block_lt_of_cell? _ _ cX8_0
  replace kk := bC kk hb
  clear hb
  go_wp2_with fail
  (with_reducible refine (h13.out _).mono ?_); rintro e w13 ⟨rfl, hb⟩
  clear cX0_0 cX0_1 cX0_2 cX0_3 sX0
  replace cX1_0 := cell_later hb cX1_0; replace cX1_1 := cell_later hb cX1_1
  replace sX1 : w.heap.size + 1 < w13.heap.size ∧ w.heap.size < w13.heap.size := by have h : w.heap.size + 1 < w13.heap.size := World.block_lt_of_cell? _ _ cX1_0; exact ⟨h, by omega⟩
  replace cX2_0 := cell_later hb cX2_0; replace cX2_1 := cell_later hb cX2_1
  replace sX2 : w.heap.size + 1 + 1 < w13.heap.size ∧ w.heap.size + 1 < w13.heap.size := by have h : w.heap.size + 1 + 1 < w13.heap.size := World.block_lt_of_cell? _ _ cX2_0; exact ⟨h, by omega⟩
  clear cX4_0 cX4_1 sX4
  clear cX8_0 cX8_1 cX8_2 cX8_3 sX8
  replace kk := bC kk hb
  clear hb
  go_wp2_with fail
  refine wp_region_noPanic ?_
  refine wp_region_F [11, 12] [16, 17] (LS w13 (AWB w13) (ZWB w13 al ah 0 0 0 0)) (by kernel_rfl) (bs := [false, false]) (vs := [undef, undef]) (by kernel_rfl) rfl (LS.before noBits_ff (Below.refl _ _).drew (AWB.start _ _)) ?_
  refine wpF_take3 (i := 0) (v := ?vq125) rfl (by kernel_rfl) (by kernel_rfl) (fun _ _ _ h => h) (LS.load (by rfl) ?yq125) ?rq125
  case yq125 => (intro wq hb; have lcX1_0 := cell_later hb cX1_0; have lcX1_1 := cell_later hb cX1_1; go_simp; try (with_reducible rfl))
  try simp only [List.getElem_toArray, List.getElem_cons_zero, List.getElem_cons_succ, Act.put, List.setIfInBounds_toArray, List.set_cons_zero, List.set_cons_succ]
  refine wpF_take3 (i := 1) (v := ?vq126) rfl (by kernel_rfl) (by kernel_rfl) (fun _ _ _ h => h) (LS.load (by rfl) ?yq126) ?rq126
  case yq126 => (intro wq hb; have lcX2_0 := cell_later hb cX2_0; have lcX2_1 := cell_later hb cX2_1; go_simp; try (with_reducible rfl))
  try simp only [List.getElem_toArray, List.getElem_cons_zero, List.getElem_cons_succ, Act.put, List.setIfInBounds_toArray, List.set_cons_zero, List.set_cons_succ]
  refine wpF_take3 (i := 2) (v := _) rfl (by kernel_rfl) (by kernel_rfl) (fun _ _ _ h => h) (LS.call (AWB.lasts w13) (by rfl) _ _ ?yq127 (h14.out)) ?rq127
  case yq127 => (intro wq; go_simp; try (with_reducible rfl))
  try simp only [List.getElem_toArray, List.getElem_cons_zero, List.getElem_cons_succ, Act.put, List.setIfInBounds_toArray, List.set_cons_zero, List.set_cons_succ]
  refine wpF_take3 (i := 3) (v := ?vq128) rfl (by kernel_rfl) (by kernel_rfl) (fun _ _ _ h => h) (LS.load (by rfl) ?yq128) ?rq128
  case yq128 => (intro wq hb; have lcX2_0 := cell_later hb cX2_0; have lcX2_1 := cell_later hb cX2_1; go_simp; try (with_reducible rfl))
  try simp only [List.getElem_toArray, List.getElem_cons_zero, List.getElem_cons_succ, Act.put, List.setIfInBounds_toArray, List.set_cons_zero, List.set_cons_succ]
  refine wpF_take3 (i := 4) (v := _) rfl (by kernel_rfl) (by kernel_rfl) (fun _ _ _ h => h) (LS.call (AWB.lasts w13) (by rfl) _ _ ?yq129 (h15.out)) ?rq129
  case yq129 => (intro wq; go_simp; try (with_reducible rfl))
  try simp only [List.getElem_toArray, List.getElem_cons_zero, List.getElem_cons_succ, Act.put, List.setIfInBounds_toArray, List.set_cons_zero, List.set_cons_succ]
  refine wpF_yield (i := 5) (v := ?vq130) rfl (by kernel_rfl) (by kernel_rfl) (fun _ _ _ h => h) (Or.inl ⟨by rfl, ?yq130⟩) ?rq130
  case yq130 => (intro wq; go_simp; try (with_reducible rfl))
  try simp only [List.getElem_toArray, List.getElem_cons_zero, List.getElem_cons_succ, Act.put, List.setIfInBounds_toArray, List.set_cons_zero, List.set_cons_succ]
  refine wpF_yield (i := 6) (v := ?vq131) rfl (by kernel_rfl) (by kernel_rfl) (fun _ _ _ h => h) (Or.inl ⟨by rfl, ?yq131⟩) ?rq131
  case yq131 => (intro wq; go_simp; try (with_reducible rfl))
  try simp only [List.getElem_toArray, List.getElem_cons_zero, List.getElem_cons_succ, Act.put, List.setIfInBounds_toArray, List.set_cons_zero, List.set_cons_succ]
  refine wpF_yield (i := 7) (v := ?vq132) rfl (by kernel_rfl) (by kernel_rfl) (fun _ _ _ h => h) (Or.inl ⟨by rfl, ?yq132⟩) ?rq132
  case yq132 => (intro wq; go_simp; try (with_reducible rfl))
  try simp only [List.getElem_toArray, List.getElem_cons_zero, List.getElem_cons_succ, Act.put, List.setIfInBounds_toArray, List.set_cons_zero, List.set_cons_succ]
  refine wpF_yield (i := 8) (v := ?vq133) rfl (by kernel_rfl) (by kernel_rfl) (fun _ _ _ h => h) (Or.inl ⟨by rfl, ?yq133⟩) ?rq133
  case yq133 => (intro wq; go_simp; try (with_reducible rfl))
  try simp only [List.getElem_toArray, List.getElem_cons_zero, List.getElem_cons_succ, Act.put, List.setIfInBounds_toArray, List.set_cons_zero, List.set_cons_succ]
  refine wpF_two (i := 9) (j := 10) (bs := [false, false]) (bi := [false, false]) (bj := [false, false]) (vs := [undef, undef]) (by kernel_rfl) rfl rfl (by kernel_rfl) rfl (by kernel_rfl) (by kernel_rfl) (fun wq hS K hK => ?_) (fun wq hS K hK => ?_)
  obtain ⟨hb, hA⟩ := hS.1 noBits_ff
  go_simp
  refine hK.out _ _ (LS.before noBits_ff (bA hb _) (AWB.first hb _ rfl)) ?_
  clear hK hA hb hS
  generalize wq.heap.size = pp14 at *
  try simp only [List.getElem_toArray, List.getElem_cons_zero, List.getElem_cons_succ, Act.put, List.setIfInBounds_toArray, List.set_cons_zero, List.set_cons_succ]
  clear K wq
  refine wpF_step (i := 10) (bs := [false, false]) (bs' := [false, false]) (vs := [.pointer (some ⟨pp14, 0, none⟩), undef]) (by kernel_rfl) rfl (by kernel_rfl) rfl (by kernel_rfl) (fun wq hS K hK => ?_)
  obtain ⟨hb, hA⟩ := hS.1 noBits_ff
  go_simp
  refine hK.out _ _ (LS.before noBits_ff (bA hb _) (AWB.second hb hA _ rfl)) ?_
  clear hK hA hb hS
  generalize wq.heap.size = qq14 at *
  try simp only [List.getElem_toArray, List.getElem_cons_zero, List.getElem_cons_succ, Act.put, List.setIfInBounds_toArray, List.set_cons_zero, List.set_cons_succ]
  clear K wq
  revert pp14 qq14
  refine ?rest
  rotate_left
  obtain ⟨hb, hA⟩ := hS.1 noBits_ff
  go_simp
  refine hK.out _ _ (LS.before noBits_ff (bA hb _) (AWB.first' hb _ rfl)) ?_
  clear hK hA hb hS
  generalize wq.heap.size = qq14 at *
  try simp only [List.getElem_toArray, List.getElem_cons_zero, List.getElem_cons_succ, Act.put, List.setIfInBounds_toArray, List.set_cons_zero, List.set_cons_succ]
  clear K wq
  refine wpF_step (i := 9) (bs := [false, false]) (bs' := [false, false]) (vs := [undef, .pointer (some ⟨qq14, 0, none⟩)]) (by kernel_rfl) rfl (by kernel_rfl) rfl (by kernel_rfl) (fun wq hS K hK => ?_)
  obtain ⟨hb, hA⟩ := hS.1 noBits_ff
  go_simp
  refine hK.out _ _ (LS.before noBits_ff (bA hb _) (AWB.second' hb hA _ rfl)) ?_
  clear hK hA hb hS
  generalize wq.heap.size = pp14 at *
  try simp only [List.getElem_toArray, List.getElem_cons_zero, List.getElem_cons_succ, Act.put, List.setIfInBounds_toArray, List.set_cons_zero, List.set_cons_succ]
  clear K wq
  rw [Array.setIfInBounds_comm true true (i := 10) (j := 9) (by decide)]
  exact ?rest pp14 qq14
  intro pp14 qq14
  refine wpF_step (i := 11) (bs := [false, false]) (bs' := [true, false]) (vs := [.pointer (some ⟨pp14, 0, none⟩), .pointer (some ⟨qq14, 0, none⟩)]) (by kernel_rfl) rfl (by kernel_rfl) rfl (by kernel_rfl) (fun wq hS K hK => ?_)
  obtain ⟨hb, hA⟩ := hS.1 noBits_ff
  have ZZ := Lib.hid (ZWB.one hb hA al ah 0 0 0 0)
  obtain ⟨⟨hp, x, f⟩, _, _⟩ := hA.both
  obtain ⟨_, z0, z1, z2, z3⟩ := x
  obtain ⟨f0, f1, f2, f3⟩ := f
  go_simp
  refine hK.out _ _ (LS.behind bits_tf' ZZ.out) ?_
  clear hK hA hb ZZ hS z0 z1 z2 z3 f0 f1 f2 f3 hp
  try simp only [List.getElem_toArray, List.getElem_cons_zero, List.getElem_cons_succ, Act.put, List.setIfInBounds_toArray, List.set_cons_zero, List.set_cons_succ]
  refine wpF_step (i := 12) (bs := [true, false]) (bs' := [true, true]) (vs := [.pointer (some ⟨pp14, 0, none⟩), .pointer (some ⟨qq14, 0, none⟩)]) (by kernel_rfl) rfl (by kernel_rfl) rfl (by kernel_rfl) (fun wq hS K hK => ?_)
  have hZ := hS.2 bits_tf'
  have ZZ := Lib.hid hZ.two
  obtain ⟨⟨_, z0, z1⟩, f0, f1⟩ := hZ.cells
  go_simp
  refine hK.out _ _ (LS.behind bits_tt' ZZ.out) ?_
  clear hK hZ ZZ hS z0 z1 f0 f1
  try simp only [List.getElem_toArray, List.getElem_cons_zero, List.getElem_cons_succ, Act.put, List.setIfInBounds_toArray, List.set_cons_zero, List.set_cons_succ]
  refine wpF_yield (i := 13) (v := ?vq134) rfl (by kernel_rfl) (by kernel_rfl) (fun _ _ _ h => h) (Or.inl ⟨by rfl, ?yq134⟩) ?rq134
  case yq134 => (intro wq; go_simp; try (with_reducible rfl))
  try simp only [List.getElem_toArray, List.getElem_cons_zero, List.getElem_cons_succ, Act.put, List.setIfInBounds_toArray, List.set_cons_zero, List.set_cons_succ]
  refine wpF_done (bs := [true, true]) (vs := [.pointer (some ⟨pp14, 0, none⟩), .pointer (some ⟨qq14, 0, none⟩)]) (by kernel_rfl) (by kernel_rfl) rfl (fun w15 hS => ?_) _
  refine NoPanic.normal ?_
  obtain ⟨hge, hge2, hne, hbox, hfr, hbox2, hb⟩ := (hS.2 bits_tt').done
  obtain ⟨_, cX9_0, cX9_1, cX9_2, cX9_3⟩ := hbox
  obtain ⟨⟨_, cX10_0, cX10_1⟩, _, _⟩ := hbox2
  clear hfr hge hge2 hne
  clear hS
  replace cX1_0 := cell_later hb cX1_0; replace cX1_1 := cell_later hb cX1_1
  replace sX1 : w.heap.size + 1 < w15.heap.size ∧ w.heap.size < w15.heap.size := by have h : w.heap.size + 1 < w15.heap.size := World.block_lt_of_cell? _ _ cX1_0; exact ⟨h, by omega⟩
  clear cX2_0 cX2_1 sX2
  have sX9 : pp14 < w15.heap.size := World.block_lt_of_cell? _ _ cX9_0
  have sX10 : qq14 < w15.heap.size := World.block_lt_of_cell? _ _ cX10_0
  replace kk := bC kk hb
  clear hb
  go_wp2_with fail
  refine wp_region_noPanic ?_
  refine wp_region_F [] [] (LS w15 (fun _ _ => True) (fun _ _ _ => True)) (by kernel_rfl) (bs := []) (vs := []) (by kernel_rfl) rfl (LS.before noBits_nil (Below.refl _ _).drew trivial) ?_
  refine wpF_yield (i := 0) (v := ?vq135) rfl (by kernel_rfl) (by kernel_rfl) (fun _ _ _ h => h) (Or.inl ⟨by rfl, ?yq135⟩) ?rq135
  case yq135 => (intro wq; go_simp; try (with_reducible rfl))
  try simp only [List.getElem_toArray, List.getElem_cons_zero, List.getElem_cons_succ, Act.put, List.setIfInBounds_toArray, List.set_cons_zero, List.set_cons_succ]
  refine wpF_yield (i := 1) (v := ?vq136) rfl (by kernel_rfl) (by kernel_rfl) (fun _ _ _ h => h) (Or.inl ⟨by rfl, ?yq136⟩) ?rq136
  case yq136 => (intro wq; go_simp; try (with_reducible rfl))
  try simp only [List.getElem_toArray, List.getElem_cons_zero, List.getElem_cons_succ, Act.put, List.setIfInBounds_toArray, List.set_cons_zero, List.set_cons_succ]
  refine wpF_take (i := 2) (v := ?vq137) rfl (by kernel_rfl) (by kernel_rfl) (fun _ _ _ h => h) (LS.load (by rfl) ?yq137) ?rq137
  case yq137 => (intro wq hb; have lcX9_0 := cell_later hb cX9_0; have lcX9_1 := cell_later hb cX9_1; have lcX9_2 := cell_later hb cX9_2; have lcX9_3 := cell_later hb cX9_3; go_simp; try (with_reducible rfl))
  try simp only [List.getElem_toArray, List.getElem_cons_zero, List.getElem_cons_succ, Act.put, List.setIfInBounds_toArray, List.set_cons_zero, List.set_cons_succ]
  refine wpF_take (i := 3) (v := ?vq138) rfl (by kernel_rfl) (by kernel_rfl) (fun _ _ _ h => h) (LS.load (by rfl) ?yq138) ?rq138
  case yq138 => (intro wq hb; have lcX1_0 := cell_later hb cX1_0; have lcX1_1 := cell_later hb cX1_1; go_simp; try (with_reducible rfl))
  try simp only [List.getElem_toArray, List.getElem_cons_zero, List.getElem_cons_succ, Act.put, List.setIfInBounds_toArray, List.set_cons_zero, List.set_cons_succ]
  refine wpF_take (i := 4) (v := _) rfl (by kernel_rfl) (by kernel_rfl) (fun _ _ _ h => h) (LS.call lasts_true (by rfl) _ _ ?yq139 (h16.out)) ?rq139
  case yq139 => (intro wq; go_simp; try (with_reducible rfl))
  try simp only [List.getElem_toArray, List.getElem_cons_zero, List.getElem_cons_succ, Act.put, List.setIfInBounds_toArray, List.set_cons_zero, List.set_cons_succ]
  refine wpF_yield (i := 5) (v := ?vq140) rfl (by kernel_rfl) (by kernel_rfl) (fun _ _ _ h => h) (Or.inl ⟨by rfl, ?yq140⟩) ?rq140
  case yq140 => (intro wq; go_simp; try (with_reducible rfl))
  try simp only [List.getElem_toArray, List.getElem_cons_zero, List.getElem_cons_succ, Act.put, List.setIfInBounds_toArray, List.set_cons_zero, List.set_cons_succ]
  refine wpF_yield (i := 6) (v := ?vq141) rfl (by kernel_rfl) (by kernel_rfl) (fun _ _ _ h => h) (Or.inl ⟨by rfl, ?yq141⟩) ?rq141
  case yq141 => (intro wq; go_simp; try (with_reducible rfl))
  try simp only [List.getElem_toArray, List.getElem_cons_zero, List.getElem_cons_succ, Act.put, List.setIfInBounds_toArray, List.set_cons_zero, List.set_cons_succ]
  refine wpF_yield (i := 7) (v := ?vq142) rfl (by kernel_rfl) (by kernel_rfl) (fun _ _ _ h => h) (Or.inl ⟨by rfl, ?yq142⟩) ?rq142
  case yq142 => (intro wq; go_simp; try (with_reducible rfl))
  try simp only [List.getElem_toArray, List.getElem_cons_zero, List.getElem_cons_succ, Act.put, List.setIfInBounds_toArray, List.set_cons_zero, List.set_cons_succ]
  refine wpF_take (i := 8) (v := ?vq143) rfl (by kernel_rfl) (by kernel_rfl) (fun _ _ _ h => h) (LS.load (by rfl) ?yq143) ?rq143
  case yq143 => (intro wq hb; have lcX10_0 := cell_later hb cX10_0; have lcX10_1 := cell_later hb cX10_1; go_simp; try (with_reducible rfl))
  try simp only [List.getElem_toArray, List.getElem_cons_zero, List.getElem_cons_succ, Act.put, List.setIfInBounds_toArray, List.set_cons_zero, List.set_cons_succ]
  refine wpF_take (i := 9) (v := _) rfl (by kernel_rfl) (by kernel_rfl) (fun _ _ _ h => h) (LS.call lasts_true (by rfl) _ _ ?yq144 (h12.out)) ?rq144
  case yq144 => (intro wq; go_simp; try (with_reducible rfl))
  try simp only [List.getElem_toArray, List.getElem_cons_zero, List.getElem_cons_succ, Act.put, List.setIfInBounds_toArray, List.set_cons_zero, List.set_cons_succ]
  refine wpF_yield (i := 10) (v := ?vq145) rfl (by kernel_rfl) (by kernel_rfl) (fun _ _ _ h => h) (Or.inl ⟨by rfl, ?yq145⟩) ?rq145
  case yq145 => (intro wq; go_simp; try (with_reducible rfl))
  try simp only [List.getElem_toArray, List.getElem_cons_zero, List.getElem_cons_succ, Act.put, List.setIfInBounds_toArray, List.set_cons_zero, List.set_cons_succ]
  refine wpF_yield (i := 11) (v := ?vq146) rfl (by kernel_rfl) (by kernel_rfl) (fun _ _ _ h => h) (Or.inl ⟨by rfl, ?yq146⟩) ?rq146
  case yq146 => (intro wq; go_simp; try (with_reducible rfl))
  try simp only [List.getElem_toArray, List.getElem_cons_zero, List.getElem_cons_succ, Act.put, List.setIfInBounds_toArray, List.set_cons_zero, List.set_cons_succ]
  refine wpF_take (i := 12) (v := _) rfl (by kernel_rfl) (by kernel_rfl) (fun _ _ _ h => h) (LS.call lasts_true (by rfl) _ _ ?yq147 (h18.out)) ?rq147
  case yq147 => (intro wq; go_simp; try (with_reducible rfl))
  try simp only [List.getElem_toArray, List.getElem_cons_zero, List.getElem_cons_succ, Act.put, List.setIfInBounds_toArray, List.set_cons_zero, List.set_cons_succ]
  refine wpF_yield (i := 13) (v := ?vq148) rfl (by kernel_rfl) (by kernel_rfl) (fun _ _ _ h => h) (Or.inl ⟨by rfl, ?yq148⟩) ?rq148
  case yq148 => (intro wq; go_simp; try (with_reducible rfl))
  try simp only [List.getElem_toArray, List.getElem_cons_zero, List.getElem_cons_succ, Act.put, List.setIfInBounds_toArray, List.set_cons_zero, List.set_cons_succ]
  refine wpF_yield (i := 14) (v := ?vq149) rfl (by kernel_rfl) (by kernel_rfl) (fun _ _ _ h => h) (Or.inl ⟨by rfl, ?yq149⟩) ?rq149
  case yq149 => (intro wq; go_simp; try (with_reducible rfl))
  try simp only [List.getElem_toArray, List.getElem_cons_zero, List.getElem_cons_succ, Act.put, List.setIfInBounds_toArray, List.set_cons_zero, List.set_cons_succ]
  refine wpF_done (bs := []) (vs := []) (by kernel_rfl) (by kernel_rfl) rfl (fun w17 hS => ?_) _
  refine NoPanic.normal ?_
  obtain ⟨hb, _⟩ := hS.1 noBits_nil
  clear hS
  clear cX1_0 cX1_1 sX1
  clear cX9_0 cX9_1 cX9_2 cX9_3 sX9
  clear cX10_0 cX10_1 sX10
  replace kk := bC kk hb
  clear hb
  go_wp2_with fail
  go_ret
  exact ⟨rfl, kk⟩

end Go.Proofs.Ytlmgebanfjclcaa
