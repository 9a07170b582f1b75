/-
  The walk of the statement ClassOne.
-/
import Derived.Test.YtdlmnnnnnjgkiaaDoorForm7T
import Derived.Test.YtdlmnnnnnjgkiaaDoorGaA
import Derived.Test.YtdlmnnnnnjgkiaaDoorRef8
set_option linter.unusedVariables false
set_option linter.unusedSimpArgs false
set_option maxRecDepth 100000
namespace Go.Proofs.YtdlmnnnnnjgkiaaDoor
open Go.RowKit
attribute [local go_sem ↓] Go.wp_at_zero Go.wp_at_succ

set_option maxHeartbeats 4000000 in
set_option maxRecDepth 100000 in
theorem one8_no (f bh bl qh ql : Int)
    (h0 : Hid (∀ w, FTab w → Calls Tryd.prog 18 #[.int .u8 f] w fun e w' => e = .returned (.bool false) ∧ Below w.heap.size w w'))
    (h1 : Hid (∀ w, FTab w → Calls Tryd.prog 9 #[.int .u8 f, .agg #[.int .u64 bh, .int .u64 bl]] w fun e w' => e = .returned (.tuple #[.int .u8 0, .bool false]) ∧ Below w.heap.size w w'))
    (h2 : Hid (∀ w, FTab w → Calls Tryd.prog 15 #[.int .u8 f, .agg #[.int .u64 bh, .int .u64 bl]] w fun e w' => e = .returned (.bool false) ∧ Below w.heap.size w w'))
    (h3 : Hid (∀ w, FTab w → Calls Tryd.prog 16 #[] w fun e w' => e = .returned (.bool true) ∧ Below w.heap.size w w')) (w : World) (ft : FTab w) :
    Calls Tryd.prog 5 #[.int .u8 f, .agg #[.int .u64 bh, .int .u64 bl], .agg #[.int .u64 qh, .int .u64 ql]] w fun e w' => e = .returned (.bool true) ∧ Below w.heap.size w w' := by
  go_enter Tryd.func5, Tryd.ntmps5
  go_wp2_with fail
  (with_reducible refine (h0.out _ (ft.later (bA (bA (Below.refl _ _) _) _))).mono ?_); rintro e w1 ⟨rfl, hb⟩
  have hz := bC (bA (bA (Below.refl _ _) _) _) hb
  have cX0_0 := cell_later hb (a := ⟨w.heap.size, 0, none⟩) (v := .int .u64 bh) (by go_simp)
  have cX0_1 := cell_later hb (a := ⟨w.heap.size, 1, none⟩) (v := .int .u64 bl) (by go_simp)
  have sX0 : w.heap.size < w1.heap.size := World.block_lt_of_cell? _ _ cX0_0
  have kk := hz
  clear hb hz
  go_wp2_with fail
  (with_reducible refine (h1.out _ (ft.later kk)).mono ?_); rintro e w2 ⟨rfl, hb⟩
  replace cX0_0 := cell_later hb cX0_0; replace cX0_1 := cell_later hb cX0_1
  replace sX0 : w.heap.size < w2.heap.size := World.block_lt_of_cell? _ _ cX0_0
  replace kk := bC kk hb
  clear hb
  go_wp2_with fail
  (with_reducible refine (h2.out _ (ft.later kk)).mono ?_); rintro e w3 ⟨rfl, hb⟩
  clear cX0_0 cX0_1 sX0
  replace kk := bC kk hb
  clear hb
  go_wp2_with fail
  (with_reducible refine (h3.out _ (ft.later kk)).mono ?_); rintro e w4 ⟨rfl, hb⟩
  replace kk := bC kk hb
  clear hb
  go_wp2_with fail
  go_ret
  exact ⟨rfl, kk⟩

set_option maxHeartbeats 4000000 in
set_option maxRecDepth 100000 in
theorem one8_yes (f bh bl qh ql sh sl th tl gh gl mh ml lh ll ah al ih il wi k kw c z : Int) (o o2 fi nn zz bz : Bool)
    (h0 : Hid (∀ w, FTab w → Calls Tryd.prog 18 #[.int .u8 f] w fun e w' => e = .returned (.bool true) ∧ Below w.heap.size w w'))
    (h1 : Hid (∀ w, FTab w → Calls Tryd.prog 19 #[.int .u8 f] w fun e w' => e = .returned (.int .i64 wi) ∧ Below w.heap.size w w'))
    (h2 : Hid (∀ w, Calls Tryd.prog 21 #[.agg #[.int .u64 bh, .int .u64 bl], .int .i64 k] w fun e w' => e = .returned (.agg #[.int .u64 th, .int .u64 tl]) ∧ Below w.heap.size w w'))
    (h3 : Hid (∀ w, Calls Tryd.prog 20 #[.agg #[.int .u64 th, .int .u64 tl], .int .i64 k] w fun e w' => e = .returned (.agg #[.int .u64 sh, .int .u64 sl]) ∧ Below w.heap.size w w'))
    (h4 : Hid (∀ w, Calls Tryd.prog 21 #[.agg #[.int .u64 0, .int .u64 1], .int .i64 kw] w fun e w' => e = .returned (.agg #[.int .u64 gh, .int .u64 gl]) ∧ Below w.heap.size w w'))
    (h5 : Hid (∀ w, Calls Tryd.prog 22 #[.agg #[.int .u64 sh, .int .u64 sl], .agg #[.int .u64 gh, .int .u64 gl]] w fun e w' => e = .returned (.tuple #[.agg #[.int .u64 mh, .int .u64 ml], .bool o]) ∧ Below w.heap.size w w'))
    (h6 : Hid (∀ w, Calls Tryd.prog 21 #[.agg #[.int .u64 qh, .int .u64 ql], .int .i64 wi] w fun e w' => e = .returned (.agg #[.int .u64 lh, .int .u64 ll]) ∧ Below w.heap.size w w'))
    (h7 : Hid (∀ w, Calls Tryd.prog 22 #[.agg #[.int .u64 sh, .int .u64 sl], .agg #[.int .u64 lh, .int .u64 ll]] w fun e w' => e = .returned (.tuple #[.agg #[.int .u64 ah, .int .u64 al], .bool o2]) ∧ Below w.heap.size w w'))
    (h8 : Hid (∀ w, FTab w → Calls Tryd.prog 9 #[.int .u8 f, .agg #[.int .u64 sh, .int .u64 sl]] w fun e w' => e = .returned (.tuple #[.int .u8 c, .bool false]) ∧ Below w.heap.size w w'))
    (h9 : Hid (∀ w, FTab w → Calls Tryd.prog 9 #[.int .u8 f, .agg #[.int .u64 mh, .int .u64 ml]] w fun e w' => e = .returned (.tuple #[.int .u8 c, .bool true]) ∧ Below w.heap.size w w'))
    (h10 : Hid (∀ w, FTab w → Calls Tryd.prog 9 #[.int .u8 f, .agg #[.int .u64 ah, .int .u64 al]] w fun e w' => e = .returned (.tuple #[.int .u8 c, .bool false]) ∧ Below w.heap.size w w'))
    (h11 : Hid (∀ w, FTab w → Calls Tryd.prog 24 #[.int .u8 f, .bool false] w fun e w' => e = .returned (.agg #[.int .u64 ih, .int .u64 il]) ∧ Below w.heap.size w w'))
    (h12 : Hid (∀ w, Calls Tryd.prog 23 #[.agg #[.int .u64 sh, .int .u64 sl], .agg #[.int .u64 ih, .int .u64 il]] w fun e w' => e = .returned (.int .i64 z) ∧ Below w.heap.size w w'))
    (h13 : Hid (∀ w, FTab w → Calls Tryd.prog 15 #[.int .u8 f, .agg #[.int .u64 mh, .int .u64 ml]] w fun e w' => e = .returned (.bool fi) ∧ Below w.heap.size w w'))
    (h14 : Hid (∀ w, FTab w → Calls Tryd.prog 11 #[.int .u8 f, .agg #[.int .u64 ah, .int .u64 al]] w fun e w' => e = .returned (.bool nn) ∧ Below w.heap.size w w'))
    (h15 : Hid (∀ w, Calls Tryd.prog 25 #[.agg #[.int .u64 sh, .int .u64 sl]] w fun e w' => e = .returned (.bool zz) ∧ Below w.heap.size w w'))
    (h16 : Hid (∀ w, FTab w → Calls Tryd.prog 16 #[] w fun e w' => e = .returned (.bool true) ∧ Below w.heap.size w w')) (w1 : IntKind.i64.wrap (129 - wi) = k) (w2 : IntKind.i64.wrap (wi - 1) = kw) (j1 : decide (z < 0) = fi) (j2 : (z == 0) = bz) (j3 : (c == 3) = bz) (j4 : decide (0 < z) = nn) (j5 : (c == 0) = zz) (w : World) (ft : FTab w) :
    Calls Tryd.prog 5 #[.int .u8 f, .agg #[.int .u64 bh, .int .u64 bl], .agg #[.int .u64 qh, .int .u64 ql]] w fun e w' => e = .returned (.bool true) ∧ Below w.heap.size w w' := by
  go_enter Tryd.func5, Tryd.ntmps5
  go_wp2_with fail
  (with_reducible refine (h0.out _ (ft.later (bA (bA (Below.refl _ _) _) _))).mono ?_); rintro e w1 ⟨rfl, hb⟩
  have hz := bC (bA (bA (Below.refl _ _) _) _) hb
  have cX0_0 := cell_later hb (a := ⟨w.heap.size, 0, none⟩) (v := .int .u64 bh) (by go_simp)
  have cX0_1 := cell_later hb (a := ⟨w.heap.size, 1, none⟩) (v := .int .u64 bl) (by go_simp)
  have sX0 : w.heap.size < w1.heap.size := World.block_lt_of_cell? _ _ cX0_0
  have cX1_0 := cell_later hb (a := ⟨w.heap.size + 1, 0, none⟩) (v := .int .u64 qh) (by go_simp)
  have cX1_1 := cell_later hb (a := ⟨w.heap.size + 1, 1, none⟩) (v := .int .u64 ql) (by go_simp)
  have sX1 : w.heap.size + 1 < w1.heap.size ∧ w.heap.size < w1.heap.size := by have h : w.heap.size + 1 < w1.heap.size := World.block_lt_of_cell? _ _ cX1_0; exact ⟨h, by omega⟩
  have kk := hz
  clear hb hz
  go_wp2_with fail
  (with_reducible refine (h1.out _ (ft.later kk)).mono ?_); rintro e w2 ⟨rfl, hb⟩
  replace cX0_0 := cell_later hb cX0_0; replace cX0_1 := cell_later hb cX0_1
  replace sX0 : w.heap.size < w2.heap.size := World.block_lt_of_cell? _ _ cX0_0
  replace cX1_0 := cell_later hb cX1_0; replace cX1_1 := cell_later hb cX1_1
  replace sX1 : w.heap.size + 1 < w2.heap.size ∧ w.heap.size < w2.heap.size := by have h : w.heap.size + 1 < w2.heap.size := World.block_lt_of_cell? _ _ cX1_0; exact ⟨h, by omega⟩
  replace kk := bC kk hb
  clear hb
  go_wp2_with fail
  (with_reducible refine (h2.out _).mono ?_); rintro e w3 ⟨rfl, hb⟩
  clear cX0_0 cX0_1 sX0
  replace cX1_0 := cell_later hb cX1_0; replace cX1_1 := cell_later hb cX1_1
  replace sX1 : w.heap.size + 1 < w3.heap.size ∧ w.heap.size < w3.heap.size := by have h : w.heap.size + 1 < w3.heap.size := World.block_lt_of_cell? _ _ cX1_0; exact ⟨h, by omega⟩
  replace kk := bC kk hb
  clear hb
  go_wp2_with fail
  (with_reducible refine (h3.out _).mono ?_); rintro e w4 ⟨rfl, hb⟩
  replace cX1_0 := cell_later hb cX1_0; replace cX1_1 := cell_later hb cX1_1
  replace sX1 : w.heap.size + 1 < w4.heap.size ∧ w.heap.size < w4.heap.size := by have h : w.heap.size + 1 < w4.heap.size := World.block_lt_of_cell? _ _ cX1_0; exact ⟨h, by omega⟩
  replace kk := bC kk hb
  clear hb
  go_wp2_with fail
  refine wp_forget (fun W => W.cell? ⟨w.heap.size + 1, 0, none⟩ = some (.int .u64 qh) ∧ W.cell? ⟨w.heap.size + 1, 1, none⟩ = some (.int .u64 ql) ∧ W.cell? ⟨w4.heap.size, 0, none⟩ = some (.int .u64 sh) ∧ W.cell? ⟨w4.heap.size, 1, none⟩ = some (.int .u64 sl) ∧ Below w.heap.size w W) ⟨cell_later (bA (Below.refl _ _) _) cX1_0, cell_later (bA (Below.refl _ _) _) cX1_1, by go_simp, by go_simp, bC kk (bA (Below.refl _ _) _)⟩ (fun w5 hst => ?_)
  clear cX1_0 cX1_1 sX1 kk
  obtain ⟨cX1_0, cX1_1, cX2_0, cX2_1, kk⟩ := hst
  have sX1 : w.heap.size + 1 < w5.heap.size ∧ w.heap.size < w5.heap.size := by have h : w.heap.size + 1 < w5.heap.size := World.block_lt_of_cell? _ _ cX1_0; exact ⟨h, by omega⟩
  have sX2 : w4.heap.size < w5.heap.size := World.block_lt_of_cell? _ _ cX2_0
  refine wp_region_noPanic ?_
  refine wp_region_F [10] [11] (LS w5 (AB w5) (ZB w5 mh ml)) (by kernel_rfl) (bs := [false]) (vs := [undef]) (by kernel_rfl) rfl (LS.before noBits_f (Below.refl _ _).drew (AB.start _ _)) ?_
  refine wpF_take3 (i := 0) (v := ?vq85) rfl (by kernel_rfl) (by kernel_rfl) (fun _ _ _ h => h) (LS.load (by rfl) ?yq85) ?rq85
  case yq85 => (intro wq hb; have lcX2_0 := cell_later hb cX2_0; have lcX2_1 := cell_later hb cX2_1; go_simp; try (with_reducible rfl))
  try simp only [List.getElem_toArray, List.getElem_cons_zero, List.getElem_cons_succ, Act.put, List.setIfInBounds_toArray, List.set_cons_zero, List.set_cons_succ]
  refine wpF_yield (i := 1) (v := ?vq86) rfl (by kernel_rfl) (by kernel_rfl) (fun _ _ _ h => h) (Or.inl ⟨by rfl, ?yq86⟩) ?rq86
  case yq86 => (intro wq; go_simp; try (with_reducible rfl))
  try simp only [List.getElem_toArray, List.getElem_cons_zero, List.getElem_cons_succ, Act.put, List.setIfInBounds_toArray, List.set_cons_zero, List.set_cons_succ]
  refine wpF_yield (i := 2) (v := ?vq87) rfl (by kernel_rfl) (by kernel_rfl) (fun _ _ _ h => h) (Or.inl ⟨by rfl, ?yq87⟩) ?rq87
  case yq87 => (intro wq; go_simp; try (with_reducible rfl))
  try simp only [List.getElem_toArray, List.getElem_cons_zero, List.getElem_cons_succ, Act.put, List.setIfInBounds_toArray, List.set_cons_zero, List.set_cons_succ]
  refine wpF_yield (i := 3) (v := ?vq88) rfl (by kernel_rfl) (by kernel_rfl) (fun _ _ _ h => h) (Or.inl ⟨by rfl, ?yq88⟩) ?rq88
  case yq88 => (intro wq; go_simp; try (with_reducible rfl))
  try simp only [List.getElem_toArray, List.getElem_cons_zero, List.getElem_cons_succ, Act.put, List.setIfInBounds_toArray, List.set_cons_zero, List.set_cons_succ]
  refine wpF_take3 (i := 4) (v := _) rfl (by kernel_rfl) (by kernel_rfl) (fun _ _ _ h => h) (LS.call (AB.lasts w5) (by rfl) _ _ ?yq89 (h4.out)) ?rq89
  case yq89 => (intro wq; go_simp; try (with_reducible rfl))
  try simp only [List.getElem_toArray, List.getElem_cons_zero, List.getElem_cons_succ, Act.put, List.setIfInBounds_toArray, List.set_cons_zero, List.set_cons_succ]
  refine wpF_take3 (i := 5) (v := _) rfl (by kernel_rfl) (by kernel_rfl) (fun _ _ _ h => h) (LS.call (AB.lasts w5) (by rfl) _ _ ?yq90 (h5.out)) ?rq90
  case yq90 => (intro wq; go_simp; try (with_reducible rfl))
  try simp only [List.getElem_toArray, List.getElem_cons_zero, List.getElem_cons_succ, Act.put, List.setIfInBounds_toArray, List.set_cons_zero, List.set_cons_succ]
  refine wpF_yield (i := 6) (v := ?vq91) rfl (by kernel_rfl) (by kernel_rfl) (fun _ _ _ h => h) (Or.inl ⟨by rfl, ?yq91⟩) ?rq91
  case yq91 => (intro wq; go_simp; try (with_reducible rfl))
  try simp only [List.getElem_toArray, List.getElem_cons_zero, List.getElem_cons_succ, Act.put, List.setIfInBounds_toArray, List.set_cons_zero, List.set_cons_succ]
  refine wpF_yield (i := 7) (v := ?vq92) rfl (by kernel_rfl) (by kernel_rfl) (fun _ _ _ h => h) (Or.inl ⟨by rfl, ?yq92⟩) ?rq92
  case yq92 => (intro wq; go_simp; try (with_reducible rfl))
  try simp only [List.getElem_toArray, List.getElem_cons_zero, List.getElem_cons_succ, Act.put, List.setIfInBounds_toArray, List.set_cons_zero, List.set_cons_succ]
  refine wpF_yield (i := 8) (v := ?vq93) rfl (by kernel_rfl) (by kernel_rfl) (fun _ _ _ h => h) (Or.inl ⟨by rfl, ?yq93⟩) ?rq93
  case yq93 => (intro wq; go_simp; try (with_reducible rfl))
  try simp only [List.getElem_toArray, List.getElem_cons_zero, List.getElem_cons_succ, Act.put, List.setIfInBounds_toArray, List.set_cons_zero, List.set_cons_succ]
  refine wpF_step (i := 9) (bs := [false]) (bs' := [false]) (vs := [undef]) (by kernel_rfl) rfl (by kernel_rfl) rfl (by kernel_rfl) (fun wq hS K hK => ?_)
  obtain ⟨hb, hA⟩ := hS.1 noBits_f
  go_simp
  refine hK.out _ _ (LS.before noBits_f (bA hb _) (AB.new hb _ rfl)) ?_
  clear hK hA hb hS
  generalize wq.heap.size = pp5 at *
  try simp only [List.getElem_toArray, List.getElem_cons_zero, List.getElem_cons_succ, Act.put, List.setIfInBounds_toArray, List.set_cons_zero, List.set_cons_succ]
  refine wpF_step (i := 10) (bs := [false]) (bs' := [true]) (vs := [.pointer (some ⟨pp5, 0, none⟩)]) (by kernel_rfl) rfl (by kernel_rfl) rfl (by kernel_rfl) (fun wq hS K hK => ?_)
  obtain ⟨hb, hA⟩ := hS.1 noBits_f
  have ZZ := Lib.hid (ZB.of hb hA mh ml [true])
  obtain ⟨hp, ⟨⟨_, z0, z1⟩, f0, f1⟩⟩ := hA _ rfl
  go_simp
  refine hK.out _ _ (LS.behind bits_t ZZ.out) ?_
  clear hK hA hb ZZ hS z0 z1 f0 f1 hp
  try simp only [List.getElem_toArray, List.getElem_cons_zero, List.getElem_cons_succ, Act.put, List.setIfInBounds_toArray, List.set_cons_zero, List.set_cons_succ]
  refine wpF_yield (i := 11) (v := ?vq94) rfl (by kernel_rfl) (by kernel_rfl) (fun _ _ _ h => h) (Or.inl ⟨by rfl, ?yq94⟩) ?rq94
  case yq94 => (intro wq; go_simp; try (with_reducible rfl))
  try simp only [List.getElem_toArray, List.getElem_cons_zero, List.getElem_cons_succ, Act.put, List.setIfInBounds_toArray, List.set_cons_zero, List.set_cons_succ]
  refine wpF_done (bs := [true]) (vs := [.pointer (some ⟨pp5, 0, none⟩)]) (by kernel_rfl) (by kernel_rfl) rfl (fun w6 hS => ?_) _
  refine NoPanic.normal ?_
  obtain ⟨q, hpp, hge, hbox, hb⟩ := hS.2 bits_t
  obtain rfl := ptr_eq hpp rfl
  obtain ⟨⟨_, cX3_0, cX3_1⟩, fX3_0, fX3_1⟩ := hbox
  clear hS
  clear fX3_0 fX3_1
  replace cX1_0 := cell_later hb cX1_0; replace cX1_1 := cell_later hb cX1_1
  replace sX1 : w.heap.size + 1 < w6.heap.size ∧ w.heap.size < w6.heap.size := by have h : w.heap.size + 1 < w6.heap.size := World.block_lt_of_cell? _ _ cX1_0; exact ⟨h, by omega⟩
  replace cX2_0 := cell_later hb cX2_0; replace cX2_1 := cell_later hb cX2_1
  replace sX2 : w4.heap.size < w6.heap.size := World.block_lt_of_cell? _ _ cX2_0
  have sX3 : pp5 < w6.heap.size := World.block_lt_of_cell? _ _ cX3_0
  replace kk := bC kk hb
  clear hb
  go_wp2_with fail
  refine wp_region_noPanic ?_
  refine wp_region_F [9] [13] (LS w6 (AB w6) (ZB w6 ah al)) (by kernel_rfl) (bs := [false]) (vs := [undef]) (by kernel_rfl) rfl (LS.before noBits_f (Below.refl _ _).drew (AB.start _ _)) ?_
  refine wpF_take3 (i := 0) (v := ?vq95) rfl (by kernel_rfl) (by kernel_rfl) (fun _ _ _ h => h) (LS.load (by rfl) ?yq95) ?rq95
  case yq95 => (intro wq hb; have lcX2_0 := cell_later hb cX2_0; have lcX2_1 := cell_later hb cX2_1; go_simp; try (with_reducible rfl))
  try simp only [List.getElem_toArray, List.getElem_cons_zero, List.getElem_cons_succ, Act.put, List.setIfInBounds_toArray, List.set_cons_zero, List.set_cons_succ]
  refine wpF_take3 (i := 1) (v := ?vq96) rfl (by kernel_rfl) (by kernel_rfl) (fun _ _ _ h => h) (LS.load (by rfl) ?yq96) ?rq96
  case yq96 => (intro wq hb; have lcX1_0 := cell_later hb cX1_0; have lcX1_1 := cell_later hb cX1_1; go_simp; try (with_reducible rfl))
  try simp only [List.getElem_toArray, List.getElem_cons_zero, List.getElem_cons_succ, Act.put, List.setIfInBounds_toArray, List.set_cons_zero, List.set_cons_succ]
  refine wpF_yield (i := 2) (v := ?vq97) rfl (by kernel_rfl) (by kernel_rfl) (fun _ _ _ h => h) (Or.inl ⟨by rfl, ?yq97⟩) ?rq97
  case yq97 => (intro wq; go_simp; try (with_reducible rfl))
  try simp only [List.getElem_toArray, List.getElem_cons_zero, List.getElem_cons_succ, Act.put, List.setIfInBounds_toArray, List.set_cons_zero, List.set_cons_succ]
  refine wpF_take3 (i := 3) (v := _) rfl (by kernel_rfl) (by kernel_rfl) (fun _ _ _ h => h) (LS.call (AB.lasts w6) (by rfl) _ _ ?yq98 (h6.out)) ?rq98
  case yq98 => (intro wq; go_simp; try (with_reducible rfl))
  try simp only [List.getElem_toArray, List.getElem_cons_zero, List.getElem_cons_succ, Act.put, List.setIfInBounds_toArray, List.set_cons_zero, List.set_cons_succ]
  refine wpF_take3 (i := 4) (v := _) rfl (by kernel_rfl) (by kernel_rfl) (fun _ _ _ h => h) (LS.call (AB.lasts w6) (by rfl) _ _ ?yq99 (h7.out)) ?rq99
  case yq99 => (intro wq; go_simp; try (with_reducible rfl))
  try simp only [List.getElem_toArray, List.getElem_cons_zero, List.getElem_cons_succ, Act.put, List.setIfInBounds_toArray, List.set_cons_zero, List.set_cons_succ]
  refine wpF_yield (i := 5) (v := ?vq100) rfl (by kernel_rfl) (by kernel_rfl) (fun _ _ _ h => h) (Or.inl ⟨by rfl, ?yq100⟩) ?rq100
  case yq100 => (intro wq; go_simp; try (with_reducible rfl))
  try simp only [List.getElem_toArray, List.getElem_cons_zero, List.getElem_cons_succ, Act.put, List.setIfInBounds_toArray, List.set_cons_zero, List.set_cons_succ]
  refine wpF_yield (i := 6) (v := ?vq101) rfl (by kernel_rfl) (by kernel_rfl) (fun _ _ _ h => h) (Or.inl ⟨by rfl, ?yq101⟩) ?rq101
  case yq101 => (intro wq; go_simp; try (with_reducible rfl))
  try simp only [List.getElem_toArray, List.getElem_cons_zero, List.getElem_cons_succ, Act.put, List.setIfInBounds_toArray, List.set_cons_zero, List.set_cons_succ]
  refine wpF_yield (i := 7) (v := ?vq102) rfl (by kernel_rfl) (by kernel_rfl) (fun _ _ _ h => h) (Or.inl ⟨by rfl, ?yq102⟩) ?rq102
  case yq102 => (intro wq; go_simp; try (with_reducible rfl))
  try simp only [List.getElem_toArray, List.getElem_cons_zero, List.getElem_cons_succ, Act.put, List.setIfInBounds_toArray, List.set_cons_zero, List.set_cons_succ]
  refine wpF_step (i := 8) (bs := [false]) (bs' := [false]) (vs := [undef]) (by kernel_rfl) rfl (by kernel_rfl) rfl (by kernel_rfl) (fun wq hS K hK => ?_)
  obtain ⟨hb, hA⟩ := hS.1 noBits_f
  go_simp
  refine hK.out _ _ (LS.before noBits_f (bA hb _) (AB.new hb _ rfl)) ?_
  clear hK hA hb hS
  generalize wq.heap.size = pp7 at *
  try simp only [List.getElem_toArray, List.getElem_cons_zero, List.getElem_cons_succ, Act.put, List.setIfInBounds_toArray, List.set_cons_zero, List.set_cons_succ]
  refine wpF_step (i := 9) (bs := [false]) (bs' := [true]) (vs := [.pointer (some ⟨pp7, 0, none⟩)]) (by kernel_rfl) rfl (by kernel_rfl) rfl (by kernel_rfl) (fun wq hS K hK => ?_)
  obtain ⟨hb, hA⟩ := hS.1 noBits_f
  have ZZ := Lib.hid (ZB.of hb hA ah al [true])
  obtain ⟨hp, ⟨⟨_, z0, z1⟩, f0, f1⟩⟩ := hA _ rfl
  go_simp
  refine hK.out _ _ (LS.behind bits_t ZZ.out) ?_
  clear hK hA hb ZZ hS z0 z1 f0 f1 hp
  try simp only [List.getElem_toArray, List.getElem_cons_zero, List.getElem_cons_succ, Act.put, List.setIfInBounds_toArray, List.set_cons_zero, List.set_cons_succ]
  refine wpF_yield (i := 10) (v := ?vq103) rfl (by kernel_rfl) (by kernel_rfl) (fun _ _ _ h => h) (Or.inl ⟨by rfl, ?yq103⟩) ?rq103
  case yq103 => (intro wq; go_simp; try (with_reducible rfl))
  try simp only [List.getElem_toArray, List.getElem_cons_zero, List.getElem_cons_succ, Act.put, List.setIfInBounds_toArray, List.set_cons_zero, List.set_cons_succ]
  refine wpF_done (bs := [true]) (vs := [.pointer (some ⟨pp7, 0, none⟩)]) (by kernel_rfl) (by kernel_rfl) rfl (fun w8 hS => ?_) _
  refine NoPanic.normal ?_
  obtain ⟨q, hpp, hge, hbox, hb⟩ := hS.2 bits_t
  obtain rfl := ptr_eq hpp rfl
  obtain ⟨⟨_, cX4_0, cX4_1⟩, fX4_0, fX4_1⟩ := hbox
  clear hS
  clear fX4_0 fX4_1
  clear cX1_0 cX1_1 sX1
  replace cX2_0 := cell_later hb cX2_0; replace cX2_1 := cell_later hb cX2_1
  replace sX2 : w4.heap.size < w8.heap.size := World.block_lt_of_cell? _ _ cX2_0
  replace cX3_0 := cell_later hb cX3_0; replace cX3_1 := cell_later hb cX3_1
  replace sX3 : pp5 < w8.heap.size := World.block_lt_of_cell? _ _ cX3_0
  have sX4 : pp7 < w8.heap.size := World.block_lt_of_cell? _ _ cX4_0
  replace kk := bC kk hb
  clear hb
  go_wp2_with fail
  (with_reducible refine (h8.out _ (ft.later kk)).mono ?_); rintro e w9 ⟨rfl, hb⟩
  replace cX2_0 := cell_later hb cX2_0; replace cX2_1 := cell_later hb cX2_1
  replace sX2 : w4.heap.size < w9.heap.size := World.block_lt_of_cell? _ _ cX2_0
  replace cX3_0 := cell_later hb cX3_0; replace cX3_1 := cell_later hb cX3_1
  replace sX3 : pp5 < w9.heap.size := World.block_lt_of_cell? _ _ cX3_0
  replace cX4_0 := cell_later hb cX4_0; replace cX4_1 := cell_later hb cX4_1
  replace sX4 : pp7 < w9.heap.size := World.block_lt_of_cell? _ _ cX4_0
  replace kk := bC kk hb
  clear hb
  go_wp2_with fail
  (with_reducible refine (h9.out _ (ft.later kk)).mono ?_); rintro e w10 ⟨rfl, hb⟩
  replace cX2_0 := cell_later hb cX2_0; replace cX2_1 := cell_later hb cX2_1
  replace sX2 : w4.heap.size < w10.heap.size := World.block_lt_of_cell? _ _ cX2_0
  replace cX3_0 := cell_later hb cX3_0; replace cX3_1 := cell_later hb cX3_1
  replace sX3 : pp5 < w10.heap.size := World.block_lt_of_cell? _ _ cX3_0
  replace cX4_0 := cell_later hb cX4_0; replace cX4_1 := cell_later hb cX4_1
  replace sX4 : pp7 < w10.heap.size := World.block_lt_of_cell? _ _ cX4_0
  replace kk := bC kk hb
  clear hb
  go_wp2_with fail
  (with_reducible refine (h10.out _ (ft.later kk)).mono ?_); rintro e w11 ⟨rfl, hb⟩
  replace cX2_0 := cell_later hb cX2_0; replace cX2_1 := cell_later hb cX2_1
  replace sX2 : w4.heap.size < w11.heap.size := World.block_lt_of_cell? _ _ cX2_0
  replace cX3_0 := cell_later hb cX3_0; replace cX3_1 := cell_later hb cX3_1
  replace sX3 : pp5 < w11.heap.size := World.block_lt_of_cell? _ _ cX3_0
  replace cX4_0 := cell_later hb cX4_0; replace cX4_1 := cell_later hb cX4_1
  replace sX4 : pp7 < w11.heap.size := World.block_lt_of_cell? _ _ cX4_0
  replace kk := bC kk hb
  clear hb
  go_wp2_with fail
  refine wp_region_noPanic ?_
  refine wp_region_F [] [] (LS w11 (fun _ _ => True) (fun _ _ _ => True)) (by kernel_rfl) (bs := []) (vs := []) (by kernel_rfl) rfl (LS.before noBits_nil (Below.refl _ _).drew trivial) ?_
  refine wpF_take (i := 0) (v := ?vq104) rfl (by kernel_rfl) (by kernel_rfl) (fun _ _ _ h => h) (LS.load (by rfl) ?yq104) ?rq104
  case yq104 => (intro wq hb; have lcX2_0 := cell_later hb cX2_0; have lcX2_1 := cell_later hb cX2_1; go_simp; try (with_reducible rfl))
  try simp only [List.getElem_toArray, List.getElem_cons_zero, List.getElem_cons_succ, Act.put, List.setIfInBounds_toArray, List.set_cons_zero, List.set_cons_succ]
  refine wpF_yield (i := 1) (v := ?vq105) rfl (by kernel_rfl) (by kernel_rfl) (fun _ _ _ h => h) (Or.inl ⟨by rfl, ?yq105⟩) ?rq105
  case yq105 => (intro wq; go_simp; try (with_reducible rfl))
  try simp only [List.getElem_toArray, List.getElem_cons_zero, List.getElem_cons_succ, Act.put, List.setIfInBounds_toArray, List.set_cons_zero, List.set_cons_succ]
  refine wpF_take (i := 2) (v := _) rfl (by kernel_rfl) (by kernel_rfl) (fun _ _ _ h => h) (LS.callW lasts_true (by rfl) _ _ ?yq106 ((fun W hb => h11.out W (ft.later (bC kk hb))))) ?rq106
  case yq106 => (intro wq; go_simp; try (with_reducible rfl))
  try simp only [List.getElem_toArray, List.getElem_cons_zero, List.getElem_cons_succ, Act.put, List.setIfInBounds_toArray, List.set_cons_zero, List.set_cons_succ]
  refine wpF_take (i := 3) (v := _) rfl (by kernel_rfl) (by kernel_rfl) (fun _ _ _ h => h) (LS.call lasts_true (by rfl) _ _ ?yq107 (h12.out)) ?rq107
  case yq107 => (intro wq; go_simp; try (with_reducible rfl))
  try simp only [List.getElem_toArray, List.getElem_cons_zero, List.getElem_cons_succ, Act.put, List.setIfInBounds_toArray, List.set_cons_zero, List.set_cons_succ]
  refine wpF_yield (i := 4) (v := ?vq108) rfl (by kernel_rfl) (by kernel_rfl) (fun _ _ _ h => h) (Or.inl ⟨by rfl, ?yq108⟩) ?rq108
  case yq108 => (intro wq; go_simp; try (with_reducible rfl))
  try simp only [List.getElem_toArray, List.getElem_cons_zero, List.getElem_cons_succ, Act.put, List.setIfInBounds_toArray, List.set_cons_zero, List.set_cons_succ]
  refine wpF_done (bs := []) (vs := []) (by kernel_rfl) (by kernel_rfl) rfl (fun w13 hS => ?_) _
  refine NoPanic.normal ?_
  obtain ⟨hb, _⟩ := hS.1 noBits_nil
  clear hS
  replace cX2_0 := cell_later hb cX2_0; replace cX2_1 := cell_later hb cX2_1
  replace sX2 : w4.heap.size < w13.heap.size := World.block_lt_of_cell? _ _ cX2_0
  replace cX3_0 := cell_later hb cX3_0; replace cX3_1 := cell_later hb cX3_1
  replace sX3 : pp5 < w13.heap.size := World.block_lt_of_cell? _ _ cX3_0
  replace cX4_0 := cell_later hb cX4_0; replace cX4_1 := cell_later hb cX4_1
  replace sX4 : pp7 < w13.heap.size := World.block_lt_of_cell? _ _ cX4_0
  replace kk := bC kk hb
  clear hb
  go_wp2_with fail
  (with_reducible refine (h13.out _ (ft.later kk)).mono ?_); rintro e w14 ⟨rfl, hb⟩
  replace cX2_0 := cell_later hb cX2_0; replace cX2_1 := cell_later hb cX2_1
  replace sX2 : w4.heap.size < w14.heap.size := World.block_lt_of_cell? _ _ cX2_0
  clear cX3_0 cX3_1 sX3
  replace cX4_0 := cell_later hb cX4_0; replace cX4_1 := cell_later hb cX4_1
  replace sX4 : pp7 < w14.heap.size := World.block_lt_of_cell? _ _ cX4_0
  replace kk := bC kk hb
  clear hb
  go_wp2_with fail
  (with_reducible refine (h14.out _ (ft.later kk)).mono ?_); rintro e w15 ⟨rfl, hb⟩
  replace cX2_0 := cell_later hb cX2_0; replace cX2_1 := cell_later hb cX2_1
  replace sX2 : w4.heap.size < w15.heap.size := World.block_lt_of_cell? _ _ cX2_0
  clear cX4_0 cX4_1 sX4
  replace kk := bC kk hb
  clear hb
  go_wp2_with fail
  (with_reducible refine (h15.out _).mono ?_); rintro e w16 ⟨rfl, hb⟩
  clear cX2_0 cX2_1 sX2
  replace kk := bC kk hb
  clear hb
  go_wp2_with fail
  (with_reducible refine (h16.out _ (ft.later kk)).mono ?_); rintro e w17 ⟨rfl, hb⟩
  replace kk := bC kk hb
  clear hb
  go_wp2_with fail
  go_ret
  exact ⟨rfl, kk⟩

end Go.Proofs.YtdlmnnnnnjgkiaaDoor
