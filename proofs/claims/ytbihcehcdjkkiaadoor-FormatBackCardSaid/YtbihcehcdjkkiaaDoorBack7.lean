/-
  The walk of the statement FormatBack.
-/
import Derived.Test.YtbihcehcdjkkiaaDoorForm7T
import Derived.Test.YtbihcehcdjkkiaaDoorGaA
import Derived.Test.YtbihcehcdjkkiaaDoorRef7
set_option linter.unusedVariables false
set_option linter.unusedSimpArgs false
set_option maxRecDepth 100000
namespace Go.Proofs.YtbihcehcdjkkiaaDoor
open Go.RowKit
attribute [local go_sem ↓] Go.wp_at_zero Go.wp_at_succ

set_option maxHeartbeats 4000000 in
set_option maxRecDepth 100000 in
theorem back7_no (f bh bl qh ql : Int)
    (h0 : Hid (∀ w, FTab w → Calls Tryd.prog 28 #[.int .u8 f, .agg #[.int .u64 bh, .int .u64 bl]] w fun e w' => e = .returned (.tuple #[.bool false, .int .i64 0, .agg #[.int .u64 0, .int .u64 0]]) ∧ Below w.heap.size w w'))
    (h1 : Hid (∀ w, FTab w → Calls Tryd.prog 12 #[.int .u8 f] w fun e w' => e = .returned (.bool false) ∧ Below w.heap.size w w'))
    (h2 : Hid (∀ w, FTab w → Calls Tryd.prog 27 #[] w fun e w' => e = .returned (.bool true) ∧ Below w.heap.size w w')) (w : World) (ft : FTab w) :
    Calls Tryd.prog 5 #[.int .u8 f, .agg #[.int .u64 bh, .int .u64 bl], .agg #[.int .u64 qh, .int .u64 ql]] w fun e w' => e = .returned (.bool true) ∧ Below w.heap.size w w' := by
  go_enter Tryd.func5, Tryd.ntmps5
  go_wp2_with fail
  (with_reducible refine (h0.out _ (ft.later (bA (bA (Below.refl _ _) _) _))).mono ?_); rintro e w1 ⟨rfl, hb⟩
  have hz := bC (bA (bA (Below.refl _ _) _) _) hb
  have kk := hz
  clear hb hz
  go_wp2_with fail
  (with_reducible refine (h1.out _ (ft.later (bC kk (bA (Below.refl _ _) _)))).mono ?_); rintro e w2 ⟨rfl, hb⟩
  have hz := bC (bA (Below.refl _ _) _) hb
  have cX2_0 := cell_later hb (a := ⟨w1.heap.size, 0, none⟩) (v := .int .u64 0) (by go_simp)
  have cX2_1 := cell_later hb (a := ⟨w1.heap.size, 1, none⟩) (v := .int .u64 0) (by go_simp)
  have sX2 : w1.heap.size < w2.heap.size := World.block_lt_of_cell? _ _ cX2_0
  replace kk := bC kk hz
  clear hb hz
  go_wp2_with fail
  (with_reducible refine (h2.out _ (ft.later kk)).mono ?_); rintro e w3 ⟨rfl, hb⟩
  clear cX2_0 cX2_1 sX2
  replace kk := bC kk hb
  clear hb
  go_wp2_with fail
  go_ret
  exact ⟨rfl, kk⟩

set_option maxHeartbeats 4000000 in
set_option maxRecDepth 100000 in
theorem back7_yes (f bh bl qh ql ch cl lh ll ah al zh zl y wi : Int) (x o : Bool)
    (h0 : Hid (∀ w, FTab w → Calls Tryd.prog 28 #[.int .u8 f, .agg #[.int .u64 bh, .int .u64 bl]] w fun e w' => e = .returned (.tuple #[.bool x, .int .i64 y, .agg #[.int .u64 zh, .int .u64 zl]]) ∧ Below w.heap.size w w'))
    (h1 : Hid (∀ w, FTab w → Calls Tryd.prog 12 #[.int .u8 f] w fun e w' => e = .returned (.bool true) ∧ Below w.heap.size w w'))
    (h2 : Hid (∀ w, FTab w → Calls Tryd.prog 19 #[.int .u8 f, .agg #[.int .u64 bh, .int .u64 bl]] w fun e w' => e = .returned (.agg #[.int .u64 ch, .int .u64 cl]) ∧ Below w.heap.size w w'))
    (h3 : Hid (∀ w, FTab w → Calls Tryd.prog 13 #[.int .u8 f] w fun e w' => e = .returned (.int .i64 wi) ∧ Below w.heap.size w w'))
    (h4 : Hid (∀ w, Calls Tryd.prog 33 #[.agg #[.int .u64 qh, .int .u64 ql], .int .i64 wi] w fun e w' => e = .returned (.agg #[.int .u64 lh, .int .u64 ll]) ∧ Below w.heap.size w w'))
    (h5 : Hid (∀ w, Calls Tryd.prog 32 #[.agg #[.int .u64 ch, .int .u64 cl], .agg #[.int .u64 lh, .int .u64 ll]] w fun e w' => e = .returned (.tuple #[.agg #[.int .u64 ah, .int .u64 al], .bool o]) ∧ Below w.heap.size w w'))
    (h6 : Hid (∀ w, FTab w → Calls Tryd.prog 28 #[.int .u8 f, .agg #[.int .u64 ah, .int .u64 al]] w fun e w' => e = .returned (.tuple #[.bool x, .int .i64 y, .agg #[.int .u64 zh, .int .u64 zl]]) ∧ Below w.heap.size w w'))
    (h7 : Hid (∀ w, FTab w → Calls Tryd.prog 30 #[.int .u8 f, .bool x, .int .i64 y, .agg #[.int .u64 zh, .int .u64 zl]] w fun e w' => e = .returned (.agg #[.int .u64 ch, .int .u64 cl]) ∧ Below w.heap.size w w'))
    (h8 : Hid (∀ w, FTab w → Calls Tryd.prog 19 #[.int .u8 f, .agg #[.int .u64 ah, .int .u64 al]] w fun e w' => e = .returned (.agg #[.int .u64 ch, .int .u64 cl]) ∧ Below w.heap.size w w'))
    (h9 : Hid (∀ w, FTab w → Calls Tryd.prog 20 #[.int .u8 f, .agg #[.int .u64 ch, .int .u64 cl]] w fun e w' => e = .returned (.bool true) ∧ Below w.heap.size w w'))
    (h10 : Hid (∀ w, FTab w → Calls Tryd.prog 27 #[] w fun e w' => e = .returned (.bool true) ∧ Below w.heap.size w w')) (w : World) (ft : FTab w) :
    Calls Tryd.prog 5 #[.int .u8 f, .agg #[.int .u64 bh, .int .u64 bl], .agg #[.int .u64 qh, .int .u64 ql]] w fun e w' => e = .returned (.bool true) ∧ Below w.heap.size w w' := by
  go_enter Tryd.func5, Tryd.ntmps5
  go_wp2_with fail
  (with_reducible refine (h0.out _ (ft.later (bA (bA (Below.refl _ _) _) _))).mono ?_); rintro e w1 ⟨rfl, hb⟩
  have hz := bC (bA (bA (Below.refl _ _) _) _) hb
  have cX0_0 := cell_later hb (a := ⟨w.heap.size, 0, none⟩) (v := .int .u64 bh) (by go_simp)
  have cX0_1 := cell_later hb (a := ⟨w.heap.size, 1, none⟩) (v := .int .u64 bl) (by go_simp)
  have sX0 : w.heap.size < w1.heap.size := World.block_lt_of_cell? _ _ cX0_0
  have cX1_0 := cell_later hb (a := ⟨w.heap.size + 1, 0, none⟩) (v := .int .u64 qh) (by go_simp)
  have cX1_1 := cell_later hb (a := ⟨w.heap.size + 1, 1, none⟩) (v := .int .u64 ql) (by go_simp)
  have sX1 : w.heap.size + 1 < w1.heap.size ∧ w.heap.size < w1.heap.size := by have h : w.heap.size + 1 < w1.heap.size := World.block_lt_of_cell? _ _ cX1_0; exact ⟨h, by omega⟩
  have kk := hz
  clear hb hz
  go_wp2_with fail
  (with_reducible refine (h1.out _ (ft.later (bC kk (bA (Below.refl _ _) _)))).mono ?_); rintro e w2 ⟨rfl, hb⟩
  have hz := bC (bA (Below.refl _ _) _) hb
  replace cX0_0 := cell_later hz cX0_0; replace cX0_1 := cell_later hz cX0_1
  replace sX0 : w.heap.size < w2.heap.size := World.block_lt_of_cell? _ _ cX0_0
  replace cX1_0 := cell_later hz cX1_0; replace cX1_1 := cell_later hz cX1_1
  replace sX1 : w.heap.size + 1 < w2.heap.size ∧ w.heap.size < w2.heap.size := by have h : w.heap.size + 1 < w2.heap.size := World.block_lt_of_cell? _ _ cX1_0; exact ⟨h, by omega⟩
  have cX2_0 := cell_later hb (a := ⟨w1.heap.size, 0, none⟩) (v := .int .u64 zh) (by go_simp)
  have cX2_1 := cell_later hb (a := ⟨w1.heap.size, 1, none⟩) (v := .int .u64 zl) (by go_simp)
  have sX2 : w1.heap.size < w2.heap.size := World.block_lt_of_cell? _ _ cX2_0
  replace kk := bC kk hz
  clear hb hz
  go_wp2_with fail
  (with_reducible refine (h2.out _ (ft.later kk)).mono ?_); rintro e w3 ⟨rfl, hb⟩
  clear cX0_0 cX0_1 sX0
  replace cX1_0 := cell_later hb cX1_0; replace cX1_1 := cell_later hb cX1_1
  replace sX1 : w.heap.size + 1 < w3.heap.size ∧ w.heap.size < w3.heap.size := by have h : w.heap.size + 1 < w3.heap.size := World.block_lt_of_cell? _ _ cX1_0; exact ⟨h, by omega⟩
  replace cX2_0 := cell_later hb cX2_0; replace cX2_1 := cell_later hb cX2_1
  replace sX2 : w1.heap.size < w3.heap.size := World.block_lt_of_cell? _ _ cX2_0
  replace kk := bC kk hb
  clear hb
  go_wp2_with fail
  refine wp_forget (fun W => W.cell? ⟨w.heap.size + 1, 0, none⟩ = some (.int .u64 qh) ∧ W.cell? ⟨w.heap.size + 1, 1, none⟩ = some (.int .u64 ql) ∧ W.cell? ⟨w1.heap.size, 0, none⟩ = some (.int .u64 zh) ∧ W.cell? ⟨w1.heap.size, 1, none⟩ = some (.int .u64 zl) ∧ W.cell? ⟨w3.heap.size, 0, none⟩ = some (.int .u64 ch) ∧ W.cell? ⟨w3.heap.size, 1, none⟩ = some (.int .u64 cl) ∧ Below w.heap.size w W) ⟨cell_later (bA (Below.refl _ _) _) cX1_0, cell_later (bA (Below.refl _ _) _) cX1_1, cell_later (bA (Below.refl _ _) _) cX2_0, cell_later (bA (Below.refl _ _) _) cX2_1, by go_simp, by go_simp, bC kk (bA (Below.refl _ _) _)⟩ (fun w4 hst => ?_)
  clear cX1_0 cX1_1 sX1 cX2_0 cX2_1 sX2 kk
  obtain ⟨cX1_0, cX1_1, cX2_0, cX2_1, cX3_0, cX3_1, kk⟩ := hst
  have sX1 : w.heap.size + 1 < w4.heap.size ∧ w.heap.size < w4.heap.size := by have h : w.heap.size + 1 < w4.heap.size := World.block_lt_of_cell? _ _ cX1_0; exact ⟨h, by omega⟩
  have sX2 : w1.heap.size < w4.heap.size := World.block_lt_of_cell? _ _ cX2_0
  have sX3 : w3.heap.size < w4.heap.size := World.block_lt_of_cell? _ _ cX3_0
  refine wp_region_noPanic ?_
  refine wp_region_F [10] [11] (LS w4 (AB w4) (ZB w4 ah al)) (by kernel_rfl) (bs := [false]) (vs := [undef]) (by kernel_rfl) rfl (LS.before noBits_f (Below.refl _ _).drew (AB.start _ _)) ?_
  refine wpF_take3 (i := 0) (v := ?vq178) rfl (by kernel_rfl) (by kernel_rfl) (fun _ _ _ h => h) (LS.load (by rfl) ?yq178) ?rq178
  case yq178 => (intro wq hb; have lcX3_0 := cell_later hb cX3_0; have lcX3_1 := cell_later hb cX3_1; go_simp; try (with_reducible rfl))
  try simp only [List.getElem_toArray, List.getElem_cons_zero, List.getElem_cons_succ, Act.put, List.setIfInBounds_toArray, List.set_cons_zero, List.set_cons_succ]
  refine wpF_take3 (i := 1) (v := ?vq179) rfl (by kernel_rfl) (by kernel_rfl) (fun _ _ _ h => h) (LS.load (by rfl) ?yq179) ?rq179
  case yq179 => (intro wq hb; have lcX1_0 := cell_later hb cX1_0; have lcX1_1 := cell_later hb cX1_1; go_simp; try (with_reducible rfl))
  try simp only [List.getElem_toArray, List.getElem_cons_zero, List.getElem_cons_succ, Act.put, List.setIfInBounds_toArray, List.set_cons_zero, List.set_cons_succ]
  refine wpF_yield (i := 2) (v := ?vq180) rfl (by kernel_rfl) (by kernel_rfl) (fun _ _ _ h => h) (Or.inl ⟨by rfl, ?yq180⟩) ?rq180
  case yq180 => (intro wq; go_simp; try (with_reducible rfl))
  try simp only [List.getElem_toArray, List.getElem_cons_zero, List.getElem_cons_succ, Act.put, List.setIfInBounds_toArray, List.set_cons_zero, List.set_cons_succ]
  refine wpF_take3 (i := 3) (v := _) rfl (by kernel_rfl) (by kernel_rfl) (fun _ _ _ h => h) (LS.callW (AB.lasts w4) (by rfl) _ _ ?yq181 ((fun W hb => h3.out W (ft.later (bC kk hb))))) ?rq181
  case yq181 => (intro wq; go_simp; try (with_reducible rfl))
  try simp only [List.getElem_toArray, List.getElem_cons_zero, List.getElem_cons_succ, Act.put, List.setIfInBounds_toArray, List.set_cons_zero, List.set_cons_succ]
  refine wpF_take3 (i := 4) (v := _) rfl (by kernel_rfl) (by kernel_rfl) (fun _ _ _ h => h) (LS.call (AB.lasts w4) (by rfl) _ _ ?yq182 (h4.out)) ?rq182
  case yq182 => (intro wq; go_simp; try (with_reducible rfl))
  try simp only [List.getElem_toArray, List.getElem_cons_zero, List.getElem_cons_succ, Act.put, List.setIfInBounds_toArray, List.set_cons_zero, List.set_cons_succ]
  refine wpF_take3 (i := 5) (v := _) rfl (by kernel_rfl) (by kernel_rfl) (fun _ _ _ h => h) (LS.call (AB.lasts w4) (by rfl) _ _ ?yq183 (h5.out)) ?rq183
  case yq183 => (intro wq; go_simp; try (with_reducible rfl))
  try simp only [List.getElem_toArray, List.getElem_cons_zero, List.getElem_cons_succ, Act.put, List.setIfInBounds_toArray, List.set_cons_zero, List.set_cons_succ]
  refine wpF_yield (i := 6) (v := ?vq184) rfl (by kernel_rfl) (by kernel_rfl) (fun _ _ _ h => h) (Or.inl ⟨by rfl, ?yq184⟩) ?rq184
  case yq184 => (intro wq; go_simp; try (with_reducible rfl))
  try simp only [List.getElem_toArray, List.getElem_cons_zero, List.getElem_cons_succ, Act.put, List.setIfInBounds_toArray, List.set_cons_zero, List.set_cons_succ]
  refine wpF_yield (i := 7) (v := ?vq185) rfl (by kernel_rfl) (by kernel_rfl) (fun _ _ _ h => h) (Or.inl ⟨by rfl, ?yq185⟩) ?rq185
  case yq185 => (intro wq; go_simp; try (with_reducible rfl))
  try simp only [List.getElem_toArray, List.getElem_cons_zero, List.getElem_cons_succ, Act.put, List.setIfInBounds_toArray, List.set_cons_zero, List.set_cons_succ]
  refine wpF_yield (i := 8) (v := ?vq186) rfl (by kernel_rfl) (by kernel_rfl) (fun _ _ _ h => h) (Or.inl ⟨by rfl, ?yq186⟩) ?rq186
  case yq186 => (intro wq; go_simp; try (with_reducible rfl))
  try simp only [List.getElem_toArray, List.getElem_cons_zero, List.getElem_cons_succ, Act.put, List.setIfInBounds_toArray, List.set_cons_zero, List.set_cons_succ]
  refine wpF_step (i := 9) (bs := [false]) (bs' := [false]) (vs := [undef]) (by kernel_rfl) rfl (by kernel_rfl) rfl (by kernel_rfl) (fun wq hS K hK => ?_)
  obtain ⟨hb, hA⟩ := hS.1 noBits_f
  go_simp
  refine hK.out _ _ (LS.before noBits_f (bA hb _) (AB.new hb _ rfl)) ?_
  clear hK hA hb hS
  generalize wq.heap.size = pp4 at *
  try simp only [List.getElem_toArray, List.getElem_cons_zero, List.getElem_cons_succ, Act.put, List.setIfInBounds_toArray, List.set_cons_zero, List.set_cons_succ]
  refine wpF_step (i := 10) (bs := [false]) (bs' := [true]) (vs := [.pointer (some ⟨pp4, 0, none⟩)]) (by kernel_rfl) rfl (by kernel_rfl) rfl (by kernel_rfl) (fun wq hS K hK => ?_)
  obtain ⟨hb, hA⟩ := hS.1 noBits_f
  have ZZ := Lib.hid (ZB.of hb hA ah al [true])
  obtain ⟨hp, ⟨⟨_, z0, z1⟩, f0, f1⟩⟩ := hA _ rfl
  go_simp
  refine hK.out _ _ (LS.behind bits_t ZZ.out) ?_
  clear hK hA hb ZZ hS z0 z1 f0 f1 hp
  try simp only [List.getElem_toArray, List.getElem_cons_zero, List.getElem_cons_succ, Act.put, List.setIfInBounds_toArray, List.set_cons_zero, List.set_cons_succ]
  refine wpF_yield (i := 11) (v := ?vq187) rfl (by kernel_rfl) (by kernel_rfl) (fun _ _ _ h => h) (Or.inl ⟨by rfl, ?yq187⟩) ?rq187
  case yq187 => (intro wq; go_simp; try (with_reducible rfl))
  try simp only [List.getElem_toArray, List.getElem_cons_zero, List.getElem_cons_succ, Act.put, List.setIfInBounds_toArray, List.set_cons_zero, List.set_cons_succ]
  refine wpF_done (bs := [true]) (vs := [.pointer (some ⟨pp4, 0, none⟩)]) (by kernel_rfl) (by kernel_rfl) rfl (fun w5 hS => ?_) _
  refine NoPanic.normal ?_
  obtain ⟨q, hpp, hge, hbox, hb⟩ := hS.2 bits_t
  obtain rfl := ptr_eq hpp rfl
  obtain ⟨⟨_, cX4_0, cX4_1⟩, fX4_0, fX4_1⟩ := hbox
  clear hS
  clear fX4_0 fX4_1
  clear cX1_0 cX1_1 sX1
  replace cX2_0 := cell_later hb cX2_0; replace cX2_1 := cell_later hb cX2_1
  replace sX2 : w1.heap.size < w5.heap.size := World.block_lt_of_cell? _ _ cX2_0
  replace cX3_0 := cell_later hb cX3_0; replace cX3_1 := cell_later hb cX3_1
  replace sX3 : w3.heap.size < w5.heap.size := World.block_lt_of_cell? _ _ cX3_0
  have sX4 : pp4 < w5.heap.size := World.block_lt_of_cell? _ _ cX4_0
  replace kk := bC kk hb
  clear hb
  go_wp2_with fail
  (with_reducible refine (h6.out _ (ft.later kk)).mono ?_); rintro e w6 ⟨rfl, hb⟩
  replace cX2_0 := cell_later hb cX2_0; replace cX2_1 := cell_later hb cX2_1
  replace sX2 : w1.heap.size < w6.heap.size := World.block_lt_of_cell? _ _ cX2_0
  replace cX3_0 := cell_later hb cX3_0; replace cX3_1 := cell_later hb cX3_1
  replace sX3 : w3.heap.size < w6.heap.size := World.block_lt_of_cell? _ _ cX3_0
  replace cX4_0 := cell_later hb cX4_0; replace cX4_1 := cell_later hb cX4_1
  replace sX4 : pp4 < w6.heap.size := World.block_lt_of_cell? _ _ cX4_0
  replace kk := bC kk hb
  clear hb
  go_wp2_with fail
  refine wp_forget (fun W => W.cell? ⟨w1.heap.size, 0, none⟩ = some (.int .u64 zh) ∧ W.cell? ⟨w1.heap.size, 1, none⟩ = some (.int .u64 zl) ∧ W.cell? ⟨w3.heap.size, 0, none⟩ = some (.int .u64 ch) ∧ W.cell? ⟨w3.heap.size, 1, none⟩ = some (.int .u64 cl) ∧ W.cell? ⟨pp4, 0, none⟩ = some (.int .u64 ah) ∧ W.cell? ⟨pp4, 1, none⟩ = some (.int .u64 al) ∧ W.cell? ⟨w6.heap.size, 0, none⟩ = some (.int .u64 zh) ∧ W.cell? ⟨w6.heap.size, 1, none⟩ = some (.int .u64 zl) ∧ Below w.heap.size w W) ⟨cell_later (bA (Below.refl _ _) _) cX2_0, cell_later (bA (Below.refl _ _) _) cX2_1, cell_later (bA (Below.refl _ _) _) cX3_0, cell_later (bA (Below.refl _ _) _) cX3_1, cell_later (bA (Below.refl _ _) _) cX4_0, cell_later (bA (Below.refl _ _) _) cX4_1, by go_simp, by go_simp, bC kk (bA (Below.refl _ _) _)⟩ (fun w7 hst => ?_)
  clear cX2_0 cX2_1 sX2 cX3_0 cX3_1 sX3 cX4_0 cX4_1 sX4 kk
  obtain ⟨cX2_0, cX2_1, cX3_0, cX3_1, cX4_0, cX4_1, cX5_0, cX5_1, kk⟩ := hst
  have sX2 : w1.heap.size < w7.heap.size := World.block_lt_of_cell? _ _ cX2_0
  have sX3 : w3.heap.size < w7.heap.size := World.block_lt_of_cell? _ _ cX3_0
  have sX4 : pp4 < w7.heap.size := World.block_lt_of_cell? _ _ cX4_0
  have sX5 : w6.heap.size < w7.heap.size := World.block_lt_of_cell? _ _ cX5_0
  refine wp_region_noPanic ?_
  refine wp_region_F [] [] (LS w7 (fun _ _ => True) (fun _ _ _ => True)) (by kernel_rfl) (bs := []) (vs := []) (by kernel_rfl) rfl (LS.before noBits_nil (Below.refl _ _).drew trivial) ?_
  refine wpF_yield (i := 0) (v := ?vq188) rfl (by kernel_rfl) (by kernel_rfl) (fun _ _ _ h => h) (Or.inl ⟨by rfl, ?yq188⟩) ?rq188
  case yq188 => (intro wq; go_simp; try (with_reducible rfl))
  try simp only [List.getElem_toArray, List.getElem_cons_zero, List.getElem_cons_succ, Act.put, List.setIfInBounds_toArray, List.set_cons_zero, List.set_cons_succ]
  refine wpF_yield (i := 1) (v := ?vq189) rfl (by kernel_rfl) (by kernel_rfl) (fun _ _ _ h => h) (Or.inl ⟨by rfl, ?yq189⟩) ?rq189
  case yq189 => (intro wq; go_simp; try (with_reducible rfl))
  try simp only [List.getElem_toArray, List.getElem_cons_zero, List.getElem_cons_succ, Act.put, List.setIfInBounds_toArray, List.set_cons_zero, List.set_cons_succ]
  refine wpF_yield (i := 2) (v := ?vq190) rfl (by kernel_rfl) (by kernel_rfl) (fun _ _ _ h => h) (Or.inl ⟨by rfl, ?yq190⟩) ?rq190
  case yq190 => (intro wq; go_simp; try (with_reducible rfl))
  try simp only [List.getElem_toArray, List.getElem_cons_zero, List.getElem_cons_succ, Act.put, List.setIfInBounds_toArray, List.set_cons_zero, List.set_cons_succ]
  refine wpF_take (i := 3) (v := ?vq191) rfl (by kernel_rfl) (by kernel_rfl) (fun _ _ _ h => h) (LS.load (by rfl) ?yq191) ?rq191
  case yq191 => (intro wq hb; have lcX2_0 := cell_later hb cX2_0; have lcX2_1 := cell_later hb cX2_1; go_simp; try (with_reducible rfl))
  try simp only [List.getElem_toArray, List.getElem_cons_zero, List.getElem_cons_succ, Act.put, List.setIfInBounds_toArray, List.set_cons_zero, List.set_cons_succ]
  refine wpF_take (i := 4) (v := _) rfl (by kernel_rfl) (by kernel_rfl) (fun _ _ _ h => h) (LS.callW lasts_true (by rfl) _ _ ?yq192 ((fun W hb => h7.out W (ft.later (bC kk hb))))) ?rq192
  case yq192 => (intro wq; go_simp; try (with_reducible rfl))
  try simp only [List.getElem_toArray, List.getElem_cons_zero, List.getElem_cons_succ, Act.put, List.setIfInBounds_toArray, List.set_cons_zero, List.set_cons_succ]
  refine wpF_take (i := 5) (v := ?vq193) rfl (by kernel_rfl) (by kernel_rfl) (fun _ _ _ h => h) (LS.load (by rfl) ?yq193) ?rq193
  case yq193 => (intro wq hb; have lcX3_0 := cell_later hb cX3_0; have lcX3_1 := cell_later hb cX3_1; go_simp; try (with_reducible rfl))
  try simp only [List.getElem_toArray, List.getElem_cons_zero, List.getElem_cons_succ, Act.put, List.setIfInBounds_toArray, List.set_cons_zero, List.set_cons_succ]
  refine wpF_yield (i := 6) (v := ?vq194) rfl (by kernel_rfl) (by kernel_rfl) (fun _ _ _ h => h) (Or.inl ⟨by rfl, ?yq194⟩) ?rq194
  case yq194 => (intro wq; go_simp; try (with_reducible rfl))
  try simp only [List.getElem_toArray, List.getElem_cons_zero, List.getElem_cons_succ, Act.put, List.setIfInBounds_toArray, List.set_cons_zero, List.set_cons_succ]
  refine wpF_yield (i := 7) (v := ?vq195) rfl (by kernel_rfl) (by kernel_rfl) (fun _ _ _ h => h) (Or.inl ⟨by rfl, ?yq195⟩) ?rq195
  case yq195 => (intro wq; go_simp; try (with_reducible rfl))
  try simp only [List.getElem_toArray, List.getElem_cons_zero, List.getElem_cons_succ, Act.put, List.setIfInBounds_toArray, List.set_cons_zero, List.set_cons_succ]
  refine wpF_yield (i := 8) (v := ?vq196) rfl (by kernel_rfl) (by kernel_rfl) (fun _ _ _ h => h) (Or.inl ⟨by rfl, ?yq196⟩) ?rq196
  case yq196 => (intro wq; go_simp; try (with_reducible rfl))
  try simp only [List.getElem_toArray, List.getElem_cons_zero, List.getElem_cons_succ, Act.put, List.setIfInBounds_toArray, List.set_cons_zero, List.set_cons_succ]
  refine wpF_yield (i := 9) (v := ?vq197) rfl (by kernel_rfl) (by kernel_rfl) (fun _ _ _ h => h) (Or.inl ⟨by rfl, ?yq197⟩) ?rq197
  case yq197 => (intro wq; go_simp; try (with_reducible rfl))
  try simp only [List.getElem_toArray, List.getElem_cons_zero, List.getElem_cons_succ, Act.put, List.setIfInBounds_toArray, List.set_cons_zero, List.set_cons_succ]
  refine wpF_yield (i := 10) (v := ?vq198) rfl (by kernel_rfl) (by kernel_rfl) (fun _ _ _ h => h) (Or.inl ⟨by rfl, ?yq198⟩) ?rq198
  case yq198 => (intro wq; go_simp; try (with_reducible rfl))
  try simp only [List.getElem_toArray, List.getElem_cons_zero, List.getElem_cons_succ, Act.put, List.setIfInBounds_toArray, List.set_cons_zero, List.set_cons_succ]
  refine wpF_yield (i := 11) (v := ?vq199) rfl (by kernel_rfl) (by kernel_rfl) (fun _ _ _ h => h) (Or.inl ⟨by rfl, ?yq199⟩) ?rq199
  case yq199 => (intro wq; go_simp; try (with_reducible rfl))
  try simp only [List.getElem_toArray, List.getElem_cons_zero, List.getElem_cons_succ, Act.put, List.setIfInBounds_toArray, List.set_cons_zero, List.set_cons_succ]
  refine wpF_yield (i := 12) (v := ?vq200) rfl (by kernel_rfl) (by kernel_rfl) (fun _ _ _ h => h) (Or.inl ⟨by rfl, ?yq200⟩) ?rq200
  case yq200 => (intro wq; go_simp; try (with_reducible rfl))
  try simp only [List.getElem_toArray, List.getElem_cons_zero, List.getElem_cons_succ, Act.put, List.setIfInBounds_toArray, List.set_cons_zero, List.set_cons_succ]
  refine wpF_yield (i := 13) (v := ?vq201) rfl (by kernel_rfl) (by kernel_rfl) (fun _ _ _ h => h) (Or.inl ⟨by rfl, ?yq201⟩) ?rq201
  case yq201 => (intro wq; go_simp; try (with_reducible rfl))
  try simp only [List.getElem_toArray, List.getElem_cons_zero, List.getElem_cons_succ, Act.put, List.setIfInBounds_toArray, List.set_cons_zero, List.set_cons_succ]
  refine wpF_yield (i := 14) (v := ?vq202) rfl (by kernel_rfl) (by kernel_rfl) (fun _ _ _ h => h) (Or.inl ⟨by rfl, ?yq202⟩) ?rq202
  case yq202 => (intro wq; go_simp; try (with_reducible rfl))
  try simp only [List.getElem_toArray, List.getElem_cons_zero, List.getElem_cons_succ, Act.put, List.setIfInBounds_toArray, List.set_cons_zero, List.set_cons_succ]
  refine wpF_yield (i := 15) (v := ?vq203) rfl (by kernel_rfl) (by kernel_rfl) (fun _ _ _ h => h) (Or.inl ⟨by rfl, ?yq203⟩) ?rq203
  case yq203 => (intro wq; go_simp; try (with_reducible rfl))
  try simp only [List.getElem_toArray, List.getElem_cons_zero, List.getElem_cons_succ, Act.put, List.setIfInBounds_toArray, List.set_cons_zero, List.set_cons_succ]
  refine wpF_yield (i := 16) (v := ?vq204) rfl (by kernel_rfl) (by kernel_rfl) (fun _ _ _ h => h) (Or.inl ⟨by rfl, ?yq204⟩) ?rq204
  case yq204 => (intro wq; go_simp; try (with_reducible rfl))
  try simp only [List.getElem_toArray, List.getElem_cons_zero, List.getElem_cons_succ, Act.put, List.setIfInBounds_toArray, List.set_cons_zero, List.set_cons_succ]
  refine wpF_yield (i := 17) (v := ?vq205) rfl (by kernel_rfl) (by kernel_rfl) (fun _ _ _ h => h) (Or.inl ⟨by rfl, ?yq205⟩) ?rq205
  case yq205 => (intro wq; go_simp; try (with_reducible rfl))
  try simp only [List.getElem_toArray, List.getElem_cons_zero, List.getElem_cons_succ, Act.put, List.setIfInBounds_toArray, List.set_cons_zero, List.set_cons_succ]
  refine wpF_take (i := 18) (v := ?vq206) rfl (by kernel_rfl) (by kernel_rfl) (fun _ _ _ h => h) (LS.load (by rfl) ?yq206) ?rq206
  case yq206 => (intro wq hb; have lcX5_0 := cell_later hb cX5_0; have lcX5_1 := cell_later hb cX5_1; go_simp; try (with_reducible rfl))
  try simp only [List.getElem_toArray, List.getElem_cons_zero, List.getElem_cons_succ, Act.put, List.setIfInBounds_toArray, List.set_cons_zero, List.set_cons_succ]
  refine wpF_take (i := 19) (v := ?vq207) rfl (by kernel_rfl) (by kernel_rfl) (fun _ _ _ h => h) (LS.load (by rfl) ?yq207) ?rq207
  case yq207 => (intro wq hb; have lcX2_0 := cell_later hb cX2_0; have lcX2_1 := cell_later hb cX2_1; go_simp; try (with_reducible rfl))
  try simp only [List.getElem_toArray, List.getElem_cons_zero, List.getElem_cons_succ, Act.put, List.setIfInBounds_toArray, List.set_cons_zero, List.set_cons_succ]
  refine wpF_yield (i := 20) (v := ?vq208) rfl (by kernel_rfl) (by kernel_rfl) (fun _ _ _ h => h) (Or.inl ⟨by rfl, ?yq208⟩) ?rq208
  case yq208 => (intro wq; go_simp; try (with_reducible rfl))
  try simp only [List.getElem_toArray, List.getElem_cons_zero, List.getElem_cons_succ, Act.put, List.setIfInBounds_toArray, List.set_cons_zero, List.set_cons_succ]
  refine wpF_yield (i := 21) (v := ?vq209) rfl (by kernel_rfl) (by kernel_rfl) (fun _ _ _ h => h) (Or.inl ⟨by rfl, ?yq209⟩) ?rq209
  case yq209 => (intro wq; go_simp; try (with_reducible rfl))
  try simp only [List.getElem_toArray, List.getElem_cons_zero, List.getElem_cons_succ, Act.put, List.setIfInBounds_toArray, List.set_cons_zero, List.set_cons_succ]
  refine wpF_yield (i := 22) (v := ?vq210) rfl (by kernel_rfl) (by kernel_rfl) (fun _ _ _ h => h) (Or.inl ⟨by rfl, ?yq210⟩) ?rq210
  case yq210 => (intro wq; go_simp; try (with_reducible rfl))
  try simp only [List.getElem_toArray, List.getElem_cons_zero, List.getElem_cons_succ, Act.put, List.setIfInBounds_toArray, List.set_cons_zero, List.set_cons_succ]
  refine wpF_yield (i := 23) (v := ?vq211) rfl (by kernel_rfl) (by kernel_rfl) (fun _ _ _ h => h) (Or.inl ⟨by rfl, ?yq211⟩) ?rq211
  case yq211 => (intro wq; go_simp; try (with_reducible rfl))
  try simp only [List.getElem_toArray, List.getElem_cons_zero, List.getElem_cons_succ, Act.put, List.setIfInBounds_toArray, List.set_cons_zero, List.set_cons_succ]
  refine wpF_take (i := 24) (v := ?vq212) rfl (by kernel_rfl) (by kernel_rfl) (fun _ _ _ h => h) (LS.load (by rfl) ?yq212) ?rq212
  case yq212 => (intro wq hb; have lcX4_0 := cell_later hb cX4_0; have lcX4_1 := cell_later hb cX4_1; go_simp; try (with_reducible rfl))
  try simp only [List.getElem_toArray, List.getElem_cons_zero, List.getElem_cons_succ, Act.put, List.setIfInBounds_toArray, List.set_cons_zero, List.set_cons_succ]
  refine wpF_take (i := 25) (v := _) rfl (by kernel_rfl) (by kernel_rfl) (fun _ _ _ h => h) (LS.callW lasts_true (by rfl) _ _ ?yq213 ((fun W hb => h8.out W (ft.later (bC kk hb))))) ?rq213
  case yq213 => (intro wq; go_simp; try (with_reducible rfl))
  try simp only [List.getElem_toArray, List.getElem_cons_zero, List.getElem_cons_succ, Act.put, List.setIfInBounds_toArray, List.set_cons_zero, List.set_cons_succ]
  refine wpF_take (i := 26) (v := ?vq214) rfl (by kernel_rfl) (by kernel_rfl) (fun _ _ _ h => h) (LS.load (by rfl) ?yq214) ?rq214
  case yq214 => (intro wq hb; have lcX3_0 := cell_later hb cX3_0; have lcX3_1 := cell_later hb cX3_1; go_simp; try (with_reducible rfl))
  try simp only [List.getElem_toArray, List.getElem_cons_zero, List.getElem_cons_succ, Act.put, List.setIfInBounds_toArray, List.set_cons_zero, List.set_cons_succ]
  refine wpF_yield (i := 27) (v := ?vq215) rfl (by kernel_rfl) (by kernel_rfl) (fun _ _ _ h => h) (Or.inl ⟨by rfl, ?yq215⟩) ?rq215
  case yq215 => (intro wq; go_simp; try (with_reducible rfl))
  try simp only [List.getElem_toArray, List.getElem_cons_zero, List.getElem_cons_succ, Act.put, List.setIfInBounds_toArray, List.set_cons_zero, List.set_cons_succ]
  refine wpF_yield (i := 28) (v := ?vq216) rfl (by kernel_rfl) (by kernel_rfl) (fun _ _ _ h => h) (Or.inl ⟨by rfl, ?yq216⟩) ?rq216
  case yq216 => (intro wq; go_simp; try (with_reducible rfl))
  try simp only [List.getElem_toArray, List.getElem_cons_zero, List.getElem_cons_succ, Act.put, List.setIfInBounds_toArray, List.set_cons_zero, List.set_cons_succ]
  refine wpF_yield (i := 29) (v := ?vq217) rfl (by kernel_rfl) (by kernel_rfl) (fun _ _ _ h => h) (Or.inl ⟨by rfl, ?yq217⟩) ?rq217
  case yq217 => (intro wq; go_simp; try (with_reducible rfl))
  try simp only [List.getElem_toArray, List.getElem_cons_zero, List.getElem_cons_succ, Act.put, List.setIfInBounds_toArray, List.set_cons_zero, List.set_cons_succ]
  refine wpF_yield (i := 30) (v := ?vq218) rfl (by kernel_rfl) (by kernel_rfl) (fun _ _ _ h => h) (Or.inl ⟨by rfl, ?yq218⟩) ?rq218
  case yq218 => (intro wq; go_simp; try (with_reducible rfl))
  try simp only [List.getElem_toArray, List.getElem_cons_zero, List.getElem_cons_succ, Act.put, List.setIfInBounds_toArray, List.set_cons_zero, List.set_cons_succ]
  refine wpF_take (i := 31) (v := ?vq219) rfl (by kernel_rfl) (by kernel_rfl) (fun _ _ _ h => h) (LS.load (by rfl) ?yq219) ?rq219
  case yq219 => (intro wq hb; have lcX3_0 := cell_later hb cX3_0; have lcX3_1 := cell_later hb cX3_1; go_simp; try (with_reducible rfl))
  try simp only [List.getElem_toArray, List.getElem_cons_zero, List.getElem_cons_succ, Act.put, List.setIfInBounds_toArray, List.set_cons_zero, List.set_cons_succ]
  refine wpF_take (i := 32) (v := _) rfl (by kernel_rfl) (by kernel_rfl) (fun _ _ _ h => h) (LS.callW lasts_true (by rfl) _ _ ?yq220 ((fun W hb => h9.out W (ft.later (bC kk hb))))) ?rq220
  case yq220 => (intro wq; go_simp; try (with_reducible rfl))
  try simp only [List.getElem_toArray, List.getElem_cons_zero, List.getElem_cons_succ, Act.put, List.setIfInBounds_toArray, List.set_cons_zero, List.set_cons_succ]
  refine wpF_yield (i := 33) (v := ?vq221) rfl (by kernel_rfl) (by kernel_rfl) (fun _ _ _ h => h) (Or.inl ⟨by rfl, ?yq221⟩) ?rq221
  case yq221 => (intro wq; go_simp; try (with_reducible rfl))
  try simp only [List.getElem_toArray, List.getElem_cons_zero, List.getElem_cons_succ, Act.put, List.setIfInBounds_toArray, List.set_cons_zero, List.set_cons_succ]
  refine wpF_yield (i := 34) (v := ?vq222) rfl (by kernel_rfl) (by kernel_rfl) (fun _ _ _ h => h) (Or.inl ⟨by rfl, ?yq222⟩) ?rq222
  case yq222 => (intro wq; go_simp; try (with_reducible rfl))
  try simp only [List.getElem_toArray, List.getElem_cons_zero, List.getElem_cons_succ, Act.put, List.setIfInBounds_toArray, List.set_cons_zero, List.set_cons_succ]
  refine wpF_take (i := 35) (v := _) rfl (by kernel_rfl) (by kernel_rfl) (fun _ _ _ h => h) (LS.callW lasts_true (by rfl) _ _ ?yq223 ((fun W hb => h10.out W (ft.later (bC kk hb))))) ?rq223
  case yq223 => (intro wq; go_simp; try (with_reducible rfl))
  try simp only [List.getElem_toArray, List.getElem_cons_zero, List.getElem_cons_succ, Act.put, List.setIfInBounds_toArray, List.set_cons_zero, List.set_cons_succ]
  refine wpF_yield (i := 36) (v := ?vq224) rfl (by kernel_rfl) (by kernel_rfl) (fun _ _ _ h => h) (Or.inl ⟨by rfl, ?yq224⟩) ?rq224
  case yq224 => (intro wq; go_simp; try (with_reducible rfl))
  try simp only [List.getElem_toArray, List.getElem_cons_zero, List.getElem_cons_succ, Act.put, List.setIfInBounds_toArray, List.set_cons_zero, List.set_cons_succ]
  refine wpF_yield (i := 37) (v := ?vq225) rfl (by kernel_rfl) (by kernel_rfl) (fun _ _ _ h => h) (Or.inl ⟨by rfl, ?yq225⟩) ?rq225
  case yq225 => (intro wq; go_simp; try (with_reducible rfl))
  try simp only [List.getElem_toArray, List.getElem_cons_zero, List.getElem_cons_succ, Act.put, List.setIfInBounds_toArray, List.set_cons_zero, List.set_cons_succ]
  refine wpF_done (bs := []) (vs := []) (by kernel_rfl) (by kernel_rfl) rfl (fun w8 hS => ?_) _
  refine NoPanic.normal ?_
  obtain ⟨hb, _⟩ := hS.1 noBits_nil
  clear hS
  clear cX2_0 cX2_1 sX2
  clear cX3_0 cX3_1 sX3
  clear cX4_0 cX4_1 sX4
  clear cX5_0 cX5_1 sX5
  replace kk := bC kk hb
  clear hb
  go_wp2_with fail
  go_ret
  exact ⟨rfl, kk⟩

end Go.Proofs.YtbihcehcdjkkiaaDoor
