/-
  Texts of the ground put together: FldC, FldD, FldG.
-/
import Derived.Test.YtbcjboaihahemaaGreatDoorGfA
import Derived.Test.YtbcjboaihahemaaGreatDoorGaA
import Derived.Test.YtbcjboaihahemaaGreatDoorGdA
import Derived.Test.YtbcjboaihahemaaGreatDoorGkA
import Derived.Test.YtbcjboaihahemaaGreatDoorGcA

/-
  Walks through package fields's functions.
-/
set_option linter.unusedVariables false
set_option linter.unusedSimpArgs false
set_option maxRecDepth 100000
namespace Go.Proofs.YtbcjboaihahemaaGreatDoor
open Go.RowKit
attribute [local go_sem ↓] Go.wp_at_zero Go.wp_at_succ

set_option maxHeartbeats 4000000 in
set_option maxRecDepth 100000 in
theorem fld_least (f p em l : Int)
     (v1 : IntKind.i64.wrap (1 - em) = l) (w : World) :
    Calls Tryz.prog 68 #[.agg #[.int .u8 f, .int .i64 p, .int .i64 em]] w fun e w' => e = .returned (.int .i64 l) ∧ Below w.heap.size w w' := by
  go_enter Tryz.func68, Tryz.ntmps68
  go_wp2_with fail
  go_ret
  exact ⟨rfl, (bA (Below.refl _ _) _)⟩

set_option maxHeartbeats 4000000 in
set_option maxRecDepth 100000 in
theorem fld_unit (f p em ex l m q u : Int)
    (h0 : Hid (∀ w, FTab w → Calls Tryz.prog 68 #[.agg #[.int .u8 f, .int .i64 p, .int .i64 em]] w fun e w' => e = .returned (.int .i64 l) ∧ Below w.heap.size w w')) (x1 : (if l > ex then l else ex) = m) (x1' : (if ex < l then l else ex) = m) (v1 : IntKind.i64.wrap (p - 1) = q) (v2 : IntKind.i64.wrap (m - q) = u) (w : World) (ft : FTab w) :
    Calls Tryz.prog 102 #[.agg #[.int .u8 f, .int .i64 p, .int .i64 em], .int .i64 ex] w fun e w' => e = .returned (.int .i64 u) ∧ Below w.heap.size w w' := by
  go_enter Tryz.func102, Tryz.ntmps102
  go_wp2_with fail
  refine wp_forget (fun W => W.cell? ⟨w.heap.size, 0, none⟩ = some (.int .u8 f) ∧ W.cell? ⟨w.heap.size, 1, none⟩ = some (.int .i64 p) ∧ W.cell? ⟨w.heap.size, 2, none⟩ = some (.int .i64 em) ∧ Below w.heap.size w W) ⟨by go_simp, by go_simp, by go_simp, (bA (Below.refl _ _) _)⟩ (fun w1 hst => ?_)
  obtain ⟨cX0_0, cX0_1, cX0_2, kk⟩ := hst
  have sX0 : w.heap.size < w1.heap.size := World.block_lt_of_cell? _ _ cX0_0
  refine wp_region_noPanic ?_
  refine wp_region_F [] [] (LS w1 (fun _ _ => True) (fun _ _ _ => True)) (by kernel_rfl) (bs := []) (vs := []) (by kernel_rfl) rfl (LS.before noBits_nil (Below.refl _ _).drew trivial) ?_
  refine wpF_yield (i := 0) (v := ?vq1) rfl (by kernel_rfl) (by kernel_rfl) (fun _ _ _ h => h) (Or.inl ⟨by rfl, ?yq1⟩) ?rq1
  case yq1 => (intro wq; go_simp; try (with_reducible rfl))
  try simp only [List.getElem_toArray, List.getElem_cons_zero, List.getElem_cons_succ, Act.put, List.setIfInBounds_toArray, List.set_cons_zero, List.set_cons_succ]
  refine wpF_take (i := 1) (v := ?vq2) rfl (by kernel_rfl) (by kernel_rfl) (fun _ _ _ h => h) (LS.load (by rfl) ?yq2) ?rq2
  case yq2 => (intro wq hb; have lcX0_0 := cell_later hb cX0_0; have lcX0_1 := cell_later hb cX0_1; have lcX0_2 := cell_later hb cX0_2; go_simp; try (with_reducible rfl))
  try simp only [List.getElem_toArray, List.getElem_cons_zero, List.getElem_cons_succ, Act.put, List.setIfInBounds_toArray, List.set_cons_zero, List.set_cons_succ]
  refine wpF_take (i := 2) (v := _) rfl (by kernel_rfl) (by kernel_rfl) (fun _ _ _ h => h) (LS.callW lasts_true (by rfl) _ _ ?yq3 ((fun W hb => h0.out W (ft.later (bC kk hb))))) ?rq3
  case yq3 => (intro wq; go_simp; try (with_reducible rfl))
  try simp only [List.getElem_toArray, List.getElem_cons_zero, List.getElem_cons_succ, Act.put, List.setIfInBounds_toArray, List.set_cons_zero, List.set_cons_succ]
  refine wpF_yield (i := 3) (v := ?vq4) rfl (by kernel_rfl) (by kernel_rfl) (fun _ _ _ h => h) (Or.inl ⟨by rfl, ?yq4⟩) ?rq4
  case yq4 => (intro wq; go_simp; try (with_reducible rfl))
  try simp only [List.getElem_toArray, List.getElem_cons_zero, List.getElem_cons_succ, Act.put, List.setIfInBounds_toArray, List.set_cons_zero, List.set_cons_succ]
  refine wpF_yield (i := 4) (v := ?vq5) rfl (by kernel_rfl) (by kernel_rfl) (fun _ _ _ h => h) (Or.inl ⟨by rfl, ?yq5⟩) ?rq5
  case yq5 => (intro wq; go_simp; try (with_reducible rfl))
  try simp only [List.getElem_toArray, List.getElem_cons_zero, List.getElem_cons_succ, Act.put, List.setIfInBounds_toArray, List.set_cons_zero, List.set_cons_succ]
  refine wpF_take (i := 5) (v := ?vq6) rfl (by kernel_rfl) (by kernel_rfl) (fun _ _ _ h => h) (LS.load (by rfl) ?yq6) ?rq6
  case yq6 => (intro wq hb; have lcX0_1 := cell_later hb cX0_1; go_simp; try (with_reducible rfl))
  try simp only [List.getElem_toArray, List.getElem_cons_zero, List.getElem_cons_succ, Act.put, List.setIfInBounds_toArray, List.set_cons_zero, List.set_cons_succ]
  refine wpF_yield (i := 6) (v := ?vq7) rfl (by kernel_rfl) (by kernel_rfl) (fun _ _ _ h => h) (Or.inl ⟨by rfl, ?yq7⟩) ?rq7
  case yq7 => (intro wq; go_simp; try (with_reducible rfl))
  try simp only [List.getElem_toArray, List.getElem_cons_zero, List.getElem_cons_succ, Act.put, List.setIfInBounds_toArray, List.set_cons_zero, List.set_cons_succ]
  refine wpF_yield (i := 7) (v := ?vq8) rfl (by kernel_rfl) (by kernel_rfl) (fun _ _ _ h => h) (Or.inl ⟨by rfl, ?yq8⟩) ?rq8
  case yq8 => (intro wq; go_simp; try (with_reducible rfl))
  try simp only [List.getElem_toArray, List.getElem_cons_zero, List.getElem_cons_succ, Act.put, List.setIfInBounds_toArray, List.set_cons_zero, List.set_cons_succ]
  refine wpF_yield (i := 8) (v := ?vq9) rfl (by kernel_rfl) (by kernel_rfl) (fun _ _ _ h => h) (Or.inl ⟨by rfl, ?yq9⟩) ?rq9
  case yq9 => (intro wq; go_simp; try (with_reducible rfl))
  try simp only [List.getElem_toArray, List.getElem_cons_zero, List.getElem_cons_succ, Act.put, List.setIfInBounds_toArray, List.set_cons_zero, List.set_cons_succ]
  refine wpF_done (bs := []) (vs := []) (by kernel_rfl) (by kernel_rfl) rfl (fun w2 hS => ?_) _
  refine NoPanic.normal ?_
  obtain ⟨hb, _⟩ := hS.1 noBits_nil
  clear hS
  clear cX0_0 cX0_1 cX0_2 sX0
  replace kk := bC kk hb
  clear hb
  go_wp2_with fail
  go_ret
  exact ⟨rfl, kk⟩

set_option maxHeartbeats 4000000 in
set_option maxRecDepth 100000 in
theorem fld_lead (f p em bh bl q xh xl rh rl : Int) (cy : Bool)
    (h0 : Hid (∀ w, Calls Tryz.prog 81 #[.agg #[.int .u64 0, .int .u64 1], .int .i64 q] w fun e w' => e = .returned (.agg #[.int .u64 xh, .int .u64 xl]) ∧ Below w.heap.size w w'))
    (h1 : Hid (∀ w, Calls Tryz.prog 96 #[.agg #[.int .u64 xh, .int .u64 xl], .agg #[.int .u64 bh, .int .u64 bl]] w fun e w' => e = .returned (.tuple #[.agg #[.int .u64 rh, .int .u64 rl], .bool cy]) ∧ Below w.heap.size w w')) (v1 : IntKind.i64.wrap (p - 1) = q) (w : World) :
    Calls Tryz.prog 69 #[.agg #[.int .u8 f, .int .i64 p, .int .i64 em], .agg #[.int .u64 bh, .int .u64 bl]] w fun e w' => e = .returned (.agg #[.int .u64 rh, .int .u64 rl]) ∧ Below w.heap.size w w' := by
  go_enter Tryz.func69, Tryz.ntmps69
  go_wp2_with fail
  have gX2 : w.heap.size ≤ w.heap.size + 1 + 1 := by omega
  refine wp_forget (fun W => W.cell? ⟨w.heap.size, 0, none⟩ = some (.int .u8 f) ∧ W.cell? ⟨w.heap.size, 1, none⟩ = some (.int .i64 p) ∧ W.cell? ⟨w.heap.size, 2, none⟩ = some (.int .i64 em) ∧ W.cell? ⟨w.heap.size + 1, 0, none⟩ = some (.int .u64 bh) ∧ W.cell? ⟨w.heap.size + 1, 1, none⟩ = some (.int .u64 bl) ∧ W.cell? ⟨w.heap.size + 1 + 1, 0, none⟩ = some (.int .u64 0) ∧ W.cell? ⟨w.heap.size + 1 + 1, 1, none⟩ = some (.int .u64 0) ∧ W.frozen? ⟨w.heap.size + 1 + 1, 0, none⟩ = false ∧ W.frozen? ⟨w.heap.size + 1 + 1, 1, none⟩ = false ∧ Below w.heap.size w W) ⟨by go_simp, by go_simp, by go_simp, by go_simp, by go_simp, by go_simp, by go_simp, by go_simp, by go_simp, (bA (bA (bA (Below.refl _ _) _) _) _)⟩ (fun w1 hst => ?_)
  obtain ⟨cX0_0, cX0_1, cX0_2, cX1_0, cX1_1, cX2_0, cX2_1, fX2_0, fX2_1, kk⟩ := hst
  have sX0 : w.heap.size < w1.heap.size := World.block_lt_of_cell? _ _ cX0_0
  have sX1 : w.heap.size + 1 < w1.heap.size ∧ w.heap.size < w1.heap.size := by have h : w.heap.size + 1 < w1.heap.size := World.block_lt_of_cell? _ _ cX1_0; exact ⟨h, by omega⟩
  have sX2 : w.heap.size + 1 + 1 < w1.heap.size ∧ w.heap.size + 1 < w1.heap.size := by have h : w.heap.size + 1 + 1 < w1.heap.size := World.block_lt_of_cell? _ _ cX2_0; exact ⟨h, by omega⟩
  refine wp_region_noPanic ?_
  refine wp_region_F [11] [5] (LS w1 (AB w1) (ZB w1 rh rl)) (by kernel_rfl) (bs := [false]) (vs := [undef]) (by kernel_rfl) rfl (LS.before noBits_f (Below.refl _ _).drew (AB.start _ _)) ?_
  refine wpF_yield (i := 0) (v := ?vq10) rfl (by kernel_rfl) (by kernel_rfl) (fun _ _ _ h => h) (Or.inl ⟨by rfl, ?yq10⟩) ?rq10
  case yq10 => (intro wq; go_simp; try (with_reducible rfl))
  try simp only [List.getElem_toArray, List.getElem_cons_zero, List.getElem_cons_succ, Act.put, List.setIfInBounds_toArray, List.set_cons_zero, List.set_cons_succ]
  refine wpF_yield (i := 1) (v := ?vq11) rfl (by kernel_rfl) (by kernel_rfl) (fun _ _ _ h => h) (Or.inl ⟨by rfl, ?yq11⟩) ?rq11
  case yq11 => (intro wq; go_simp; try (with_reducible rfl))
  try simp only [List.getElem_toArray, List.getElem_cons_zero, List.getElem_cons_succ, Act.put, List.setIfInBounds_toArray, List.set_cons_zero, List.set_cons_succ]
  refine wpF_take3 (i := 2) (v := ?vq12) rfl (by kernel_rfl) (by kernel_rfl) (fun _ _ _ h => h) (LS.load (by rfl) ?yq12) ?rq12
  case yq12 => (intro wq hb; have lcX0_1 := cell_later hb cX0_1; go_simp; try (with_reducible rfl))
  try simp only [List.getElem_toArray, List.getElem_cons_zero, List.getElem_cons_succ, Act.put, List.setIfInBounds_toArray, List.set_cons_zero, List.set_cons_succ]
  refine wpF_yield (i := 3) (v := ?vq13) rfl (by kernel_rfl) (by kernel_rfl) (fun _ _ _ h => h) (Or.inl ⟨by rfl, ?yq13⟩) ?rq13
  case yq13 => (intro wq; go_simp; try (with_reducible rfl))
  try simp only [List.getElem_toArray, List.getElem_cons_zero, List.getElem_cons_succ, Act.put, List.setIfInBounds_toArray, List.set_cons_zero, List.set_cons_succ]
  refine wpF_take3 (i := 4) (v := _) rfl (by kernel_rfl) (by kernel_rfl) (fun _ _ _ h => h) (LS.call (AB.lasts w1) (by rfl) _ _ ?yq14 (h0.out)) ?rq14
  case yq14 => (intro wq; go_simp; try (with_reducible rfl))
  try simp only [List.getElem_toArray, List.getElem_cons_zero, List.getElem_cons_succ, Act.put, List.setIfInBounds_toArray, List.set_cons_zero, List.set_cons_succ]
  refine wpF_take3 (i := 5) (v := ?vq15) rfl (by kernel_rfl) (by kernel_rfl) (fun _ _ _ h => h) (LS.load (by rfl) ?yq15) ?rq15
  case yq15 => (intro wq hb; have lcX1_0 := cell_later hb cX1_0; have lcX1_1 := cell_later hb cX1_1; go_simp; try (with_reducible rfl))
  try simp only [List.getElem_toArray, List.getElem_cons_zero, List.getElem_cons_succ, Act.put, List.setIfInBounds_toArray, List.set_cons_zero, List.set_cons_succ]
  refine wpF_take3 (i := 6) (v := _) rfl (by kernel_rfl) (by kernel_rfl) (fun _ _ _ h => h) (LS.call (AB.lasts w1) (by rfl) _ _ ?yq16 (h1.out)) ?rq16
  case yq16 => (intro wq; go_simp; try (with_reducible rfl))
  try simp only [List.getElem_toArray, List.getElem_cons_zero, List.getElem_cons_succ, Act.put, List.setIfInBounds_toArray, List.set_cons_zero, List.set_cons_succ]
  refine wpF_yield (i := 7) (v := ?vq17) rfl (by kernel_rfl) (by kernel_rfl) (fun _ _ _ h => h) (Or.inl ⟨by rfl, ?yq17⟩) ?rq17
  case yq17 => (intro wq; go_simp; try (with_reducible rfl))
  try simp only [List.getElem_toArray, List.getElem_cons_zero, List.getElem_cons_succ, Act.put, List.setIfInBounds_toArray, List.set_cons_zero, List.set_cons_succ]
  refine wpF_yield (i := 8) (v := ?vq18) rfl (by kernel_rfl) (by kernel_rfl) (fun _ _ _ h => h) (Or.inl ⟨by rfl, ?yq18⟩) ?rq18
  case yq18 => (intro wq; go_simp; try (with_reducible rfl))
  try simp only [List.getElem_toArray, List.getElem_cons_zero, List.getElem_cons_succ, Act.put, List.setIfInBounds_toArray, List.set_cons_zero, List.set_cons_succ]
  refine wpF_yield (i := 9) (v := ?vq19) rfl (by kernel_rfl) (by kernel_rfl) (fun _ _ _ h => h) (Or.inl ⟨by rfl, ?yq19⟩) ?rq19
  case yq19 => (intro wq; go_simp; try (with_reducible rfl))
  try simp only [List.getElem_toArray, List.getElem_cons_zero, List.getElem_cons_succ, Act.put, List.setIfInBounds_toArray, List.set_cons_zero, List.set_cons_succ]
  refine wpF_step (i := 10) (bs := [false]) (bs' := [false]) (vs := [undef]) (by kernel_rfl) rfl (by kernel_rfl) rfl (by kernel_rfl) (fun wq hS K hK => ?_)
  obtain ⟨hb, hA⟩ := hS.1 noBits_f
  go_simp
  refine hK.out _ _ (LS.before noBits_f (bA hb _) (AB.new hb _ rfl)) ?_
  clear hK hA hb hS
  generalize wq.heap.size = pp1 at *
  try simp only [List.getElem_toArray, List.getElem_cons_zero, List.getElem_cons_succ, Act.put, List.setIfInBounds_toArray, List.set_cons_zero, List.set_cons_succ]
  refine wpF_step (i := 11) (bs := [false]) (bs' := [true]) (vs := [.pointer (some ⟨pp1, 0, none⟩)]) (by kernel_rfl) rfl (by kernel_rfl) rfl (by kernel_rfl) (fun wq hS K hK => ?_)
  obtain ⟨hb, hA⟩ := hS.1 noBits_f
  have ZZ := Lib.hid (ZB.of hb hA rh rl [true])
  obtain ⟨hp, ⟨⟨_, z0, z1⟩, f0, f1⟩⟩ := hA _ rfl
  go_simp
  refine hK.out _ _ (LS.behind bits_t ZZ.out) ?_
  clear hK hA hb ZZ hS z0 z1 f0 f1 hp
  try simp only [List.getElem_toArray, List.getElem_cons_zero, List.getElem_cons_succ, Act.put, List.setIfInBounds_toArray, List.set_cons_zero, List.set_cons_succ]
  refine wpF_yield (i := 12) (v := ?vq20) rfl (by kernel_rfl) (by kernel_rfl) (fun _ _ _ h => h) (Or.inl ⟨by rfl, ?yq20⟩) ?rq20
  case yq20 => (intro wq; go_simp; try (with_reducible rfl))
  try simp only [List.getElem_toArray, List.getElem_cons_zero, List.getElem_cons_succ, Act.put, List.setIfInBounds_toArray, List.set_cons_zero, List.set_cons_succ]
  refine wpF_done (bs := [true]) (vs := [.pointer (some ⟨pp1, 0, none⟩)]) (by kernel_rfl) (by kernel_rfl) rfl (fun w2 hS => ?_) _
  refine NoPanic.normal ?_
  obtain ⟨q, hpp, hge, hbox, hb⟩ := hS.2 bits_t
  obtain rfl := ptr_eq hpp rfl
  have nX2_X3 : w.heap.size + 1 + 1 < pp1 := by omega
  obtain ⟨⟨_, cX3_0, cX3_1⟩, fX3_0, fX3_1⟩ := hbox
  clear hS
  clear fX3_0 fX3_1
  clear cX0_0 cX0_1 cX0_2 sX0
  clear cX1_0 cX1_1 sX1
  replace fX2_0 := frozen_later hb cX2_0 fX2_0; replace fX2_1 := frozen_later hb cX2_1 fX2_1
  replace cX2_0 := cell_later hb cX2_0; replace cX2_1 := cell_later hb cX2_1
  replace sX2 : w.heap.size + 1 + 1 < w2.heap.size ∧ w.heap.size + 1 < w2.heap.size := by have h : w.heap.size + 1 + 1 < w2.heap.size := World.block_lt_of_cell? _ _ cX2_0; exact ⟨h, by omega⟩
  have sX3 : pp1 < w2.heap.size := World.block_lt_of_cell? _ _ cX3_0
  replace kk := bC kk hb
  clear hb
  have NW := BoxF.set (⟨Box.of cX2_0 cX2_1, fX2_0, fX2_1⟩ : BoxF w2 (w.heap.size + 1 + 1) _ _) rh rl
  have KEY : Hid (((w2.setCell ⟨w.heap.size + 1 + 1, 0, none⟩ (.int .u64 rh)).setCell ⟨w.heap.size + 1 + 1, 1, none⟩ (.int .u64 rl)).cell? ⟨w.heap.size + 1 + 1, 0, none⟩ = some (.int .u64 rh) ∧ ((w2.setCell ⟨w.heap.size + 1 + 1, 0, none⟩ (.int .u64 rh)).setCell ⟨w.heap.size + 1 + 1, 1, none⟩ (.int .u64 rl)).cell? ⟨w.heap.size + 1 + 1, 1, none⟩ = some (.int .u64 rl) ∧ Below w.heap.size w ((w2.setCell ⟨w.heap.size + 1 + 1, 0, none⟩ (.int .u64 rh)).setCell ⟨w.heap.size + 1 + 1, 1, none⟩ (.int .u64 rl))) := Lib.hid ⟨NW.1.2.1, NW.1.2.2, (bS kk gX2 _ _)⟩
  clear NW
  go_wp2_with fail
  obtain ⟨e0, e1, kb⟩ := KEY.out
  clear KEY
  refine bodyPost_ret (v := .agg #[.int .u64 rh, .int .u64 rl]) ?_ rfl ⟨rfl, kb⟩
  simp [results, Tryz.results69, go_sem, e0, e1]

set_option maxHeartbeats 4000000 in
set_option maxRecDepth 100000 in
theorem fld_in (f c ex sh sl p em : Int) (ng : Bool)
    (h0 : Hid (∀ w, FTab w → Calls Tryz.prog 40 #[.int .u8 f] w fun e w' => e = .returned (.int .i64 p) ∧ Below w.heap.size w w'))
    (h1 : Hid (∀ w, FTab w → Calls Tryz.prog 41 #[.int .u8 f] w fun e w' => e = .returned (.int .i64 em) ∧ Below w.heap.size w w')) (w : World) (ft : FTab w) :
    Calls Tryz.prog 66 #[.int .u8 f, .agg #[.bool ng, .int .u8 c, .int .i64 ex, .int .u64 sh, .int .u64 sl]] w fun e w' => e = .returned (.agg #[.int .u8 f, .int .i64 p, .int .i64 em, .bool ng, .int .u8 c, .int .i64 ex, .int .u64 sh, .int .u64 sl]) ∧ Below w.heap.size w w' := by
  go_enter Tryz.func66, Tryz.ntmps66
  go_wp2_with fail
  have gX1 : w.heap.size ≤ w.heap.size + 1 := by omega
  refine wp_forget (fun W => W.cell? ⟨w.heap.size, 0, none⟩ = some (.bool ng) ∧ W.cell? ⟨w.heap.size, 1, none⟩ = some (.int .u8 c) ∧ W.cell? ⟨w.heap.size, 2, none⟩ = some (.int .i64 ex) ∧ W.cell? ⟨w.heap.size, 3, none⟩ = some (.int .u64 sh) ∧ W.cell? ⟨w.heap.size, 4, none⟩ = some (.int .u64 sl) ∧ W.cell? ⟨w.heap.size + 1, 0, none⟩ = some (.int .u8 0) ∧ W.cell? ⟨w.heap.size + 1, 1, none⟩ = some (.int .i64 0) ∧ W.cell? ⟨w.heap.size + 1, 2, none⟩ = some (.int .i64 0) ∧ W.cell? ⟨w.heap.size + 1, 3, none⟩ = some (.bool false) ∧ W.cell? ⟨w.heap.size + 1, 4, none⟩ = some (.int .u8 0) ∧ W.cell? ⟨w.heap.size + 1, 5, none⟩ = some (.int .i64 0) ∧ W.cell? ⟨w.heap.size + 1, 6, none⟩ = some (.int .u64 0) ∧ W.cell? ⟨w.heap.size + 1, 7, none⟩ = some (.int .u64 0) ∧ W.frozen? ⟨w.heap.size + 1, 0, none⟩ = false ∧ W.frozen? ⟨w.heap.size + 1, 1, none⟩ = false ∧ W.frozen? ⟨w.heap.size + 1, 2, none⟩ = false ∧ W.frozen? ⟨w.heap.size + 1, 3, none⟩ = false ∧ W.frozen? ⟨w.heap.size + 1, 4, none⟩ = false ∧ W.frozen? ⟨w.heap.size + 1, 5, none⟩ = false ∧ W.frozen? ⟨w.heap.size + 1, 6, none⟩ = false ∧ W.frozen? ⟨w.heap.size + 1, 7, none⟩ = false ∧ Below w.heap.size w W) ⟨by go_simp, by go_simp, by go_simp, by go_simp, by go_simp, by go_simp, by go_simp, by go_simp, by go_simp, by go_simp, by go_simp, by go_simp, by go_simp, by go_simp, by go_simp, by go_simp, by go_simp, by go_simp, by go_simp, by go_simp, by go_simp, (bA (bA (Below.refl _ _) _) _)⟩ (fun w1 hst => ?_)
  obtain ⟨cX0_0, cX0_1, cX0_2, cX0_3, cX0_4, cX1_0, cX1_1, cX1_2, cX1_3, cX1_4, cX1_5, cX1_6, cX1_7, fX1_0, fX1_1, fX1_2, fX1_3, fX1_4, fX1_5, fX1_6, fX1_7, kk⟩ := hst
  have sX0 : w.heap.size < w1.heap.size := World.block_lt_of_cell? _ _ cX0_0
  have sX1 : w.heap.size + 1 < w1.heap.size ∧ w.heap.size < w1.heap.size := by have h : w.heap.size + 1 < w1.heap.size := World.block_lt_of_cell? _ _ cX1_0; exact ⟨h, by omega⟩
  refine wp_region_noPanic ?_
  refine wp_region_held_drew (S := fun w' => w'.cell? ⟨w.heap.size, 0, none⟩ = some (.bool ng) ∧ w'.cell? ⟨w.heap.size, 1, none⟩ = some (.int .u8 c) ∧ w'.cell? ⟨w.heap.size, 2, none⟩ = some (.int .i64 ex) ∧ w'.cell? ⟨w.heap.size, 3, none⟩ = some (.int .u64 sh) ∧ w'.cell? ⟨w.heap.size, 4, none⟩ = some (.int .u64 sl) ∧ True) (by kernel_rfl) ⟨cell_later (Below.refl _ _).drew cX0_0, cell_later (Below.refl _ _).drew cX0_1, cell_later (Below.refl _ _).drew cX0_2, cell_later (Below.refl _ _).drew cX0_3, cell_later (Below.refl _ _).drew cX0_4, trivial⟩ (fun hHeld => ?_)
  replace cX0_0 := cell_later (Below.refl _ _).drew cX0_0; replace cX0_1 := cell_later (Below.refl _ _).drew cX0_1; replace cX0_2 := cell_later (Below.refl _ _).drew cX0_2; replace cX0_3 := cell_later (Below.refl _ _).drew cX0_3; replace cX0_4 := cell_later (Below.refl _ _).drew cX0_4
  replace fX1_0 := frozen_later (Below.refl _ _).drew cX1_0 fX1_0; replace fX1_1 := frozen_later (Below.refl _ _).drew cX1_1 fX1_1; replace fX1_2 := frozen_later (Below.refl _ _).drew cX1_2 fX1_2; replace fX1_3 := frozen_later (Below.refl _ _).drew cX1_3 fX1_3; replace fX1_4 := frozen_later (Below.refl _ _).drew cX1_4 fX1_4; replace fX1_5 := frozen_later (Below.refl _ _).drew cX1_5 fX1_5; replace fX1_6 := frozen_later (Below.refl _ _).drew cX1_6 fX1_6; replace fX1_7 := frozen_later (Below.refl _ _).drew cX1_7 fX1_7
  replace cX1_0 := cell_later (Below.refl _ _).drew cX1_0; replace cX1_1 := cell_later (Below.refl _ _).drew cX1_1; replace cX1_2 := cell_later (Below.refl _ _).drew cX1_2; replace cX1_3 := cell_later (Below.refl _ _).drew cX1_3; replace cX1_4 := cell_later (Below.refl _ _).drew cX1_4; replace cX1_5 := cell_later (Below.refl _ _).drew cX1_5; replace cX1_6 := cell_later (Below.refl _ _).drew cX1_6; replace cX1_7 := cell_later (Below.refl _ _).drew cX1_7
  replace kk := bC kk (Below.refl _ _).drew
  refine wpAnyH_take (i := 0) (v := ?vq21) rfl (by kernel_rfl) (by kernel_rfl) (by kernel_rfl) (fun _ _ _ h => h) (Or.inl ⟨by rfl, ?yq21⟩) hHeld ?rq21
  case yq21 => (intro wq hb; obtain ⟨lq0, lq1, lq2, lq3, lq4, _⟩ := hb; go_simp; try (with_reducible rfl))
  try simp only [List.getElem_toArray, List.getElem_cons_zero, List.getElem_cons_succ, Act.put, List.setIfInBounds_toArray, List.set_cons_zero, List.set_cons_succ]
  refine wpAnyH_take (i := 1) (v := ?vq22) rfl (by kernel_rfl) (by kernel_rfl) (by kernel_rfl) (fun _ _ _ h => h) (Or.inl ⟨by rfl, ?yq22⟩) hHeld ?rq22
  case yq22 => (intro wq hb; obtain ⟨lq0, lq1, lq2, lq3, lq4, _⟩ := hb; go_simp; try (with_reducible rfl))
  try simp only [List.getElem_toArray, List.getElem_cons_zero, List.getElem_cons_succ, Act.put, List.setIfInBounds_toArray, List.set_cons_zero, List.set_cons_succ]
  refine wpAnyH_take (i := 3) (v := ?vq23) rfl (by kernel_rfl) (by kernel_rfl) (by kernel_rfl) (fun _ _ _ h => h) (Or.inl ⟨by rfl, ?yq23⟩) hHeld ?rq23
  case yq23 => (intro wq hb; obtain ⟨lq0, lq1, lq2, lq3, lq4, _⟩ := hb; go_simp; try (with_reducible rfl))
  try simp only [List.getElem_toArray, List.getElem_cons_zero, List.getElem_cons_succ, Act.put, List.setIfInBounds_toArray, List.set_cons_zero, List.set_cons_succ]
  refine wpAnyH_take (i := 6) (v := ?vq24) rfl (by kernel_rfl) (by kernel_rfl) (by kernel_rfl) (fun _ _ _ h => h) (Or.inl ⟨by rfl, ?yq24⟩) hHeld ?rq24
  case yq24 => (intro wq hb; obtain ⟨lq0, lq1, lq2, lq3, lq4, _⟩ := hb; go_simp; try (with_reducible rfl))
  try simp only [List.getElem_toArray, List.getElem_cons_zero, List.getElem_cons_succ, Act.put, List.setIfInBounds_toArray, List.set_cons_zero, List.set_cons_succ]
  clear hHeld
  refine wpAnyH_ready (rs := [2]) (by kernel_rfl) (by simp) ?_
  refine AllReadyH.cons rfl (fun K hK => ?_) AllReadyH.nil
  go_simp
  (with_reducible refine (h0.out _ (ft.later kk)).mono ?_); rintro e w2 ⟨rfl, hb⟩
  replace cX0_0 := cell_later hb cX0_0; replace cX0_1 := cell_later hb cX0_1; replace cX0_2 := cell_later hb cX0_2; replace cX0_3 := cell_later hb cX0_3; replace cX0_4 := cell_later hb cX0_4
  replace fX1_0 := frozen_later hb cX1_0 fX1_0; replace fX1_1 := frozen_later hb cX1_1 fX1_1; replace fX1_2 := frozen_later hb cX1_2 fX1_2; replace fX1_3 := frozen_later hb cX1_3 fX1_3; replace fX1_4 := frozen_later hb cX1_4 fX1_4; replace fX1_5 := frozen_later hb cX1_5 fX1_5; replace fX1_6 := frozen_later hb cX1_6 fX1_6; replace fX1_7 := frozen_later hb cX1_7 fX1_7
  replace cX1_0 := cell_later hb cX1_0; replace cX1_1 := cell_later hb cX1_1; replace cX1_2 := cell_later hb cX1_2; replace cX1_3 := cell_later hb cX1_3; replace cX1_4 := cell_later hb cX1_4; replace cX1_5 := cell_later hb cX1_5; replace cX1_6 := cell_later hb cX1_6; replace cX1_7 := cell_later hb cX1_7
  replace kk := bC kk hb
  clear hb
  refine hK.out _ _ ⟨cX0_0, cX0_1, cX0_2, cX0_3, cX0_4, trivial⟩ (fun hHeld => ?_)
  clear hK K
  try simp only [List.getElem_toArray, List.getElem_cons_zero, List.getElem_cons_succ, Act.put, List.setIfInBounds_toArray, List.set_cons_zero, List.set_cons_succ]
  clear hHeld
  refine wpAnyH_ready (rs := [4]) (by kernel_rfl) (by simp) ?_
  refine AllReadyH.cons rfl (fun K hK => ?_) AllReadyH.nil
  go_simp
  (with_reducible refine (h1.out _ (ft.later kk)).mono ?_); rintro e w3 ⟨rfl, hb⟩
  replace cX0_0 := cell_later hb cX0_0; replace cX0_1 := cell_later hb cX0_1; replace cX0_2 := cell_later hb cX0_2; replace cX0_3 := cell_later hb cX0_3; replace cX0_4 := cell_later hb cX0_4
  replace fX1_0 := frozen_later hb cX1_0 fX1_0; replace fX1_1 := frozen_later hb cX1_1 fX1_1; replace fX1_2 := frozen_later hb cX1_2 fX1_2; replace fX1_3 := frozen_later hb cX1_3 fX1_3; replace fX1_4 := frozen_later hb cX1_4 fX1_4; replace fX1_5 := frozen_later hb cX1_5 fX1_5; replace fX1_6 := frozen_later hb cX1_6 fX1_6; replace fX1_7 := frozen_later hb cX1_7 fX1_7
  replace cX1_0 := cell_later hb cX1_0; replace cX1_1 := cell_later hb cX1_1; replace cX1_2 := cell_later hb cX1_2; replace cX1_3 := cell_later hb cX1_3; replace cX1_4 := cell_later hb cX1_4; replace cX1_5 := cell_later hb cX1_5; replace cX1_6 := cell_later hb cX1_6; replace cX1_7 := cell_later hb cX1_7
  replace kk := bC kk hb
  clear hb
  refine hK.out _ _ ⟨cX0_0, cX0_1, cX0_2, cX0_3, cX0_4, trivial⟩ (fun hHeld => ?_)
  clear hK K
  try simp only [List.getElem_toArray, List.getElem_cons_zero, List.getElem_cons_succ, Act.put, List.setIfInBounds_toArray, List.set_cons_zero, List.set_cons_succ]
  refine wpAnyH_take (i := 5) (v := ?vq25) rfl (by kernel_rfl) (by kernel_rfl) (by kernel_rfl) (fun _ _ _ h => h) (Or.inl ⟨by rfl, ?yq25⟩) hHeld ?rq25
  case yq25 => (intro wq hb; obtain ⟨lq0, lq1, lq2, lq3, lq4, _⟩ := hb; go_simp; try (with_reducible rfl))
  try simp only [List.getElem_toArray, List.getElem_cons_zero, List.getElem_cons_succ, Act.put, List.setIfInBounds_toArray, List.set_cons_zero, List.set_cons_succ]
  refine wpAnyH_take (i := 7) (v := ?vq26) rfl (by kernel_rfl) (by kernel_rfl) (by kernel_rfl) (fun _ _ _ h => h) (Or.inl ⟨by rfl, ?yq26⟩) hHeld ?rq26
  case yq26 => (intro wq hb; obtain ⟨lq0, lq1, lq2, lq3, lq4, _⟩ := hb; go_simp; try (with_reducible rfl))
  try simp only [List.getElem_toArray, List.getElem_cons_zero, List.getElem_cons_succ, Act.put, List.setIfInBounds_toArray, List.set_cons_zero, List.set_cons_succ]
  clear hHeld
  refine wpAnyH_ready (rs := [8]) (by kernel_rfl) (by simp) ?_
  refine AllReadyH.cons rfl (fun K hK => ?_) AllReadyH.nil
  go_simp
  have neX0 : ¬ (w.heap.size + 1 = w.heap.size) := by omega
  have nfX0 : ¬ (w.heap.size = w.heap.size + 1) := by omega
  have KEY := Lib.hid (show ((((((((w3.setCell ⟨w.heap.size + 1, 0, none⟩ (.int .u8 f)).setCell ⟨w.heap.size + 1, 1, none⟩ (.int .i64 p)).setCell ⟨w.heap.size + 1, 2, none⟩ (.int .i64 em)).setCell ⟨w.heap.size + 1, 3, none⟩ (.bool ng)).setCell ⟨w.heap.size + 1, 4, none⟩ (.int .u8 c)).setCell ⟨w.heap.size + 1, 5, none⟩ (.int .i64 ex)).setCell ⟨w.heap.size + 1, 6, none⟩ (.int .u64 sh)).setCell ⟨w.heap.size + 1, 7, none⟩ (.int .u64 sl)).cell? ⟨w.heap.size, 0, none⟩ = some (.bool ng) ∧ ((((((((w3.setCell ⟨w.heap.size + 1, 0, none⟩ (.int .u8 f)).setCell ⟨w.heap.size + 1, 1, none⟩ (.int .i64 p)).setCell ⟨w.heap.size + 1, 2, none⟩ (.int .i64 em)).setCell ⟨w.heap.size + 1, 3, none⟩ (.bool ng)).setCell ⟨w.heap.size + 1, 4, none⟩ (.int .u8 c)).setCell ⟨w.heap.size + 1, 5, none⟩ (.int .i64 ex)).setCell ⟨w.heap.size + 1, 6, none⟩ (.int .u64 sh)).setCell ⟨w.heap.size + 1, 7, none⟩ (.int .u64 sl)).cell? ⟨w.heap.size, 1, none⟩ = some (.int .u8 c) ∧ ((((((((w3.setCell ⟨w.heap.size + 1, 0, none⟩ (.int .u8 f)).setCell ⟨w.heap.size + 1, 1, none⟩ (.int .i64 p)).setCell ⟨w.heap.size + 1, 2, none⟩ (.int .i64 em)).setCell ⟨w.heap.size + 1, 3, none⟩ (.bool ng)).setCell ⟨w.heap.size + 1, 4, none⟩ (.int .u8 c)).setCell ⟨w.heap.size + 1, 5, none⟩ (.int .i64 ex)).setCell ⟨w.heap.size + 1, 6, none⟩ (.int .u64 sh)).setCell ⟨w.heap.size + 1, 7, none⟩ (.int .u64 sl)).cell? ⟨w.heap.size, 2, none⟩ = some (.int .i64 ex) ∧ ((((((((w3.setCell ⟨w.heap.size + 1, 0, none⟩ (.int .u8 f)).setCell ⟨w.heap.size + 1, 1, none⟩ (.int .i64 p)).setCell ⟨w.heap.size + 1, 2, none⟩ (.int .i64 em)).setCell ⟨w.heap.size + 1, 3, none⟩ (.bool ng)).setCell ⟨w.heap.size + 1, 4, none⟩ (.int .u8 c)).setCell ⟨w.heap.size + 1, 5, none⟩ (.int .i64 ex)).setCell ⟨w.heap.size + 1, 6, none⟩ (.int .u64 sh)).setCell ⟨w.heap.size + 1, 7, none⟩ (.int .u64 sl)).cell? ⟨w.heap.size, 3, none⟩ = some (.int .u64 sh) ∧ ((((((((w3.setCell ⟨w.heap.size + 1, 0, none⟩ (.int .u8 f)).setCell ⟨w.heap.size + 1, 1, none⟩ (.int .i64 p)).setCell ⟨w.heap.size + 1, 2, none⟩ (.int .i64 em)).setCell ⟨w.heap.size + 1, 3, none⟩ (.bool ng)).setCell ⟨w.heap.size + 1, 4, none⟩ (.int .u8 c)).setCell ⟨w.heap.size + 1, 5, none⟩ (.int .i64 ex)).setCell ⟨w.heap.size + 1, 6, none⟩ (.int .u64 sh)).setCell ⟨w.heap.size + 1, 7, none⟩ (.int .u64 sl)).cell? ⟨w.heap.size, 4, none⟩ = some (.int .u64 sl) ∧ ((((((((w3.setCell ⟨w.heap.size + 1, 0, none⟩ (.int .u8 f)).setCell ⟨w.heap.size + 1, 1, none⟩ (.int .i64 p)).setCell ⟨w.heap.size + 1, 2, none⟩ (.int .i64 em)).setCell ⟨w.heap.size + 1, 3, none⟩ (.bool ng)).setCell ⟨w.heap.size + 1, 4, none⟩ (.int .u8 c)).setCell ⟨w.heap.size + 1, 5, none⟩ (.int .i64 ex)).setCell ⟨w.heap.size + 1, 6, none⟩ (.int .u64 sh)).setCell ⟨w.heap.size + 1, 7, none⟩ (.int .u64 sl)).cell? ⟨w.heap.size + 1, 0, none⟩ = some (.int .u8 f) ∧ ((((((((w3.setCell ⟨w.heap.size + 1, 0, none⟩ (.int .u8 f)).setCell ⟨w.heap.size + 1, 1, none⟩ (.int .i64 p)).setCell ⟨w.heap.size + 1, 2, none⟩ (.int .i64 em)).setCell ⟨w.heap.size + 1, 3, none⟩ (.bool ng)).setCell ⟨w.heap.size + 1, 4, none⟩ (.int .u8 c)).setCell ⟨w.heap.size + 1, 5, none⟩ (.int .i64 ex)).setCell ⟨w.heap.size + 1, 6, none⟩ (.int .u64 sh)).setCell ⟨w.heap.size + 1, 7, none⟩ (.int .u64 sl)).cell? ⟨w.heap.size + 1, 1, none⟩ = some (.int .i64 p) ∧ ((((((((w3.setCell ⟨w.heap.size + 1, 0, none⟩ (.int .u8 f)).setCell ⟨w.heap.size + 1, 1, none⟩ (.int .i64 p)).setCell ⟨w.heap.size + 1, 2, none⟩ (.int .i64 em)).setCell ⟨w.heap.size + 1, 3, none⟩ (.bool ng)).setCell ⟨w.heap.size + 1, 4, none⟩ (.int .u8 c)).setCell ⟨w.heap.size + 1, 5, none⟩ (.int .i64 ex)).setCell ⟨w.heap.size + 1, 6, none⟩ (.int .u64 sh)).setCell ⟨w.heap.size + 1, 7, none⟩ (.int .u64 sl)).cell? ⟨w.heap.size + 1, 2, none⟩ = some (.int .i64 em) ∧ ((((((((w3.setCell ⟨w.heap.size + 1, 0, none⟩ (.int .u8 f)).setCell ⟨w.heap.size + 1, 1, none⟩ (.int .i64 p)).setCell ⟨w.heap.size + 1, 2, none⟩ (.int .i64 em)).setCell ⟨w.heap.size + 1, 3, none⟩ (.bool ng)).setCell ⟨w.heap.size + 1, 4, none⟩ (.int .u8 c)).setCell ⟨w.heap.size + 1, 5, none⟩ (.int .i64 ex)).setCell ⟨w.heap.size + 1, 6, none⟩ (.int .u64 sh)).setCell ⟨w.heap.size + 1, 7, none⟩ (.int .u64 sl)).cell? ⟨w.heap.size + 1, 3, none⟩ = some (.bool ng) ∧ ((((((((w3.setCell ⟨w.heap.size + 1, 0, none⟩ (.int .u8 f)).setCell ⟨w.heap.size + 1, 1, none⟩ (.int .i64 p)).setCell ⟨w.heap.size + 1, 2, none⟩ (.int .i64 em)).setCell ⟨w.heap.size + 1, 3, none⟩ (.bool ng)).setCell ⟨w.heap.size + 1, 4, none⟩ (.int .u8 c)).setCell ⟨w.heap.size + 1, 5, none⟩ (.int .i64 ex)).setCell ⟨w.heap.size + 1, 6, none⟩ (.int .u64 sh)).setCell ⟨w.heap.size + 1, 7, none⟩ (.int .u64 sl)).cell? ⟨w.heap.size + 1, 4, none⟩ = some (.int .u8 c) ∧ ((((((((w3.setCell ⟨w.heap.size + 1, 0, none⟩ (.int .u8 f)).setCell ⟨w.heap.size + 1, 1, none⟩ (.int .i64 p)).setCell ⟨w.heap.size + 1, 2, none⟩ (.int .i64 em)).setCell ⟨w.heap.size + 1, 3, none⟩ (.bool ng)).setCell ⟨w.heap.size + 1, 4, none⟩ (.int .u8 c)).setCell ⟨w.heap.size + 1, 5, none⟩ (.int .i64 ex)).setCell ⟨w.heap.size + 1, 6, none⟩ (.int .u64 sh)).setCell ⟨w.heap.size + 1, 7, none⟩ (.int .u64 sl)).cell? ⟨w.heap.size + 1, 5, none⟩ = some (.int .i64 ex) ∧ ((((((((w3.setCell ⟨w.heap.size + 1, 0, none⟩ (.int .u8 f)).setCell ⟨w.heap.size + 1, 1, none⟩ (.int .i64 p)).setCell ⟨w.heap.size + 1, 2, none⟩ (.int .i64 em)).setCell ⟨w.heap.size + 1, 3, none⟩ (.bool ng)).setCell ⟨w.heap.size + 1, 4, none⟩ (.int .u8 c)).setCell ⟨w.heap.size + 1, 5, none⟩ (.int .i64 ex)).setCell ⟨w.heap.size + 1, 6, none⟩ (.int .u64 sh)).setCell ⟨w.heap.size + 1, 7, none⟩ (.int .u64 sl)).cell? ⟨w.heap.size + 1, 6, none⟩ = some (.int .u64 sh) ∧ ((((((((w3.setCell ⟨w.heap.size + 1, 0, none⟩ (.int .u8 f)).setCell ⟨w.heap.size + 1, 1, none⟩ (.int .i64 p)).setCell ⟨w.heap.size + 1, 2, none⟩ (.int .i64 em)).setCell ⟨w.heap.size + 1, 3, none⟩ (.bool ng)).setCell ⟨w.heap.size + 1, 4, none⟩ (.int .u8 c)).setCell ⟨w.heap.size + 1, 5, none⟩ (.int .i64 ex)).setCell ⟨w.heap.size + 1, 6, none⟩ (.int .u64 sh)).setCell ⟨w.heap.size + 1, 7, none⟩ (.int .u64 sl)).cell? ⟨w.heap.size + 1, 7, none⟩ = some (.int .u64 sl) ∧ ((((((((w3.setCell ⟨w.heap.size + 1, 0, none⟩ (.int .u8 f)).setCell ⟨w.heap.size + 1, 1, none⟩ (.int .i64 p)).setCell ⟨w.heap.size + 1, 2, none⟩ (.int .i64 em)).setCell ⟨w.heap.size + 1, 3, none⟩ (.bool ng)).setCell ⟨w.heap.size + 1, 4, none⟩ (.int .u8 c)).setCell ⟨w.heap.size + 1, 5, none⟩ (.int .i64 ex)).setCell ⟨w.heap.size + 1, 6, none⟩ (.int .u64 sh)).setCell ⟨w.heap.size + 1, 7, none⟩ (.int .u64 sl)).frozen? ⟨w.heap.size + 1, 0, none⟩ = false ∧ ((((((((w3.setCell ⟨w.heap.size + 1, 0, none⟩ (.int .u8 f)).setCell ⟨w.heap.size + 1, 1, none⟩ (.int .i64 p)).setCell ⟨w.heap.size + 1, 2, none⟩ (.int .i64 em)).setCell ⟨w.heap.size + 1, 3, none⟩ (.bool ng)).setCell ⟨w.heap.size + 1, 4, none⟩ (.int .u8 c)).setCell ⟨w.heap.size + 1, 5, none⟩ (.int .i64 ex)).setCell ⟨w.heap.size + 1, 6, none⟩ (.int .u64 sh)).setCell ⟨w.heap.size + 1, 7, none⟩ (.int .u64 sl)).frozen? ⟨w.heap.size + 1, 1, none⟩ = false ∧ ((((((((w3.setCell ⟨w.heap.size + 1, 0, none⟩ (.int .u8 f)).setCell ⟨w.heap.size + 1, 1, none⟩ (.int .i64 p)).setCell ⟨w.heap.size + 1, 2, none⟩ (.int .i64 em)).setCell ⟨w.heap.size + 1, 3, none⟩ (.bool ng)).setCell ⟨w.heap.size + 1, 4, none⟩ (.int .u8 c)).setCell ⟨w.heap.size + 1, 5, none⟩ (.int .i64 ex)).setCell ⟨w.heap.size + 1, 6, none⟩ (.int .u64 sh)).setCell ⟨w.heap.size + 1, 7, none⟩ (.int .u64 sl)).frozen? ⟨w.heap.size + 1, 2, none⟩ = false ∧ ((((((((w3.setCell ⟨w.heap.size + 1, 0, none⟩ (.int .u8 f)).setCell ⟨w.heap.size + 1, 1, none⟩ (.int .i64 p)).setCell ⟨w.heap.size + 1, 2, none⟩ (.int .i64 em)).setCell ⟨w.heap.size + 1, 3, none⟩ (.bool ng)).setCell ⟨w.heap.size + 1, 4, none⟩ (.int .u8 c)).setCell ⟨w.heap.size + 1, 5, none⟩ (.int .i64 ex)).setCell ⟨w.heap.size + 1, 6, none⟩ (.int .u64 sh)).setCell ⟨w.heap.size + 1, 7, none⟩ (.int .u64 sl)).frozen? ⟨w.heap.size + 1, 3, none⟩ = false ∧ ((((((((w3.setCell ⟨w.heap.size + 1, 0, none⟩ (.int .u8 f)).setCell ⟨w.heap.size + 1, 1, none⟩ (.int .i64 p)).setCell ⟨w.heap.size + 1, 2, none⟩ (.int .i64 em)).setCell ⟨w.heap.size + 1, 3, none⟩ (.bool ng)).setCell ⟨w.heap.size + 1, 4, none⟩ (.int .u8 c)).setCell ⟨w.heap.size + 1, 5, none⟩ (.int .i64 ex)).setCell ⟨w.heap.size + 1, 6, none⟩ (.int .u64 sh)).setCell ⟨w.heap.size + 1, 7, none⟩ (.int .u64 sl)).frozen? ⟨w.heap.size + 1, 4, none⟩ = false ∧ ((((((((w3.setCell ⟨w.heap.size + 1, 0, none⟩ (.int .u8 f)).setCell ⟨w.heap.size + 1, 1, none⟩ (.int .i64 p)).setCell ⟨w.heap.size + 1, 2, none⟩ (.int .i64 em)).setCell ⟨w.heap.size + 1, 3, none⟩ (.bool ng)).setCell ⟨w.heap.size + 1, 4, none⟩ (.int .u8 c)).setCell ⟨w.heap.size + 1, 5, none⟩ (.int .i64 ex)).setCell ⟨w.heap.size + 1, 6, none⟩ (.int .u64 sh)).setCell ⟨w.heap.size + 1, 7, none⟩ (.int .u64 sl)).frozen? ⟨w.heap.size + 1, 5, none⟩ = false ∧ ((((((((w3.setCell ⟨w.heap.size + 1, 0, none⟩ (.int .u8 f)).setCell ⟨w.heap.size + 1, 1, none⟩ (.int .i64 p)).setCell ⟨w.heap.size + 1, 2, none⟩ (.int .i64 em)).setCell ⟨w.heap.size + 1, 3, none⟩ (.bool ng)).setCell ⟨w.heap.size + 1, 4, none⟩ (.int .u8 c)).setCell ⟨w.heap.size + 1, 5, none⟩ (.int .i64 ex)).setCell ⟨w.heap.size + 1, 6, none⟩ (.int .u64 sh)).setCell ⟨w.heap.size + 1, 7, none⟩ (.int .u64 sl)).frozen? ⟨w.heap.size + 1, 6, none⟩ = false ∧ ((((((((w3.setCell ⟨w.heap.size + 1, 0, none⟩ (.int .u8 f)).setCell ⟨w.heap.size + 1, 1, none⟩ (.int .i64 p)).setCell ⟨w.heap.size + 1, 2, none⟩ (.int .i64 em)).setCell ⟨w.heap.size + 1, 3, none⟩ (.bool ng)).setCell ⟨w.heap.size + 1, 4, none⟩ (.int .u8 c)).setCell ⟨w.heap.size + 1, 5, none⟩ (.int .i64 ex)).setCell ⟨w.heap.size + 1, 6, none⟩ (.int .u64 sh)).setCell ⟨w.heap.size + 1, 7, none⟩ (.int .u64 sl)).frozen? ⟨w.heap.size + 1, 7, none⟩ = false ∧ Below w.heap.size w ((((((((w3.setCell ⟨w.heap.size + 1, 0, none⟩ (.int .u8 f)).setCell ⟨w.heap.size + 1, 1, none⟩ (.int .i64 p)).setCell ⟨w.heap.size + 1, 2, none⟩ (.int .i64 em)).setCell ⟨w.heap.size + 1, 3, none⟩ (.bool ng)).setCell ⟨w.heap.size + 1, 4, none⟩ (.int .u8 c)).setCell ⟨w.heap.size + 1, 5, none⟩ (.int .i64 ex)).setCell ⟨w.heap.size + 1, 6, none⟩ (.int .u64 sh)).setCell ⟨w.heap.size + 1, 7, none⟩ (.int .u64 sl)) from ⟨by go_simp, by go_simp, by go_simp, by go_simp, by go_simp, by go_simp, by go_simp, by go_simp, by go_simp, by go_simp, by go_simp, by go_simp, by go_simp, by go_simp, by go_simp, by go_simp, by go_simp, by go_simp, by go_simp, by go_simp, by go_simp, ((((((((kk.setCell (p := ⟨w.heap.size + 1, 0, none⟩) gX1 _).setCell (p := ⟨w.heap.size + 1, 1, none⟩) gX1 _).setCell (p := ⟨w.heap.size + 1, 2, none⟩) gX1 _).setCell (p := ⟨w.heap.size + 1, 3, none⟩) gX1 _).setCell (p := ⟨w.heap.size + 1, 4, none⟩) gX1 _).setCell (p := ⟨w.heap.size + 1, 5, none⟩) gX1 _).setCell (p := ⟨w.heap.size + 1, 6, none⟩) gX1 _).setCell (p := ⟨w.heap.size + 1, 7, none⟩) gX1 _)⟩)
  clear cX0_0 cX0_1 cX0_2 cX0_3 cX0_4 cX1_0 cX1_1 cX1_2 cX1_3 cX1_4 cX1_5 cX1_6 cX1_7 fX1_0 fX1_1 fX1_2 fX1_3 fX1_4 fX1_5 fX1_6 fX1_7 neX0 nfX0 kk
  refine forget_at (fun W => W.cell? ⟨w.heap.size, 0, none⟩ = some (.bool ng) ∧ W.cell? ⟨w.heap.size, 1, none⟩ = some (.int .u8 c) ∧ W.cell? ⟨w.heap.size, 2, none⟩ = some (.int .i64 ex) ∧ W.cell? ⟨w.heap.size, 3, none⟩ = some (.int .u64 sh) ∧ W.cell? ⟨w.heap.size, 4, none⟩ = some (.int .u64 sl) ∧ W.cell? ⟨w.heap.size + 1, 0, none⟩ = some (.int .u8 f) ∧ W.cell? ⟨w.heap.size + 1, 1, none⟩ = some (.int .i64 p) ∧ W.cell? ⟨w.heap.size + 1, 2, none⟩ = some (.int .i64 em) ∧ W.cell? ⟨w.heap.size + 1, 3, none⟩ = some (.bool ng) ∧ W.cell? ⟨w.heap.size + 1, 4, none⟩ = some (.int .u8 c) ∧ W.cell? ⟨w.heap.size + 1, 5, none⟩ = some (.int .i64 ex) ∧ W.cell? ⟨w.heap.size + 1, 6, none⟩ = some (.int .u64 sh) ∧ W.cell? ⟨w.heap.size + 1, 7, none⟩ = some (.int .u64 sl) ∧ W.frozen? ⟨w.heap.size + 1, 0, none⟩ = false ∧ W.frozen? ⟨w.heap.size + 1, 1, none⟩ = false ∧ W.frozen? ⟨w.heap.size + 1, 2, none⟩ = false ∧ W.frozen? ⟨w.heap.size + 1, 3, none⟩ = false ∧ W.frozen? ⟨w.heap.size + 1, 4, none⟩ = false ∧ W.frozen? ⟨w.heap.size + 1, 5, none⟩ = false ∧ W.frozen? ⟨w.heap.size + 1, 6, none⟩ = false ∧ W.frozen? ⟨w.heap.size + 1, 7, none⟩ = false ∧ Below w.heap.size w W) KEY.out (fun w4 hz => ?_)
  obtain ⟨cX0_0, cX0_1, cX0_2, cX0_3, cX0_4, cX1_0, cX1_1, cX1_2, cX1_3, cX1_4, cX1_5, cX1_6, cX1_7, fX1_0, fX1_1, fX1_2, fX1_3, fX1_4, fX1_5, fX1_6, fX1_7, kk⟩ := hz
  clear KEY
  refine hK.out _ _ ⟨cX0_0, cX0_1, cX0_2, cX0_3, cX0_4, trivial⟩ (fun hHeld => ?_)
  clear hK K
  try simp only [List.getElem_toArray, List.getElem_cons_zero, List.getElem_cons_succ, Act.put, List.setIfInBounds_toArray, List.set_cons_zero, List.set_cons_succ]
  clear hHeld
  refine wpAnyH_done (by kernel_rfl) ?_ _
  refine NoPanic.normal ?_
  clear cX0_0 cX0_1 cX0_2 cX0_3 cX0_4 sX0
  replace sX1 : w.heap.size + 1 < w4.heap.size ∧ w.heap.size < w4.heap.size := by have h : w.heap.size + 1 < w4.heap.size := World.block_lt_of_cell? _ _ cX1_0; exact ⟨h, by omega⟩
  go_wp2_with fail
  refine bodyPost_ret (v := .agg #[.int .u8 f, .int .i64 p, .int .i64 em, .bool ng, .int .u8 c, .int .i64 ex, .int .u64 sh, .int .u64 sl]) ?_ rfl ⟨rfl, kk⟩
  simp [results, Tryz.results66, go_sem, cX1_0, cX1_1, cX1_2, cX1_3, cX1_4, cX1_5, cX1_6, cX1_7]

set_option maxHeartbeats 4000000 in
set_option maxRecDepth 100000 in
theorem fld_un (f p em c x0 s0h s0l ex mh ml sh sl by0 u v x : Int) (ng : Bool)
    (h0 : Hid (∀ w, Calls Tryz.prog 101 #[.agg #[.int .u64 mh, .int .u64 ml]] w fun e w' => e = .returned (.tuple #[.agg #[.int .u64 sh, .int .u64 sl], .int .i64 by0]) ∧ Below w.heap.size w w'))
    (h1 : Hid (∀ w, FTab w → Calls Tryz.prog 102 #[.agg #[.int .u8 f, .int .i64 p, .int .i64 em], .int .i64 ex] w fun e w' => e = .returned (.int .i64 u) ∧ Below w.heap.size w w')) (v1 : IntKind.i64.wrap (u + 127) = v) (v1x : wrap64 (u + 127) = v) (v2 : IntKind.i64.wrap (v - by0) = x) (w : World) (ft : FTab w) :
    Calls Tryz.prog 67 #[.agg #[.int .u8 f, .int .i64 p, .int .i64 em, .bool ng, .int .u8 c, .int .i64 x0, .int .u64 s0h, .int .u64 s0l], .int .i64 ex, .agg #[.int .u64 mh, .int .u64 ml]] w fun e w' => e = .returned (.agg #[.bool ng, .int .u8 c, .int .i64 x, .int .u64 sh, .int .u64 sl]) ∧ Below w.heap.size w w' := by
  go_enter Tryz.func67, Tryz.ntmps67
  go_wp2_with fail
  (with_reducible refine (h0.out _).mono ?_); rintro e w1 ⟨rfl, hb⟩
  have hz := bC (bA (bA (bA (Below.refl _ _) _) _) _) hb
  have gX0 : w.heap.size ≤ w.heap.size := by omega
  have gX2 : w.heap.size ≤ w.heap.size + 1 + 1 := by omega
  have cX0_0 := cell_later hb (a := ⟨w.heap.size, 0, none⟩) (v := .int .u8 f) (by go_simp)
  have cX0_1 := cell_later hb (a := ⟨w.heap.size, 1, none⟩) (v := .int .i64 p) (by go_simp)
  have cX0_2 := cell_later hb (a := ⟨w.heap.size, 2, none⟩) (v := .int .i64 em) (by go_simp)
  have cX0_3 := cell_later hb (a := ⟨w.heap.size, 3, none⟩) (v := .bool ng) (by go_simp)
  have cX0_4 := cell_later hb (a := ⟨w.heap.size, 4, none⟩) (v := .int .u8 c) (by go_simp)
  have cX0_5 := cell_later hb (a := ⟨w.heap.size, 5, none⟩) (v := .int .i64 x0) (by go_simp)
  have cX0_6 := cell_later hb (a := ⟨w.heap.size, 6, none⟩) (v := .int .u64 s0h) (by go_simp)
  have cX0_7 := cell_later hb (a := ⟨w.heap.size, 7, none⟩) (v := .int .u64 s0l) (by go_simp)
  have sX0 : w.heap.size < w1.heap.size := World.block_lt_of_cell? _ _ cX0_0
  have fX0_0 := frozen_later hb (a := ⟨w.heap.size, 0, none⟩) (v := .int .u8 f) (by go_simp) (by go_simp)
  have fX0_1 := frozen_later hb (a := ⟨w.heap.size, 1, none⟩) (v := .int .i64 p) (by go_simp) (by go_simp)
  have fX0_2 := frozen_later hb (a := ⟨w.heap.size, 2, none⟩) (v := .int .i64 em) (by go_simp) (by go_simp)
  have fX0_3 := frozen_later hb (a := ⟨w.heap.size, 3, none⟩) (v := .bool ng) (by go_simp) (by go_simp)
  have fX0_4 := frozen_later hb (a := ⟨w.heap.size, 4, none⟩) (v := .int .u8 c) (by go_simp) (by go_simp)
  have fX0_5 := frozen_later hb (a := ⟨w.heap.size, 5, none⟩) (v := .int .i64 x0) (by go_simp) (by go_simp)
  have fX0_6 := frozen_later hb (a := ⟨w.heap.size, 6, none⟩) (v := .int .u64 s0h) (by go_simp) (by go_simp)
  have fX0_7 := frozen_later hb (a := ⟨w.heap.size, 7, none⟩) (v := .int .u64 s0l) (by go_simp) (by go_simp)
  have cX2_0 := cell_later hb (a := ⟨w.heap.size + 1 + 1, 0, none⟩) (v := .bool false) (by go_simp)
  have cX2_1 := cell_later hb (a := ⟨w.heap.size + 1 + 1, 1, none⟩) (v := .int .u8 0) (by go_simp)
  have cX2_2 := cell_later hb (a := ⟨w.heap.size + 1 + 1, 2, none⟩) (v := .int .i64 0) (by go_simp)
  have cX2_3 := cell_later hb (a := ⟨w.heap.size + 1 + 1, 3, none⟩) (v := .int .u64 0) (by go_simp)
  have cX2_4 := cell_later hb (a := ⟨w.heap.size + 1 + 1, 4, none⟩) (v := .int .u64 0) (by go_simp)
  have sX2 : w.heap.size + 1 + 1 < w1.heap.size ∧ w.heap.size + 1 < w1.heap.size := by have h : w.heap.size + 1 + 1 < w1.heap.size := World.block_lt_of_cell? _ _ cX2_0; exact ⟨h, by omega⟩
  have fX2_0 := frozen_later hb (a := ⟨w.heap.size + 1 + 1, 0, none⟩) (v := .bool false) (by go_simp) (by go_simp)
  have fX2_1 := frozen_later hb (a := ⟨w.heap.size + 1 + 1, 1, none⟩) (v := .int .u8 0) (by go_simp) (by go_simp)
  have fX2_2 := frozen_later hb (a := ⟨w.heap.size + 1 + 1, 2, none⟩) (v := .int .i64 0) (by go_simp) (by go_simp)
  have fX2_3 := frozen_later hb (a := ⟨w.heap.size + 1 + 1, 3, none⟩) (v := .int .u64 0) (by go_simp) (by go_simp)
  have fX2_4 := frozen_later hb (a := ⟨w.heap.size + 1 + 1, 4, none⟩) (v := .int .u64 0) (by go_simp) (by go_simp)
  have kk := hz
  clear hb hz
  go_wp2_with fail
  have nX0_X3 : w.heap.size < w1.heap.size := by omega
  have nX2_X3 : w.heap.size + 1 + 1 < w1.heap.size := by omega
  refine wp_forget (fun W => W.cell? ⟨w.heap.size, 0, none⟩ = some (.int .u8 f) ∧ W.cell? ⟨w.heap.size, 1, none⟩ = some (.int .i64 p) ∧ W.cell? ⟨w.heap.size, 2, none⟩ = some (.int .i64 em) ∧ W.cell? ⟨w.heap.size, 3, none⟩ = some (.bool ng) ∧ W.cell? ⟨w.heap.size, 4, none⟩ = some (.int .u8 c) ∧ W.cell? ⟨w.heap.size, 5, none⟩ = some (.int .i64 x0) ∧ W.cell? ⟨w.heap.size, 6, none⟩ = some (.int .u64 s0h) ∧ W.cell? ⟨w.heap.size, 7, none⟩ = some (.int .u64 s0l) ∧ W.cell? ⟨w.heap.size + 1 + 1, 0, none⟩ = some (.bool false) ∧ W.cell? ⟨w.heap.size + 1 + 1, 1, none⟩ = some (.int .u8 0) ∧ W.cell? ⟨w.heap.size + 1 + 1, 2, none⟩ = some (.int .i64 0) ∧ W.cell? ⟨w.heap.size + 1 + 1, 3, none⟩ = some (.int .u64 0) ∧ W.cell? ⟨w.heap.size + 1 + 1, 4, none⟩ = some (.int .u64 0) ∧ W.cell? ⟨w1.heap.size, 0, none⟩ = some (.int .u64 sh) ∧ W.cell? ⟨w1.heap.size, 1, none⟩ = some (.int .u64 sl) ∧ W.frozen? ⟨w.heap.size, 0, none⟩ = false ∧ W.frozen? ⟨w.heap.size, 1, none⟩ = false ∧ W.frozen? ⟨w.heap.size, 2, none⟩ = false ∧ W.frozen? ⟨w.heap.size, 3, none⟩ = false ∧ W.frozen? ⟨w.heap.size, 4, none⟩ = false ∧ W.frozen? ⟨w.heap.size, 5, none⟩ = false ∧ W.frozen? ⟨w.heap.size, 6, none⟩ = false ∧ W.frozen? ⟨w.heap.size, 7, none⟩ = false ∧ W.frozen? ⟨w.heap.size + 1 + 1, 0, none⟩ = false ∧ W.frozen? ⟨w.heap.size + 1 + 1, 1, none⟩ = false ∧ W.frozen? ⟨w.heap.size + 1 + 1, 2, none⟩ = false ∧ W.frozen? ⟨w.heap.size + 1 + 1, 3, none⟩ = false ∧ W.frozen? ⟨w.heap.size + 1 + 1, 4, none⟩ = false ∧ Below w.heap.size w W) ⟨cell_later (bA (Below.refl _ _) _) cX0_0, cell_later (bA (Below.refl _ _) _) cX0_1, cell_later (bA (Below.refl _ _) _) cX0_2, cell_later (bA (Below.refl _ _) _) cX0_3, cell_later (bA (Below.refl _ _) _) cX0_4, cell_later (bA (Below.refl _ _) _) cX0_5, cell_later (bA (Below.refl _ _) _) cX0_6, cell_later (bA (Below.refl _ _) _) cX0_7, cell_later (bA (Below.refl _ _) _) cX2_0, cell_later (bA (Below.refl _ _) _) cX2_1, cell_later (bA (Below.refl _ _) _) cX2_2, cell_later (bA (Below.refl _ _) _) cX2_3, cell_later (bA (Below.refl _ _) _) cX2_4, by go_simp, by go_simp, frozen_later (bA (Below.refl _ _) _) cX0_0 fX0_0, frozen_later (bA (Below.refl _ _) _) cX0_1 fX0_1, frozen_later (bA (Below.refl _ _) _) cX0_2 fX0_2, frozen_later (bA (Below.refl _ _) _) cX0_3 fX0_3, frozen_later (bA (Below.refl _ _) _) cX0_4 fX0_4, frozen_later (bA (Below.refl _ _) _) cX0_5 fX0_5, frozen_later (bA (Below.refl _ _) _) cX0_6 fX0_6, frozen_later (bA (Below.refl _ _) _) cX0_7 fX0_7, frozen_later (bA (Below.refl _ _) _) cX2_0 fX2_0, frozen_later (bA (Below.refl _ _) _) cX2_1 fX2_1, frozen_later (bA (Below.refl _ _) _) cX2_2 fX2_2, frozen_later (bA (Below.refl _ _) _) cX2_3 fX2_3, frozen_later (bA (Below.refl _ _) _) cX2_4 fX2_4, bC kk (bA (Below.refl _ _) _)⟩ (fun w2 hst => ?_)
  clear cX0_0 cX0_1 cX0_2 cX0_3 cX0_4 cX0_5 cX0_6 cX0_7 sX0 fX0_0 fX0_1 fX0_2 fX0_3 fX0_4 fX0_5 fX0_6 fX0_7 cX2_0 cX2_1 cX2_2 cX2_3 cX2_4 sX2 fX2_0 fX2_1 fX2_2 fX2_3 fX2_4 kk
  obtain ⟨cX0_0, cX0_1, cX0_2, cX0_3, cX0_4, cX0_5, cX0_6, cX0_7, cX2_0, cX2_1, cX2_2, cX2_3, cX2_4, cX3_0, cX3_1, fX0_0, fX0_1, fX0_2, fX0_3, fX0_4, fX0_5, fX0_6, fX0_7, fX2_0, fX2_1, fX2_2, fX2_3, fX2_4, kk⟩ := hst
  have sX0 : w.heap.size < w2.heap.size := World.block_lt_of_cell? _ _ cX0_0
  have sX2 : w.heap.size + 1 + 1 < w2.heap.size ∧ w.heap.size + 1 < w2.heap.size := by have h : w.heap.size + 1 + 1 < w2.heap.size := World.block_lt_of_cell? _ _ cX2_0; exact ⟨h, by omega⟩
  have sX3 : w1.heap.size < w2.heap.size := World.block_lt_of_cell? _ _ cX3_0
  refine wp_region_noPanic ?_
  refine wp_region_held_drew (S := fun w' => w'.cell? ⟨w1.heap.size, 0, none⟩ = some (.int .u64 sh) ∧ w'.cell? ⟨w1.heap.size, 1, none⟩ = some (.int .u64 sl) ∧ w'.cell? ⟨w.heap.size, 0, none⟩ = some (.int .u8 f) ∧ w'.cell? ⟨w.heap.size, 1, none⟩ = some (.int .i64 p) ∧ w'.cell? ⟨w.heap.size, 2, none⟩ = some (.int .i64 em) ∧ True) (by kernel_rfl) ⟨cell_later (Below.refl _ _).drew cX3_0, cell_later (Below.refl _ _).drew cX3_1, cell_later (Below.refl _ _).drew cX0_0, cell_later (Below.refl _ _).drew cX0_1, cell_later (Below.refl _ _).drew cX0_2, trivial⟩ (fun hHeld => ?_)
  replace fX0_0 := frozen_later (Below.refl _ _).drew cX0_0 fX0_0; replace fX0_1 := frozen_later (Below.refl _ _).drew cX0_1 fX0_1; replace fX0_2 := frozen_later (Below.refl _ _).drew cX0_2 fX0_2; replace fX0_3 := frozen_later (Below.refl _ _).drew cX0_3 fX0_3; replace fX0_4 := frozen_later (Below.refl _ _).drew cX0_4 fX0_4; replace fX0_5 := frozen_later (Below.refl _ _).drew cX0_5 fX0_5; replace fX0_6 := frozen_later (Below.refl _ _).drew cX0_6 fX0_6; replace fX0_7 := frozen_later (Below.refl _ _).drew cX0_7 fX0_7
  replace cX0_0 := cell_later (Below.refl _ _).drew cX0_0; replace cX0_1 := cell_later (Below.refl _ _).drew cX0_1; replace cX0_2 := cell_later (Below.refl _ _).drew cX0_2; replace cX0_3 := cell_later (Below.refl _ _).drew cX0_3; replace cX0_4 := cell_later (Below.refl _ _).drew cX0_4; replace cX0_5 := cell_later (Below.refl _ _).drew cX0_5; replace cX0_6 := cell_later (Below.refl _ _).drew cX0_6; replace cX0_7 := cell_later (Below.refl _ _).drew cX0_7
  replace fX2_0 := frozen_later (Below.refl _ _).drew cX2_0 fX2_0; replace fX2_1 := frozen_later (Below.refl _ _).drew cX2_1 fX2_1; replace fX2_2 := frozen_later (Below.refl _ _).drew cX2_2 fX2_2; replace fX2_3 := frozen_later (Below.refl _ _).drew cX2_3 fX2_3; replace fX2_4 := frozen_later (Below.refl _ _).drew cX2_4 fX2_4
  replace cX2_0 := cell_later (Below.refl _ _).drew cX2_0; replace cX2_1 := cell_later (Below.refl _ _).drew cX2_1; replace cX2_2 := cell_later (Below.refl _ _).drew cX2_2; replace cX2_3 := cell_later (Below.refl _ _).drew cX2_3; replace cX2_4 := cell_later (Below.refl _ _).drew cX2_4
  replace cX3_0 := cell_later (Below.refl _ _).drew cX3_0; replace cX3_1 := cell_later (Below.refl _ _).drew cX3_1
  replace kk := bC kk (Below.refl _ _).drew
  refine wpAnyH_take (i := 0) (v := ?vq27) rfl (by kernel_rfl) (by kernel_rfl) (by kernel_rfl) (fun _ _ _ h => h) (Or.inl ⟨by rfl, ?yq27⟩) hHeld ?rq27
  case yq27 => (intro wq hb; obtain ⟨lq0, lq1, lq2, lq3, lq4, _⟩ := hb; go_simp; try (with_reducible rfl))
  try simp only [List.getElem_toArray, List.getElem_cons_zero, List.getElem_cons_succ, Act.put, List.setIfInBounds_toArray, List.set_cons_zero, List.set_cons_succ]
  refine wpAnyH_take (i := 1) (v := ?vq28) rfl (by kernel_rfl) (by kernel_rfl) (by kernel_rfl) (fun _ _ _ h => h) (Or.inl ⟨by rfl, ?yq28⟩) hHeld ?rq28
  case yq28 => (intro wq hb; obtain ⟨lq0, lq1, lq2, lq3, lq4, _⟩ := hb; go_simp; try (with_reducible rfl))
  try simp only [List.getElem_toArray, List.getElem_cons_zero, List.getElem_cons_succ, Act.put, List.setIfInBounds_toArray, List.set_cons_zero, List.set_cons_succ]
  refine wpAnyH_take (i := 2) (v := ?vq29) rfl (by kernel_rfl) (by kernel_rfl) (by kernel_rfl) (fun _ _ _ h => h) (Or.inl ⟨by rfl, ?yq29⟩) hHeld ?rq29
  case yq29 => (intro wq hb; obtain ⟨lq0, lq1, lq2, lq3, lq4, _⟩ := hb; go_simp; try (with_reducible rfl))
  try simp only [List.getElem_toArray, List.getElem_cons_zero, List.getElem_cons_succ, Act.put, List.setIfInBounds_toArray, List.set_cons_zero, List.set_cons_succ]
  refine wpAnyH_take (i := 3) (v := ?vq30) rfl (by kernel_rfl) (by kernel_rfl) (by kernel_rfl) (fun _ _ _ h => h) (Or.inl ⟨by rfl, ?yq30⟩) hHeld ?rq30
  case yq30 => (intro wq hb; obtain ⟨lq0, lq1, lq2, lq3, lq4, _⟩ := hb; go_simp; try (with_reducible rfl))
  try simp only [List.getElem_toArray, List.getElem_cons_zero, List.getElem_cons_succ, Act.put, List.setIfInBounds_toArray, List.set_cons_zero, List.set_cons_succ]
  refine wpAnyH_take (i := 6) (v := ?vq31) rfl (by kernel_rfl) (by kernel_rfl) (by kernel_rfl) (fun _ _ _ h => h) (Or.inl ⟨by rfl, ?yq31⟩) hHeld ?rq31
  case yq31 => (intro wq hb; obtain ⟨lq0, lq1, lq2, lq3, lq4, _⟩ := hb; go_simp; try (with_reducible rfl))
  try simp only [List.getElem_toArray, List.getElem_cons_zero, List.getElem_cons_succ, Act.put, List.setIfInBounds_toArray, List.set_cons_zero, List.set_cons_succ]
  refine wpAnyH_take (i := 8) (v := ?vq32) rfl (by kernel_rfl) (by kernel_rfl) (by kernel_rfl) (fun _ _ _ h => h) (Or.inl ⟨by rfl, ?yq32⟩) hHeld ?rq32
  case yq32 => (intro wq hb; obtain ⟨lq0, lq1, lq2, lq3, lq4, _⟩ := hb; go_simp; try (with_reducible rfl))
  try simp only [List.getElem_toArray, List.getElem_cons_zero, List.getElem_cons_succ, Act.put, List.setIfInBounds_toArray, List.set_cons_zero, List.set_cons_succ]
  refine wpAnyH_take (i := 9) (v := ?vq33) rfl (by kernel_rfl) (by kernel_rfl) (by kernel_rfl) (fun _ _ _ h => h) (Or.inl ⟨by rfl, ?yq33⟩) hHeld ?rq33
  case yq33 => (intro wq hb; obtain ⟨lq0, lq1, lq2, lq3, lq4, _⟩ := hb; go_simp; try (with_reducible rfl))
  try simp only [List.getElem_toArray, List.getElem_cons_zero, List.getElem_cons_succ, Act.put, List.setIfInBounds_toArray, List.set_cons_zero, List.set_cons_succ]
  clear hHeld
  refine wpAnyH_ready (rs := [4]) (by kernel_rfl) (by simp) ?_
  refine AllReadyH.cons rfl (fun K hK => ?_) AllReadyH.nil
  go_simp
  (with_reducible refine (h1.out _ (ft.later kk)).mono ?_); rintro e w3 ⟨rfl, hb⟩
  replace fX0_0 := frozen_later hb cX0_0 fX0_0; replace fX0_1 := frozen_later hb cX0_1 fX0_1; replace fX0_2 := frozen_later hb cX0_2 fX0_2; replace fX0_3 := frozen_later hb cX0_3 fX0_3; replace fX0_4 := frozen_later hb cX0_4 fX0_4; replace fX0_5 := frozen_later hb cX0_5 fX0_5; replace fX0_6 := frozen_later hb cX0_6 fX0_6; replace fX0_7 := frozen_later hb cX0_7 fX0_7
  replace cX0_0 := cell_later hb cX0_0; replace cX0_1 := cell_later hb cX0_1; replace cX0_2 := cell_later hb cX0_2; replace cX0_3 := cell_later hb cX0_3; replace cX0_4 := cell_later hb cX0_4; replace cX0_5 := cell_later hb cX0_5; replace cX0_6 := cell_later hb cX0_6; replace cX0_7 := cell_later hb cX0_7
  replace fX2_0 := frozen_later hb cX2_0 fX2_0; replace fX2_1 := frozen_later hb cX2_1 fX2_1; replace fX2_2 := frozen_later hb cX2_2 fX2_2; replace fX2_3 := frozen_later hb cX2_3 fX2_3; replace fX2_4 := frozen_later hb cX2_4 fX2_4
  replace cX2_0 := cell_later hb cX2_0; replace cX2_1 := cell_later hb cX2_1; replace cX2_2 := cell_later hb cX2_2; replace cX2_3 := cell_later hb cX2_3; replace cX2_4 := cell_later hb cX2_4
  replace cX3_0 := cell_later hb cX3_0; replace cX3_1 := cell_later hb cX3_1
  replace kk := bC kk hb
  clear hb
  refine hK.out _ _ ⟨cX3_0, cX3_1, cX0_0, cX0_1, cX0_2, trivial⟩ (fun hHeld => ?_)
  clear hK K
  try simp only [List.getElem_toArray, List.getElem_cons_zero, List.getElem_cons_succ, Act.put, List.setIfInBounds_toArray, List.set_cons_zero, List.set_cons_succ]
  refine wpAnyH_take (i := 5) (v := ?vq34) rfl (by kernel_rfl) (by kernel_rfl) (by kernel_rfl) (fun _ _ _ h => h) (Or.inl ⟨by rfl, ?yq34⟩) hHeld ?rq34
  case yq34 => (intro wq hb; obtain ⟨lq0, lq1, lq2, lq3, lq4, _⟩ := hb; go_simp; try (with_reducible rfl))
  try simp only [List.getElem_toArray, List.getElem_cons_zero, List.getElem_cons_succ, Act.put, List.setIfInBounds_toArray, List.set_cons_zero, List.set_cons_succ]
  refine wpAnyH_take (i := 7) (v := ?vq35) rfl (by kernel_rfl) (by kernel_rfl) (by kernel_rfl) (fun _ _ _ h => h) (Or.inl ⟨by rfl, ?yq35⟩) hHeld ?rq35
  case yq35 => (intro wq hb; obtain ⟨lq0, lq1, lq2, lq3, lq4, _⟩ := hb; go_simp; try (with_reducible rfl))
  try simp only [List.getElem_toArray, List.getElem_cons_zero, List.getElem_cons_succ, Act.put, List.setIfInBounds_toArray, List.set_cons_zero, List.set_cons_succ]
  clear hHeld
  refine wpAnyH_ready (rs := [10]) (by kernel_rfl) (by simp) ?_
  refine AllReadyH.cons rfl (fun K hK => ?_) AllReadyH.nil
  go_simp
  have neX2 : ¬ (w.heap.size = w.heap.size + 1 + 1) := by omega
  have nfX2 : ¬ (w.heap.size + 1 + 1 = w.heap.size) := by omega
  have neX3 : ¬ (w.heap.size = w1.heap.size) := by omega
  have nfX3 : ¬ (w1.heap.size = w.heap.size) := by omega
  have KEY := Lib.hid (show ((w3.setCell ⟨w.heap.size, 6, none⟩ (.int .u64 sh)).setCell ⟨w.heap.size, 7, none⟩ (.int .u64 sl)).cell? ⟨w.heap.size, 0, none⟩ = some (.int .u8 f) ∧ ((w3.setCell ⟨w.heap.size, 6, none⟩ (.int .u64 sh)).setCell ⟨w.heap.size, 7, none⟩ (.int .u64 sl)).cell? ⟨w.heap.size, 1, none⟩ = some (.int .i64 p) ∧ ((w3.setCell ⟨w.heap.size, 6, none⟩ (.int .u64 sh)).setCell ⟨w.heap.size, 7, none⟩ (.int .u64 sl)).cell? ⟨w.heap.size, 2, none⟩ = some (.int .i64 em) ∧ ((w3.setCell ⟨w.heap.size, 6, none⟩ (.int .u64 sh)).setCell ⟨w.heap.size, 7, none⟩ (.int .u64 sl)).cell? ⟨w.heap.size, 3, none⟩ = some (.bool ng) ∧ ((w3.setCell ⟨w.heap.size, 6, none⟩ (.int .u64 sh)).setCell ⟨w.heap.size, 7, none⟩ (.int .u64 sl)).cell? ⟨w.heap.size, 4, none⟩ = some (.int .u8 c) ∧ ((w3.setCell ⟨w.heap.size, 6, none⟩ (.int .u64 sh)).setCell ⟨w.heap.size, 7, none⟩ (.int .u64 sl)).cell? ⟨w.heap.size, 5, none⟩ = some (.int .i64 x0) ∧ ((w3.setCell ⟨w.heap.size, 6, none⟩ (.int .u64 sh)).setCell ⟨w.heap.size, 7, none⟩ (.int .u64 sl)).cell? ⟨w.heap.size, 6, none⟩ = some (.int .u64 sh) ∧ ((w3.setCell ⟨w.heap.size, 6, none⟩ (.int .u64 sh)).setCell ⟨w.heap.size, 7, none⟩ (.int .u64 sl)).cell? ⟨w.heap.size, 7, none⟩ = some (.int .u64 sl) ∧ ((w3.setCell ⟨w.heap.size, 6, none⟩ (.int .u64 sh)).setCell ⟨w.heap.size, 7, none⟩ (.int .u64 sl)).frozen? ⟨w.heap.size, 0, none⟩ = false ∧ ((w3.setCell ⟨w.heap.size, 6, none⟩ (.int .u64 sh)).setCell ⟨w.heap.size, 7, none⟩ (.int .u64 sl)).frozen? ⟨w.heap.size, 1, none⟩ = false ∧ ((w3.setCell ⟨w.heap.size, 6, none⟩ (.int .u64 sh)).setCell ⟨w.heap.size, 7, none⟩ (.int .u64 sl)).frozen? ⟨w.heap.size, 2, none⟩ = false ∧ ((w3.setCell ⟨w.heap.size, 6, none⟩ (.int .u64 sh)).setCell ⟨w.heap.size, 7, none⟩ (.int .u64 sl)).frozen? ⟨w.heap.size, 3, none⟩ = false ∧ ((w3.setCell ⟨w.heap.size, 6, none⟩ (.int .u64 sh)).setCell ⟨w.heap.size, 7, none⟩ (.int .u64 sl)).frozen? ⟨w.heap.size, 4, none⟩ = false ∧ ((w3.setCell ⟨w.heap.size, 6, none⟩ (.int .u64 sh)).setCell ⟨w.heap.size, 7, none⟩ (.int .u64 sl)).frozen? ⟨w.heap.size, 5, none⟩ = false ∧ ((w3.setCell ⟨w.heap.size, 6, none⟩ (.int .u64 sh)).setCell ⟨w.heap.size, 7, none⟩ (.int .u64 sl)).frozen? ⟨w.heap.size, 6, none⟩ = false ∧ ((w3.setCell ⟨w.heap.size, 6, none⟩ (.int .u64 sh)).setCell ⟨w.heap.size, 7, none⟩ (.int .u64 sl)).frozen? ⟨w.heap.size, 7, none⟩ = false ∧ ((w3.setCell ⟨w.heap.size, 6, none⟩ (.int .u64 sh)).setCell ⟨w.heap.size, 7, none⟩ (.int .u64 sl)).cell? ⟨w.heap.size + 1 + 1, 0, none⟩ = some (.bool false) ∧ ((w3.setCell ⟨w.heap.size, 6, none⟩ (.int .u64 sh)).setCell ⟨w.heap.size, 7, none⟩ (.int .u64 sl)).cell? ⟨w.heap.size + 1 + 1, 1, none⟩ = some (.int .u8 0) ∧ ((w3.setCell ⟨w.heap.size, 6, none⟩ (.int .u64 sh)).setCell ⟨w.heap.size, 7, none⟩ (.int .u64 sl)).cell? ⟨w.heap.size + 1 + 1, 2, none⟩ = some (.int .i64 0) ∧ ((w3.setCell ⟨w.heap.size, 6, none⟩ (.int .u64 sh)).setCell ⟨w.heap.size, 7, none⟩ (.int .u64 sl)).cell? ⟨w.heap.size + 1 + 1, 3, none⟩ = some (.int .u64 0) ∧ ((w3.setCell ⟨w.heap.size, 6, none⟩ (.int .u64 sh)).setCell ⟨w.heap.size, 7, none⟩ (.int .u64 sl)).cell? ⟨w.heap.size + 1 + 1, 4, none⟩ = some (.int .u64 0) ∧ ((w3.setCell ⟨w.heap.size, 6, none⟩ (.int .u64 sh)).setCell ⟨w.heap.size, 7, none⟩ (.int .u64 sl)).frozen? ⟨w.heap.size + 1 + 1, 0, none⟩ = false ∧ ((w3.setCell ⟨w.heap.size, 6, none⟩ (.int .u64 sh)).setCell ⟨w.heap.size, 7, none⟩ (.int .u64 sl)).frozen? ⟨w.heap.size + 1 + 1, 1, none⟩ = false ∧ ((w3.setCell ⟨w.heap.size, 6, none⟩ (.int .u64 sh)).setCell ⟨w.heap.size, 7, none⟩ (.int .u64 sl)).frozen? ⟨w.heap.size + 1 + 1, 2, none⟩ = false ∧ ((w3.setCell ⟨w.heap.size, 6, none⟩ (.int .u64 sh)).setCell ⟨w.heap.size, 7, none⟩ (.int .u64 sl)).frozen? ⟨w.heap.size + 1 + 1, 3, none⟩ = false ∧ ((w3.setCell ⟨w.heap.size, 6, none⟩ (.int .u64 sh)).setCell ⟨w.heap.size, 7, none⟩ (.int .u64 sl)).frozen? ⟨w.heap.size + 1 + 1, 4, none⟩ = false ∧ ((w3.setCell ⟨w.heap.size, 6, none⟩ (.int .u64 sh)).setCell ⟨w.heap.size, 7, none⟩ (.int .u64 sl)).cell? ⟨w1.heap.size, 0, none⟩ = some (.int .u64 sh) ∧ ((w3.setCell ⟨w.heap.size, 6, none⟩ (.int .u64 sh)).setCell ⟨w.heap.size, 7, none⟩ (.int .u64 sl)).cell? ⟨w1.heap.size, 1, none⟩ = some (.int .u64 sl) ∧ Below w.heap.size w ((w3.setCell ⟨w.heap.size, 6, none⟩ (.int .u64 sh)).setCell ⟨w.heap.size, 7, none⟩ (.int .u64 sl)) from ⟨by go_simp, by go_simp, by go_simp, by go_simp, by go_simp, by go_simp, by go_simp, by go_simp, by go_simp, by go_simp, by go_simp, by go_simp, by go_simp, by go_simp, by go_simp, by go_simp, by go_simp, by go_simp, by go_simp, by go_simp, by go_simp, by go_simp, by go_simp, by go_simp, by go_simp, by go_simp, by go_simp, by go_simp, ((kk.setCell (p := ⟨w.heap.size, 6, none⟩) gX0 _).setCell (p := ⟨w.heap.size, 7, none⟩) gX0 _)⟩)
  clear cX0_0 cX0_1 cX0_2 cX0_3 cX0_4 cX0_5 cX0_6 cX0_7 fX0_0 fX0_1 fX0_2 fX0_3 fX0_4 fX0_5 fX0_6 fX0_7 cX2_0 cX2_1 cX2_2 cX2_3 cX2_4 fX2_0 fX2_1 fX2_2 fX2_3 fX2_4 cX3_0 cX3_1 neX2 nfX2 neX3 nfX3 kk
  refine forget_at (fun W => W.cell? ⟨w.heap.size, 0, none⟩ = some (.int .u8 f) ∧ W.cell? ⟨w.heap.size, 1, none⟩ = some (.int .i64 p) ∧ W.cell? ⟨w.heap.size, 2, none⟩ = some (.int .i64 em) ∧ W.cell? ⟨w.heap.size, 3, none⟩ = some (.bool ng) ∧ W.cell? ⟨w.heap.size, 4, none⟩ = some (.int .u8 c) ∧ W.cell? ⟨w.heap.size, 5, none⟩ = some (.int .i64 x0) ∧ W.cell? ⟨w.heap.size, 6, none⟩ = some (.int .u64 sh) ∧ W.cell? ⟨w.heap.size, 7, none⟩ = some (.int .u64 sl) ∧ W.frozen? ⟨w.heap.size, 0, none⟩ = false ∧ W.frozen? ⟨w.heap.size, 1, none⟩ = false ∧ W.frozen? ⟨w.heap.size, 2, none⟩ = false ∧ W.frozen? ⟨w.heap.size, 3, none⟩ = false ∧ W.frozen? ⟨w.heap.size, 4, none⟩ = false ∧ W.frozen? ⟨w.heap.size, 5, none⟩ = false ∧ W.frozen? ⟨w.heap.size, 6, none⟩ = false ∧ W.frozen? ⟨w.heap.size, 7, none⟩ = false ∧ W.cell? ⟨w.heap.size + 1 + 1, 0, none⟩ = some (.bool false) ∧ W.cell? ⟨w.heap.size + 1 + 1, 1, none⟩ = some (.int .u8 0) ∧ W.cell? ⟨w.heap.size + 1 + 1, 2, none⟩ = some (.int .i64 0) ∧ W.cell? ⟨w.heap.size + 1 + 1, 3, none⟩ = some (.int .u64 0) ∧ W.cell? ⟨w.heap.size + 1 + 1, 4, none⟩ = some (.int .u64 0) ∧ W.frozen? ⟨w.heap.size + 1 + 1, 0, none⟩ = false ∧ W.frozen? ⟨w.heap.size + 1 + 1, 1, none⟩ = false ∧ W.frozen? ⟨w.heap.size + 1 + 1, 2, none⟩ = false ∧ W.frozen? ⟨w.heap.size + 1 + 1, 3, none⟩ = false ∧ W.frozen? ⟨w.heap.size + 1 + 1, 4, none⟩ = false ∧ W.cell? ⟨w1.heap.size, 0, none⟩ = some (.int .u64 sh) ∧ W.cell? ⟨w1.heap.size, 1, none⟩ = some (.int .u64 sl) ∧ Below w.heap.size w W) KEY.out (fun w4 hz => ?_)
  obtain ⟨cX0_0, cX0_1, cX0_2, cX0_3, cX0_4, cX0_5, cX0_6, cX0_7, fX0_0, fX0_1, fX0_2, fX0_3, fX0_4, fX0_5, fX0_6, fX0_7, cX2_0, cX2_1, cX2_2, cX2_3, cX2_4, fX2_0, fX2_1, fX2_2, fX2_3, fX2_4, cX3_0, cX3_1, kk⟩ := hz
  clear KEY
  refine hK.out _ _ ⟨cX3_0, cX3_1, cX0_0, cX0_1, cX0_2, trivial⟩ (fun hHeld => ?_)
  clear hK K
  try simp only [List.getElem_toArray, List.getElem_cons_zero, List.getElem_cons_succ, Act.put, List.setIfInBounds_toArray, List.set_cons_zero, List.set_cons_succ]
  refine wpAnyH_take (i := 11) (v := ?vq36) rfl (by kernel_rfl) (by kernel_rfl) (by kernel_rfl) (fun _ _ _ h => h) (Or.inl ⟨by rfl, ?yq36⟩) hHeld ?rq36
  case yq36 => (intro wq hb; obtain ⟨lq0, lq1, lq2, lq3, lq4, _⟩ := hb; go_simp; try (with_reducible rfl))
  try simp only [List.getElem_toArray, List.getElem_cons_zero, List.getElem_cons_succ, Act.put, List.setIfInBounds_toArray, List.set_cons_zero, List.set_cons_succ]
  refine wpAnyH_take (i := 12) (v := ?vq37) rfl (by kernel_rfl) (by kernel_rfl) (by kernel_rfl) (fun _ _ _ h => h) (Or.inl ⟨by rfl, ?yq37⟩) hHeld ?rq37
  case yq37 => (intro wq hb; obtain ⟨lq0, lq1, lq2, lq3, lq4, _⟩ := hb; go_simp; try (with_reducible rfl))
  try simp only [List.getElem_toArray, List.getElem_cons_zero, List.getElem_cons_succ, Act.put, List.setIfInBounds_toArray, List.set_cons_zero, List.set_cons_succ]
  clear hHeld
  refine wpAnyH_ready (rs := [13]) (by kernel_rfl) (by simp) ?_
  refine AllReadyH.cons rfl (fun K hK => ?_) AllReadyH.nil
  go_simp
  have neX2 : ¬ (w.heap.size = w.heap.size + 1 + 1) := by omega
  have nfX2 : ¬ (w.heap.size + 1 + 1 = w.heap.size) := by omega
  have neX3 : ¬ (w.heap.size = w1.heap.size) := by omega
  have nfX3 : ¬ (w1.heap.size = w.heap.size) := by omega
  have KEY := Lib.hid (show (w4.setCell ⟨w.heap.size, 5, none⟩ (.int .i64 x)).cell? ⟨w.heap.size, 0, none⟩ = some (.int .u8 f) ∧ (w4.setCell ⟨w.heap.size, 5, none⟩ (.int .i64 x)).cell? ⟨w.heap.size, 1, none⟩ = some (.int .i64 p) ∧ (w4.setCell ⟨w.heap.size, 5, none⟩ (.int .i64 x)).cell? ⟨w.heap.size, 2, none⟩ = some (.int .i64 em) ∧ (w4.setCell ⟨w.heap.size, 5, none⟩ (.int .i64 x)).cell? ⟨w.heap.size, 3, none⟩ = some (.bool ng) ∧ (w4.setCell ⟨w.heap.size, 5, none⟩ (.int .i64 x)).cell? ⟨w.heap.size, 4, none⟩ = some (.int .u8 c) ∧ (w4.setCell ⟨w.heap.size, 5, none⟩ (.int .i64 x)).cell? ⟨w.heap.size, 5, none⟩ = some (.int .i64 x) ∧ (w4.setCell ⟨w.heap.size, 5, none⟩ (.int .i64 x)).cell? ⟨w.heap.size, 6, none⟩ = some (.int .u64 sh) ∧ (w4.setCell ⟨w.heap.size, 5, none⟩ (.int .i64 x)).cell? ⟨w.heap.size, 7, none⟩ = some (.int .u64 sl) ∧ (w4.setCell ⟨w.heap.size, 5, none⟩ (.int .i64 x)).frozen? ⟨w.heap.size, 0, none⟩ = false ∧ (w4.setCell ⟨w.heap.size, 5, none⟩ (.int .i64 x)).frozen? ⟨w.heap.size, 1, none⟩ = false ∧ (w4.setCell ⟨w.heap.size, 5, none⟩ (.int .i64 x)).frozen? ⟨w.heap.size, 2, none⟩ = false ∧ (w4.setCell ⟨w.heap.size, 5, none⟩ (.int .i64 x)).frozen? ⟨w.heap.size, 3, none⟩ = false ∧ (w4.setCell ⟨w.heap.size, 5, none⟩ (.int .i64 x)).frozen? ⟨w.heap.size, 4, none⟩ = false ∧ (w4.setCell ⟨w.heap.size, 5, none⟩ (.int .i64 x)).frozen? ⟨w.heap.size, 5, none⟩ = false ∧ (w4.setCell ⟨w.heap.size, 5, none⟩ (.int .i64 x)).frozen? ⟨w.heap.size, 6, none⟩ = false ∧ (w4.setCell ⟨w.heap.size, 5, none⟩ (.int .i64 x)).frozen? ⟨w.heap.size, 7, none⟩ = false ∧ (w4.setCell ⟨w.heap.size, 5, none⟩ (.int .i64 x)).cell? ⟨w.heap.size + 1 + 1, 0, none⟩ = some (.bool false) ∧ (w4.setCell ⟨w.heap.size, 5, none⟩ (.int .i64 x)).cell? ⟨w.heap.size + 1 + 1, 1, none⟩ = some (.int .u8 0) ∧ (w4.setCell ⟨w.heap.size, 5, none⟩ (.int .i64 x)).cell? ⟨w.heap.size + 1 + 1, 2, none⟩ = some (.int .i64 0) ∧ (w4.setCell ⟨w.heap.size, 5, none⟩ (.int .i64 x)).cell? ⟨w.heap.size + 1 + 1, 3, none⟩ = some (.int .u64 0) ∧ (w4.setCell ⟨w.heap.size, 5, none⟩ (.int .i64 x)).cell? ⟨w.heap.size + 1 + 1, 4, none⟩ = some (.int .u64 0) ∧ (w4.setCell ⟨w.heap.size, 5, none⟩ (.int .i64 x)).frozen? ⟨w.heap.size + 1 + 1, 0, none⟩ = false ∧ (w4.setCell ⟨w.heap.size, 5, none⟩ (.int .i64 x)).frozen? ⟨w.heap.size + 1 + 1, 1, none⟩ = false ∧ (w4.setCell ⟨w.heap.size, 5, none⟩ (.int .i64 x)).frozen? ⟨w.heap.size + 1 + 1, 2, none⟩ = false ∧ (w4.setCell ⟨w.heap.size, 5, none⟩ (.int .i64 x)).frozen? ⟨w.heap.size + 1 + 1, 3, none⟩ = false ∧ (w4.setCell ⟨w.heap.size, 5, none⟩ (.int .i64 x)).frozen? ⟨w.heap.size + 1 + 1, 4, none⟩ = false ∧ (w4.setCell ⟨w.heap.size, 5, none⟩ (.int .i64 x)).cell? ⟨w1.heap.size, 0, none⟩ = some (.int .u64 sh) ∧ (w4.setCell ⟨w.heap.size, 5, none⟩ (.int .i64 x)).cell? ⟨w1.heap.size, 1, none⟩ = some (.int .u64 sl) ∧ Below w.heap.size w (w4.setCell ⟨w.heap.size, 5, none⟩ (.int .i64 x)) from ⟨by go_simp, by go_simp, by go_simp, by go_simp, by go_simp, by go_simp, by go_simp, by go_simp, by go_simp, by go_simp, by go_simp, by go_simp, by go_simp, by go_simp, by go_simp, by go_simp, by go_simp, by go_simp, by go_simp, by go_simp, by go_simp, by go_simp, by go_simp, by go_simp, by go_simp, by go_simp, by go_simp, by go_simp, (kk.setCell (p := ⟨w.heap.size, 5, none⟩) gX0 _)⟩)
  clear cX0_0 cX0_1 cX0_2 cX0_3 cX0_4 cX0_5 cX0_6 cX0_7 fX0_0 fX0_1 fX0_2 fX0_3 fX0_4 fX0_5 fX0_6 fX0_7 cX2_0 cX2_1 cX2_2 cX2_3 cX2_4 fX2_0 fX2_1 fX2_2 fX2_3 fX2_4 cX3_0 cX3_1 neX2 nfX2 neX3 nfX3 kk
  refine forget_at (fun W => W.cell? ⟨w.heap.size, 0, none⟩ = some (.int .u8 f) ∧ W.cell? ⟨w.heap.size, 1, none⟩ = some (.int .i64 p) ∧ W.cell? ⟨w.heap.size, 2, none⟩ = some (.int .i64 em) ∧ W.cell? ⟨w.heap.size, 3, none⟩ = some (.bool ng) ∧ W.cell? ⟨w.heap.size, 4, none⟩ = some (.int .u8 c) ∧ W.cell? ⟨w.heap.size, 5, none⟩ = some (.int .i64 x) ∧ W.cell? ⟨w.heap.size, 6, none⟩ = some (.int .u64 sh) ∧ W.cell? ⟨w.heap.size, 7, none⟩ = some (.int .u64 sl) ∧ W.frozen? ⟨w.heap.size, 0, none⟩ = false ∧ W.frozen? ⟨w.heap.size, 1, none⟩ = false ∧ W.frozen? ⟨w.heap.size, 2, none⟩ = false ∧ W.frozen? ⟨w.heap.size, 3, none⟩ = false ∧ W.frozen? ⟨w.heap.size, 4, none⟩ = false ∧ W.frozen? ⟨w.heap.size, 5, none⟩ = false ∧ W.frozen? ⟨w.heap.size, 6, none⟩ = false ∧ W.frozen? ⟨w.heap.size, 7, none⟩ = false ∧ W.cell? ⟨w.heap.size + 1 + 1, 0, none⟩ = some (.bool false) ∧ W.cell? ⟨w.heap.size + 1 + 1, 1, none⟩ = some (.int .u8 0) ∧ W.cell? ⟨w.heap.size + 1 + 1, 2, none⟩ = some (.int .i64 0) ∧ W.cell? ⟨w.heap.size + 1 + 1, 3, none⟩ = some (.int .u64 0) ∧ W.cell? ⟨w.heap.size + 1 + 1, 4, none⟩ = some (.int .u64 0) ∧ W.frozen? ⟨w.heap.size + 1 + 1, 0, none⟩ = false ∧ W.frozen? ⟨w.heap.size + 1 + 1, 1, none⟩ = false ∧ W.frozen? ⟨w.heap.size + 1 + 1, 2, none⟩ = false ∧ W.frozen? ⟨w.heap.size + 1 + 1, 3, none⟩ = false ∧ W.frozen? ⟨w.heap.size + 1 + 1, 4, none⟩ = false ∧ W.cell? ⟨w1.heap.size, 0, none⟩ = some (.int .u64 sh) ∧ W.cell? ⟨w1.heap.size, 1, none⟩ = some (.int .u64 sl) ∧ Below w.heap.size w W) KEY.out (fun w5 hz => ?_)
  obtain ⟨cX0_0, cX0_1, cX0_2, cX0_3, cX0_4, cX0_5, cX0_6, cX0_7, fX0_0, fX0_1, fX0_2, fX0_3, fX0_4, fX0_5, fX0_6, fX0_7, cX2_0, cX2_1, cX2_2, cX2_3, cX2_4, fX2_0, fX2_1, fX2_2, fX2_3, fX2_4, cX3_0, cX3_1, kk⟩ := hz
  clear KEY
  refine hK.out _ _ ⟨cX3_0, cX3_1, cX0_0, cX0_1, cX0_2, trivial⟩ (fun hHeld => ?_)
  clear hK K
  try simp only [List.getElem_toArray, List.getElem_cons_zero, List.getElem_cons_succ, Act.put, List.setIfInBounds_toArray, List.set_cons_zero, List.set_cons_succ]
  clear hHeld
  refine wpAnyH_done (by kernel_rfl) ?_ _
  refine NoPanic.normal ?_
  replace sX0 : w.heap.size < w5.heap.size := World.block_lt_of_cell? _ _ cX0_0
  replace sX2 : w.heap.size + 1 + 1 < w5.heap.size ∧ w.heap.size + 1 < w5.heap.size := by have h : w.heap.size + 1 + 1 < w5.heap.size := World.block_lt_of_cell? _ _ cX2_0; exact ⟨h, by omega⟩
  clear cX3_0 cX3_1 sX3
  have KEY : Hid ((((((w5.setCell ⟨w.heap.size + 1 + 1, 0, none⟩ (.bool ng)).setCell ⟨w.heap.size + 1 + 1, 1, none⟩ (.int .u8 c)).setCell ⟨w.heap.size + 1 + 1, 2, none⟩ (.int .i64 x)).setCell ⟨w.heap.size + 1 + 1, 3, none⟩ (.int .u64 sh)).setCell ⟨w.heap.size + 1 + 1, 4, none⟩ (.int .u64 sl)).cell? ⟨w.heap.size + 1 + 1, 0, none⟩ = some (.bool ng) ∧ (((((w5.setCell ⟨w.heap.size + 1 + 1, 0, none⟩ (.bool ng)).setCell ⟨w.heap.size + 1 + 1, 1, none⟩ (.int .u8 c)).setCell ⟨w.heap.size + 1 + 1, 2, none⟩ (.int .i64 x)).setCell ⟨w.heap.size + 1 + 1, 3, none⟩ (.int .u64 sh)).setCell ⟨w.heap.size + 1 + 1, 4, none⟩ (.int .u64 sl)).cell? ⟨w.heap.size + 1 + 1, 1, none⟩ = some (.int .u8 c) ∧ (((((w5.setCell ⟨w.heap.size + 1 + 1, 0, none⟩ (.bool ng)).setCell ⟨w.heap.size + 1 + 1, 1, none⟩ (.int .u8 c)).setCell ⟨w.heap.size + 1 + 1, 2, none⟩ (.int .i64 x)).setCell ⟨w.heap.size + 1 + 1, 3, none⟩ (.int .u64 sh)).setCell ⟨w.heap.size + 1 + 1, 4, none⟩ (.int .u64 sl)).cell? ⟨w.heap.size + 1 + 1, 2, none⟩ = some (.int .i64 x) ∧ (((((w5.setCell ⟨w.heap.size + 1 + 1, 0, none⟩ (.bool ng)).setCell ⟨w.heap.size + 1 + 1, 1, none⟩ (.int .u8 c)).setCell ⟨w.heap.size + 1 + 1, 2, none⟩ (.int .i64 x)).setCell ⟨w.heap.size + 1 + 1, 3, none⟩ (.int .u64 sh)).setCell ⟨w.heap.size + 1 + 1, 4, none⟩ (.int .u64 sl)).cell? ⟨w.heap.size + 1 + 1, 3, none⟩ = some (.int .u64 sh) ∧ (((((w5.setCell ⟨w.heap.size + 1 + 1, 0, none⟩ (.bool ng)).setCell ⟨w.heap.size + 1 + 1, 1, none⟩ (.int .u8 c)).setCell ⟨w.heap.size + 1 + 1, 2, none⟩ (.int .i64 x)).setCell ⟨w.heap.size + 1 + 1, 3, none⟩ (.int .u64 sh)).setCell ⟨w.heap.size + 1 + 1, 4, none⟩ (.int .u64 sl)).cell? ⟨w.heap.size + 1 + 1, 4, none⟩ = some (.int .u64 sl) ∧ Below w.heap.size w (((((w5.setCell ⟨w.heap.size + 1 + 1, 0, none⟩ (.bool ng)).setCell ⟨w.heap.size + 1 + 1, 1, none⟩ (.int .u8 c)).setCell ⟨w.heap.size + 1 + 1, 2, none⟩ (.int .i64 x)).setCell ⟨w.heap.size + 1 + 1, 3, none⟩ (.int .u64 sh)).setCell ⟨w.heap.size + 1 + 1, 4, none⟩ (.int .u64 sl))) := Lib.hid ⟨by go_simp, by go_simp, by go_simp, by go_simp, by go_simp, (((((kk.setCell (p := ⟨w.heap.size + 1 + 1, 0, none⟩) gX2 _).setCell (p := ⟨w.heap.size + 1 + 1, 1, none⟩) gX2 _).setCell (p := ⟨w.heap.size + 1 + 1, 2, none⟩) gX2 _).setCell (p := ⟨w.heap.size + 1 + 1, 3, none⟩) gX2 _).setCell (p := ⟨w.heap.size + 1 + 1, 4, none⟩) gX2 _)⟩
  go_wp2_with fail
  obtain ⟨e0, e1, e2, e3, e4, kb⟩ := KEY.out
  clear KEY cX2_0 cX2_1 cX2_2 cX2_3 cX2_4 fX2_0 fX2_1 fX2_2 fX2_3 fX2_4
  refine bodyPost_ret (v := .agg #[.bool ng, .int .u8 c, .int .i64 x, .int .u64 sh, .int .u64 sl]) ?_ rfl ⟨rfl, kb⟩
  simp [results, Tryz.results67, go_sem, e0, e1, e2, e3, e4]

set_option maxHeartbeats 4000000 in
set_option maxRecDepth 100000 in
theorem fld_unpack_no (f bh bl : Int)
    (h0 : Hid (∀ w, FTab w → Calls Tryz.prog 11 #[.int .u8 f] w fun e w' => e = .returned (.bool false) ∧ Below w.heap.size w w')) (w : World) (ft : FTab w) :
    Calls Tryz.prog 31 #[.int .u8 f, .agg #[.int .u64 bh, .int .u64 bl]] w fun e w' => e = .returned (.agg #[.bool false, .int .u8 0, .int .i64 0, .int .u64 0, .int .u64 0]) ∧ Below w.heap.size w w' := by
  go_enter Tryz.func31, Tryz.ntmps31
  go_wp2_with fail
  (with_reducible refine (h0.out _ (ft.later (bA (bA (Below.refl _ _) _) _))).mono ?_); rintro e w1 ⟨rfl, hb⟩
  have hz := bC (bA (bA (Below.refl _ _) _) _) hb
  have gX1 : w.heap.size ≤ w.heap.size + 1 := by omega
  have cX1_0 := cell_later hb (a := ⟨w.heap.size + 1, 0, none⟩) (v := .bool false) (by go_simp)
  have cX1_1 := cell_later hb (a := ⟨w.heap.size + 1, 1, none⟩) (v := .int .u8 0) (by go_simp)
  have cX1_2 := cell_later hb (a := ⟨w.heap.size + 1, 2, none⟩) (v := .int .i64 0) (by go_simp)
  have cX1_3 := cell_later hb (a := ⟨w.heap.size + 1, 3, none⟩) (v := .int .u64 0) (by go_simp)
  have cX1_4 := cell_later hb (a := ⟨w.heap.size + 1, 4, none⟩) (v := .int .u64 0) (by go_simp)
  have sX1 : w.heap.size + 1 < w1.heap.size ∧ w.heap.size < w1.heap.size := by have h : w.heap.size + 1 < w1.heap.size := World.block_lt_of_cell? _ _ cX1_0; exact ⟨h, by omega⟩
  have fX1_0 := frozen_later hb (a := ⟨w.heap.size + 1, 0, none⟩) (v := .bool false) (by go_simp) (by go_simp)
  have fX1_1 := frozen_later hb (a := ⟨w.heap.size + 1, 1, none⟩) (v := .int .u8 0) (by go_simp) (by go_simp)
  have fX1_2 := frozen_later hb (a := ⟨w.heap.size + 1, 2, none⟩) (v := .int .i64 0) (by go_simp) (by go_simp)
  have fX1_3 := frozen_later hb (a := ⟨w.heap.size + 1, 3, none⟩) (v := .int .u64 0) (by go_simp) (by go_simp)
  have fX1_4 := frozen_later hb (a := ⟨w.heap.size + 1, 4, none⟩) (v := .int .u64 0) (by go_simp) (by go_simp)
  have kk := hz
  clear hb hz
  have KEY : Hid ((((((w1.setCell ⟨w.heap.size + 1, 0, none⟩ (.bool false)).setCell ⟨w.heap.size + 1, 1, none⟩ (.int .u8 0)).setCell ⟨w.heap.size + 1, 2, none⟩ (.int .i64 0)).setCell ⟨w.heap.size + 1, 3, none⟩ (.int .u64 0)).setCell ⟨w.heap.size + 1, 4, none⟩ (.int .u64 0)).cell? ⟨w.heap.size + 1, 0, none⟩ = some (.bool false) ∧ (((((w1.setCell ⟨w.heap.size + 1, 0, none⟩ (.bool false)).setCell ⟨w.heap.size + 1, 1, none⟩ (.int .u8 0)).setCell ⟨w.heap.size + 1, 2, none⟩ (.int .i64 0)).setCell ⟨w.heap.size + 1, 3, none⟩ (.int .u64 0)).setCell ⟨w.heap.size + 1, 4, none⟩ (.int .u64 0)).cell? ⟨w.heap.size + 1, 1, none⟩ = some (.int .u8 0) ∧ (((((w1.setCell ⟨w.heap.size + 1, 0, none⟩ (.bool false)).setCell ⟨w.heap.size + 1, 1, none⟩ (.int .u8 0)).setCell ⟨w.heap.size + 1, 2, none⟩ (.int .i64 0)).setCell ⟨w.heap.size + 1, 3, none⟩ (.int .u64 0)).setCell ⟨w.heap.size + 1, 4, none⟩ (.int .u64 0)).cell? ⟨w.heap.size + 1, 2, none⟩ = some (.int .i64 0) ∧ (((((w1.setCell ⟨w.heap.size + 1, 0, none⟩ (.bool false)).setCell ⟨w.heap.size + 1, 1, none⟩ (.int .u8 0)).setCell ⟨w.heap.size + 1, 2, none⟩ (.int .i64 0)).setCell ⟨w.heap.size + 1, 3, none⟩ (.int .u64 0)).setCell ⟨w.heap.size + 1, 4, none⟩ (.int .u64 0)).cell? ⟨w.heap.size + 1, 3, none⟩ = some (.int .u64 0) ∧ (((((w1.setCell ⟨w.heap.size + 1, 0, none⟩ (.bool false)).setCell ⟨w.heap.size + 1, 1, none⟩ (.int .u8 0)).setCell ⟨w.heap.size + 1, 2, none⟩ (.int .i64 0)).setCell ⟨w.heap.size + 1, 3, none⟩ (.int .u64 0)).setCell ⟨w.heap.size + 1, 4, none⟩ (.int .u64 0)).cell? ⟨w.heap.size + 1, 4, none⟩ = some (.int .u64 0) ∧ Below w.heap.size w (((((w1.setCell ⟨w.heap.size + 1, 0, none⟩ (.bool false)).setCell ⟨w.heap.size + 1, 1, none⟩ (.int .u8 0)).setCell ⟨w.heap.size + 1, 2, none⟩ (.int .i64 0)).setCell ⟨w.heap.size + 1, 3, none⟩ (.int .u64 0)).setCell ⟨w.heap.size + 1, 4, none⟩ (.int .u64 0))) := Lib.hid ⟨by go_simp, by go_simp, by go_simp, by go_simp, by go_simp, (((((kk.setCell (p := ⟨w.heap.size + 1, 0, none⟩) gX1 _).setCell (p := ⟨w.heap.size + 1, 1, none⟩) gX1 _).setCell (p := ⟨w.heap.size + 1, 2, none⟩) gX1 _).setCell (p := ⟨w.heap.size + 1, 3, none⟩) gX1 _).setCell (p := ⟨w.heap.size + 1, 4, none⟩) gX1 _)⟩
  go_wp2_with fail
  obtain ⟨e0, e1, e2, e3, e4, kb⟩ := KEY.out
  clear KEY cX1_0 cX1_1 cX1_2 cX1_3 cX1_4 fX1_0 fX1_1 fX1_2 fX1_3 fX1_4
  refine bodyPost_ret (v := .agg #[.bool false, .int .u8 0, .int .i64 0, .int .u64 0, .int .u64 0]) ?_ rfl ⟨rfl, kb⟩
  simp [results, Tryz.results31, go_sem, e0, e1, e2, e3, e4]

set_option maxHeartbeats 4000000 in
set_option maxRecDepth 100000 in
theorem fld_unpack_sub (f bh bl ex th tl p em l x sh sl : Int) (ng ng2 : Bool)
    (h0 : Hid (∀ w, FTab w → Calls Tryz.prog 11 #[.int .u8 f] w fun e w' => e = .returned (.bool true) ∧ Below w.heap.size w w'))
    (h1 : Hid (∀ w, FTab w → Calls Tryz.prog 15 #[.int .u8 f, .agg #[.int .u64 bh, .int .u64 bl]] w fun e w' => e = .returned (.tuple #[.int .u8 1, .bool ng]) ∧ Below w.heap.size w w'))
    (h2 : Hid (∀ w, FTab w → Calls Tryz.prog 35 #[.int .u8 f, .agg #[.int .u64 bh, .int .u64 bl]] w fun e w' => e = .returned (.tuple #[.bool ng2, .int .i64 ex, .agg #[.int .u64 th, .int .u64 tl]]) ∧ Below w.heap.size w w'))
    (h3 : Hid (∀ w, FTab w → Calls Tryz.prog 66 #[.int .u8 f, .agg #[.bool ng, .int .u8 1, .int .i64 0, .int .u64 0, .int .u64 0]] w fun e w' => e = .returned (.agg #[.int .u8 f, .int .i64 p, .int .i64 em, .bool ng, .int .u8 1, .int .i64 0, .int .u64 0, .int .u64 0]) ∧ Below w.heap.size w w'))
    (h4 : Hid (∀ w, FTab w → Calls Tryz.prog 68 #[.agg #[.int .u8 f, .int .i64 p, .int .i64 em]] w fun e w' => e = .returned (.int .i64 l) ∧ Below w.heap.size w w'))
    (h5 : Hid (∀ w, FTab w → Calls Tryz.prog 67 #[.agg #[.int .u8 f, .int .i64 p, .int .i64 em, .bool ng, .int .u8 1, .int .i64 0, .int .u64 0, .int .u64 0], .int .i64 l, .agg #[.int .u64 th, .int .u64 tl]] w fun e w' => e = .returned (.agg #[.bool ng, .int .u8 1, .int .i64 x, .int .u64 sh, .int .u64 sl]) ∧ Below w.heap.size w w')) (w : World) (ft : FTab w) :
    Calls Tryz.prog 31 #[.int .u8 f, .agg #[.int .u64 bh, .int .u64 bl]] w fun e w' => e = .returned (.agg #[.bool ng, .int .u8 1, .int .i64 x, .int .u64 sh, .int .u64 sl]) ∧ Below w.heap.size w w' := by
  go_enter Tryz.func31, Tryz.ntmps31
  go_wp2_with fail
  (with_reducible refine (h0.out _ (ft.later (bA (bA (Below.refl _ _) _) _))).mono ?_); rintro e w1 ⟨rfl, hb⟩
  have hz := bC (bA (bA (Below.refl _ _) _) _) hb
  have gX1 : w.heap.size ≤ w.heap.size + 1 := by omega
  have cX0_0 := cell_later hb (a := ⟨w.heap.size, 0, none⟩) (v := .int .u64 bh) (by go_simp)
  have cX0_1 := cell_later hb (a := ⟨w.heap.size, 1, none⟩) (v := .int .u64 bl) (by go_simp)
  have sX0 : w.heap.size < w1.heap.size := World.block_lt_of_cell? _ _ cX0_0
  have cX1_0 := cell_later hb (a := ⟨w.heap.size + 1, 0, none⟩) (v := .bool false) (by go_simp)
  have cX1_1 := cell_later hb (a := ⟨w.heap.size + 1, 1, none⟩) (v := .int .u8 0) (by go_simp)
  have cX1_2 := cell_later hb (a := ⟨w.heap.size + 1, 2, none⟩) (v := .int .i64 0) (by go_simp)
  have cX1_3 := cell_later hb (a := ⟨w.heap.size + 1, 3, none⟩) (v := .int .u64 0) (by go_simp)
  have cX1_4 := cell_later hb (a := ⟨w.heap.size + 1, 4, none⟩) (v := .int .u64 0) (by go_simp)
  have sX1 : w.heap.size + 1 < w1.heap.size ∧ w.heap.size < w1.heap.size := by have h : w.heap.size + 1 < w1.heap.size := World.block_lt_of_cell? _ _ cX1_0; exact ⟨h, by omega⟩
  have fX1_0 := frozen_later hb (a := ⟨w.heap.size + 1, 0, none⟩) (v := .bool false) (by go_simp) (by go_simp)
  have fX1_1 := frozen_later hb (a := ⟨w.heap.size + 1, 1, none⟩) (v := .int .u8 0) (by go_simp) (by go_simp)
  have fX1_2 := frozen_later hb (a := ⟨w.heap.size + 1, 2, none⟩) (v := .int .i64 0) (by go_simp) (by go_simp)
  have fX1_3 := frozen_later hb (a := ⟨w.heap.size + 1, 3, none⟩) (v := .int .u64 0) (by go_simp) (by go_simp)
  have fX1_4 := frozen_later hb (a := ⟨w.heap.size + 1, 4, none⟩) (v := .int .u64 0) (by go_simp) (by go_simp)
  have kk := hz
  clear hb hz
  go_wp2_with fail
  (with_reducible refine (h1.out _ (ft.later kk)).mono ?_); rintro e w2 ⟨rfl, hb⟩
  replace cX0_0 := cell_later hb cX0_0; replace cX0_1 := cell_later hb cX0_1
  replace sX0 : w.heap.size < w2.heap.size := World.block_lt_of_cell? _ _ cX0_0
  replace fX1_0 := frozen_later hb cX1_0 fX1_0; replace fX1_1 := frozen_later hb cX1_1 fX1_1; replace fX1_2 := frozen_later hb cX1_2 fX1_2; replace fX1_3 := frozen_later hb cX1_3 fX1_3; replace fX1_4 := frozen_later hb cX1_4 fX1_4
  replace cX1_0 := cell_later hb cX1_0; replace cX1_1 := cell_later hb cX1_1; replace cX1_2 := cell_later hb cX1_2; replace cX1_3 := cell_later hb cX1_3; replace cX1_4 := cell_later hb cX1_4
  replace sX1 : w.heap.size + 1 < w2.heap.size ∧ w.heap.size < w2.heap.size := by have h : w.heap.size + 1 < w2.heap.size := World.block_lt_of_cell? _ _ cX1_0; exact ⟨h, by omega⟩
  replace kk := bC kk hb
  clear hb
  go_wp2_with fail
  (with_reducible refine (h2.out _ (ft.later kk)).mono ?_); rintro e w3 ⟨rfl, hb⟩
  clear cX0_0 cX0_1 sX0
  replace fX1_0 := frozen_later hb cX1_0 fX1_0; replace fX1_1 := frozen_later hb cX1_1 fX1_1; replace fX1_2 := frozen_later hb cX1_2 fX1_2; replace fX1_3 := frozen_later hb cX1_3 fX1_3; replace fX1_4 := frozen_later hb cX1_4 fX1_4
  replace cX1_0 := cell_later hb cX1_0; replace cX1_1 := cell_later hb cX1_1; replace cX1_2 := cell_later hb cX1_2; replace cX1_3 := cell_later hb cX1_3; replace cX1_4 := cell_later hb cX1_4
  replace sX1 : w.heap.size + 1 < w3.heap.size ∧ w.heap.size < w3.heap.size := by have h : w.heap.size + 1 < w3.heap.size := World.block_lt_of_cell? _ _ cX1_0; exact ⟨h, by omega⟩
  replace kk := bC kk hb
  clear hb
  go_wp2_with fail
  (with_reducible refine (h3.out _ (ft.later (bC kk (bA (Below.refl _ _) _)))).mono ?_); rintro e w4 ⟨rfl, hb⟩
  have hz := bC (bA (Below.refl _ _) _) hb
  have nX1_X2 : w.heap.size + 1 < w3.heap.size := by omega
  replace fX1_0 := frozen_later hz cX1_0 fX1_0; replace fX1_1 := frozen_later hz cX1_1 fX1_1; replace fX1_2 := frozen_later hz cX1_2 fX1_2; replace fX1_3 := frozen_later hz cX1_3 fX1_3; replace fX1_4 := frozen_later hz cX1_4 fX1_4
  replace cX1_0 := cell_later hz cX1_0; replace cX1_1 := cell_later hz cX1_1; replace cX1_2 := cell_later hz cX1_2; replace cX1_3 := cell_later hz cX1_3; replace cX1_4 := cell_later hz cX1_4
  replace sX1 : w.heap.size + 1 < w4.heap.size ∧ w.heap.size < w4.heap.size := by have h : w.heap.size + 1 < w4.heap.size := World.block_lt_of_cell? _ _ cX1_0; exact ⟨h, by omega⟩
  have cX2_0 := cell_later hb (a := ⟨w3.heap.size, 0, none⟩) (v := .int .u64 th) (by go_simp)
  have cX2_1 := cell_later hb (a := ⟨w3.heap.size, 1, none⟩) (v := .int .u64 tl) (by go_simp)
  have sX2 : w3.heap.size < w4.heap.size := World.block_lt_of_cell? _ _ cX2_0
  replace kk := bC kk hz
  clear hb hz
  go_wp2_with fail
  have nX1_X3 : w.heap.size + 1 < w4.heap.size := by omega
  refine wp_forget (fun W => W.cell? ⟨w.heap.size + 1, 0, none⟩ = some (.bool false) ∧ W.cell? ⟨w.heap.size + 1, 1, none⟩ = some (.int .u8 0) ∧ W.cell? ⟨w.heap.size + 1, 2, none⟩ = some (.int .i64 0) ∧ W.cell? ⟨w.heap.size + 1, 3, none⟩ = some (.int .u64 0) ∧ W.cell? ⟨w.heap.size + 1, 4, none⟩ = some (.int .u64 0) ∧ W.cell? ⟨w3.heap.size, 0, none⟩ = some (.int .u64 th) ∧ W.cell? ⟨w3.heap.size, 1, none⟩ = some (.int .u64 tl) ∧ W.cell? ⟨w4.heap.size, 0, none⟩ = some (.int .u8 f) ∧ W.cell? ⟨w4.heap.size, 1, none⟩ = some (.int .i64 p) ∧ W.cell? ⟨w4.heap.size, 2, none⟩ = some (.int .i64 em) ∧ W.cell? ⟨w4.heap.size, 3, none⟩ = some (.bool ng) ∧ W.cell? ⟨w4.heap.size, 4, none⟩ = some (.int .u8 1) ∧ W.cell? ⟨w4.heap.size, 5, none⟩ = some (.int .i64 0) ∧ W.cell? ⟨w4.heap.size, 6, none⟩ = some (.int .u64 0) ∧ W.cell? ⟨w4.heap.size, 7, none⟩ = some (.int .u64 0) ∧ W.frozen? ⟨w.heap.size + 1, 0, none⟩ = false ∧ W.frozen? ⟨w.heap.size + 1, 1, none⟩ = false ∧ W.frozen? ⟨w.heap.size + 1, 2, none⟩ = false ∧ W.frozen? ⟨w.heap.size + 1, 3, none⟩ = false ∧ W.frozen? ⟨w.heap.size + 1, 4, none⟩ = false ∧ Below w.heap.size w W) ⟨cell_later (bA (Below.refl _ _) _) cX1_0, cell_later (bA (Below.refl _ _) _) cX1_1, cell_later (bA (Below.refl _ _) _) cX1_2, cell_later (bA (Below.refl _ _) _) cX1_3, cell_later (bA (Below.refl _ _) _) cX1_4, cell_later (bA (Below.refl _ _) _) cX2_0, cell_later (bA (Below.refl _ _) _) cX2_1, by go_simp, by go_simp, by go_simp, by go_simp, by go_simp, by go_simp, by go_simp, by go_simp, frozen_later (bA (Below.refl _ _) _) cX1_0 fX1_0, frozen_later (bA (Below.refl _ _) _) cX1_1 fX1_1, frozen_later (bA (Below.refl _ _) _) cX1_2 fX1_2, frozen_later (bA (Below.refl _ _) _) cX1_3 fX1_3, frozen_later (bA (Below.refl _ _) _) cX1_4 fX1_4, bC kk (bA (Below.refl _ _) _)⟩ (fun w5 hst => ?_)
  clear cX1_0 cX1_1 cX1_2 cX1_3 cX1_4 sX1 fX1_0 fX1_1 fX1_2 fX1_3 fX1_4 cX2_0 cX2_1 sX2 kk
  obtain ⟨cX1_0, cX1_1, cX1_2, cX1_3, cX1_4, cX2_0, cX2_1, cX3_0, cX3_1, cX3_2, cX3_3, cX3_4, cX3_5, cX3_6, cX3_7, fX1_0, fX1_1, fX1_2, fX1_3, fX1_4, kk⟩ := hst
  have sX1 : w.heap.size + 1 < w5.heap.size ∧ w.heap.size < w5.heap.size := by have h : w.heap.size + 1 < w5.heap.size := World.block_lt_of_cell? _ _ cX1_0; exact ⟨h, by omega⟩
  have sX2 : w3.heap.size < w5.heap.size := World.block_lt_of_cell? _ _ cX2_0
  have sX3 : w4.heap.size < w5.heap.size := World.block_lt_of_cell? _ _ cX3_0
  refine wp_region_noPanic ?_
  refine wp_region_held_drew (S := fun w' => w'.cell? ⟨w4.heap.size, 0, none⟩ = some (.int .u8 f) ∧ w'.cell? ⟨w4.heap.size, 1, none⟩ = some (.int .i64 p) ∧ w'.cell? ⟨w4.heap.size, 2, none⟩ = some (.int .i64 em) ∧ w'.cell? ⟨w4.heap.size, 3, none⟩ = some (.bool ng) ∧ w'.cell? ⟨w4.heap.size, 4, none⟩ = some (.int .u8 1) ∧ w'.cell? ⟨w4.heap.size, 5, none⟩ = some (.int .i64 0) ∧ w'.cell? ⟨w4.heap.size, 6, none⟩ = some (.int .u64 0) ∧ w'.cell? ⟨w4.heap.size, 7, none⟩ = some (.int .u64 0) ∧ w'.cell? ⟨w3.heap.size, 0, none⟩ = some (.int .u64 th) ∧ w'.cell? ⟨w3.heap.size, 1, none⟩ = some (.int .u64 tl) ∧ True) (by kernel_rfl) ⟨cell_later (Below.refl _ _).drew cX3_0, cell_later (Below.refl _ _).drew cX3_1, cell_later (Below.refl _ _).drew cX3_2, cell_later (Below.refl _ _).drew cX3_3, cell_later (Below.refl _ _).drew cX3_4, cell_later (Below.refl _ _).drew cX3_5, cell_later (Below.refl _ _).drew cX3_6, cell_later (Below.refl _ _).drew cX3_7, cell_later (Below.refl _ _).drew cX2_0, cell_later (Below.refl _ _).drew cX2_1, trivial⟩ (fun hHeld => ?_)
  replace fX1_0 := frozen_later (Below.refl _ _).drew cX1_0 fX1_0; replace fX1_1 := frozen_later (Below.refl _ _).drew cX1_1 fX1_1; replace fX1_2 := frozen_later (Below.refl _ _).drew cX1_2 fX1_2; replace fX1_3 := frozen_later (Below.refl _ _).drew cX1_3 fX1_3; replace fX1_4 := frozen_later (Below.refl _ _).drew cX1_4 fX1_4
  replace cX1_0 := cell_later (Below.refl _ _).drew cX1_0; replace cX1_1 := cell_later (Below.refl _ _).drew cX1_1; replace cX1_2 := cell_later (Below.refl _ _).drew cX1_2; replace cX1_3 := cell_later (Below.refl _ _).drew cX1_3; replace cX1_4 := cell_later (Below.refl _ _).drew cX1_4
  replace cX2_0 := cell_later (Below.refl _ _).drew cX2_0; replace cX2_1 := cell_later (Below.refl _ _).drew cX2_1
  replace cX3_0 := cell_later (Below.refl _ _).drew cX3_0; replace cX3_1 := cell_later (Below.refl _ _).drew cX3_1; replace cX3_2 := cell_later (Below.refl _ _).drew cX3_2; replace cX3_3 := cell_later (Below.refl _ _).drew cX3_3; replace cX3_4 := cell_later (Below.refl _ _).drew cX3_4; replace cX3_5 := cell_later (Below.refl _ _).drew cX3_5; replace cX3_6 := cell_later (Below.refl _ _).drew cX3_6; replace cX3_7 := cell_later (Below.refl _ _).drew cX3_7
  replace kk := bC kk (Below.refl _ _).drew
  refine wpAnyH_take (i := 0) (v := ?vq38) rfl (by kernel_rfl) (by kernel_rfl) (by kernel_rfl) (fun _ _ _ h => h) (Or.inl ⟨by rfl, ?yq38⟩) hHeld ?rq38
  case yq38 => (intro wq hb; obtain ⟨lq0, lq1, lq2, lq3, lq4, lq5, lq6, lq7, lq8, lq9, _⟩ := hb; go_simp; try (with_reducible rfl))
  try simp only [List.getElem_toArray, List.getElem_cons_zero, List.getElem_cons_succ, Act.put, List.setIfInBounds_toArray, List.set_cons_zero, List.set_cons_succ]
  refine wpAnyH_take (i := 1) (v := ?vq39) rfl (by kernel_rfl) (by kernel_rfl) (by kernel_rfl) (fun _ _ _ h => h) (Or.inl ⟨by rfl, ?yq39⟩) hHeld ?rq39
  case yq39 => (intro wq hb; obtain ⟨lq0, lq1, lq2, lq3, lq4, lq5, lq6, lq7, lq8, lq9, _⟩ := hb; go_simp; try (with_reducible rfl))
  try simp only [List.getElem_toArray, List.getElem_cons_zero, List.getElem_cons_succ, Act.put, List.setIfInBounds_toArray, List.set_cons_zero, List.set_cons_succ]
  refine wpAnyH_take (i := 2) (v := ?vq40) rfl (by kernel_rfl) (by kernel_rfl) (by kernel_rfl) (fun _ _ _ h => h) (Or.inl ⟨by rfl, ?yq40⟩) hHeld ?rq40
  case yq40 => (intro wq hb; obtain ⟨lq0, lq1, lq2, lq3, lq4, lq5, lq6, lq7, lq8, lq9, _⟩ := hb; go_simp; try (with_reducible rfl))
  try simp only [List.getElem_toArray, List.getElem_cons_zero, List.getElem_cons_succ, Act.put, List.setIfInBounds_toArray, List.set_cons_zero, List.set_cons_succ]
  refine wpAnyH_take (i := 4) (v := ?vq41) rfl (by kernel_rfl) (by kernel_rfl) (by kernel_rfl) (fun _ _ _ h => h) (Or.inl ⟨by rfl, ?yq41⟩) hHeld ?rq41
  case yq41 => (intro wq hb; obtain ⟨lq0, lq1, lq2, lq3, lq4, lq5, lq6, lq7, lq8, lq9, _⟩ := hb; go_simp; try (with_reducible rfl))
  try simp only [List.getElem_toArray, List.getElem_cons_zero, List.getElem_cons_succ, Act.put, List.setIfInBounds_toArray, List.set_cons_zero, List.set_cons_succ]
  clear hHeld
  refine wpAnyH_ready (rs := [3]) (by kernel_rfl) (by simp) ?_
  refine AllReadyH.cons rfl (fun K hK => ?_) AllReadyH.nil
  go_simp
  (with_reducible refine (h4.out _ (ft.later kk)).mono ?_); rintro e w6 ⟨rfl, hb⟩
  replace fX1_0 := frozen_later hb cX1_0 fX1_0; replace fX1_1 := frozen_later hb cX1_1 fX1_1; replace fX1_2 := frozen_later hb cX1_2 fX1_2; replace fX1_3 := frozen_later hb cX1_3 fX1_3; replace fX1_4 := frozen_later hb cX1_4 fX1_4
  replace cX1_0 := cell_later hb cX1_0; replace cX1_1 := cell_later hb cX1_1; replace cX1_2 := cell_later hb cX1_2; replace cX1_3 := cell_later hb cX1_3; replace cX1_4 := cell_later hb cX1_4
  replace cX2_0 := cell_later hb cX2_0; replace cX2_1 := cell_later hb cX2_1
  replace cX3_0 := cell_later hb cX3_0; replace cX3_1 := cell_later hb cX3_1; replace cX3_2 := cell_later hb cX3_2; replace cX3_3 := cell_later hb cX3_3; replace cX3_4 := cell_later hb cX3_4; replace cX3_5 := cell_later hb cX3_5; replace cX3_6 := cell_later hb cX3_6; replace cX3_7 := cell_later hb cX3_7
  replace kk := bC kk hb
  clear hb
  refine hK.out _ _ ⟨cX3_0, cX3_1, cX3_2, cX3_3, cX3_4, cX3_5, cX3_6, cX3_7, cX2_0, cX2_1, trivial⟩ (fun hHeld => ?_)
  clear hK K
  try simp only [List.getElem_toArray, List.getElem_cons_zero, List.getElem_cons_succ, Act.put, List.setIfInBounds_toArray, List.set_cons_zero, List.set_cons_succ]
  clear hHeld
  refine wpAnyH_ready (rs := [5]) (by kernel_rfl) (by simp) ?_
  refine AllReadyH.cons rfl (fun K hK => ?_) AllReadyH.nil
  go_simp
  (with_reducible refine (h5.out _ (ft.later kk)).mono ?_); rintro e w7 ⟨rfl, hb⟩
  replace fX1_0 := frozen_later hb cX1_0 fX1_0; replace fX1_1 := frozen_later hb cX1_1 fX1_1; replace fX1_2 := frozen_later hb cX1_2 fX1_2; replace fX1_3 := frozen_later hb cX1_3 fX1_3; replace fX1_4 := frozen_later hb cX1_4 fX1_4
  replace cX1_0 := cell_later hb cX1_0; replace cX1_1 := cell_later hb cX1_1; replace cX1_2 := cell_later hb cX1_2; replace cX1_3 := cell_later hb cX1_3; replace cX1_4 := cell_later hb cX1_4
  replace cX2_0 := cell_later hb cX2_0; replace cX2_1 := cell_later hb cX2_1
  replace cX3_0 := cell_later hb cX3_0; replace cX3_1 := cell_later hb cX3_1; replace cX3_2 := cell_later hb cX3_2; replace cX3_3 := cell_later hb cX3_3; replace cX3_4 := cell_later hb cX3_4; replace cX3_5 := cell_later hb cX3_5; replace cX3_6 := cell_later hb cX3_6; replace cX3_7 := cell_later hb cX3_7
  replace kk := bC kk hb
  clear hb
  refine hK.out _ _ ⟨cX3_0, cX3_1, cX3_2, cX3_3, cX3_4, cX3_5, cX3_6, cX3_7, cX2_0, cX2_1, trivial⟩ (fun hHeld => ?_)
  clear hK K
  try simp only [List.getElem_toArray, List.getElem_cons_zero, List.getElem_cons_succ, Act.put, List.setIfInBounds_toArray, List.set_cons_zero, List.set_cons_succ]
  clear hHeld
  refine wpAnyH_ready (rs := [6]) (by kernel_rfl) (by simp) ?_
  refine AllReadyH.cons rfl (fun K hK => ?_) AllReadyH.nil
  go_simp
  have neX2 : ¬ (w.heap.size + 1 = w3.heap.size) := by omega
  have nfX2 : ¬ (w3.heap.size = w.heap.size + 1) := by omega
  have neX3 : ¬ (w.heap.size + 1 = w4.heap.size) := by omega
  have nfX3 : ¬ (w4.heap.size = w.heap.size + 1) := by omega
  have KEY := Lib.hid (show (((((w7.setCell ⟨w.heap.size + 1, 0, none⟩ (.bool ng)).setCell ⟨w.heap.size + 1, 1, none⟩ (.int .u8 1)).setCell ⟨w.heap.size + 1, 2, none⟩ (.int .i64 x)).setCell ⟨w.heap.size + 1, 3, none⟩ (.int .u64 sh)).setCell ⟨w.heap.size + 1, 4, none⟩ (.int .u64 sl)).cell? ⟨w.heap.size + 1, 0, none⟩ = some (.bool ng) ∧ (((((w7.setCell ⟨w.heap.size + 1, 0, none⟩ (.bool ng)).setCell ⟨w.heap.size + 1, 1, none⟩ (.int .u8 1)).setCell ⟨w.heap.size + 1, 2, none⟩ (.int .i64 x)).setCell ⟨w.heap.size + 1, 3, none⟩ (.int .u64 sh)).setCell ⟨w.heap.size + 1, 4, none⟩ (.int .u64 sl)).cell? ⟨w.heap.size + 1, 1, none⟩ = some (.int .u8 1) ∧ (((((w7.setCell ⟨w.heap.size + 1, 0, none⟩ (.bool ng)).setCell ⟨w.heap.size + 1, 1, none⟩ (.int .u8 1)).setCell ⟨w.heap.size + 1, 2, none⟩ (.int .i64 x)).setCell ⟨w.heap.size + 1, 3, none⟩ (.int .u64 sh)).setCell ⟨w.heap.size + 1, 4, none⟩ (.int .u64 sl)).cell? ⟨w.heap.size + 1, 2, none⟩ = some (.int .i64 x) ∧ (((((w7.setCell ⟨w.heap.size + 1, 0, none⟩ (.bool ng)).setCell ⟨w.heap.size + 1, 1, none⟩ (.int .u8 1)).setCell ⟨w.heap.size + 1, 2, none⟩ (.int .i64 x)).setCell ⟨w.heap.size + 1, 3, none⟩ (.int .u64 sh)).setCell ⟨w.heap.size + 1, 4, none⟩ (.int .u64 sl)).cell? ⟨w.heap.size + 1, 3, none⟩ = some (.int .u64 sh) ∧ (((((w7.setCell ⟨w.heap.size + 1, 0, none⟩ (.bool ng)).setCell ⟨w.heap.size + 1, 1, none⟩ (.int .u8 1)).setCell ⟨w.heap.size + 1, 2, none⟩ (.int .i64 x)).setCell ⟨w.heap.size + 1, 3, none⟩ (.int .u64 sh)).setCell ⟨w.heap.size + 1, 4, none⟩ (.int .u64 sl)).cell? ⟨w.heap.size + 1, 4, none⟩ = some (.int .u64 sl) ∧ (((((w7.setCell ⟨w.heap.size + 1, 0, none⟩ (.bool ng)).setCell ⟨w.heap.size + 1, 1, none⟩ (.int .u8 1)).setCell ⟨w.heap.size + 1, 2, none⟩ (.int .i64 x)).setCell ⟨w.heap.size + 1, 3, none⟩ (.int .u64 sh)).setCell ⟨w.heap.size + 1, 4, none⟩ (.int .u64 sl)).frozen? ⟨w.heap.size + 1, 0, none⟩ = false ∧ (((((w7.setCell ⟨w.heap.size + 1, 0, none⟩ (.bool ng)).setCell ⟨w.heap.size + 1, 1, none⟩ (.int .u8 1)).setCell ⟨w.heap.size + 1, 2, none⟩ (.int .i64 x)).setCell ⟨w.heap.size + 1, 3, none⟩ (.int .u64 sh)).setCell ⟨w.heap.size + 1, 4, none⟩ (.int .u64 sl)).frozen? ⟨w.heap.size + 1, 1, none⟩ = false ∧ (((((w7.setCell ⟨w.heap.size + 1, 0, none⟩ (.bool ng)).setCell ⟨w.heap.size + 1, 1, none⟩ (.int .u8 1)).setCell ⟨w.heap.size + 1, 2, none⟩ (.int .i64 x)).setCell ⟨w.heap.size + 1, 3, none⟩ (.int .u64 sh)).setCell ⟨w.heap.size + 1, 4, none⟩ (.int .u64 sl)).frozen? ⟨w.heap.size + 1, 2, none⟩ = false ∧ (((((w7.setCell ⟨w.heap.size + 1, 0, none⟩ (.bool ng)).setCell ⟨w.heap.size + 1, 1, none⟩ (.int .u8 1)).setCell ⟨w.heap.size + 1, 2, none⟩ (.int .i64 x)).setCell ⟨w.heap.size + 1, 3, none⟩ (.int .u64 sh)).setCell ⟨w.heap.size + 1, 4, none⟩ (.int .u64 sl)).frozen? ⟨w.heap.size + 1, 3, none⟩ = false ∧ (((((w7.setCell ⟨w.heap.size + 1, 0, none⟩ (.bool ng)).setCell ⟨w.heap.size + 1, 1, none⟩ (.int .u8 1)).setCell ⟨w.heap.size + 1, 2, none⟩ (.int .i64 x)).setCell ⟨w.heap.size + 1, 3, none⟩ (.int .u64 sh)).setCell ⟨w.heap.size + 1, 4, none⟩ (.int .u64 sl)).frozen? ⟨w.heap.size + 1, 4, none⟩ = false ∧ (((((w7.setCell ⟨w.heap.size + 1, 0, none⟩ (.bool ng)).setCell ⟨w.heap.size + 1, 1, none⟩ (.int .u8 1)).setCell ⟨w.heap.size + 1, 2, none⟩ (.int .i64 x)).setCell ⟨w.heap.size + 1, 3, none⟩ (.int .u64 sh)).setCell ⟨w.heap.size + 1, 4, none⟩ (.int .u64 sl)).cell? ⟨w3.heap.size, 0, none⟩ = some (.int .u64 th) ∧ (((((w7.setCell ⟨w.heap.size + 1, 0, none⟩ (.bool ng)).setCell ⟨w.heap.size + 1, 1, none⟩ (.int .u8 1)).setCell ⟨w.heap.size + 1, 2, none⟩ (.int .i64 x)).setCell ⟨w.heap.size + 1, 3, none⟩ (.int .u64 sh)).setCell ⟨w.heap.size + 1, 4, none⟩ (.int .u64 sl)).cell? ⟨w3.heap.size, 1, none⟩ = some (.int .u64 tl) ∧ (((((w7.setCell ⟨w.heap.size + 1, 0, none⟩ (.bool ng)).setCell ⟨w.heap.size + 1, 1, none⟩ (.int .u8 1)).setCell ⟨w.heap.size + 1, 2, none⟩ (.int .i64 x)).setCell ⟨w.heap.size + 1, 3, none⟩ (.int .u64 sh)).setCell ⟨w.heap.size + 1, 4, none⟩ (.int .u64 sl)).cell? ⟨w4.heap.size, 0, none⟩ = some (.int .u8 f) ∧ (((((w7.setCell ⟨w.heap.size + 1, 0, none⟩ (.bool ng)).setCell ⟨w.heap.size + 1, 1, none⟩ (.int .u8 1)).setCell ⟨w.heap.size + 1, 2, none⟩ (.int .i64 x)).setCell ⟨w.heap.size + 1, 3, none⟩ (.int .u64 sh)).setCell ⟨w.heap.size + 1, 4, none⟩ (.int .u64 sl)).cell? ⟨w4.heap.size, 1, none⟩ = some (.int .i64 p) ∧ (((((w7.setCell ⟨w.heap.size + 1, 0, none⟩ (.bool ng)).setCell ⟨w.heap.size + 1, 1, none⟩ (.int .u8 1)).setCell ⟨w.heap.size + 1, 2, none⟩ (.int .i64 x)).setCell ⟨w.heap.size + 1, 3, none⟩ (.int .u64 sh)).setCell ⟨w.heap.size + 1, 4, none⟩ (.int .u64 sl)).cell? ⟨w4.heap.size, 2, none⟩ = some (.int .i64 em) ∧ (((((w7.setCell ⟨w.heap.size + 1, 0, none⟩ (.bool ng)).setCell ⟨w.heap.size + 1, 1, none⟩ (.int .u8 1)).setCell ⟨w.heap.size + 1, 2, none⟩ (.int .i64 x)).setCell ⟨w.heap.size + 1, 3, none⟩ (.int .u64 sh)).setCell ⟨w.heap.size + 1, 4, none⟩ (.int .u64 sl)).cell? ⟨w4.heap.size, 3, none⟩ = some (.bool ng) ∧ (((((w7.setCell ⟨w.heap.size + 1, 0, none⟩ (.bool ng)).setCell ⟨w.heap.size + 1, 1, none⟩ (.int .u8 1)).setCell ⟨w.heap.size + 1, 2, none⟩ (.int .i64 x)).setCell ⟨w.heap.size + 1, 3, none⟩ (.int .u64 sh)).setCell ⟨w.heap.size + 1, 4, none⟩ (.int .u64 sl)).cell? ⟨w4.heap.size, 4, none⟩ = some (.int .u8 1) ∧ (((((w7.setCell ⟨w.heap.size + 1, 0, none⟩ (.bool ng)).setCell ⟨w.heap.size + 1, 1, none⟩ (.int .u8 1)).setCell ⟨w.heap.size + 1, 2, none⟩ (.int .i64 x)).setCell ⟨w.heap.size + 1, 3, none⟩ (.int .u64 sh)).setCell ⟨w.heap.size + 1, 4, none⟩ (.int .u64 sl)).cell? ⟨w4.heap.size, 5, none⟩ = some (.int .i64 0) ∧ (((((w7.setCell ⟨w.heap.size + 1, 0, none⟩ (.bool ng)).setCell ⟨w.heap.size + 1, 1, none⟩ (.int .u8 1)).setCell ⟨w.heap.size + 1, 2, none⟩ (.int .i64 x)).setCell ⟨w.heap.size + 1, 3, none⟩ (.int .u64 sh)).setCell ⟨w.heap.size + 1, 4, none⟩ (.int .u64 sl)).cell? ⟨w4.heap.size, 6, none⟩ = some (.int .u64 0) ∧ (((((w7.setCell ⟨w.heap.size + 1, 0, none⟩ (.bool ng)).setCell ⟨w.heap.size + 1, 1, none⟩ (.int .u8 1)).setCell ⟨w.heap.size + 1, 2, none⟩ (.int .i64 x)).setCell ⟨w.heap.size + 1, 3, none⟩ (.int .u64 sh)).setCell ⟨w.heap.size + 1, 4, none⟩ (.int .u64 sl)).cell? ⟨w4.heap.size, 7, none⟩ = some (.int .u64 0) ∧ Below w.heap.size w (((((w7.setCell ⟨w.heap.size + 1, 0, none⟩ (.bool ng)).setCell ⟨w.heap.size + 1, 1, none⟩ (.int .u8 1)).setCell ⟨w.heap.size + 1, 2, none⟩ (.int .i64 x)).setCell ⟨w.heap.size + 1, 3, none⟩ (.int .u64 sh)).setCell ⟨w.heap.size + 1, 4, none⟩ (.int .u64 sl)) from ⟨by go_simp, by go_simp, by go_simp, by go_simp, by go_simp, by go_simp, by go_simp, by go_simp, by go_simp, by go_simp, by go_simp, by go_simp, by go_simp, by go_simp, by go_simp, by go_simp, by go_simp, by go_simp, by go_simp, by go_simp, (((((kk.setCell (p := ⟨w.heap.size + 1, 0, none⟩) gX1 _).setCell (p := ⟨w.heap.size + 1, 1, none⟩) gX1 _).setCell (p := ⟨w.heap.size + 1, 2, none⟩) gX1 _).setCell (p := ⟨w.heap.size + 1, 3, none⟩) gX1 _).setCell (p := ⟨w.heap.size + 1, 4, none⟩) gX1 _)⟩)
  clear cX1_0 cX1_1 cX1_2 cX1_3 cX1_4 fX1_0 fX1_1 fX1_2 fX1_3 fX1_4 cX2_0 cX2_1 cX3_0 cX3_1 cX3_2 cX3_3 cX3_4 cX3_5 cX3_6 cX3_7 neX2 nfX2 neX3 nfX3 kk
  refine forget_at (fun W => W.cell? ⟨w.heap.size + 1, 0, none⟩ = some (.bool ng) ∧ W.cell? ⟨w.heap.size + 1, 1, none⟩ = some (.int .u8 1) ∧ W.cell? ⟨w.heap.size + 1, 2, none⟩ = some (.int .i64 x) ∧ W.cell? ⟨w.heap.size + 1, 3, none⟩ = some (.int .u64 sh) ∧ W.cell? ⟨w.heap.size + 1, 4, none⟩ = some (.int .u64 sl) ∧ W.frozen? ⟨w.heap.size + 1, 0, none⟩ = false ∧ W.frozen? ⟨w.heap.size + 1, 1, none⟩ = false ∧ W.frozen? ⟨w.heap.size + 1, 2, none⟩ = false ∧ W.frozen? ⟨w.heap.size + 1, 3, none⟩ = false ∧ W.frozen? ⟨w.heap.size + 1, 4, none⟩ = false ∧ W.cell? ⟨w3.heap.size, 0, none⟩ = some (.int .u64 th) ∧ W.cell? ⟨w3.heap.size, 1, none⟩ = some (.int .u64 tl) ∧ W.cell? ⟨w4.heap.size, 0, none⟩ = some (.int .u8 f) ∧ W.cell? ⟨w4.heap.size, 1, none⟩ = some (.int .i64 p) ∧ W.cell? ⟨w4.heap.size, 2, none⟩ = some (.int .i64 em) ∧ W.cell? ⟨w4.heap.size, 3, none⟩ = some (.bool ng) ∧ W.cell? ⟨w4.heap.size, 4, none⟩ = some (.int .u8 1) ∧ W.cell? ⟨w4.heap.size, 5, none⟩ = some (.int .i64 0) ∧ W.cell? ⟨w4.heap.size, 6, none⟩ = some (.int .u64 0) ∧ W.cell? ⟨w4.heap.size, 7, none⟩ = some (.int .u64 0) ∧ Below w.heap.size w W) KEY.out (fun w8 hz => ?_)
  obtain ⟨cX1_0, cX1_1, cX1_2, cX1_3, cX1_4, fX1_0, fX1_1, fX1_2, fX1_3, fX1_4, cX2_0, cX2_1, cX3_0, cX3_1, cX3_2, cX3_3, cX3_4, cX3_5, cX3_6, cX3_7, kk⟩ := hz
  clear KEY
  refine hK.out _ _ ⟨cX3_0, cX3_1, cX3_2, cX3_3, cX3_4, cX3_5, cX3_6, cX3_7, cX2_0, cX2_1, trivial⟩ (fun hHeld => ?_)
  clear hK K
  try simp only [List.getElem_toArray, List.getElem_cons_zero, List.getElem_cons_succ, Act.put, List.setIfInBounds_toArray, List.set_cons_zero, List.set_cons_succ]
  clear hHeld
  refine wpAnyH_done (by kernel_rfl) ?_ _
  refine NoPanic.normal ?_
  replace sX1 : w.heap.size + 1 < w8.heap.size ∧ w.heap.size < w8.heap.size := by have h : w.heap.size + 1 < w8.heap.size := World.block_lt_of_cell? _ _ cX1_0; exact ⟨h, by omega⟩
  clear cX2_0 cX2_1 sX2
  clear cX3_0 cX3_1 cX3_2 cX3_3 cX3_4 cX3_5 cX3_6 cX3_7 sX3
  go_wp2_with fail
  refine bodyPost_ret (v := .agg #[.bool ng, .int .u8 1, .int .i64 x, .int .u64 sh, .int .u64 sl]) ?_ rfl ⟨rfl, kk⟩
  simp [results, Tryz.results31, go_sem, cX1_0, cX1_1, cX1_2, cX1_3, cX1_4]

set_option maxHeartbeats 4000000 in
set_option maxRecDepth 100000 in
theorem fld_unpack_nor (f bh bl ex th tl p em mh ml d x sh sl : Int) (ng ng2 : Bool)
    (h0 : Hid (∀ w, FTab w → Calls Tryz.prog 11 #[.int .u8 f] w fun e w' => e = .returned (.bool true) ∧ Below w.heap.size w w'))
    (h1 : Hid (∀ w, FTab w → Calls Tryz.prog 15 #[.int .u8 f, .agg #[.int .u64 bh, .int .u64 bl]] w fun e w' => e = .returned (.tuple #[.int .u8 2, .bool ng]) ∧ Below w.heap.size w w'))
    (h2 : Hid (∀ w, FTab w → Calls Tryz.prog 35 #[.int .u8 f, .agg #[.int .u64 bh, .int .u64 bl]] w fun e w' => e = .returned (.tuple #[.bool ng2, .int .i64 ex, .agg #[.int .u64 th, .int .u64 tl]]) ∧ Below w.heap.size w w'))
    (h3 : Hid (∀ w, FTab w → Calls Tryz.prog 66 #[.int .u8 f, .agg #[.bool ng, .int .u8 2, .int .i64 0, .int .u64 0, .int .u64 0]] w fun e w' => e = .returned (.agg #[.int .u8 f, .int .i64 p, .int .i64 em, .bool ng, .int .u8 2, .int .i64 0, .int .u64 0, .int .u64 0]) ∧ Below w.heap.size w w'))
    (h4 : Hid (∀ w, FTab w → Calls Tryz.prog 69 #[.agg #[.int .u8 f, .int .i64 p, .int .i64 em], .agg #[.int .u64 th, .int .u64 tl]] w fun e w' => e = .returned (.agg #[.int .u64 mh, .int .u64 ml]) ∧ Below w.heap.size w w'))
    (h5 : Hid (∀ w, FTab w → Calls Tryz.prog 67 #[.agg #[.int .u8 f, .int .i64 p, .int .i64 em, .bool ng, .int .u8 2, .int .i64 0, .int .u64 0, .int .u64 0], .int .i64 d, .agg #[.int .u64 mh, .int .u64 ml]] w fun e w' => e = .returned (.agg #[.bool ng, .int .u8 2, .int .i64 x, .int .u64 sh, .int .u64 sl]) ∧ Below w.heap.size w w')) (v1 : IntKind.i64.wrap (ex - em) = d) (w : World) (ft : FTab w) :
    Calls Tryz.prog 31 #[.int .u8 f, .agg #[.int .u64 bh, .int .u64 bl]] w fun e w' => e = .returned (.agg #[.bool ng, .int .u8 2, .int .i64 x, .int .u64 sh, .int .u64 sl]) ∧ Below w.heap.size w w' := by
  go_enter Tryz.func31, Tryz.ntmps31
  go_wp2_with fail
  (with_reducible refine (h0.out _ (ft.later (bA (bA (Below.refl _ _) _) _))).mono ?_); rintro e w1 ⟨rfl, hb⟩
  have hz := bC (bA (bA (Below.refl _ _) _) _) hb
  have gX1 : w.heap.size ≤ w.heap.size + 1 := by omega
  have cX0_0 := cell_later hb (a := ⟨w.heap.size, 0, none⟩) (v := .int .u64 bh) (by go_simp)
  have cX0_1 := cell_later hb (a := ⟨w.heap.size, 1, none⟩) (v := .int .u64 bl) (by go_simp)
  have sX0 : w.heap.size < w1.heap.size := World.block_lt_of_cell? _ _ cX0_0
  have cX1_0 := cell_later hb (a := ⟨w.heap.size + 1, 0, none⟩) (v := .bool false) (by go_simp)
  have cX1_1 := cell_later hb (a := ⟨w.heap.size + 1, 1, none⟩) (v := .int .u8 0) (by go_simp)
  have cX1_2 := cell_later hb (a := ⟨w.heap.size + 1, 2, none⟩) (v := .int .i64 0) (by go_simp)
  have cX1_3 := cell_later hb (a := ⟨w.heap.size + 1, 3, none⟩) (v := .int .u64 0) (by go_simp)
  have cX1_4 := cell_later hb (a := ⟨w.heap.size + 1, 4, none⟩) (v := .int .u64 0) (by go_simp)
  have sX1 : w.heap.size + 1 < w1.heap.size ∧ w.heap.size < w1.heap.size := by have h : w.heap.size + 1 < w1.heap.size := World.block_lt_of_cell? _ _ cX1_0; exact ⟨h, by omega⟩
  have fX1_0 := frozen_later hb (a := ⟨w.heap.size + 1, 0, none⟩) (v := .bool false) (by go_simp) (by go_simp)
  have fX1_1 := frozen_later hb (a := ⟨w.heap.size + 1, 1, none⟩) (v := .int .u8 0) (by go_simp) (by go_simp)
  have fX1_2 := frozen_later hb (a := ⟨w.heap.size + 1, 2, none⟩) (v := .int .i64 0) (by go_simp) (by go_simp)
  have fX1_3 := frozen_later hb (a := ⟨w.heap.size + 1, 3, none⟩) (v := .int .u64 0) (by go_simp) (by go_simp)
  have fX1_4 := frozen_later hb (a := ⟨w.heap.size + 1, 4, none⟩) (v := .int .u64 0) (by go_simp) (by go_simp)
  have kk := hz
  clear hb hz
  go_wp2_with fail
  (with_reducible refine (h1.out _ (ft.later kk)).mono ?_); rintro e w2 ⟨rfl, hb⟩
  replace cX0_0 := cell_later hb cX0_0; replace cX0_1 := cell_later hb cX0_1
  replace sX0 : w.heap.size < w2.heap.size := World.block_lt_of_cell? _ _ cX0_0
  replace fX1_0 := frozen_later hb cX1_0 fX1_0; replace fX1_1 := frozen_later hb cX1_1 fX1_1; replace fX1_2 := frozen_later hb cX1_2 fX1_2; replace fX1_3 := frozen_later hb cX1_3 fX1_3; replace fX1_4 := frozen_later hb cX1_4 fX1_4
  replace cX1_0 := cell_later hb cX1_0; replace cX1_1 := cell_later hb cX1_1; replace cX1_2 := cell_later hb cX1_2; replace cX1_3 := cell_later hb cX1_3; replace cX1_4 := cell_later hb cX1_4
  replace sX1 : w.heap.size + 1 < w2.heap.size ∧ w.heap.size < w2.heap.size := by have h : w.heap.size + 1 < w2.heap.size := World.block_lt_of_cell? _ _ cX1_0; exact ⟨h, by omega⟩
  replace kk := bC kk hb
  clear hb
  go_wp2_with fail
  (with_reducible refine (h2.out _ (ft.later kk)).mono ?_); rintro e w3 ⟨rfl, hb⟩
  clear cX0_0 cX0_1 sX0
  replace fX1_0 := frozen_later hb cX1_0 fX1_0; replace fX1_1 := frozen_later hb cX1_1 fX1_1; replace fX1_2 := frozen_later hb cX1_2 fX1_2; replace fX1_3 := frozen_later hb cX1_3 fX1_3; replace fX1_4 := frozen_later hb cX1_4 fX1_4
  replace cX1_0 := cell_later hb cX1_0; replace cX1_1 := cell_later hb cX1_1; replace cX1_2 := cell_later hb cX1_2; replace cX1_3 := cell_later hb cX1_3; replace cX1_4 := cell_later hb cX1_4
  replace sX1 : w.heap.size + 1 < w3.heap.size ∧ w.heap.size < w3.heap.size := by have h : w.heap.size + 1 < w3.heap.size := World.block_lt_of_cell? _ _ cX1_0; exact ⟨h, by omega⟩
  replace kk := bC kk hb
  clear hb
  go_wp2_with fail
  (with_reducible refine (h3.out _ (ft.later (bC kk (bA (Below.refl _ _) _)))).mono ?_); rintro e w4 ⟨rfl, hb⟩
  have hz := bC (bA (Below.refl _ _) _) hb
  have nX1_X2 : w.heap.size + 1 < w3.heap.size := by omega
  replace fX1_0 := frozen_later hz cX1_0 fX1_0; replace fX1_1 := frozen_later hz cX1_1 fX1_1; replace fX1_2 := frozen_later hz cX1_2 fX1_2; replace fX1_3 := frozen_later hz cX1_3 fX1_3; replace fX1_4 := frozen_later hz cX1_4 fX1_4
  replace cX1_0 := cell_later hz cX1_0; replace cX1_1 := cell_later hz cX1_1; replace cX1_2 := cell_later hz cX1_2; replace cX1_3 := cell_later hz cX1_3; replace cX1_4 := cell_later hz cX1_4
  replace sX1 : w.heap.size + 1 < w4.heap.size ∧ w.heap.size < w4.heap.size := by have h : w.heap.size + 1 < w4.heap.size := World.block_lt_of_cell? _ _ cX1_0; exact ⟨h, by omega⟩
  have cX2_0 := cell_later hb (a := ⟨w3.heap.size, 0, none⟩) (v := .int .u64 th) (by go_simp)
  have cX2_1 := cell_later hb (a := ⟨w3.heap.size, 1, none⟩) (v := .int .u64 tl) (by go_simp)
  have sX2 : w3.heap.size < w4.heap.size := World.block_lt_of_cell? _ _ cX2_0
  replace kk := bC kk hz
  clear hb hz
  go_wp2_with fail
  have nX1_X3 : w.heap.size + 1 < w4.heap.size := by omega
  refine wp_forget (fun W => W.cell? ⟨w.heap.size + 1, 0, none⟩ = some (.bool false) ∧ W.cell? ⟨w.heap.size + 1, 1, none⟩ = some (.int .u8 0) ∧ W.cell? ⟨w.heap.size + 1, 2, none⟩ = some (.int .i64 0) ∧ W.cell? ⟨w.heap.size + 1, 3, none⟩ = some (.int .u64 0) ∧ W.cell? ⟨w.heap.size + 1, 4, none⟩ = some (.int .u64 0) ∧ W.cell? ⟨w3.heap.size, 0, none⟩ = some (.int .u64 th) ∧ W.cell? ⟨w3.heap.size, 1, none⟩ = some (.int .u64 tl) ∧ W.cell? ⟨w4.heap.size, 0, none⟩ = some (.int .u8 f) ∧ W.cell? ⟨w4.heap.size, 1, none⟩ = some (.int .i64 p) ∧ W.cell? ⟨w4.heap.size, 2, none⟩ = some (.int .i64 em) ∧ W.cell? ⟨w4.heap.size, 3, none⟩ = some (.bool ng) ∧ W.cell? ⟨w4.heap.size, 4, none⟩ = some (.int .u8 2) ∧ W.cell? ⟨w4.heap.size, 5, none⟩ = some (.int .i64 0) ∧ W.cell? ⟨w4.heap.size, 6, none⟩ = some (.int .u64 0) ∧ W.cell? ⟨w4.heap.size, 7, none⟩ = some (.int .u64 0) ∧ W.frozen? ⟨w.heap.size + 1, 0, none⟩ = false ∧ W.frozen? ⟨w.heap.size + 1, 1, none⟩ = false ∧ W.frozen? ⟨w.heap.size + 1, 2, none⟩ = false ∧ W.frozen? ⟨w.heap.size + 1, 3, none⟩ = false ∧ W.frozen? ⟨w.heap.size + 1, 4, none⟩ = false ∧ Below w.heap.size w W) ⟨cell_later (bA (Below.refl _ _) _) cX1_0, cell_later (bA (Below.refl _ _) _) cX1_1, cell_later (bA (Below.refl _ _) _) cX1_2, cell_later (bA (Below.refl _ _) _) cX1_3, cell_later (bA (Below.refl _ _) _) cX1_4, cell_later (bA (Below.refl _ _) _) cX2_0, cell_later (bA (Below.refl _ _) _) cX2_1, by go_simp, by go_simp, by go_simp, by go_simp, by go_simp, by go_simp, by go_simp, by go_simp, frozen_later (bA (Below.refl _ _) _) cX1_0 fX1_0, frozen_later (bA (Below.refl _ _) _) cX1_1 fX1_1, frozen_later (bA (Below.refl _ _) _) cX1_2 fX1_2, frozen_later (bA (Below.refl _ _) _) cX1_3 fX1_3, frozen_later (bA (Below.refl _ _) _) cX1_4 fX1_4, bC kk (bA (Below.refl _ _) _)⟩ (fun w5 hst => ?_)
  clear cX1_0 cX1_1 cX1_2 cX1_3 cX1_4 sX1 fX1_0 fX1_1 fX1_2 fX1_3 fX1_4 cX2_0 cX2_1 sX2 kk
  obtain ⟨cX1_0, cX1_1, cX1_2, cX1_3, cX1_4, cX2_0, cX2_1, cX3_0, cX3_1, cX3_2, cX3_3, cX3_4, cX3_5, cX3_6, cX3_7, fX1_0, fX1_1, fX1_2, fX1_3, fX1_4, kk⟩ := hst
  have sX1 : w.heap.size + 1 < w5.heap.size ∧ w.heap.size < w5.heap.size := by have h : w.heap.size + 1 < w5.heap.size := World.block_lt_of_cell? _ _ cX1_0; exact ⟨h, by omega⟩
  have sX2 : w3.heap.size < w5.heap.size := World.block_lt_of_cell? _ _ cX2_0
  have sX3 : w4.heap.size < w5.heap.size := World.block_lt_of_cell? _ _ cX3_0
  refine wp_region_noPanic ?_
  refine wp_region_held_drew (S := fun w' => w'.cell? ⟨w4.heap.size, 0, none⟩ = some (.int .u8 f) ∧ w'.cell? ⟨w4.heap.size, 1, none⟩ = some (.int .i64 p) ∧ w'.cell? ⟨w4.heap.size, 2, none⟩ = some (.int .i64 em) ∧ w'.cell? ⟨w4.heap.size, 3, none⟩ = some (.bool ng) ∧ w'.cell? ⟨w4.heap.size, 4, none⟩ = some (.int .u8 2) ∧ w'.cell? ⟨w4.heap.size, 5, none⟩ = some (.int .i64 0) ∧ w'.cell? ⟨w4.heap.size, 6, none⟩ = some (.int .u64 0) ∧ w'.cell? ⟨w4.heap.size, 7, none⟩ = some (.int .u64 0) ∧ w'.cell? ⟨w3.heap.size, 0, none⟩ = some (.int .u64 th) ∧ w'.cell? ⟨w3.heap.size, 1, none⟩ = some (.int .u64 tl) ∧ True) (by kernel_rfl) ⟨cell_later (Below.refl _ _).drew cX3_0, cell_later (Below.refl _ _).drew cX3_1, cell_later (Below.refl _ _).drew cX3_2, cell_later (Below.refl _ _).drew cX3_3, cell_later (Below.refl _ _).drew cX3_4, cell_later (Below.refl _ _).drew cX3_5, cell_later (Below.refl _ _).drew cX3_6, cell_later (Below.refl _ _).drew cX3_7, cell_later (Below.refl _ _).drew cX2_0, cell_later (Below.refl _ _).drew cX2_1, trivial⟩ (fun hHeld => ?_)
  replace fX1_0 := frozen_later (Below.refl _ _).drew cX1_0 fX1_0; replace fX1_1 := frozen_later (Below.refl _ _).drew cX1_1 fX1_1; replace fX1_2 := frozen_later (Below.refl _ _).drew cX1_2 fX1_2; replace fX1_3 := frozen_later (Below.refl _ _).drew cX1_3 fX1_3; replace fX1_4 := frozen_later (Below.refl _ _).drew cX1_4 fX1_4
  replace cX1_0 := cell_later (Below.refl _ _).drew cX1_0; replace cX1_1 := cell_later (Below.refl _ _).drew cX1_1; replace cX1_2 := cell_later (Below.refl _ _).drew cX1_2; replace cX1_3 := cell_later (Below.refl _ _).drew cX1_3; replace cX1_4 := cell_later (Below.refl _ _).drew cX1_4
  replace cX2_0 := cell_later (Below.refl _ _).drew cX2_0; replace cX2_1 := cell_later (Below.refl _ _).drew cX2_1
  replace cX3_0 := cell_later (Below.refl _ _).drew cX3_0; replace cX3_1 := cell_later (Below.refl _ _).drew cX3_1; replace cX3_2 := cell_later (Below.refl _ _).drew cX3_2; replace cX3_3 := cell_later (Below.refl _ _).drew cX3_3; replace cX3_4 := cell_later (Below.refl _ _).drew cX3_4; replace cX3_5 := cell_later (Below.refl _ _).drew cX3_5; replace cX3_6 := cell_later (Below.refl _ _).drew cX3_6; replace cX3_7 := cell_later (Below.refl _ _).drew cX3_7
  replace kk := bC kk (Below.refl _ _).drew
  refine wpAnyH_take (i := 0) (v := ?vq42) rfl (by kernel_rfl) (by kernel_rfl) (by kernel_rfl) (fun _ _ _ h => h) (Or.inl ⟨by rfl, ?yq42⟩) hHeld ?rq42
  case yq42 => (intro wq hb; obtain ⟨lq0, lq1, lq2, lq3, lq4, lq5, lq6, lq7, lq8, lq9, _⟩ := hb; go_simp; try (with_reducible rfl))
  try simp only [List.getElem_toArray, List.getElem_cons_zero, List.getElem_cons_succ, Act.put, List.setIfInBounds_toArray, List.set_cons_zero, List.set_cons_succ]
  refine wpAnyH_take (i := 1) (v := ?vq43) rfl (by kernel_rfl) (by kernel_rfl) (by kernel_rfl) (fun _ _ _ h => h) (Or.inl ⟨by rfl, ?yq43⟩) hHeld ?rq43
  case yq43 => (intro wq hb; obtain ⟨lq0, lq1, lq2, lq3, lq4, lq5, lq6, lq7, lq8, lq9, _⟩ := hb; go_simp; try (with_reducible rfl))
  try simp only [List.getElem_toArray, List.getElem_cons_zero, List.getElem_cons_succ, Act.put, List.setIfInBounds_toArray, List.set_cons_zero, List.set_cons_succ]
  refine wpAnyH_take (i := 2) (v := ?vq44) rfl (by kernel_rfl) (by kernel_rfl) (by kernel_rfl) (fun _ _ _ h => h) (Or.inl ⟨by rfl, ?yq44⟩) hHeld ?rq44
  case yq44 => (intro wq hb; obtain ⟨lq0, lq1, lq2, lq3, lq4, lq5, lq6, lq7, lq8, lq9, _⟩ := hb; go_simp; try (with_reducible rfl))
  try simp only [List.getElem_toArray, List.getElem_cons_zero, List.getElem_cons_succ, Act.put, List.setIfInBounds_toArray, List.set_cons_zero, List.set_cons_succ]
  refine wpAnyH_take (i := 3) (v := ?vq45) rfl (by kernel_rfl) (by kernel_rfl) (by kernel_rfl) (fun _ _ _ h => h) (Or.inl ⟨by rfl, ?yq45⟩) hHeld ?rq45
  case yq45 => (intro wq hb; obtain ⟨lq0, lq1, lq2, lq3, lq4, lq5, lq6, lq7, lq8, lq9, _⟩ := hb; go_simp; try (with_reducible rfl))
  try simp only [List.getElem_toArray, List.getElem_cons_zero, List.getElem_cons_succ, Act.put, List.setIfInBounds_toArray, List.set_cons_zero, List.set_cons_succ]
  refine wpAnyH_take (i := 4) (v := ?vq46) rfl (by kernel_rfl) (by kernel_rfl) (by kernel_rfl) (fun _ _ _ h => h) (Or.inl ⟨by rfl, ?yq46⟩) hHeld ?rq46
  case yq46 => (intro wq hb; obtain ⟨lq0, lq1, lq2, lq3, lq4, lq5, lq6, lq7, lq8, lq9, _⟩ := hb; go_simp; try (with_reducible rfl))
  try simp only [List.getElem_toArray, List.getElem_cons_zero, List.getElem_cons_succ, Act.put, List.setIfInBounds_toArray, List.set_cons_zero, List.set_cons_succ]
  refine wpAnyH_take (i := 5) (v := ?vq47) rfl (by kernel_rfl) (by kernel_rfl) (by kernel_rfl) (fun _ _ _ h => h) (Or.inl ⟨by rfl, ?yq47⟩) hHeld ?rq47
  case yq47 => (intro wq hb; obtain ⟨lq0, lq1, lq2, lq3, lq4, lq5, lq6, lq7, lq8, lq9, _⟩ := hb; go_simp; try (with_reducible rfl))
  try simp only [List.getElem_toArray, List.getElem_cons_zero, List.getElem_cons_succ, Act.put, List.setIfInBounds_toArray, List.set_cons_zero, List.set_cons_succ]
  refine wpAnyH_take (i := 6) (v := ?vq48) rfl (by kernel_rfl) (by kernel_rfl) (by kernel_rfl) (fun _ _ _ h => h) (Or.inl ⟨by rfl, ?yq48⟩) hHeld ?rq48
  case yq48 => (intro wq hb; obtain ⟨lq0, lq1, lq2, lq3, lq4, lq5, lq6, lq7, lq8, lq9, _⟩ := hb; go_simp; try (with_reducible rfl))
  try simp only [List.getElem_toArray, List.getElem_cons_zero, List.getElem_cons_succ, Act.put, List.setIfInBounds_toArray, List.set_cons_zero, List.set_cons_succ]
  refine wpAnyH_take (i := 7) (v := ?vq49) rfl (by kernel_rfl) (by kernel_rfl) (by kernel_rfl) (fun _ _ _ h => h) (Or.inl ⟨by rfl, ?yq49⟩) hHeld ?rq49
  case yq49 => (intro wq hb; obtain ⟨lq0, lq1, lq2, lq3, lq4, lq5, lq6, lq7, lq8, lq9, _⟩ := hb; go_simp; try (with_reducible rfl))
  try simp only [List.getElem_toArray, List.getElem_cons_zero, List.getElem_cons_succ, Act.put, List.setIfInBounds_toArray, List.set_cons_zero, List.set_cons_succ]
  refine wpAnyH_take (i := 8) (v := ?vq50) rfl (by kernel_rfl) (by kernel_rfl) (by kernel_rfl) (fun _ _ _ h => h) (Or.inl ⟨by rfl, ?yq50⟩) hHeld ?rq50
  case yq50 => (intro wq hb; obtain ⟨lq0, lq1, lq2, lq3, lq4, lq5, lq6, lq7, lq8, lq9, _⟩ := hb; go_simp; try (with_reducible rfl))
  try simp only [List.getElem_toArray, List.getElem_cons_zero, List.getElem_cons_succ, Act.put, List.setIfInBounds_toArray, List.set_cons_zero, List.set_cons_succ]
  clear hHeld
  refine wpAnyH_ready (rs := [9]) (by kernel_rfl) (by simp) ?_
  refine AllReadyH.cons rfl (fun K hK => ?_) AllReadyH.nil
  go_simp
  (with_reducible refine (h4.out _ (ft.later kk)).mono ?_); rintro e w6 ⟨rfl, hb⟩
  replace fX1_0 := frozen_later hb cX1_0 fX1_0; replace fX1_1 := frozen_later hb cX1_1 fX1_1; replace fX1_2 := frozen_later hb cX1_2 fX1_2; replace fX1_3 := frozen_later hb cX1_3 fX1_3; replace fX1_4 := frozen_later hb cX1_4 fX1_4
  replace cX1_0 := cell_later hb cX1_0; replace cX1_1 := cell_later hb cX1_1; replace cX1_2 := cell_later hb cX1_2; replace cX1_3 := cell_later hb cX1_3; replace cX1_4 := cell_later hb cX1_4
  replace cX2_0 := cell_later hb cX2_0; replace cX2_1 := cell_later hb cX2_1
  replace cX3_0 := cell_later hb cX3_0; replace cX3_1 := cell_later hb cX3_1; replace cX3_2 := cell_later hb cX3_2; replace cX3_3 := cell_later hb cX3_3; replace cX3_4 := cell_later hb cX3_4; replace cX3_5 := cell_later hb cX3_5; replace cX3_6 := cell_later hb cX3_6; replace cX3_7 := cell_later hb cX3_7
  replace kk := bC kk hb
  clear hb
  refine hK.out _ _ ⟨cX3_0, cX3_1, cX3_2, cX3_3, cX3_4, cX3_5, cX3_6, cX3_7, cX2_0, cX2_1, trivial⟩ (fun hHeld => ?_)
  clear hK K
  try simp only [List.getElem_toArray, List.getElem_cons_zero, List.getElem_cons_succ, Act.put, List.setIfInBounds_toArray, List.set_cons_zero, List.set_cons_succ]
  clear hHeld
  refine wpAnyH_ready (rs := [10]) (by kernel_rfl) (by simp) ?_
  refine AllReadyH.cons rfl (fun K hK => ?_) AllReadyH.nil
  go_simp
  (with_reducible refine (h5.out _ (ft.later kk)).mono ?_); rintro e w7 ⟨rfl, hb⟩
  replace fX1_0 := frozen_later hb cX1_0 fX1_0; replace fX1_1 := frozen_later hb cX1_1 fX1_1; replace fX1_2 := frozen_later hb cX1_2 fX1_2; replace fX1_3 := frozen_later hb cX1_3 fX1_3; replace fX1_4 := frozen_later hb cX1_4 fX1_4
  replace cX1_0 := cell_later hb cX1_0; replace cX1_1 := cell_later hb cX1_1; replace cX1_2 := cell_later hb cX1_2; replace cX1_3 := cell_later hb cX1_3; replace cX1_4 := cell_later hb cX1_4
  replace cX2_0 := cell_later hb cX2_0; replace cX2_1 := cell_later hb cX2_1
  replace cX3_0 := cell_later hb cX3_0; replace cX3_1 := cell_later hb cX3_1; replace cX3_2 := cell_later hb cX3_2; replace cX3_3 := cell_later hb cX3_3; replace cX3_4 := cell_later hb cX3_4; replace cX3_5 := cell_later hb cX3_5; replace cX3_6 := cell_later hb cX3_6; replace cX3_7 := cell_later hb cX3_7
  replace kk := bC kk hb
  clear hb
  refine hK.out _ _ ⟨cX3_0, cX3_1, cX3_2, cX3_3, cX3_4, cX3_5, cX3_6, cX3_7, cX2_0, cX2_1, trivial⟩ (fun hHeld => ?_)
  clear hK K
  try simp only [List.getElem_toArray, List.getElem_cons_zero, List.getElem_cons_succ, Act.put, List.setIfInBounds_toArray, List.set_cons_zero, List.set_cons_succ]
  clear hHeld
  refine wpAnyH_ready (rs := [11]) (by kernel_rfl) (by simp) ?_
  refine AllReadyH.cons rfl (fun K hK => ?_) AllReadyH.nil
  go_simp
  have neX2 : ¬ (w.heap.size + 1 = w3.heap.size) := by omega
  have nfX2 : ¬ (w3.heap.size = w.heap.size + 1) := by omega
  have neX3 : ¬ (w.heap.size + 1 = w4.heap.size) := by omega
  have nfX3 : ¬ (w4.heap.size = w.heap.size + 1) := by omega
  have KEY := Lib.hid (show (((((w7.setCell ⟨w.heap.size + 1, 0, none⟩ (.bool ng)).setCell ⟨w.heap.size + 1, 1, none⟩ (.int .u8 2)).setCell ⟨w.heap.size + 1, 2, none⟩ (.int .i64 x)).setCell ⟨w.heap.size + 1, 3, none⟩ (.int .u64 sh)).setCell ⟨w.heap.size + 1, 4, none⟩ (.int .u64 sl)).cell? ⟨w.heap.size + 1, 0, none⟩ = some (.bool ng) ∧ (((((w7.setCell ⟨w.heap.size + 1, 0, none⟩ (.bool ng)).setCell ⟨w.heap.size + 1, 1, none⟩ (.int .u8 2)).setCell ⟨w.heap.size + 1, 2, none⟩ (.int .i64 x)).setCell ⟨w.heap.size + 1, 3, none⟩ (.int .u64 sh)).setCell ⟨w.heap.size + 1, 4, none⟩ (.int .u64 sl)).cell? ⟨w.heap.size + 1, 1, none⟩ = some (.int .u8 2) ∧ (((((w7.setCell ⟨w.heap.size + 1, 0, none⟩ (.bool ng)).setCell ⟨w.heap.size + 1, 1, none⟩ (.int .u8 2)).setCell ⟨w.heap.size + 1, 2, none⟩ (.int .i64 x)).setCell ⟨w.heap.size + 1, 3, none⟩ (.int .u64 sh)).setCell ⟨w.heap.size + 1, 4, none⟩ (.int .u64 sl)).cell? ⟨w.heap.size + 1, 2, none⟩ = some (.int .i64 x) ∧ (((((w7.setCell ⟨w.heap.size + 1, 0, none⟩ (.bool ng)).setCell ⟨w.heap.size + 1, 1, none⟩ (.int .u8 2)).setCell ⟨w.heap.size + 1, 2, none⟩ (.int .i64 x)).setCell ⟨w.heap.size + 1, 3, none⟩ (.int .u64 sh)).setCell ⟨w.heap.size + 1, 4, none⟩ (.int .u64 sl)).cell? ⟨w.heap.size + 1, 3, none⟩ = some (.int .u64 sh) ∧ (((((w7.setCell ⟨w.heap.size + 1, 0, none⟩ (.bool ng)).setCell ⟨w.heap.size + 1, 1, none⟩ (.int .u8 2)).setCell ⟨w.heap.size + 1, 2, none⟩ (.int .i64 x)).setCell ⟨w.heap.size + 1, 3, none⟩ (.int .u64 sh)).setCell ⟨w.heap.size + 1, 4, none⟩ (.int .u64 sl)).cell? ⟨w.heap.size + 1, 4, none⟩ = some (.int .u64 sl) ∧ (((((w7.setCell ⟨w.heap.size + 1, 0, none⟩ (.bool ng)).setCell ⟨w.heap.size + 1, 1, none⟩ (.int .u8 2)).setCell ⟨w.heap.size + 1, 2, none⟩ (.int .i64 x)).setCell ⟨w.heap.size + 1, 3, none⟩ (.int .u64 sh)).setCell ⟨w.heap.size + 1, 4, none⟩ (.int .u64 sl)).frozen? ⟨w.heap.size + 1, 0, none⟩ = false ∧ (((((w7.setCell ⟨w.heap.size + 1, 0, none⟩ (.bool ng)).setCell ⟨w.heap.size + 1, 1, none⟩ (.int .u8 2)).setCell ⟨w.heap.size + 1, 2, none⟩ (.int .i64 x)).setCell ⟨w.heap.size + 1, 3, none⟩ (.int .u64 sh)).setCell ⟨w.heap.size + 1, 4, none⟩ (.int .u64 sl)).frozen? ⟨w.heap.size + 1, 1, none⟩ = false ∧ (((((w7.setCell ⟨w.heap.size + 1, 0, none⟩ (.bool ng)).setCell ⟨w.heap.size + 1, 1, none⟩ (.int .u8 2)).setCell ⟨w.heap.size + 1, 2, none⟩ (.int .i64 x)).setCell ⟨w.heap.size + 1, 3, none⟩ (.int .u64 sh)).setCell ⟨w.heap.size + 1, 4, none⟩ (.int .u64 sl)).frozen? ⟨w.heap.size + 1, 2, none⟩ = false ∧ (((((w7.setCell ⟨w.heap.size + 1, 0, none⟩ (.bool ng)).setCell ⟨w.heap.size + 1, 1, none⟩ (.int .u8 2)).setCell ⟨w.heap.size + 1, 2, none⟩ (.int .i64 x)).setCell ⟨w.heap.size + 1, 3, none⟩ (.int .u64 sh)).setCell ⟨w.heap.size + 1, 4, none⟩ (.int .u64 sl)).frozen? ⟨w.heap.size + 1, 3, none⟩ = false ∧ (((((w7.setCell ⟨w.heap.size + 1, 0, none⟩ (.bool ng)).setCell ⟨w.heap.size + 1, 1, none⟩ (.int .u8 2)).setCell ⟨w.heap.size + 1, 2, none⟩ (.int .i64 x)).setCell ⟨w.heap.size + 1, 3, none⟩ (.int .u64 sh)).setCell ⟨w.heap.size + 1, 4, none⟩ (.int .u64 sl)).frozen? ⟨w.heap.size + 1, 4, none⟩ = false ∧ (((((w7.setCell ⟨w.heap.size + 1, 0, none⟩ (.bool ng)).setCell ⟨w.heap.size + 1, 1, none⟩ (.int .u8 2)).setCell ⟨w.heap.size + 1, 2, none⟩ (.int .i64 x)).setCell ⟨w.heap.size + 1, 3, none⟩ (.int .u64 sh)).setCell ⟨w.heap.size + 1, 4, none⟩ (.int .u64 sl)).cell? ⟨w3.heap.size, 0, none⟩ = some (.int .u64 th) ∧ (((((w7.setCell ⟨w.heap.size + 1, 0, none⟩ (.bool ng)).setCell ⟨w.heap.size + 1, 1, none⟩ (.int .u8 2)).setCell ⟨w.heap.size + 1, 2, none⟩ (.int .i64 x)).setCell ⟨w.heap.size + 1, 3, none⟩ (.int .u64 sh)).setCell ⟨w.heap.size + 1, 4, none⟩ (.int .u64 sl)).cell? ⟨w3.heap.size, 1, none⟩ = some (.int .u64 tl) ∧ (((((w7.setCell ⟨w.heap.size + 1, 0, none⟩ (.bool ng)).setCell ⟨w.heap.size + 1, 1, none⟩ (.int .u8 2)).setCell ⟨w.heap.size + 1, 2, none⟩ (.int .i64 x)).setCell ⟨w.heap.size + 1, 3, none⟩ (.int .u64 sh)).setCell ⟨w.heap.size + 1, 4, none⟩ (.int .u64 sl)).cell? ⟨w4.heap.size, 0, none⟩ = some (.int .u8 f) ∧ (((((w7.setCell ⟨w.heap.size + 1, 0, none⟩ (.bool ng)).setCell ⟨w.heap.size + 1, 1, none⟩ (.int .u8 2)).setCell ⟨w.heap.size + 1, 2, none⟩ (.int .i64 x)).setCell ⟨w.heap.size + 1, 3, none⟩ (.int .u64 sh)).setCell ⟨w.heap.size + 1, 4, none⟩ (.int .u64 sl)).cell? ⟨w4.heap.size, 1, none⟩ = some (.int .i64 p) ∧ (((((w7.setCell ⟨w.heap.size + 1, 0, none⟩ (.bool ng)).setCell ⟨w.heap.size + 1, 1, none⟩ (.int .u8 2)).setCell ⟨w.heap.size + 1, 2, none⟩ (.int .i64 x)).setCell ⟨w.heap.size + 1, 3, none⟩ (.int .u64 sh)).setCell ⟨w.heap.size + 1, 4, none⟩ (.int .u64 sl)).cell? ⟨w4.heap.size, 2, none⟩ = some (.int .i64 em) ∧ (((((w7.setCell ⟨w.heap.size + 1, 0, none⟩ (.bool ng)).setCell ⟨w.heap.size + 1, 1, none⟩ (.int .u8 2)).setCell ⟨w.heap.size + 1, 2, none⟩ (.int .i64 x)).setCell ⟨w.heap.size + 1, 3, none⟩ (.int .u64 sh)).setCell ⟨w.heap.size + 1, 4, none⟩ (.int .u64 sl)).cell? ⟨w4.heap.size, 3, none⟩ = some (.bool ng) ∧ (((((w7.setCell ⟨w.heap.size + 1, 0, none⟩ (.bool ng)).setCell ⟨w.heap.size + 1, 1, none⟩ (.int .u8 2)).setCell ⟨w.heap.size + 1, 2, none⟩ (.int .i64 x)).setCell ⟨w.heap.size + 1, 3, none⟩ (.int .u64 sh)).setCell ⟨w.heap.size + 1, 4, none⟩ (.int .u64 sl)).cell? ⟨w4.heap.size, 4, none⟩ = some (.int .u8 2) ∧ (((((w7.setCell ⟨w.heap.size + 1, 0, none⟩ (.bool ng)).setCell ⟨w.heap.size + 1, 1, none⟩ (.int .u8 2)).setCell ⟨w.heap.size + 1, 2, none⟩ (.int .i64 x)).setCell ⟨w.heap.size + 1, 3, none⟩ (.int .u64 sh)).setCell ⟨w.heap.size + 1, 4, none⟩ (.int .u64 sl)).cell? ⟨w4.heap.size, 5, none⟩ = some (.int .i64 0) ∧ (((((w7.setCell ⟨w.heap.size + 1, 0, none⟩ (.bool ng)).setCell ⟨w.heap.size + 1, 1, none⟩ (.int .u8 2)).setCell ⟨w.heap.size + 1, 2, none⟩ (.int .i64 x)).setCell ⟨w.heap.size + 1, 3, none⟩ (.int .u64 sh)).setCell ⟨w.heap.size + 1, 4, none⟩ (.int .u64 sl)).cell? ⟨w4.heap.size, 6, none⟩ = some (.int .u64 0) ∧ (((((w7.setCell ⟨w.heap.size + 1, 0, none⟩ (.bool ng)).setCell ⟨w.heap.size + 1, 1, none⟩ (.int .u8 2)).setCell ⟨w.heap.size + 1, 2, none⟩ (.int .i64 x)).setCell ⟨w.heap.size + 1, 3, none⟩ (.int .u64 sh)).setCell ⟨w.heap.size + 1, 4, none⟩ (.int .u64 sl)).cell? ⟨w4.heap.size, 7, none⟩ = some (.int .u64 0) ∧ Below w.heap.size w (((((w7.setCell ⟨w.heap.size + 1, 0, none⟩ (.bool ng)).setCell ⟨w.heap.size + 1, 1, none⟩ (.int .u8 2)).setCell ⟨w.heap.size + 1, 2, none⟩ (.int .i64 x)).setCell ⟨w.heap.size + 1, 3, none⟩ (.int .u64 sh)).setCell ⟨w.heap.size + 1, 4, none⟩ (.int .u64 sl)) from ⟨by go_simp, by go_simp, by go_simp, by go_simp, by go_simp, by go_simp, by go_simp, by go_simp, by go_simp, by go_simp, by go_simp, by go_simp, by go_simp, by go_simp, by go_simp, by go_simp, by go_simp, by go_simp, by go_simp, by go_simp, (((((kk.setCell (p := ⟨w.heap.size + 1, 0, none⟩) gX1 _).setCell (p := ⟨w.heap.size + 1, 1, none⟩) gX1 _).setCell (p := ⟨w.heap.size + 1, 2, none⟩) gX1 _).setCell (p := ⟨w.heap.size + 1, 3, none⟩) gX1 _).setCell (p := ⟨w.heap.size + 1, 4, none⟩) gX1 _)⟩)
  clear cX1_0 cX1_1 cX1_2 cX1_3 cX1_4 fX1_0 fX1_1 fX1_2 fX1_3 fX1_4 cX2_0 cX2_1 cX3_0 cX3_1 cX3_2 cX3_3 cX3_4 cX3_5 cX3_6 cX3_7 neX2 nfX2 neX3 nfX3 kk
  refine forget_at (fun W => W.cell? ⟨w.heap.size + 1, 0, none⟩ = some (.bool ng) ∧ W.cell? ⟨w.heap.size + 1, 1, none⟩ = some (.int .u8 2) ∧ W.cell? ⟨w.heap.size + 1, 2, none⟩ = some (.int .i64 x) ∧ W.cell? ⟨w.heap.size + 1, 3, none⟩ = some (.int .u64 sh) ∧ W.cell? ⟨w.heap.size + 1, 4, none⟩ = some (.int .u64 sl) ∧ W.frozen? ⟨w.heap.size + 1, 0, none⟩ = false ∧ W.frozen? ⟨w.heap.size + 1, 1, none⟩ = false ∧ W.frozen? ⟨w.heap.size + 1, 2, none⟩ = false ∧ W.frozen? ⟨w.heap.size + 1, 3, none⟩ = false ∧ W.frozen? ⟨w.heap.size + 1, 4, none⟩ = false ∧ W.cell? ⟨w3.heap.size, 0, none⟩ = some (.int .u64 th) ∧ W.cell? ⟨w3.heap.size, 1, none⟩ = some (.int .u64 tl) ∧ W.cell? ⟨w4.heap.size, 0, none⟩ = some (.int .u8 f) ∧ W.cell? ⟨w4.heap.size, 1, none⟩ = some (.int .i64 p) ∧ W.cell? ⟨w4.heap.size, 2, none⟩ = some (.int .i64 em) ∧ W.cell? ⟨w4.heap.size, 3, none⟩ = some (.bool ng) ∧ W.cell? ⟨w4.heap.size, 4, none⟩ = some (.int .u8 2) ∧ W.cell? ⟨w4.heap.size, 5, none⟩ = some (.int .i64 0) ∧ W.cell? ⟨w4.heap.size, 6, none⟩ = some (.int .u64 0) ∧ W.cell? ⟨w4.heap.size, 7, none⟩ = some (.int .u64 0) ∧ Below w.heap.size w W) KEY.out (fun w8 hz => ?_)
  obtain ⟨cX1_0, cX1_1, cX1_2, cX1_3, cX1_4, fX1_0, fX1_1, fX1_2, fX1_3, fX1_4, cX2_0, cX2_1, cX3_0, cX3_1, cX3_2, cX3_3, cX3_4, cX3_5, cX3_6, cX3_7, kk⟩ := hz
  clear KEY
  refine hK.out _ _ ⟨cX3_0, cX3_1, cX3_2, cX3_3, cX3_4, cX3_5, cX3_6, cX3_7, cX2_0, cX2_1, trivial⟩ (fun hHeld => ?_)
  clear hK K
  try simp only [List.getElem_toArray, List.getElem_cons_zero, List.getElem_cons_succ, Act.put, List.setIfInBounds_toArray, List.set_cons_zero, List.set_cons_succ]
  clear hHeld
  refine wpAnyH_done (by kernel_rfl) ?_ _
  refine NoPanic.normal ?_
  replace sX1 : w.heap.size + 1 < w8.heap.size ∧ w.heap.size < w8.heap.size := by have h : w.heap.size + 1 < w8.heap.size := World.block_lt_of_cell? _ _ cX1_0; exact ⟨h, by omega⟩
  clear cX2_0 cX2_1 sX2
  clear cX3_0 cX3_1 cX3_2 cX3_3 cX3_4 cX3_5 cX3_6 cX3_7 sX3
  go_wp2_with fail
  refine bodyPost_ret (v := .agg #[.bool ng, .int .u8 2, .int .i64 x, .int .u64 sh, .int .u64 sl]) ?_ rfl ⟨rfl, kk⟩
  simp [results, Tryz.results31, go_sem, cX1_0, cX1_1, cX1_2, cX1_3, cX1_4]

set_option maxHeartbeats 4000000 in
set_option maxRecDepth 100000 in
theorem fld_unpack_def (f bh bl ex th tl p em c : Int) (ng ng2 : Bool)
    (h0 : Hid (∀ w, FTab w → Calls Tryz.prog 11 #[.int .u8 f] w fun e w' => e = .returned (.bool true) ∧ Below w.heap.size w w'))
    (h1 : Hid (∀ w, FTab w → Calls Tryz.prog 15 #[.int .u8 f, .agg #[.int .u64 bh, .int .u64 bl]] w fun e w' => e = .returned (.tuple #[.int .u8 c, .bool ng]) ∧ Below w.heap.size w w'))
    (h2 : Hid (∀ w, FTab w → Calls Tryz.prog 35 #[.int .u8 f, .agg #[.int .u64 bh, .int .u64 bl]] w fun e w' => e = .returned (.tuple #[.bool ng2, .int .i64 ex, .agg #[.int .u64 th, .int .u64 tl]]) ∧ Below w.heap.size w w'))
    (h3 : Hid (∀ w, FTab w → Calls Tryz.prog 66 #[.int .u8 f, .agg #[.bool ng, .int .u8 c, .int .i64 0, .int .u64 0, .int .u64 0]] w fun e w' => e = .returned (.agg #[.int .u8 f, .int .i64 p, .int .i64 em, .bool ng, .int .u8 c, .int .i64 0, .int .u64 0, .int .u64 0]) ∧ Below w.heap.size w w')) (c1 : (c == 1) = false) (c2 : (c == 2) = false) (w : World) (ft : FTab w) :
    Calls Tryz.prog 31 #[.int .u8 f, .agg #[.int .u64 bh, .int .u64 bl]] w fun e w' => e = .returned (.agg #[.bool ng, .int .u8 c, .int .i64 0, .int .u64 0, .int .u64 0]) ∧ Below w.heap.size w w' := by
  go_enter Tryz.func31, Tryz.ntmps31
  go_wp2_with fail
  (with_reducible refine (h0.out _ (ft.later (bA (bA (Below.refl _ _) _) _))).mono ?_); rintro e w1 ⟨rfl, hb⟩
  have hz := bC (bA (bA (Below.refl _ _) _) _) hb
  have gX1 : w.heap.size ≤ w.heap.size + 1 := by omega
  have cX0_0 := cell_later hb (a := ⟨w.heap.size, 0, none⟩) (v := .int .u64 bh) (by go_simp)
  have cX0_1 := cell_later hb (a := ⟨w.heap.size, 1, none⟩) (v := .int .u64 bl) (by go_simp)
  have sX0 : w.heap.size < w1.heap.size := World.block_lt_of_cell? _ _ cX0_0
  have cX1_0 := cell_later hb (a := ⟨w.heap.size + 1, 0, none⟩) (v := .bool false) (by go_simp)
  have cX1_1 := cell_later hb (a := ⟨w.heap.size + 1, 1, none⟩) (v := .int .u8 0) (by go_simp)
  have cX1_2 := cell_later hb (a := ⟨w.heap.size + 1, 2, none⟩) (v := .int .i64 0) (by go_simp)
  have cX1_3 := cell_later hb (a := ⟨w.heap.size + 1, 3, none⟩) (v := .int .u64 0) (by go_simp)
  have cX1_4 := cell_later hb (a := ⟨w.heap.size + 1, 4, none⟩) (v := .int .u64 0) (by go_simp)
  have sX1 : w.heap.size + 1 < w1.heap.size ∧ w.heap.size < w1.heap.size := by have h : w.heap.size + 1 < w1.heap.size := World.block_lt_of_cell? _ _ cX1_0; exact ⟨h, by omega⟩
  have fX1_0 := frozen_later hb (a := ⟨w.heap.size + 1, 0, none⟩) (v := .bool false) (by go_simp) (by go_simp)
  have fX1_1 := frozen_later hb (a := ⟨w.heap.size + 1, 1, none⟩) (v := .int .u8 0) (by go_simp) (by go_simp)
  have fX1_2 := frozen_later hb (a := ⟨w.heap.size + 1, 2, none⟩) (v := .int .i64 0) (by go_simp) (by go_simp)
  have fX1_3 := frozen_later hb (a := ⟨w.heap.size + 1, 3, none⟩) (v := .int .u64 0) (by go_simp) (by go_simp)
  have fX1_4 := frozen_later hb (a := ⟨w.heap.size + 1, 4, none⟩) (v := .int .u64 0) (by go_simp) (by go_simp)
  have kk := hz
  clear hb hz
  go_wp2_with fail
  (with_reducible refine (h1.out _ (ft.later kk)).mono ?_); rintro e w2 ⟨rfl, hb⟩
  replace cX0_0 := cell_later hb cX0_0; replace cX0_1 := cell_later hb cX0_1
  replace sX0 : w.heap.size < w2.heap.size := World.block_lt_of_cell? _ _ cX0_0
  replace fX1_0 := frozen_later hb cX1_0 fX1_0; replace fX1_1 := frozen_later hb cX1_1 fX1_1; replace fX1_2 := frozen_later hb cX1_2 fX1_2; replace fX1_3 := frozen_later hb cX1_3 fX1_3; replace fX1_4 := frozen_later hb cX1_4 fX1_4
  replace cX1_0 := cell_later hb cX1_0; replace cX1_1 := cell_later hb cX1_1; replace cX1_2 := cell_later hb cX1_2; replace cX1_3 := cell_later hb cX1_3; replace cX1_4 := cell_later hb cX1_4
  replace sX1 : w.heap.size + 1 < w2.heap.size ∧ w.heap.size < w2.heap.size := by have h : w.heap.size + 1 < w2.heap.size := World.block_lt_of_cell? _ _ cX1_0; exact ⟨h, by omega⟩
  replace kk := bC kk hb
  clear hb
  go_wp2_with fail
  (with_reducible refine (h2.out _ (ft.later kk)).mono ?_); rintro e w3 ⟨rfl, hb⟩
  clear cX0_0 cX0_1 sX0
  replace fX1_0 := frozen_later hb cX1_0 fX1_0; replace fX1_1 := frozen_later hb cX1_1 fX1_1; replace fX1_2 := frozen_later hb cX1_2 fX1_2; replace fX1_3 := frozen_later hb cX1_3 fX1_3; replace fX1_4 := frozen_later hb cX1_4 fX1_4
  replace cX1_0 := cell_later hb cX1_0; replace cX1_1 := cell_later hb cX1_1; replace cX1_2 := cell_later hb cX1_2; replace cX1_3 := cell_later hb cX1_3; replace cX1_4 := cell_later hb cX1_4
  replace sX1 : w.heap.size + 1 < w3.heap.size ∧ w.heap.size < w3.heap.size := by have h : w.heap.size + 1 < w3.heap.size := World.block_lt_of_cell? _ _ cX1_0; exact ⟨h, by omega⟩
  replace kk := bC kk hb
  clear hb
  go_wp2_with fail
  (with_reducible refine (h3.out _ (ft.later (bC kk (bA (Below.refl _ _) _)))).mono ?_); rintro e w4 ⟨rfl, hb⟩
  have hz := bC (bA (Below.refl _ _) _) hb
  replace fX1_0 := frozen_later hz cX1_0 fX1_0; replace fX1_1 := frozen_later hz cX1_1 fX1_1; replace fX1_2 := frozen_later hz cX1_2 fX1_2; replace fX1_3 := frozen_later hz cX1_3 fX1_3; replace fX1_4 := frozen_later hz cX1_4 fX1_4
  replace cX1_0 := cell_later hz cX1_0; replace cX1_1 := cell_later hz cX1_1; replace cX1_2 := cell_later hz cX1_2; replace cX1_3 := cell_later hz cX1_3; replace cX1_4 := cell_later hz cX1_4
  replace sX1 : w.heap.size + 1 < w4.heap.size ∧ w.heap.size < w4.heap.size := by have h : w.heap.size + 1 < w4.heap.size := World.block_lt_of_cell? _ _ cX1_0; exact ⟨h, by omega⟩
  replace kk := bC kk hz
  clear hb hz
  have KEY : Hid (((((((w4.setCell ⟨w.heap.size + 1, 0, none⟩ (.bool ng)).setCell ⟨w.heap.size + 1, 1, none⟩ (.int .u8 c)).setCell ⟨w.heap.size + 1, 2, none⟩ (.int .i64 0)).setCell ⟨w.heap.size + 1, 3, none⟩ (.int .u64 0)).setCell ⟨w.heap.size + 1, 4, none⟩ (.int .u64 0)).alloc (.cells #[.int .u8 f, .int .i64 p, .int .i64 em, .bool ng, .int .u8 c, .int .i64 0, .int .u64 0, .int .u64 0] 113)).cell? ⟨w.heap.size + 1, 0, none⟩ = some (.bool ng) ∧ ((((((w4.setCell ⟨w.heap.size + 1, 0, none⟩ (.bool ng)).setCell ⟨w.heap.size + 1, 1, none⟩ (.int .u8 c)).setCell ⟨w.heap.size + 1, 2, none⟩ (.int .i64 0)).setCell ⟨w.heap.size + 1, 3, none⟩ (.int .u64 0)).setCell ⟨w.heap.size + 1, 4, none⟩ (.int .u64 0)).alloc (.cells #[.int .u8 f, .int .i64 p, .int .i64 em, .bool ng, .int .u8 c, .int .i64 0, .int .u64 0, .int .u64 0] 113)).cell? ⟨w.heap.size + 1, 1, none⟩ = some (.int .u8 c) ∧ ((((((w4.setCell ⟨w.heap.size + 1, 0, none⟩ (.bool ng)).setCell ⟨w.heap.size + 1, 1, none⟩ (.int .u8 c)).setCell ⟨w.heap.size + 1, 2, none⟩ (.int .i64 0)).setCell ⟨w.heap.size + 1, 3, none⟩ (.int .u64 0)).setCell ⟨w.heap.size + 1, 4, none⟩ (.int .u64 0)).alloc (.cells #[.int .u8 f, .int .i64 p, .int .i64 em, .bool ng, .int .u8 c, .int .i64 0, .int .u64 0, .int .u64 0] 113)).cell? ⟨w.heap.size + 1, 2, none⟩ = some (.int .i64 0) ∧ ((((((w4.setCell ⟨w.heap.size + 1, 0, none⟩ (.bool ng)).setCell ⟨w.heap.size + 1, 1, none⟩ (.int .u8 c)).setCell ⟨w.heap.size + 1, 2, none⟩ (.int .i64 0)).setCell ⟨w.heap.size + 1, 3, none⟩ (.int .u64 0)).setCell ⟨w.heap.size + 1, 4, none⟩ (.int .u64 0)).alloc (.cells #[.int .u8 f, .int .i64 p, .int .i64 em, .bool ng, .int .u8 c, .int .i64 0, .int .u64 0, .int .u64 0] 113)).cell? ⟨w.heap.size + 1, 3, none⟩ = some (.int .u64 0) ∧ ((((((w4.setCell ⟨w.heap.size + 1, 0, none⟩ (.bool ng)).setCell ⟨w.heap.size + 1, 1, none⟩ (.int .u8 c)).setCell ⟨w.heap.size + 1, 2, none⟩ (.int .i64 0)).setCell ⟨w.heap.size + 1, 3, none⟩ (.int .u64 0)).setCell ⟨w.heap.size + 1, 4, none⟩ (.int .u64 0)).alloc (.cells #[.int .u8 f, .int .i64 p, .int .i64 em, .bool ng, .int .u8 c, .int .i64 0, .int .u64 0, .int .u64 0] 113)).cell? ⟨w.heap.size + 1, 4, none⟩ = some (.int .u64 0) ∧ Below w.heap.size w ((((((w4.setCell ⟨w.heap.size + 1, 0, none⟩ (.bool ng)).setCell ⟨w.heap.size + 1, 1, none⟩ (.int .u8 c)).setCell ⟨w.heap.size + 1, 2, none⟩ (.int .i64 0)).setCell ⟨w.heap.size + 1, 3, none⟩ (.int .u64 0)).setCell ⟨w.heap.size + 1, 4, none⟩ (.int .u64 0)).alloc (.cells #[.int .u8 f, .int .i64 p, .int .i64 em, .bool ng, .int .u8 c, .int .i64 0, .int .u64 0, .int .u64 0] 113))) := Lib.hid ⟨by go_simp, by go_simp, by go_simp, by go_simp, by go_simp, (bA (((((kk.setCell (p := ⟨w.heap.size + 1, 0, none⟩) gX1 _).setCell (p := ⟨w.heap.size + 1, 1, none⟩) gX1 _).setCell (p := ⟨w.heap.size + 1, 2, none⟩) gX1 _).setCell (p := ⟨w.heap.size + 1, 3, none⟩) gX1 _).setCell (p := ⟨w.heap.size + 1, 4, none⟩) gX1 _) _)⟩
  go_wp2_with fail
  obtain ⟨e0, e1, e2, e3, e4, kb⟩ := KEY.out
  clear KEY cX1_0 cX1_1 cX1_2 cX1_3 cX1_4 fX1_0 fX1_1 fX1_2 fX1_3 fX1_4
  refine bodyPost_ret (v := .agg #[.bool ng, .int .u8 c, .int .i64 0, .int .u64 0, .int .u64 0]) ?_ rfl ⟨rfl, kb⟩
  simp [results, Tryz.results31, go_sem, e0, e1, e2, e3, e4]

end Go.Proofs.YtbcjboaihahemaaGreatDoor

/-
  Walks through package fields's functions.
-/
set_option linter.unusedVariables false
set_option linter.unusedSimpArgs false
namespace Go.Proofs.YtbcjboaihahemaaGreatDoor
open Go.RowKit
attribute [local go_sem ↓] Go.wp_at_zero Go.wp_at_succ

end Go.Proofs.YtbcjboaihahemaaGreatDoor

/-
  Package fields keeps what the document asks.
-/
set_option linter.unusedVariables false
set_option linter.unusedSimpArgs false
namespace Go.Proofs.YtbcjboaihahemaaGreatDoor
open Go.RowKit
attribute [local go_sem ↓] Go.wp_at_zero Go.wp_at_succ

/-- The exponent of a number's last place. -/
def unitF (f e : Int) : Int := (if e < 1 - fE f then 1 - (fE f : Int) else e) - (fP f - 1 : Nat)
theorem leastF {f : Int} (h0 : 0 ≤ f) (h : f < 4) (w : World) (ft : FTab w) : Calls Tryz.prog 68 #[.agg #[.int .u8 f, .int .i64 (fP f), .int .i64 (fE f)]] w fun x w' => x = .returned (.int .i64 (1 - fE f)) ∧ Below w.heap.size w w' := by
  obtain ⟨p0, p1, p2, p3, p4, p5, p6, p7, p8⟩ := f_nums h0 h
  exact fld_least f _ _ _ (IntWalk.i64_in _ (by omega)) w
theorem unitN {f : Int} (h0 : 0 ≤ f) (h : f < 4) (e : Int) (e0 : -1000000 ≤ e) (e1 : e ≤ 1000000) (w : World) (ft : FTab w) : Calls Tryz.prog 102 #[.agg #[.int .u8 f, .int .i64 (fP f), .int .i64 (fE f)], .int .i64 e] w fun x w' => x = .returned (.int .i64 (unitF f e)) ∧ Below w.heap.size w w' := by
  obtain ⟨p0, p1, p2, p3, p4, p5, p6, p7, p8⟩ := f_nums h0 h
  obtain ⟨m, hm⟩ : ∃ m, (if e < 1 - fE f then 1 - (fE f : Int) else e) = m := ⟨_, rfl⟩
  have r : -1000000 ≤ m ∧ m ≤ 1000000 := by rw [← hm]; split <;> omega
  unfold unitF
  rw [hm]
  refine fld_unit f _ _ e (1 - fE f) m ((fP f - 1 : Nat) : Int) _ (Lib.hid (leastF h0 h)) (by rw [← hm]) hm (by rw [IntWalk.i64_in _ (by omega)]; omega) (by rw [IntWalk.i64_in _ (by omega)]) w ft
theorem leadF {f : Int} (h0 : 0 ≤ f) (h : f < 4) (b : Int) (w : World) (ft : FTab w) : Calls Tryz.prog 69 #[.agg #[.int .u8 f, .int .i64 (fP f), .int .i64 (fE f)], .agg #[.int .u64 (hiOf (b)), .int .u64 (loOf (b))]] w fun x w' => x = .returned (.agg #[.int .u64 (hiOf (b + 2 ^ (fP f - 1))), .int .u64 (loOf (b + 2 ^ (fP f - 1)))]) ∧ Below w.heap.size w w' := by
  obtain ⟨p0, p1, p2, p3, p4, p5, p6, p7, p8⟩ := f_nums h0 h
  have L := leftB 1 ((fP f - 1 : Nat) : Int) (by omega) (by omega)
  rw [Int.toNat_natCast, Int.one_mul] at L
  have A := addB (2 ^ (fP f - 1)) b
  rw [Int.add_comm (2 ^ (fP f - 1)) b] at A
  exact fld_lead f _ _ _ _ ((fP f - 1 : Nat) : Int) _ _ _ _ _ (Lib.hid L) (Lib.hid A) (by rw [IntWalk.i64_in _ (by omega)]; omega) w
theorem inF {f : Int} (h0 : 0 ≤ f) (h : f < 4) (g : Bool) (c e sh sl : Int) (w : World) (ft : FTab w) : Calls Tryz.prog 66 #[.int .u8 f, .agg #[.bool g, .int .u8 c, .int .i64 e, .int .u64 sh, .int .u64 sl]] w fun x w' => x = .returned (.agg #[.int .u8 f, .int .i64 (fP f), .int .i64 (fE f), .bool g, .int .u8 c, .int .i64 e, .int .u64 sh, .int .u64 sl]) ∧ Below w.heap.size w w' :=
  fld_in f c e sh sl _ _ g (Lib.hid (formOK.prec f h0 (by omega))) (Lib.hid (formOK.emax f h0 (by omega))) w ft
theorem unF {f : Int} (h0 : 0 ≤ f) (h : f < 4) (g : Bool) (c x0 a b e m : Int) (e0 : -1000000 ≤ e) (e1 : e ≤ 1000000) (m0 : 0 < m) (m1 : m < full) (w : World) (ft : FTab w) : Calls Tryz.prog 67 #[.agg #[.int .u8 f, .int .i64 (fP f), .int .i64 (fE f), .bool g, .int .u8 c, .int .i64 x0, .int .u64 a, .int .u64 b], .int .i64 e, .agg #[.int .u64 (hiOf (m)), .int .u64 (loOf (m))]] w fun x w' => x = .returned (.agg #[.bool g, .int .u8 c, .int .i64 (unitF f e + blen m - 1), .int .u64 (hiOf (m * 2 ^ (128 - blen m))), .int .u64 (loOf (m * 2 ^ (128 - blen m)))]) ∧ Below w.heap.size w w' := by
  obtain ⟨p0, p1, p2, p3, p4, p5, p6, p7, p8⟩ := f_nums h0 h
  have R := raiseB m
  rw [Int.emod_eq_of_lt (by omega) m1, show upN 128 m = 128 - blen m by unfold upN; rw [if_neg (by omega)]] at R
  have lb : blen m ≤ 128 := blen_le (by omega) (by rw [full_pow]; exact m1)
  have ub : -2000000 ≤ unitF f e ∧ unitF f e ≤ 2000000 := by unfold unitF; split <;> omega
  exact fld_un f _ _ c x0 a b e _ _ _ _ _ _ (unitF f e + 127) _ g (Lib.hid R) (Lib.hid (unitN h0 h e e0 e1)) (IntWalk.i64_in _ (by omega)) (by have := IntWalk.i64_in (unitF f e + 127) (by omega); simpa [RowKit.wrap64, IntKind.wrap_i64] using this) (by rw [IntWalk.i64_in _ (by omega)]; omega) w ft

theorem unpackN (f b : Int) (f0 : 0 ≤ f) (f1 : f ≤ 255) (w : World) (ft : FTab w) : Calls Tryz.prog 31 #[.int .u8 f, .agg #[.int .u64 (hiOf (b)), .int .u64 (loOf (b))]] w fun x w' => x = .returned (.agg #[.bool (negF f (b % full)), .int .u8 (clsF f (b % full)), .int .i64 (uE f (b % full)), .int .u64 (hiOf (uS f (b % full))), .int .u64 (loOf (uS f (b % full)))]) ∧ Below w.heap.size w w' := by
  have K := formOK.known f f0 f1
  by_cases h : f < 4
  · rw [show decide (f < 4) = true by simp [h]] at K
    obtain ⟨p0, p1, p2, p3, p4, p5, p6, p7, p8⟩ := f_nums f0 h
    have O := of_cls f b f0 f1
    have X := formOK.split f b f0 f1
    obtain ⟨b0, b1⟩ := mod_f b
    generalize b % full = B at *
    obtain ⟨x0, x1, x2, x3⟩ := exp_range f0 h b0
    obtain ⟨r0, r1⟩ := frac_range (b := B) f0 h
    have fl := fW_full f
    have pl : (2 : Int) ^ fP f ≤ 2 ^ fW f := two_pow_le (by omega)
    have pt := pow_top (n := fP f) (by omega)
    have hp := two_pow_pos (fP f - 1)
    by_cases c1 : clsF f B = 1
    · obtain ⟨e0, fr, l1, l2, ue, us⟩ := un_sub f0 h c1
      rw [c1] at O ⊢
      have U := unF f0 h (negF f B) 1 0 0 0 (1 - fE f) (fracF f B) (by omega) (by omega) fr (by omega)
      have eu : unitF f (1 - fE f) + blen (fracF f B) - 1 = uE f B := by rw [ue]; unfold unitF; split <;> omega
      rw [eu, ← us] at U
      exact fld_unpack_sub f _ _ _ _ _ _ _ _ _ _ _ (negF f B) _ (Lib.hid K) (Lib.hid O) (Lib.hid X) (Lib.hid (inF f0 h (negF f B) 1 0 0 0)) (Lib.hid (leastF f0 h)) (Lib.hid U) w ft
    · by_cases c2 : clsF f B = 2
      · obtain ⟨e1, e2, ue, us⟩ := un_nor f0 h b0 c2
        rw [c2] at O ⊢
        have l : blen (fracF f B + 2 ^ (fP f - 1)) = fP f := by
          rw [show fP f = (fP f - 1) + 1 by omega]
          refine blen_of ?_ ?_
          · rw [show fP f - 1 + 1 - 1 = fP f - 1 by omega]; omega
          · rw [show fP f - 1 + 1 - 1 = fP f - 1 by omega, Int.pow_succ]; omega
        have U := unF f0 h (negF f B) 2 0 0 0 (expF f B - fE f) (fracF f B + 2 ^ (fP f - 1)) (by omega) (by omega) (by omega) (by omega)
        have eu : unitF f (expF f B - fE f) + blen (fracF f B + 2 ^ (fP f - 1)) - 1 = uE f B := by rw [ue, l]; unfold unitF; split <;> omega
        rw [eu, l, ← us] at U
        exact fld_unpack_nor f _ _ _ _ _ _ _ _ _ (expF f B - fE f) _ _ _ (negF f B) _ (Lib.hid K) (Lib.hid O) (Lib.hid X) (Lib.hid (inF f0 h (negF f B) 2 0 0 0)) (Lib.hid (leadF f0 h (fracF f B))) (Lib.hid U) (IntWalk.i64_in _ (by omega)) w ft
      · obtain ⟨u1, u2⟩ := u_none (f := f) (b := B) (by omega)
        rw [u1, u2, hl_zero.1, hl_zero.2]
        exact fld_unpack_def f _ _ _ _ _ _ _ (clsF f B) (negF f B) _ (Lib.hid K) (Lib.hid O) (Lib.hid X) (Lib.hid (inF f0 h (negF f B) _ 0 0 0)) (by simp [c1]) (by simp [c2]) w ft
  · rw [show decide (f < 4) = false by simp [h]] at K
    have z := cls_no h (b % full)
    obtain ⟨u1, u2⟩ := u_none (f := f) (b := b % full) (by omega)
    rw [z, u1, u2, show negF f (b % full) = false by unfold negF; simp [h], hl_zero.1, hl_zero.2]
    exact fld_unpack_no f _ _ (Lib.hid K) w ft

/-- The highest bit of 128. -/
theorem top_bit {s : Int} (s0 : 0 ≤ s) (s1 : s < full) : bitI s 127 = decide ((2 : Int) ^ 127 ≤ s) := by
  have e : full = 2 * 2 ^ 127 := by decide
  unfold bitI
  rw [show decide ((0 : Int) ≤ 127) = true from rfl, show decide ((127 : Int) < 128) = true from rfl, Bool.true_and, Bool.true_and, show (127 : Int).toNat = 127 from rfl]
  have hp : (0 : Int) < 2 ^ 127 := by decide
  rw [e] at s1
  generalize (2 : Int) ^ 127 = q at *
  by_cases c : q ≤ s
  · rw [show s = (s - q) + 1 * q by omega, Int.add_mul_ediv_right _ _ (by omega), Int.ediv_eq_zero_of_lt (by omega) (by omega)]
    simp; omega
  · rw [Int.ediv_eq_zero_of_lt s0 (by omega)]; simp [c]
/-- Package fields keeps what the document asks. -/
theorem fldOK : FldOK where
  unpack f b f0 f1 w ft := unpackN f b f0 f1 w ft

end Go.Proofs.YtbcjboaihahemaaGreatDoor
