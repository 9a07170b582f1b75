/-
  Walks through package payload's functions.
-/
import Derived.Test.YthnikhhgnogibaaDoorPayP
import Derived.Test.YthnikhhgnogibaaDoorGfA
import Derived.Test.YthnikhhgnogibaaDoorGaA
import Derived.Test.YthnikhhgnogibaaDoorGdA
import Derived.Test.YthnikhhgnogibaaDoorGkA
import Derived.Test.YthnikhhgnogibaaDoorGjA
set_option linter.unusedVariables false
set_option linter.unusedSimpArgs false
set_option maxRecDepth 100000
namespace Go.Proofs.YthnikhhgnogibaaDoor
open Go.RowKit
attribute [local go_sem ↓] Go.wp_at_zero Go.wp_at_succ

theorem HB.fst {w : World} {p : Nat} {t : TypeId} {v : Value} (h : HB w p t #[v]) : w.cell? ⟨p, 0, none⟩ = some v := h.cell 0

/-- The closure is made: it reads its format where it lies. -/
theorem pay_reader (f : Int) (w : World) : Calls Tryd.prog 18 #[.int .u8 f] w fun e w' => ∃ bk, e = .returned (.func (.func 40) #[] #[.pointer (some ⟨bk, 0, none⟩)]) ∧ HB w' bk 22 #[.int .u8 f] ∧ Below w.heap.size w w' := by
  go_enter Tryd.func18, Tryd.ntmps18
  have hmf : ∀ (fn : Fn) (first cap : Array Value) (w : World), (Instr.makeFunc fn first cap).run Tryd.prog w = .ok (.func fn first cap) w := fun _ _ _ _ => rfl
  go_wp2_with fail
  go_ret
  exact ⟨_, rfl, HB.new _ _ _, bA (Below.refl _ _) _⟩

set_option maxHeartbeats 4000000 in
set_option maxRecDepth 100000 in
theorem pay_room (f p q : Int)
    (h0 : Hid (∀ w, FTab w → Calls Tryd.prog 50 #[.int .u8 f] w fun e w' => e = .returned (.int .i64 p) ∧ Below w.heap.size w w')) (v1 : IntKind.i64.wrap (129 - p) = q) (w : World) (ft : FTab w) :
    Calls Tryd.prog 22 #[.int .u8 f] w fun e w' => e = .returned (.int .i64 q) ∧ Below w.heap.size w w' := by
  go_enter Tryd.func22, Tryd.ntmps22
  go_wp2_with fail
  (with_reducible refine (h0.out _ (ft.later (Below.refl _ _))).mono ?_); rintro e w1 ⟨rfl, hb⟩
  have kk := hb
  clear hb
  go_wp2_with fail
  go_ret
  exact ⟨rfl, kk⟩

set_option maxHeartbeats 4000000 in
set_option maxRecDepth 100000 in
theorem pay_read (f bh bl xh xl yh yl x r : Int) (bk : Nat) (g : Bool)
    (h0 : Hid (∀ w, FTab w → Calls Tryd.prog 35 #[.int .u8 f, .agg #[.int .u64 bh, .int .u64 bl]] w fun e w' => e = .returned (.tuple #[.bool g, .int .i64 x, .agg #[.int .u64 xh, .int .u64 xl]]) ∧ Below w.heap.size w w'))
    (h1 : Hid (∀ w, FTab w → Calls Tryd.prog 22 #[.int .u8 f] w fun e w' => e = .returned (.int .i64 r) ∧ Below w.heap.size w w'))
    (h2 : Hid (∀ w, Calls Tryd.prog 41 #[.agg #[.int .u64 xh, .int .u64 xl], .int .i64 r] w fun e w' => e = .returned (.agg #[.int .u64 yh, .int .u64 yl]) ∧ Below w.heap.size w w')) (w : World) (ft : FTab w) (cX0_0 : w.cell? ⟨bk, 0, none⟩ = some (.int .u8 f)) :
    Calls Tryd.prog 40 #[.agg #[.int .u64 bh, .int .u64 bl], .pointer (some ⟨bk, 0, none⟩)] w fun e w' => e = .returned (.tuple #[.bool g, .int .i64 x, .agg #[.int .u64 yh, .int .u64 yl]]) ∧ Below w.heap.size w w' := by
  go_enter Tryd.func40, Tryd.ntmps40
  have sX0 : bk < w.heap.size := World.block_lt_of_cell? _ _ cX0_0
  go_wp2_with fail
  (with_reducible refine (h0.out _ (ft.later (bA (bA (Below.refl _ _) _) _))).mono ?_); rintro e w1 ⟨rfl, hb⟩
  have hz := bC (bA (bA (Below.refl _ _) _) _) hb
  have nX0_X2 : bk < w.heap.size + 1 := by omega
  have gX2 : w.heap.size ≤ w.heap.size + 1 := by omega
  replace cX0_0 := cell_later hz cX0_0
  replace sX0 : bk < w1.heap.size := World.block_lt_of_cell? _ _ cX0_0
  have cX2_0 := cell_later hb (a := ⟨w.heap.size + 1, 0, none⟩) (v := .int .u64 0) (by go_simp)
  have cX2_1 := cell_later hb (a := ⟨w.heap.size + 1, 1, none⟩) (v := .int .u64 0) (by go_simp)
  have sX2 : w.heap.size + 1 < w1.heap.size ∧ w.heap.size < w1.heap.size := by have h : w.heap.size + 1 < w1.heap.size := World.block_lt_of_cell? _ _ cX2_0; exact ⟨h, by omega⟩
  have fX2_0 := frozen_later hb (a := ⟨w.heap.size + 1, 0, none⟩) (v := .int .u64 0) (by go_simp) (by go_simp)
  have fX2_1 := frozen_later hb (a := ⟨w.heap.size + 1, 1, none⟩) (v := .int .u64 0) (by go_simp) (by go_simp)
  have kk := hz
  clear hb hz
  go_wp2_with fail
  have nX2_X3 : w.heap.size + 1 < w1.heap.size := by omega
  refine wp_forget (fun W => W.cell? ⟨bk, 0, none⟩ = some (.int .u8 f) ∧ W.cell? ⟨w.heap.size + 1, 0, none⟩ = some (.int .u64 0) ∧ W.cell? ⟨w.heap.size + 1, 1, none⟩ = some (.int .u64 0) ∧ W.cell? ⟨w1.heap.size, 0, none⟩ = some (.int .u64 xh) ∧ W.cell? ⟨w1.heap.size, 1, none⟩ = some (.int .u64 xl) ∧ W.frozen? ⟨w.heap.size + 1, 0, none⟩ = false ∧ W.frozen? ⟨w.heap.size + 1, 1, none⟩ = false ∧ Below w.heap.size w W) ⟨cell_later (bA (Below.refl _ _) _) cX0_0, cell_later (bA (Below.refl _ _) _) cX2_0, cell_later (bA (Below.refl _ _) _) cX2_1, by go_simp, by go_simp, frozen_later (bA (Below.refl _ _) _) cX2_0 fX2_0, frozen_later (bA (Below.refl _ _) _) cX2_1 fX2_1, bC kk (bA (Below.refl _ _) _)⟩ (fun w2 hst => ?_)
  clear cX0_0 sX0 cX2_0 cX2_1 sX2 fX2_0 fX2_1 kk
  obtain ⟨cX0_0, cX2_0, cX2_1, cX3_0, cX3_1, fX2_0, fX2_1, kk⟩ := hst
  have sX0 : bk < w2.heap.size := World.block_lt_of_cell? _ _ cX0_0
  have sX2 : w.heap.size + 1 < w2.heap.size ∧ w.heap.size < w2.heap.size := by have h : w.heap.size + 1 < w2.heap.size := World.block_lt_of_cell? _ _ cX2_0; exact ⟨h, by omega⟩
  have sX3 : w1.heap.size < w2.heap.size := World.block_lt_of_cell? _ _ cX3_0
  refine wp_region_noPanic ?_
  refine wp_region_F [8] [] (LS w2 (fun _ _ => True) (fun _ _ wx => wx.cell? ⟨w.heap.size + 1, 0, none⟩ = some (.int .u64 yh) ∧ wx.cell? ⟨w.heap.size + 1, 1, none⟩ = some (.int .u64 yl) ∧ wx.frozen? ⟨w.heap.size + 1, 0, none⟩ = false ∧ wx.frozen? ⟨w.heap.size + 1, 1, none⟩ = false ∧ Below w.heap.size w wx)) (by kernel_rfl) (bs := [false]) (vs := []) (by kernel_rfl) rfl (LS.before noBits_f (Below.refl _ _).drew trivial) ?_
  refine wpF_yield (i := 0) (v := ?vq1) rfl (by kernel_rfl) (by kernel_rfl) (fun _ _ _ h => h) (Or.inl ⟨by rfl, ?yq1⟩) ?rq1
  case yq1 => (intro wq; go_simp; try (with_reducible rfl))
  try simp only [List.getElem_toArray, List.getElem_cons_zero, List.getElem_cons_succ, Act.put, List.setIfInBounds_toArray, List.set_cons_zero, List.set_cons_succ]
  refine wpF_yield (i := 1) (v := ?vq2) rfl (by kernel_rfl) (by kernel_rfl) (fun _ _ _ h => h) (Or.inl ⟨by rfl, ?yq2⟩) ?rq2
  case yq2 => (intro wq; go_simp; try (with_reducible rfl))
  try simp only [List.getElem_toArray, List.getElem_cons_zero, List.getElem_cons_succ, Act.put, List.setIfInBounds_toArray, List.set_cons_zero, List.set_cons_succ]
  refine wpF_take3 (i := 2) (v := ?vq3) rfl (by kernel_rfl) (by kernel_rfl) (fun _ _ _ h => h) (LS.load (by rfl) ?yq3) ?rq3
  case yq3 => (intro wq hb; have lcX3_0 := cell_later hb cX3_0; have lcX3_1 := cell_later hb cX3_1; go_simp; try (with_reducible rfl))
  try simp only [List.getElem_toArray, List.getElem_cons_zero, List.getElem_cons_succ, Act.put, List.setIfInBounds_toArray, List.set_cons_zero, List.set_cons_succ]
  refine wpF_take3 (i := 3) (v := ?vq4) rfl (by kernel_rfl) (by kernel_rfl) (fun _ _ _ h => h) (LS.load (by rfl) ?yq4) ?rq4
  case yq4 => (intro wq hb; have lcX0_0 := cell_later hb cX0_0; go_simp; try (with_reducible rfl))
  try simp only [List.getElem_toArray, List.getElem_cons_zero, List.getElem_cons_succ, Act.put, List.setIfInBounds_toArray, List.set_cons_zero, List.set_cons_succ]
  refine wpF_take3 (i := 4) (v := _) rfl (by kernel_rfl) (by kernel_rfl) (fun _ _ _ h => h) (LS.callW lasts_true (by rfl) _ _ ?yq5 ((fun W hb => h1.out W (ft.later (bC kk hb))))) ?rq5
  case yq5 => (intro wq; go_simp; try (with_reducible rfl))
  try simp only [List.getElem_toArray, List.getElem_cons_zero, List.getElem_cons_succ, Act.put, List.setIfInBounds_toArray, List.set_cons_zero, List.set_cons_succ]
  refine wpF_take3 (i := 5) (v := _) rfl (by kernel_rfl) (by kernel_rfl) (fun _ _ _ h => h) (LS.call lasts_true (by rfl) _ _ ?yq6 (h2.out)) ?rq6
  case yq6 => (intro wq; go_simp; try (with_reducible rfl))
  try simp only [List.getElem_toArray, List.getElem_cons_zero, List.getElem_cons_succ, Act.put, List.setIfInBounds_toArray, List.set_cons_zero, List.set_cons_succ]
  refine wpF_yield (i := 6) (v := ?vq7) rfl (by kernel_rfl) (by kernel_rfl) (fun _ _ _ h => h) (Or.inl ⟨by rfl, ?yq7⟩) ?rq7
  case yq7 => (intro wq; go_simp; try (with_reducible rfl))
  try simp only [List.getElem_toArray, List.getElem_cons_zero, List.getElem_cons_succ, Act.put, List.setIfInBounds_toArray, List.set_cons_zero, List.set_cons_succ]
  refine wpF_yield (i := 7) (v := ?vq8) rfl (by kernel_rfl) (by kernel_rfl) (fun _ _ _ h => h) (Or.inl ⟨by rfl, ?yq8⟩) ?rq8
  case yq8 => (intro wq; go_simp; try (with_reducible rfl))
  try simp only [List.getElem_toArray, List.getElem_cons_zero, List.getElem_cons_succ, Act.put, List.setIfInBounds_toArray, List.set_cons_zero, List.set_cons_succ]
  refine wpF_step (i := 8) (bs := [false]) (bs' := [true]) (vs := []) (by kernel_rfl) rfl (by kernel_rfl) rfl (by kernel_rfl) (fun wq hS K hK => ?_)
  obtain ⟨hb, _⟩ := hS.1 noBits_f
  have z0 := cell_later hb cX2_0; have zf0 := frozen_later hb cX2_0 fX2_0
  have z1 := cell_later hb cX2_1; have zf1 := frozen_later hb cX2_1 fX2_1
  have NW := BoxF.set (⟨Box.of z0 z1, zf0, zf1⟩ : BoxF wq (w.heap.size + 1) _ _) yh yl
  have ZZ := Lib.hid (show (set2 wq (w.heap.size + 1) yh yl).cell? ⟨w.heap.size + 1, 0, none⟩ = some (.int .u64 yh) ∧ (set2 wq (w.heap.size + 1) yh yl).cell? ⟨w.heap.size + 1, 1, none⟩ = some (.int .u64 yl) ∧ (set2 wq (w.heap.size + 1) yh yl).frozen? ⟨w.heap.size + 1, 0, none⟩ = false ∧ (set2 wq (w.heap.size + 1) yh yl).frozen? ⟨w.heap.size + 1, 1, none⟩ = false ∧ Below w.heap.size w (set2 wq (w.heap.size + 1) yh yl) from ⟨NW.1.2.1, NW.1.2.2, NW.2.1, NW.2.2, bS (bC kk hb) gX2 _ _⟩)
  clear NW 
  clear cX2_0 cX2_1
  go_simp
  refine hK.out _ _ (LS.behind bits_t ZZ.out) ?_
  clear hK hb ZZ hS z0 zf0 z1 zf1
  try simp only [List.getElem_toArray, List.getElem_cons_zero, List.getElem_cons_succ, Act.put, List.setIfInBounds_toArray, List.set_cons_zero, List.set_cons_succ]
  refine wpF_done (bs := [true]) (vs := []) (by kernel_rfl) (by kernel_rfl) rfl (fun w3 hS => ?_) _
  refine NoPanic.normal ?_
  clear cX0_0 sX0 cX3_0 cX3_1 sX3 sX2 fX2_0 fX2_1 kk
  obtain ⟨cX2_0, cX2_1, fX2_0, fX2_1, kk⟩ := hS.2 bits_t
  clear hS
  have sX2 : w.heap.size + 1 < w3.heap.size ∧ w.heap.size < w3.heap.size := by have h : w.heap.size + 1 < w3.heap.size := World.block_lt_of_cell? _ _ cX2_0; exact ⟨h, by omega⟩
  go_wp2_with fail
  refine bodyPost_ret (v := .tuple #[.bool g, .int .i64 x, .agg #[.int .u64 yh, .int .u64 yl]]) ?_ rfl ⟨rfl, kk⟩
  simp [results, Tryd.results40, go_sem, cX2_0, cX2_1]

set_option maxHeartbeats 4000000 in
set_option maxRecDepth 100000 in
theorem pay_no_to (f t bh bl : Int)
    (h0 : Hid (∀ w, FTab w → Calls Tryd.prog 12 #[.int .u8 t] w fun e w' => e = .returned (.bool false) ∧ Below w.heap.size w w')) (w : World) (ft : FTab w) :
    Calls Tryd.prog 8 #[.int .u8 f, .int .u8 t, .agg #[.int .u64 bh, .int .u64 bl]] w fun e w' => e = .returned (.tuple #[.agg #[.int .u64 0, .int .u64 0, .int .u8 0], .bool false]) ∧ Below w.heap.size w w' := by
  go_enter Tryd.func8, Tryd.ntmps8
  go_wp2_with fail
  (with_reducible refine (h0.out _ (ft.later (bA (bA (Below.refl _ _) _) _))).mono ?_); rintro e w1 ⟨rfl, hb⟩
  have hz := bC (bA (bA (Below.refl _ _) _) _) hb
  have gX1 : w.heap.size ≤ w.heap.size + 1 := by omega
  have cX0_0 := cell_later hb (a := ⟨w.heap.size, 0, none⟩) (v := .int .u64 bh) (by go_simp)
  have cX0_1 := cell_later hb (a := ⟨w.heap.size, 1, none⟩) (v := .int .u64 bl) (by go_simp)
  have sX0 : w.heap.size < w1.heap.size := World.block_lt_of_cell? _ _ cX0_0
  have cX1_0 := cell_later hb (a := ⟨w.heap.size + 1, 0, none⟩) (v := .int .u64 0) (by go_simp)
  have cX1_1 := cell_later hb (a := ⟨w.heap.size + 1, 1, none⟩) (v := .int .u64 0) (by go_simp)
  have cX1_2 := cell_later hb (a := ⟨w.heap.size + 1, 2, none⟩) (v := .int .u8 0) (by go_simp)
  have sX1 : w.heap.size + 1 < w1.heap.size ∧ w.heap.size < w1.heap.size := by have h : w.heap.size + 1 < w1.heap.size := World.block_lt_of_cell? _ _ cX1_0; exact ⟨h, by omega⟩
  have fX1_0 := frozen_later hb (a := ⟨w.heap.size + 1, 0, none⟩) (v := .int .u64 0) (by go_simp) (by go_simp)
  have fX1_1 := frozen_later hb (a := ⟨w.heap.size + 1, 1, none⟩) (v := .int .u64 0) (by go_simp) (by go_simp)
  have fX1_2 := frozen_later hb (a := ⟨w.heap.size + 1, 2, none⟩) (v := .int .u8 0) (by go_simp) (by go_simp)
  have kk := hz
  clear hb hz
  have KEY : Hid ((((w1.setCell ⟨w.heap.size + 1, 0, none⟩ (.int .u64 0)).setCell ⟨w.heap.size + 1, 1, none⟩ (.int .u64 0)).setCell ⟨w.heap.size + 1, 2, none⟩ (.int .u8 0)).cell? ⟨w.heap.size + 1, 0, none⟩ = some (.int .u64 0) ∧ (((w1.setCell ⟨w.heap.size + 1, 0, none⟩ (.int .u64 0)).setCell ⟨w.heap.size + 1, 1, none⟩ (.int .u64 0)).setCell ⟨w.heap.size + 1, 2, none⟩ (.int .u8 0)).cell? ⟨w.heap.size + 1, 1, none⟩ = some (.int .u64 0) ∧ (((w1.setCell ⟨w.heap.size + 1, 0, none⟩ (.int .u64 0)).setCell ⟨w.heap.size + 1, 1, none⟩ (.int .u64 0)).setCell ⟨w.heap.size + 1, 2, none⟩ (.int .u8 0)).cell? ⟨w.heap.size + 1, 2, none⟩ = some (.int .u8 0) ∧ Below w.heap.size w (((w1.setCell ⟨w.heap.size + 1, 0, none⟩ (.int .u64 0)).setCell ⟨w.heap.size + 1, 1, none⟩ (.int .u64 0)).setCell ⟨w.heap.size + 1, 2, none⟩ (.int .u8 0))) := Lib.hid ⟨by go_simp, by go_simp, by go_simp, (((kk.setCell (p := ⟨w.heap.size + 1, 0, none⟩) gX1 _).setCell (p := ⟨w.heap.size + 1, 1, none⟩) gX1 _).setCell (p := ⟨w.heap.size + 1, 2, none⟩) gX1 _)⟩
  go_wp2_with fail
  obtain ⟨e0, e1, e2, kb⟩ := KEY.out
  clear KEY cX1_0 cX1_1 cX1_2 fX1_0 fX1_1 fX1_2
  refine bodyPost_ret (v := .tuple #[.agg #[.int .u64 0, .int .u64 0, .int .u8 0], .bool false]) ?_ rfl ⟨rfl, kb⟩
  simp [results, Tryd.results8, go_sem, e0, e1, e2]

set_option maxHeartbeats 4000000 in
set_option maxRecDepth 100000 in
theorem pay_no_nan (f t bh bl : Int)
    (h0 : Hid (∀ w, FTab w → Calls Tryd.prog 12 #[.int .u8 t] w fun e w' => e = .returned (.bool true) ∧ Below w.heap.size w w'))
    (h1 : Hid (∀ w, FTab w → Calls Tryd.prog 11 #[.int .u8 f, .agg #[.int .u64 bh, .int .u64 bl]] w fun e w' => e = .returned (.bool false) ∧ Below w.heap.size w w')) (w : World) (ft : FTab w) :
    Calls Tryd.prog 8 #[.int .u8 f, .int .u8 t, .agg #[.int .u64 bh, .int .u64 bl]] w fun e w' => e = .returned (.tuple #[.agg #[.int .u64 0, .int .u64 0, .int .u8 0], .bool false]) ∧ Below w.heap.size w w' := by
  go_enter Tryd.func8, Tryd.ntmps8
  go_wp2_with fail
  (with_reducible refine (h0.out _ (ft.later (bA (bA (Below.refl _ _) _) _))).mono ?_); rintro e w1 ⟨rfl, hb⟩
  have hz := bC (bA (bA (Below.refl _ _) _) _) hb
  have gX1 : w.heap.size ≤ w.heap.size + 1 := by omega
  have cX0_0 := cell_later hb (a := ⟨w.heap.size, 0, none⟩) (v := .int .u64 bh) (by go_simp)
  have cX0_1 := cell_later hb (a := ⟨w.heap.size, 1, none⟩) (v := .int .u64 bl) (by go_simp)
  have sX0 : w.heap.size < w1.heap.size := World.block_lt_of_cell? _ _ cX0_0
  have cX1_0 := cell_later hb (a := ⟨w.heap.size + 1, 0, none⟩) (v := .int .u64 0) (by go_simp)
  have cX1_1 := cell_later hb (a := ⟨w.heap.size + 1, 1, none⟩) (v := .int .u64 0) (by go_simp)
  have cX1_2 := cell_later hb (a := ⟨w.heap.size + 1, 2, none⟩) (v := .int .u8 0) (by go_simp)
  have sX1 : w.heap.size + 1 < w1.heap.size ∧ w.heap.size < w1.heap.size := by have h : w.heap.size + 1 < w1.heap.size := World.block_lt_of_cell? _ _ cX1_0; exact ⟨h, by omega⟩
  have fX1_0 := frozen_later hb (a := ⟨w.heap.size + 1, 0, none⟩) (v := .int .u64 0) (by go_simp) (by go_simp)
  have fX1_1 := frozen_later hb (a := ⟨w.heap.size + 1, 1, none⟩) (v := .int .u64 0) (by go_simp) (by go_simp)
  have fX1_2 := frozen_later hb (a := ⟨w.heap.size + 1, 2, none⟩) (v := .int .u8 0) (by go_simp) (by go_simp)
  have kk := hz
  clear hb hz
  go_wp2_with fail
  (with_reducible refine (h1.out _ (ft.later kk)).mono ?_); rintro e w2 ⟨rfl, hb⟩
  clear cX0_0 cX0_1 sX0
  replace fX1_0 := frozen_later hb cX1_0 fX1_0; replace fX1_1 := frozen_later hb cX1_1 fX1_1; replace fX1_2 := frozen_later hb cX1_2 fX1_2
  replace cX1_0 := cell_later hb cX1_0; replace cX1_1 := cell_later hb cX1_1; replace cX1_2 := cell_later hb cX1_2
  replace sX1 : w.heap.size + 1 < w2.heap.size ∧ w.heap.size < w2.heap.size := by have h : w.heap.size + 1 < w2.heap.size := World.block_lt_of_cell? _ _ cX1_0; exact ⟨h, by omega⟩
  replace kk := bC kk hb
  clear hb
  have KEY : Hid ((((w2.setCell ⟨w.heap.size + 1, 0, none⟩ (.int .u64 0)).setCell ⟨w.heap.size + 1, 1, none⟩ (.int .u64 0)).setCell ⟨w.heap.size + 1, 2, none⟩ (.int .u8 0)).cell? ⟨w.heap.size + 1, 0, none⟩ = some (.int .u64 0) ∧ (((w2.setCell ⟨w.heap.size + 1, 0, none⟩ (.int .u64 0)).setCell ⟨w.heap.size + 1, 1, none⟩ (.int .u64 0)).setCell ⟨w.heap.size + 1, 2, none⟩ (.int .u8 0)).cell? ⟨w.heap.size + 1, 1, none⟩ = some (.int .u64 0) ∧ (((w2.setCell ⟨w.heap.size + 1, 0, none⟩ (.int .u64 0)).setCell ⟨w.heap.size + 1, 1, none⟩ (.int .u64 0)).setCell ⟨w.heap.size + 1, 2, none⟩ (.int .u8 0)).cell? ⟨w.heap.size + 1, 2, none⟩ = some (.int .u8 0) ∧ Below w.heap.size w (((w2.setCell ⟨w.heap.size + 1, 0, none⟩ (.int .u64 0)).setCell ⟨w.heap.size + 1, 1, none⟩ (.int .u64 0)).setCell ⟨w.heap.size + 1, 2, none⟩ (.int .u8 0))) := Lib.hid ⟨by go_simp, by go_simp, by go_simp, (((kk.setCell (p := ⟨w.heap.size + 1, 0, none⟩) gX1 _).setCell (p := ⟨w.heap.size + 1, 1, none⟩) gX1 _).setCell (p := ⟨w.heap.size + 1, 2, none⟩) gX1 _)⟩
  go_wp2_with fail
  obtain ⟨e0, e1, e2, kb⟩ := KEY.out
  clear KEY cX1_0 cX1_1 cX1_2 fX1_0 fX1_1 fX1_2
  refine bodyPost_ret (v := .tuple #[.agg #[.int .u64 0, .int .u64 0, .int .u8 0], .bool false]) ?_ rfl ⟨rfl, kb⟩
  simp [results, Tryd.results8, go_sem, e0, e1, e2]

set_option maxHeartbeats 4000000 in
set_option maxRecDepth 100000 in
theorem pay_yes_q (f t bh bl qh ql xh xl e1 dh dl yh yl e2 rm sh sl rh rl : Int) (g g2 : Bool)
    (h0 : Hid (∀ w, FTab w → Calls Tryd.prog 12 #[.int .u8 t] w fun e w' => e = .returned (.bool true) ∧ Below w.heap.size w w'))
    (h1 : Hid (∀ w, FTab w → Calls Tryd.prog 11 #[.int .u8 f, .agg #[.int .u64 bh, .int .u64 bl]] w fun e w' => e = .returned (.bool true) ∧ Below w.heap.size w w'))
    (h3 : Hid (∀ w, FTab w → Calls Tryd.prog 16 #[.int .u8 f, .agg #[.int .u64 bh, .int .u64 bl]] w fun e w' => e = .returned (.agg #[.int .u64 qh, .int .u64 ql]) ∧ Below w.heap.size w w'))
    (h6 : Hid (∀ w, FTab w → Calls Tryd.prog 19 #[.int .u8 t] w fun e w' => e = .returned (.agg #[.int .u64 dh, .int .u64 dl]) ∧ Below w.heap.size w w'))
    (h8 : Hid (∀ w, FTab w → Calls Tryd.prog 22 #[.int .u8 t] w fun e w' => e = .returned (.int .i64 rm) ∧ Below w.heap.size w w'))
    (h9 : Hid (∀ w, Calls Tryd.prog 21 #[.agg #[.int .u64 xh, .int .u64 xl], .int .i64 rm] w fun e w' => e = .returned (.agg #[.int .u64 sh, .int .u64 sl]) ∧ Below w.heap.size w w'))
    (h10 : Hid (∀ w, FTab w → Calls Tryd.prog 20 #[.int .u8 t, .bool g, .int .i64 e2, .agg #[.int .u64 sh, .int .u64 sl]] w fun e w' => e = .returned (.agg #[.int .u64 rh, .int .u64 rl]) ∧ Below w.heap.size w w'))
    (h11 : Hid (∀ w, FTab w → Calls Tryd.prog 15 #[.int .u8 f, .agg #[.int .u64 bh, .int .u64 bl]] w fun e w' => e = .returned (.bool false) ∧ Below w.heap.size w w')) (rf : Hid (∀ w, Calls Tryd.prog 18 #[.int .u8 f] w fun e w' => ∃ bk, e = .returned (.func (.func 40) #[] #[.pointer (some ⟨bk, 0, none⟩)]) ∧ HB w' bk 22 #[.int .u8 f] ∧ Below w.heap.size w w')) (cf : Hid (∀ bk w, FTab w → w.cell? ⟨bk, 0, none⟩ = some (.int .u8 f) → Calls Tryd.prog 40 #[.agg #[.int .u64 qh, .int .u64 ql], .pointer (some ⟨bk, 0, none⟩)] w fun e w' => e = .returned (.tuple #[.bool g, .int .i64 e1, .agg #[.int .u64 xh, .int .u64 xl]]) ∧ Below w.heap.size w w')) (rt : Hid (∀ w, Calls Tryd.prog 18 #[.int .u8 t] w fun e w' => ∃ bk, e = .returned (.func (.func 40) #[] #[.pointer (some ⟨bk, 0, none⟩)]) ∧ HB w' bk 22 #[.int .u8 t] ∧ Below w.heap.size w w')) (ct : Hid (∀ bk w, FTab w → w.cell? ⟨bk, 0, none⟩ = some (.int .u8 t) → Calls Tryd.prog 40 #[.agg #[.int .u64 dh, .int .u64 dl], .pointer (some ⟨bk, 0, none⟩)] w fun e w' => e = .returned (.tuple #[.bool g2, .int .i64 e2, .agg #[.int .u64 yh, .int .u64 yl]]) ∧ Below w.heap.size w w')) (w : World) (ft : FTab w) :
    Calls Tryd.prog 8 #[.int .u8 f, .int .u8 t, .agg #[.int .u64 bh, .int .u64 bl]] w fun e w' => e = .returned (.tuple #[.agg #[.int .u64 rh, .int .u64 rl, .int .u8 0], .bool true]) ∧ Below w.heap.size w w' := by
  go_enter Tryd.func8, Tryd.ntmps8
  go_wp2_with fail
  (with_reducible refine (h0.out _ (ft.later (bA (bA (Below.refl _ _) _) _))).mono ?_); rintro e w1 ⟨rfl, hb⟩
  have hz := bC (bA (bA (Below.refl _ _) _) _) hb
  have gX1 : w.heap.size ≤ w.heap.size + 1 := by omega
  have cX0_0 := cell_later hb (a := ⟨w.heap.size, 0, none⟩) (v := .int .u64 bh) (by go_simp)
  have cX0_1 := cell_later hb (a := ⟨w.heap.size, 1, none⟩) (v := .int .u64 bl) (by go_simp)
  have sX0 : w.heap.size < w1.heap.size := World.block_lt_of_cell? _ _ cX0_0
  have cX1_0 := cell_later hb (a := ⟨w.heap.size + 1, 0, none⟩) (v := .int .u64 0) (by go_simp)
  have cX1_1 := cell_later hb (a := ⟨w.heap.size + 1, 1, none⟩) (v := .int .u64 0) (by go_simp)
  have cX1_2 := cell_later hb (a := ⟨w.heap.size + 1, 2, none⟩) (v := .int .u8 0) (by go_simp)
  have sX1 : w.heap.size + 1 < w1.heap.size ∧ w.heap.size < w1.heap.size := by have h : w.heap.size + 1 < w1.heap.size := World.block_lt_of_cell? _ _ cX1_0; exact ⟨h, by omega⟩
  have fX1_0 := frozen_later hb (a := ⟨w.heap.size + 1, 0, none⟩) (v := .int .u64 0) (by go_simp) (by go_simp)
  have fX1_1 := frozen_later hb (a := ⟨w.heap.size + 1, 1, none⟩) (v := .int .u64 0) (by go_simp) (by go_simp)
  have fX1_2 := frozen_later hb (a := ⟨w.heap.size + 1, 2, none⟩) (v := .int .u8 0) (by go_simp) (by go_simp)
  have kk := hz
  clear hb hz
  go_wp2_with fail
  (with_reducible refine (h1.out _ (ft.later kk)).mono ?_); rintro e w2 ⟨rfl, hb⟩
  replace cX0_0 := cell_later hb cX0_0; replace cX0_1 := cell_later hb cX0_1
  replace sX0 : w.heap.size < w2.heap.size := World.block_lt_of_cell? _ _ cX0_0
  replace fX1_0 := frozen_later hb cX1_0 fX1_0; replace fX1_1 := frozen_later hb cX1_1 fX1_1; replace fX1_2 := frozen_later hb cX1_2 fX1_2
  replace cX1_0 := cell_later hb cX1_0; replace cX1_1 := cell_later hb cX1_1; replace cX1_2 := cell_later hb cX1_2
  replace sX1 : w.heap.size + 1 < w2.heap.size ∧ w.heap.size < w2.heap.size := by have h : w.heap.size + 1 < w2.heap.size := World.block_lt_of_cell? _ _ cX1_0; exact ⟨h, by omega⟩
  replace kk := bC kk hb
  clear hb
  go_wp2_with fail
  clear sX0
  clear sX1
  refine wp_region_noPanic ?_
  refine wp_region_held_drew (S := fun w' => w'.cell? ⟨w.heap.size, 0, none⟩ = some (.int .u64 bh) ∧ w'.cell? ⟨w.heap.size, 1, none⟩ = some (.int .u64 bl) ∧ True) (by kernel_rfl) ⟨cell_later (Below.refl _ _).drew cX0_0, cell_later (Below.refl _ _).drew cX0_1, trivial⟩ (fun hHeld => ?_)
  replace cX0_0 := cell_later (Below.refl _ _).drew cX0_0; replace cX0_1 := cell_later (Below.refl _ _).drew cX0_1
  replace fX1_0 := frozen_later (Below.refl _ _).drew cX1_0 fX1_0; replace fX1_1 := frozen_later (Below.refl _ _).drew cX1_1 fX1_1; replace fX1_2 := frozen_later (Below.refl _ _).drew cX1_2 fX1_2
  replace cX1_0 := cell_later (Below.refl _ _).drew cX1_0; replace cX1_1 := cell_later (Below.refl _ _).drew cX1_1; replace cX1_2 := cell_later (Below.refl _ _).drew cX1_2
  replace kk := bC kk (Below.refl _ _).drew
  generalize World.drew _ = w4 at *
  refine wpAnyH_take (i := 0) (v := ?vq9) rfl (by kernel_rfl) (by kernel_rfl) (by kernel_rfl) (fun _ _ _ h => h) (Or.inl ⟨by rfl, ?yq9⟩) hHeld ?rq9
  case yq9 => (intro wq hb; obtain ⟨lq0, lq1, _⟩ := hb; go_simp; try (with_reducible rfl))
  try simp only [List.getElem_toArray, List.getElem_cons_zero, List.getElem_cons_succ, Act.put, List.setIfInBounds_toArray, List.set_cons_zero, List.set_cons_succ]
  refine wpAnyH_take (i := 2) (v := ?vq10) rfl (by kernel_rfl) (by kernel_rfl) (by kernel_rfl) (fun _ _ _ h => h) (Or.inl ⟨by rfl, ?yq10⟩) hHeld ?rq10
  case yq10 => (intro wq hb; obtain ⟨lq0, lq1, _⟩ := hb; go_simp; try (with_reducible rfl))
  try simp only [List.getElem_toArray, List.getElem_cons_zero, List.getElem_cons_succ, Act.put, List.setIfInBounds_toArray, List.set_cons_zero, List.set_cons_succ]
  refine wpAnyH_take (i := 3) (v := ?vq11) rfl (by kernel_rfl) (by kernel_rfl) (by kernel_rfl) (fun _ _ _ h => h) (Or.inl ⟨by rfl, ?yq11⟩) hHeld ?rq11
  case yq11 => (intro wq hb; obtain ⟨lq0, lq1, _⟩ := hb; go_simp; try (with_reducible rfl))
  try simp only [List.getElem_toArray, List.getElem_cons_zero, List.getElem_cons_succ, Act.put, List.setIfInBounds_toArray, List.set_cons_zero, List.set_cons_succ]
  clear hHeld
  refine wpAnyH_ready (rs := [1, 10]) (by kernel_rfl) (by simp) ?_
  refine AllReadyH.cons rfl (fun K hK => ?_) (AllReadyH.cons rfl (fun K hK => ?_) AllReadyH.nil)
  go_simp
  (with_reducible refine (rf.out _).mono ?_); rintro e w5 ⟨bk1, rfl, nbk1, hb⟩
  replace cX0_0 := cell_later hb cX0_0; replace cX0_1 := cell_later hb cX0_1
  replace fX1_0 := frozen_later hb cX1_0 fX1_0; replace fX1_1 := frozen_later hb cX1_1 fX1_1; replace fX1_2 := frozen_later hb cX1_2 fX1_2
  replace cX1_0 := cell_later hb cX1_0; replace cX1_1 := cell_later hb cX1_1; replace cX1_2 := cell_later hb cX1_2
  replace kk := bC kk hb
  clear hb
  refine hK.out _ _ ⟨cX0_0, cX0_1, trivial⟩ (fun hHeld => ?_)
  clear hK K
  try simp only [List.getElem_toArray, List.getElem_cons_zero, List.getElem_cons_succ, Act.put, List.setIfInBounds_toArray, List.set_cons_zero, List.set_cons_succ]
  clear w4
  clear hHeld
  refine wpAnyH_ready (rs := [4, 10]) (by kernel_rfl) (by simp) ?_
  refine AllReadyH.cons rfl (fun K hK => ?_) (AllReadyH.cons rfl (fun K hK => ?_) AllReadyH.nil)
  go_simp
  (with_reducible refine (h3.out _ (ft.later kk)).mono ?_); rintro e w6 ⟨rfl, hb⟩
  replace nbk1 := nbk1.later hb
  replace cX0_0 := cell_later hb cX0_0; replace cX0_1 := cell_later hb cX0_1
  replace fX1_0 := frozen_later hb cX1_0 fX1_0; replace fX1_1 := frozen_later hb cX1_1 fX1_1; replace fX1_2 := frozen_later hb cX1_2 fX1_2
  replace cX1_0 := cell_later hb cX1_0; replace cX1_1 := cell_later hb cX1_1; replace cX1_2 := cell_later hb cX1_2
  replace kk := bC kk hb
  clear hb
  refine hK.out _ _ ⟨cX0_0, cX0_1, trivial⟩ (fun hHeld => ?_)
  clear hK K
  try simp only [List.getElem_toArray, List.getElem_cons_zero, List.getElem_cons_succ, Act.put, List.setIfInBounds_toArray, List.set_cons_zero, List.set_cons_succ]
  clear w5
  clear hHeld
  refine wpAnyH_ready (rs := [5, 10]) (by kernel_rfl) (by simp) ?_
  refine AllReadyH.cons rfl (fun K hK => ?_) (AllReadyH.cons rfl (fun K hK => ?_) AllReadyH.nil)
  go_simp
  (with_reducible refine (cf.out bk1 _ (ft.later kk) nbk1.fst).mono ?_); rintro e w7 ⟨rfl, hb⟩
  replace nbk1 := nbk1.later hb
  replace cX0_0 := cell_later hb cX0_0; replace cX0_1 := cell_later hb cX0_1
  replace fX1_0 := frozen_later hb cX1_0 fX1_0; replace fX1_1 := frozen_later hb cX1_1 fX1_1; replace fX1_2 := frozen_later hb cX1_2 fX1_2
  replace cX1_0 := cell_later hb cX1_0; replace cX1_1 := cell_later hb cX1_1; replace cX1_2 := cell_later hb cX1_2
  replace kk := bC kk hb
  clear hb
  clear nbk1
  refine hK.out _ _ ⟨cX0_0, cX0_1, trivial⟩ (fun hHeld => ?_)
  clear hK K
  try simp only [List.getElem_toArray, List.getElem_cons_zero, List.getElem_cons_succ, Act.put, List.setIfInBounds_toArray, List.set_cons_zero, List.set_cons_succ]
  clear w6
  refine wpAnyH_take (i := 6) (v := ?vq12) rfl (by kernel_rfl) (by kernel_rfl) (by kernel_rfl) (fun _ _ _ h => h) (Or.inl ⟨by rfl, ?yq12⟩) hHeld ?rq12
  case yq12 => (intro wq hb; obtain ⟨lq0, lq1, _⟩ := hb; go_simp; try (with_reducible rfl))
  try simp only [List.getElem_toArray, List.getElem_cons_zero, List.getElem_cons_succ, Act.put, List.setIfInBounds_toArray, List.set_cons_zero, List.set_cons_succ]
  refine wpAnyH_take (i := 7) (v := ?vq13) rfl (by kernel_rfl) (by kernel_rfl) (by kernel_rfl) (fun _ _ _ h => h) (Or.inl ⟨by rfl, ?yq13⟩) hHeld ?rq13
  case yq13 => (intro wq hb; obtain ⟨lq0, lq1, _⟩ := hb; go_simp; try (with_reducible rfl))
  try simp only [List.getElem_toArray, List.getElem_cons_zero, List.getElem_cons_succ, Act.put, List.setIfInBounds_toArray, List.set_cons_zero, List.set_cons_succ]
  refine wpAnyH_take (i := 8) (v := ?vq14) rfl (by kernel_rfl) (by kernel_rfl) (by kernel_rfl) (fun _ _ _ h => h) (Or.inl ⟨by rfl, ?yq14⟩) hHeld ?rq14
  case yq14 => (intro wq hb; obtain ⟨lq0, lq1, _⟩ := hb; go_simp; try (with_reducible rfl))
  try simp only [List.getElem_toArray, List.getElem_cons_zero, List.getElem_cons_succ, Act.put, List.setIfInBounds_toArray, List.set_cons_zero, List.set_cons_succ]
  refine wpAnyH_take (i := 9) (v := ?vq15) rfl (by kernel_rfl) (by kernel_rfl) (by kernel_rfl) (fun _ _ _ h => h) (Or.inl ⟨by rfl, ?yq15⟩) hHeld ?rq15
  case yq15 => (intro wq hb; obtain ⟨lq0, lq1, _⟩ := hb; go_simp; try (with_reducible rfl))
  try simp only [List.getElem_toArray, List.getElem_cons_zero, List.getElem_cons_succ, Act.put, List.setIfInBounds_toArray, List.set_cons_zero, List.set_cons_succ]
  clear hHeld
  refine wpAnyH_ready (rs := [10]) (by kernel_rfl) (by simp) ?_
  refine AllReadyH.cons rfl (fun K hK => ?_) AllReadyH.nil
  go_simp
  have nX0_X2 : w.heap.size < w7.heap.size := World.block_lt_of_cell? _ _ cX0_0
  have nX1_X2 : w.heap.size + 1 < w7.heap.size := World.block_lt_of_cell? _ _ cX1_0
  have gX2 : w.heap.size ≤ w7.heap.size := kk.size
  have ha := bA (Below.refl _ w7) (.cells #[.int .u64 0, .int .u64 0] 25)
  have hx := HB.new w7 25 #[.int .u64 0, .int .u64 0]
  replace cX0_0 := cell_later ha cX0_0; replace cX0_1 := cell_later ha cX0_1
  replace fX1_0 := frozen_later ha cX1_0 fX1_0; replace fX1_1 := frozen_later ha cX1_1 fX1_1; replace fX1_2 := frozen_later ha cX1_2 fX1_2
  replace cX1_0 := cell_later ha cX1_0; replace cX1_1 := cell_later ha cX1_1; replace cX1_2 := cell_later ha cX1_2
  replace kk := bC kk ha
  have cX2_0 := hx.cell 0; have fX2_0 := hx.frozen 0; have cX2_1 := hx.cell 1; have fX2_1 := hx.frozen 1; dsimp at cX2_0 cX2_1
  clear ha hx
  refine hK.out _ _ ⟨cX0_0, cX0_1, trivial⟩ (fun hHeld => ?_)
  clear hK K
  generalize w7.alloc (.cells #[.int .u64 0, .int .u64 0] 25) = w8 at *
  generalize w7.heap.size = pp3 at *
  try simp only [List.getElem_toArray, List.getElem_cons_zero, List.getElem_cons_succ, Act.put, List.setIfInBounds_toArray, List.set_cons_zero, List.set_cons_succ]
  clear w7
  refine wpAnyH_take (i := 11) (v := ?vq16) rfl (by kernel_rfl) (by kernel_rfl) (by kernel_rfl) (fun _ _ _ h => h) (Or.inl ⟨by rfl, ?yq16⟩) hHeld ?rq16
  case yq16 => (intro wq hb; obtain ⟨lq0, lq1, _⟩ := hb; go_simp; try (with_reducible rfl))
  try simp only [List.getElem_toArray, List.getElem_cons_zero, List.getElem_cons_succ, Act.put, List.setIfInBounds_toArray, List.set_cons_zero, List.set_cons_succ]
  refine wpAnyH_take (i := 12) (v := ?vq17) rfl (by kernel_rfl) (by kernel_rfl) (by kernel_rfl) (fun _ _ _ h => h) (Or.inl ⟨by rfl, ?yq17⟩) hHeld ?rq17
  case yq17 => (intro wq hb; obtain ⟨lq0, lq1, _⟩ := hb; go_simp; try (with_reducible rfl))
  try simp only [List.getElem_toArray, List.getElem_cons_zero, List.getElem_cons_succ, Act.put, List.setIfInBounds_toArray, List.set_cons_zero, List.set_cons_succ]
  clear hHeld
  refine wpAnyH_ready (rs := [13]) (by kernel_rfl) (by simp) ?_
  refine AllReadyH.cons rfl (fun K hK => ?_) AllReadyH.nil
  go_simp
  have neX0 : ¬ (pp3 = w.heap.size) := by omega
  have nfX0 : ¬ (w.heap.size = pp3) := by omega
  have neX1 : ¬ (pp3 = w.heap.size + 1) := by omega
  have nfX1 : ¬ (w.heap.size + 1 = pp3) := by omega
  have KEY := Lib.hid (show ((w8.setCell ⟨pp3, 0, none⟩ (.int .u64 xh)).setCell ⟨pp3, 1, none⟩ (.int .u64 xl)).cell? ⟨w.heap.size, 0, none⟩ = some (.int .u64 bh) ∧ ((w8.setCell ⟨pp3, 0, none⟩ (.int .u64 xh)).setCell ⟨pp3, 1, none⟩ (.int .u64 xl)).cell? ⟨w.heap.size, 1, none⟩ = some (.int .u64 bl) ∧ ((w8.setCell ⟨pp3, 0, none⟩ (.int .u64 xh)).setCell ⟨pp3, 1, none⟩ (.int .u64 xl)).cell? ⟨w.heap.size + 1, 0, none⟩ = some (.int .u64 0) ∧ ((w8.setCell ⟨pp3, 0, none⟩ (.int .u64 xh)).setCell ⟨pp3, 1, none⟩ (.int .u64 xl)).cell? ⟨w.heap.size + 1, 1, none⟩ = some (.int .u64 0) ∧ ((w8.setCell ⟨pp3, 0, none⟩ (.int .u64 xh)).setCell ⟨pp3, 1, none⟩ (.int .u64 xl)).cell? ⟨w.heap.size + 1, 2, none⟩ = some (.int .u8 0) ∧ ((w8.setCell ⟨pp3, 0, none⟩ (.int .u64 xh)).setCell ⟨pp3, 1, none⟩ (.int .u64 xl)).frozen? ⟨w.heap.size + 1, 0, none⟩ = false ∧ ((w8.setCell ⟨pp3, 0, none⟩ (.int .u64 xh)).setCell ⟨pp3, 1, none⟩ (.int .u64 xl)).frozen? ⟨w.heap.size + 1, 1, none⟩ = false ∧ ((w8.setCell ⟨pp3, 0, none⟩ (.int .u64 xh)).setCell ⟨pp3, 1, none⟩ (.int .u64 xl)).frozen? ⟨w.heap.size + 1, 2, none⟩ = false ∧ ((w8.setCell ⟨pp3, 0, none⟩ (.int .u64 xh)).setCell ⟨pp3, 1, none⟩ (.int .u64 xl)).cell? ⟨pp3, 0, none⟩ = some (.int .u64 xh) ∧ ((w8.setCell ⟨pp3, 0, none⟩ (.int .u64 xh)).setCell ⟨pp3, 1, none⟩ (.int .u64 xl)).cell? ⟨pp3, 1, none⟩ = some (.int .u64 xl) ∧ ((w8.setCell ⟨pp3, 0, none⟩ (.int .u64 xh)).setCell ⟨pp3, 1, none⟩ (.int .u64 xl)).frozen? ⟨pp3, 0, none⟩ = false ∧ ((w8.setCell ⟨pp3, 0, none⟩ (.int .u64 xh)).setCell ⟨pp3, 1, none⟩ (.int .u64 xl)).frozen? ⟨pp3, 1, none⟩ = false ∧ Below w.heap.size w ((w8.setCell ⟨pp3, 0, none⟩ (.int .u64 xh)).setCell ⟨pp3, 1, none⟩ (.int .u64 xl)) from ⟨by go_simp, by go_simp, by go_simp, by go_simp, by go_simp, by go_simp, by go_simp, by go_simp, by go_simp, by go_simp, by go_simp, by go_simp, ((kk.setCell (p := ⟨pp3, 0, none⟩) gX2 _).setCell (p := ⟨pp3, 1, none⟩) gX2 _)⟩)
  clear cX0_0 cX0_1 cX1_0 cX1_1 cX1_2 fX1_0 fX1_1 fX1_2 cX2_0 cX2_1 fX2_0 fX2_1 neX0 nfX0 neX1 nfX1 kk
  refine forget_at (fun W => W.cell? ⟨w.heap.size, 0, none⟩ = some (.int .u64 bh) ∧ W.cell? ⟨w.heap.size, 1, none⟩ = some (.int .u64 bl) ∧ W.cell? ⟨w.heap.size + 1, 0, none⟩ = some (.int .u64 0) ∧ W.cell? ⟨w.heap.size + 1, 1, none⟩ = some (.int .u64 0) ∧ W.cell? ⟨w.heap.size + 1, 2, none⟩ = some (.int .u8 0) ∧ W.frozen? ⟨w.heap.size + 1, 0, none⟩ = false ∧ W.frozen? ⟨w.heap.size + 1, 1, none⟩ = false ∧ W.frozen? ⟨w.heap.size + 1, 2, none⟩ = false ∧ W.cell? ⟨pp3, 0, none⟩ = some (.int .u64 xh) ∧ W.cell? ⟨pp3, 1, none⟩ = some (.int .u64 xl) ∧ W.frozen? ⟨pp3, 0, none⟩ = false ∧ W.frozen? ⟨pp3, 1, none⟩ = false ∧ Below w.heap.size w W) KEY.out (fun w9 hz => ?_)
  obtain ⟨cX0_0, cX0_1, cX1_0, cX1_1, cX1_2, fX1_0, fX1_1, fX1_2, cX2_0, cX2_1, fX2_0, fX2_1, kk⟩ := hz
  clear KEY
  refine hK.out _ _ ⟨cX0_0, cX0_1, trivial⟩ (fun hHeld => ?_)
  clear hK K
  try simp only [List.getElem_toArray, List.getElem_cons_zero, List.getElem_cons_succ, Act.put, List.setIfInBounds_toArray, List.set_cons_zero, List.set_cons_succ]
  clear w8
  clear hHeld
  refine wpAnyH_done (by kernel_rfl) ?_ _
  refine NoPanic.normal ?_
  revert kk; revert nX1_X2; revert nX0_X2; revert gX2; revert fX2_1; revert fX2_0; revert cX2_1; revert cX2_0; revert fX1_2; revert fX1_1; revert fX1_0; revert cX1_2; revert cX1_1; revert cX1_0; revert cX0_1; revert cX0_0; revert bk1; revert pp3; revert w9
  refine ?restw4
  rotate_left
  go_simp
  have nX0_X2 : w.heap.size < w6.heap.size := World.block_lt_of_cell? _ _ cX0_0
  have nX1_X2 : w.heap.size + 1 < w6.heap.size := World.block_lt_of_cell? _ _ cX1_0
  have gX2 : w.heap.size ≤ w6.heap.size := kk.size
  have ha := bA (Below.refl _ w6) (.cells #[.int .u64 0, .int .u64 0] 25)
  have hx := HB.new w6 25 #[.int .u64 0, .int .u64 0]
  replace nbk1 := nbk1.later ha
  replace cX0_0 := cell_later ha cX0_0; replace cX0_1 := cell_later ha cX0_1
  replace fX1_0 := frozen_later ha cX1_0 fX1_0; replace fX1_1 := frozen_later ha cX1_1 fX1_1; replace fX1_2 := frozen_later ha cX1_2 fX1_2
  replace cX1_0 := cell_later ha cX1_0; replace cX1_1 := cell_later ha cX1_1; replace cX1_2 := cell_later ha cX1_2
  replace kk := bC kk ha
  have cX2_0 := hx.cell 0; have fX2_0 := hx.frozen 0; have cX2_1 := hx.cell 1; have fX2_1 := hx.frozen 1; dsimp at cX2_0 cX2_1
  clear ha hx
  refine hK.out _ _ ⟨cX0_0, cX0_1, trivial⟩ (fun hHeld => ?_)
  clear hK K
  generalize w6.alloc (.cells #[.int .u64 0, .int .u64 0] 25) = w10 at *
  generalize w6.heap.size = pp3 at *
  try simp only [List.getElem_toArray, List.getElem_cons_zero, List.getElem_cons_succ, Act.put, List.setIfInBounds_toArray, List.set_cons_zero, List.set_cons_succ]
  clear w6
  clear hHeld
  refine wpAnyH_ready (rs := [5]) (by kernel_rfl) (by simp) ?_
  refine AllReadyH.cons rfl (fun K hK => ?_) AllReadyH.nil
  go_simp
  (with_reducible refine (cf.out bk1 _ (ft.later kk) nbk1.fst).mono ?_); rintro e w11 ⟨rfl, hb⟩
  replace nbk1 := nbk1.later hb
  replace cX0_0 := cell_later hb cX0_0; replace cX0_1 := cell_later hb cX0_1
  replace fX1_0 := frozen_later hb cX1_0 fX1_0; replace fX1_1 := frozen_later hb cX1_1 fX1_1; replace fX1_2 := frozen_later hb cX1_2 fX1_2
  replace cX1_0 := cell_later hb cX1_0; replace cX1_1 := cell_later hb cX1_1; replace cX1_2 := cell_later hb cX1_2
  replace fX2_0 := frozen_later hb cX2_0 fX2_0; replace fX2_1 := frozen_later hb cX2_1 fX2_1
  replace cX2_0 := cell_later hb cX2_0; replace cX2_1 := cell_later hb cX2_1
  replace kk := bC kk hb
  clear hb
  clear nbk1
  refine hK.out _ _ ⟨cX0_0, cX0_1, trivial⟩ (fun hHeld => ?_)
  clear hK K
  try simp only [List.getElem_toArray, List.getElem_cons_zero, List.getElem_cons_succ, Act.put, List.setIfInBounds_toArray, List.set_cons_zero, List.set_cons_succ]
  clear w10
  refine wpAnyH_take (i := 6) (v := ?vq18) rfl (by kernel_rfl) (by kernel_rfl) (by kernel_rfl) (fun _ _ _ h => h) (Or.inl ⟨by rfl, ?yq18⟩) hHeld ?rq18
  case yq18 => (intro wq hb; obtain ⟨lq0, lq1, _⟩ := hb; go_simp; try (with_reducible rfl))
  try simp only [List.getElem_toArray, List.getElem_cons_zero, List.getElem_cons_succ, Act.put, List.setIfInBounds_toArray, List.set_cons_zero, List.set_cons_succ]
  refine wpAnyH_take (i := 7) (v := ?vq19) rfl (by kernel_rfl) (by kernel_rfl) (by kernel_rfl) (fun _ _ _ h => h) (Or.inl ⟨by rfl, ?yq19⟩) hHeld ?rq19
  case yq19 => (intro wq hb; obtain ⟨lq0, lq1, _⟩ := hb; go_simp; try (with_reducible rfl))
  try simp only [List.getElem_toArray, List.getElem_cons_zero, List.getElem_cons_succ, Act.put, List.setIfInBounds_toArray, List.set_cons_zero, List.set_cons_succ]
  refine wpAnyH_take (i := 8) (v := ?vq20) rfl (by kernel_rfl) (by kernel_rfl) (by kernel_rfl) (fun _ _ _ h => h) (Or.inl ⟨by rfl, ?yq20⟩) hHeld ?rq20
  case yq20 => (intro wq hb; obtain ⟨lq0, lq1, _⟩ := hb; go_simp; try (with_reducible rfl))
  try simp only [List.getElem_toArray, List.getElem_cons_zero, List.getElem_cons_succ, Act.put, List.setIfInBounds_toArray, List.set_cons_zero, List.set_cons_succ]
  refine wpAnyH_take (i := 9) (v := ?vq21) rfl (by kernel_rfl) (by kernel_rfl) (by kernel_rfl) (fun _ _ _ h => h) (Or.inl ⟨by rfl, ?yq21⟩) hHeld ?rq21
  case yq21 => (intro wq hb; obtain ⟨lq0, lq1, _⟩ := hb; go_simp; try (with_reducible rfl))
  try simp only [List.getElem_toArray, List.getElem_cons_zero, List.getElem_cons_succ, Act.put, List.setIfInBounds_toArray, List.set_cons_zero, List.set_cons_succ]
  refine wpAnyH_take (i := 11) (v := ?vq22) rfl (by kernel_rfl) (by kernel_rfl) (by kernel_rfl) (fun _ _ _ h => h) (Or.inl ⟨by rfl, ?yq22⟩) hHeld ?rq22
  case yq22 => (intro wq hb; obtain ⟨lq0, lq1, _⟩ := hb; go_simp; try (with_reducible rfl))
  try simp only [List.getElem_toArray, List.getElem_cons_zero, List.getElem_cons_succ, Act.put, List.setIfInBounds_toArray, List.set_cons_zero, List.set_cons_succ]
  refine wpAnyH_take (i := 12) (v := ?vq23) rfl (by kernel_rfl) (by kernel_rfl) (by kernel_rfl) (fun _ _ _ h => h) (Or.inl ⟨by rfl, ?yq23⟩) hHeld ?rq23
  case yq23 => (intro wq hb; obtain ⟨lq0, lq1, _⟩ := hb; go_simp; try (with_reducible rfl))
  try simp only [List.getElem_toArray, List.getElem_cons_zero, List.getElem_cons_succ, Act.put, List.setIfInBounds_toArray, List.set_cons_zero, List.set_cons_succ]
  clear hHeld
  refine wpAnyH_ready (rs := [13]) (by kernel_rfl) (by simp) ?_
  refine AllReadyH.cons rfl (fun K hK => ?_) AllReadyH.nil
  go_simp
  have neX0 : ¬ (pp3 = w.heap.size) := by omega
  have nfX0 : ¬ (w.heap.size = pp3) := by omega
  have neX1 : ¬ (pp3 = w.heap.size + 1) := by omega
  have nfX1 : ¬ (w.heap.size + 1 = pp3) := by omega
  have KEY := Lib.hid (show ((w11.setCell ⟨pp3, 0, none⟩ (.int .u64 xh)).setCell ⟨pp3, 1, none⟩ (.int .u64 xl)).cell? ⟨w.heap.size, 0, none⟩ = some (.int .u64 bh) ∧ ((w11.setCell ⟨pp3, 0, none⟩ (.int .u64 xh)).setCell ⟨pp3, 1, none⟩ (.int .u64 xl)).cell? ⟨w.heap.size, 1, none⟩ = some (.int .u64 bl) ∧ ((w11.setCell ⟨pp3, 0, none⟩ (.int .u64 xh)).setCell ⟨pp3, 1, none⟩ (.int .u64 xl)).cell? ⟨w.heap.size + 1, 0, none⟩ = some (.int .u64 0) ∧ ((w11.setCell ⟨pp3, 0, none⟩ (.int .u64 xh)).setCell ⟨pp3, 1, none⟩ (.int .u64 xl)).cell? ⟨w.heap.size + 1, 1, none⟩ = some (.int .u64 0) ∧ ((w11.setCell ⟨pp3, 0, none⟩ (.int .u64 xh)).setCell ⟨pp3, 1, none⟩ (.int .u64 xl)).cell? ⟨w.heap.size + 1, 2, none⟩ = some (.int .u8 0) ∧ ((w11.setCell ⟨pp3, 0, none⟩ (.int .u64 xh)).setCell ⟨pp3, 1, none⟩ (.int .u64 xl)).frozen? ⟨w.heap.size + 1, 0, none⟩ = false ∧ ((w11.setCell ⟨pp3, 0, none⟩ (.int .u64 xh)).setCell ⟨pp3, 1, none⟩ (.int .u64 xl)).frozen? ⟨w.heap.size + 1, 1, none⟩ = false ∧ ((w11.setCell ⟨pp3, 0, none⟩ (.int .u64 xh)).setCell ⟨pp3, 1, none⟩ (.int .u64 xl)).frozen? ⟨w.heap.size + 1, 2, none⟩ = false ∧ ((w11.setCell ⟨pp3, 0, none⟩ (.int .u64 xh)).setCell ⟨pp3, 1, none⟩ (.int .u64 xl)).cell? ⟨pp3, 0, none⟩ = some (.int .u64 xh) ∧ ((w11.setCell ⟨pp3, 0, none⟩ (.int .u64 xh)).setCell ⟨pp3, 1, none⟩ (.int .u64 xl)).cell? ⟨pp3, 1, none⟩ = some (.int .u64 xl) ∧ ((w11.setCell ⟨pp3, 0, none⟩ (.int .u64 xh)).setCell ⟨pp3, 1, none⟩ (.int .u64 xl)).frozen? ⟨pp3, 0, none⟩ = false ∧ ((w11.setCell ⟨pp3, 0, none⟩ (.int .u64 xh)).setCell ⟨pp3, 1, none⟩ (.int .u64 xl)).frozen? ⟨pp3, 1, none⟩ = false ∧ Below w.heap.size w ((w11.setCell ⟨pp3, 0, none⟩ (.int .u64 xh)).setCell ⟨pp3, 1, none⟩ (.int .u64 xl)) from ⟨by go_simp, by go_simp, by go_simp, by go_simp, by go_simp, by go_simp, by go_simp, by go_simp, by go_simp, by go_simp, by go_simp, by go_simp, ((kk.setCell (p := ⟨pp3, 0, none⟩) gX2 _).setCell (p := ⟨pp3, 1, none⟩) gX2 _)⟩)
  clear cX0_0 cX0_1 cX1_0 cX1_1 cX1_2 fX1_0 fX1_1 fX1_2 cX2_0 cX2_1 fX2_0 fX2_1 neX0 nfX0 neX1 nfX1 kk
  refine forget_at (fun W => W.cell? ⟨w.heap.size, 0, none⟩ = some (.int .u64 bh) ∧ W.cell? ⟨w.heap.size, 1, none⟩ = some (.int .u64 bl) ∧ W.cell? ⟨w.heap.size + 1, 0, none⟩ = some (.int .u64 0) ∧ W.cell? ⟨w.heap.size + 1, 1, none⟩ = some (.int .u64 0) ∧ W.cell? ⟨w.heap.size + 1, 2, none⟩ = some (.int .u8 0) ∧ W.frozen? ⟨w.heap.size + 1, 0, none⟩ = false ∧ W.frozen? ⟨w.heap.size + 1, 1, none⟩ = false ∧ W.frozen? ⟨w.heap.size + 1, 2, none⟩ = false ∧ W.cell? ⟨pp3, 0, none⟩ = some (.int .u64 xh) ∧ W.cell? ⟨pp3, 1, none⟩ = some (.int .u64 xl) ∧ W.frozen? ⟨pp3, 0, none⟩ = false ∧ W.frozen? ⟨pp3, 1, none⟩ = false ∧ Below w.heap.size w W) KEY.out (fun w12 hz => ?_)
  obtain ⟨cX0_0, cX0_1, cX1_0, cX1_1, cX1_2, fX1_0, fX1_1, fX1_2, cX2_0, cX2_1, fX2_0, fX2_1, kk⟩ := hz
  clear KEY
  refine hK.out _ _ ⟨cX0_0, cX0_1, trivial⟩ (fun hHeld => ?_)
  clear hK K
  try simp only [List.getElem_toArray, List.getElem_cons_zero, List.getElem_cons_succ, Act.put, List.setIfInBounds_toArray, List.set_cons_zero, List.set_cons_succ]
  clear w11
  clear hHeld
  refine wpAnyH_done (by kernel_rfl) ?_ _
  refine NoPanic.normal ?_
  revert kk; revert nX1_X2; revert nX0_X2; revert gX2; revert fX2_1; revert fX2_0; revert cX2_1; revert cX2_0; revert fX1_2; revert fX1_1; revert fX1_0; revert cX1_2; revert cX1_1; revert cX1_0; revert cX0_1; revert cX0_0; revert bk1; revert pp3; revert w12
  exact ?restw4
  go_simp
  have nX0_X2 : w.heap.size < w5.heap.size := World.block_lt_of_cell? _ _ cX0_0
  have nX1_X2 : w.heap.size + 1 < w5.heap.size := World.block_lt_of_cell? _ _ cX1_0
  have gX2 : w.heap.size ≤ w5.heap.size := kk.size
  have ha := bA (Below.refl _ w5) (.cells #[.int .u64 0, .int .u64 0] 25)
  have hx := HB.new w5 25 #[.int .u64 0, .int .u64 0]
  replace nbk1 := nbk1.later ha
  replace cX0_0 := cell_later ha cX0_0; replace cX0_1 := cell_later ha cX0_1
  replace fX1_0 := frozen_later ha cX1_0 fX1_0; replace fX1_1 := frozen_later ha cX1_1 fX1_1; replace fX1_2 := frozen_later ha cX1_2 fX1_2
  replace cX1_0 := cell_later ha cX1_0; replace cX1_1 := cell_later ha cX1_1; replace cX1_2 := cell_later ha cX1_2
  replace kk := bC kk ha
  have cX2_0 := hx.cell 0; have fX2_0 := hx.frozen 0; have cX2_1 := hx.cell 1; have fX2_1 := hx.frozen 1; dsimp at cX2_0 cX2_1
  clear ha hx
  refine hK.out _ _ ⟨cX0_0, cX0_1, trivial⟩ (fun hHeld => ?_)
  clear hK K
  generalize w5.alloc (.cells #[.int .u64 0, .int .u64 0] 25) = w13 at *
  generalize w5.heap.size = pp3 at *
  try simp only [List.getElem_toArray, List.getElem_cons_zero, List.getElem_cons_succ, Act.put, List.setIfInBounds_toArray, List.set_cons_zero, List.set_cons_succ]
  clear w5
  clear hHeld
  refine wpAnyH_ready (rs := [4]) (by kernel_rfl) (by simp) ?_
  refine AllReadyH.cons rfl (fun K hK => ?_) AllReadyH.nil
  go_simp
  (with_reducible refine (h3.out _ (ft.later kk)).mono ?_); rintro e w14 ⟨rfl, hb⟩
  replace nbk1 := nbk1.later hb
  replace cX0_0 := cell_later hb cX0_0; replace cX0_1 := cell_later hb cX0_1
  replace fX1_0 := frozen_later hb cX1_0 fX1_0; replace fX1_1 := frozen_later hb cX1_1 fX1_1; replace fX1_2 := frozen_later hb cX1_2 fX1_2
  replace cX1_0 := cell_later hb cX1_0; replace cX1_1 := cell_later hb cX1_1; replace cX1_2 := cell_later hb cX1_2
  replace fX2_0 := frozen_later hb cX2_0 fX2_0; replace fX2_1 := frozen_later hb cX2_1 fX2_1
  replace cX2_0 := cell_later hb cX2_0; replace cX2_1 := cell_later hb cX2_1
  replace kk := bC kk hb
  clear hb
  refine hK.out _ _ ⟨cX0_0, cX0_1, trivial⟩ (fun hHeld => ?_)
  clear hK K
  try simp only [List.getElem_toArray, List.getElem_cons_zero, List.getElem_cons_succ, Act.put, List.setIfInBounds_toArray, List.set_cons_zero, List.set_cons_succ]
  clear w13
  clear hHeld
  refine wpAnyH_ready (rs := [5]) (by kernel_rfl) (by simp) ?_
  refine AllReadyH.cons rfl (fun K hK => ?_) AllReadyH.nil
  go_simp
  (with_reducible refine (cf.out bk1 _ (ft.later kk) nbk1.fst).mono ?_); rintro e w15 ⟨rfl, hb⟩
  replace nbk1 := nbk1.later hb
  replace cX0_0 := cell_later hb cX0_0; replace cX0_1 := cell_later hb cX0_1
  replace fX1_0 := frozen_later hb cX1_0 fX1_0; replace fX1_1 := frozen_later hb cX1_1 fX1_1; replace fX1_2 := frozen_later hb cX1_2 fX1_2
  replace cX1_0 := cell_later hb cX1_0; replace cX1_1 := cell_later hb cX1_1; replace cX1_2 := cell_later hb cX1_2
  replace fX2_0 := frozen_later hb cX2_0 fX2_0; replace fX2_1 := frozen_later hb cX2_1 fX2_1
  replace cX2_0 := cell_later hb cX2_0; replace cX2_1 := cell_later hb cX2_1
  replace kk := bC kk hb
  clear hb
  clear nbk1
  refine hK.out _ _ ⟨cX0_0, cX0_1, trivial⟩ (fun hHeld => ?_)
  clear hK K
  try simp only [List.getElem_toArray, List.getElem_cons_zero, List.getElem_cons_succ, Act.put, List.setIfInBounds_toArray, List.set_cons_zero, List.set_cons_succ]
  clear w14
  refine wpAnyH_take (i := 6) (v := ?vq24) rfl (by kernel_rfl) (by kernel_rfl) (by kernel_rfl) (fun _ _ _ h => h) (Or.inl ⟨by rfl, ?yq24⟩) hHeld ?rq24
  case yq24 => (intro wq hb; obtain ⟨lq0, lq1, _⟩ := hb; go_simp; try (with_reducible rfl))
  try simp only [List.getElem_toArray, List.getElem_cons_zero, List.getElem_cons_succ, Act.put, List.setIfInBounds_toArray, List.set_cons_zero, List.set_cons_succ]
  refine wpAnyH_take (i := 7) (v := ?vq25) rfl (by kernel_rfl) (by kernel_rfl) (by kernel_rfl) (fun _ _ _ h => h) (Or.inl ⟨by rfl, ?yq25⟩) hHeld ?rq25
  case yq25 => (intro wq hb; obtain ⟨lq0, lq1, _⟩ := hb; go_simp; try (with_reducible rfl))
  try simp only [List.getElem_toArray, List.getElem_cons_zero, List.getElem_cons_succ, Act.put, List.setIfInBounds_toArray, List.set_cons_zero, List.set_cons_succ]
  refine wpAnyH_take (i := 8) (v := ?vq26) rfl (by kernel_rfl) (by kernel_rfl) (by kernel_rfl) (fun _ _ _ h => h) (Or.inl ⟨by rfl, ?yq26⟩) hHeld ?rq26
  case yq26 => (intro wq hb; obtain ⟨lq0, lq1, _⟩ := hb; go_simp; try (with_reducible rfl))
  try simp only [List.getElem_toArray, List.getElem_cons_zero, List.getElem_cons_succ, Act.put, List.setIfInBounds_toArray, List.set_cons_zero, List.set_cons_succ]
  refine wpAnyH_take (i := 9) (v := ?vq27) rfl (by kernel_rfl) (by kernel_rfl) (by kernel_rfl) (fun _ _ _ h => h) (Or.inl ⟨by rfl, ?yq27⟩) hHeld ?rq27
  case yq27 => (intro wq hb; obtain ⟨lq0, lq1, _⟩ := hb; go_simp; try (with_reducible rfl))
  try simp only [List.getElem_toArray, List.getElem_cons_zero, List.getElem_cons_succ, Act.put, List.setIfInBounds_toArray, List.set_cons_zero, List.set_cons_succ]
  refine wpAnyH_take (i := 11) (v := ?vq28) rfl (by kernel_rfl) (by kernel_rfl) (by kernel_rfl) (fun _ _ _ h => h) (Or.inl ⟨by rfl, ?yq28⟩) hHeld ?rq28
  case yq28 => (intro wq hb; obtain ⟨lq0, lq1, _⟩ := hb; go_simp; try (with_reducible rfl))
  try simp only [List.getElem_toArray, List.getElem_cons_zero, List.getElem_cons_succ, Act.put, List.setIfInBounds_toArray, List.set_cons_zero, List.set_cons_succ]
  refine wpAnyH_take (i := 12) (v := ?vq29) rfl (by kernel_rfl) (by kernel_rfl) (by kernel_rfl) (fun _ _ _ h => h) (Or.inl ⟨by rfl, ?yq29⟩) hHeld ?rq29
  case yq29 => (intro wq hb; obtain ⟨lq0, lq1, _⟩ := hb; go_simp; try (with_reducible rfl))
  try simp only [List.getElem_toArray, List.getElem_cons_zero, List.getElem_cons_succ, Act.put, List.setIfInBounds_toArray, List.set_cons_zero, List.set_cons_succ]
  clear hHeld
  refine wpAnyH_ready (rs := [13]) (by kernel_rfl) (by simp) ?_
  refine AllReadyH.cons rfl (fun K hK => ?_) AllReadyH.nil
  go_simp
  have neX0 : ¬ (pp3 = w.heap.size) := by omega
  have nfX0 : ¬ (w.heap.size = pp3) := by omega
  have neX1 : ¬ (pp3 = w.heap.size + 1) := by omega
  have nfX1 : ¬ (w.heap.size + 1 = pp3) := by omega
  have KEY := Lib.hid (show ((w15.setCell ⟨pp3, 0, none⟩ (.int .u64 xh)).setCell ⟨pp3, 1, none⟩ (.int .u64 xl)).cell? ⟨w.heap.size, 0, none⟩ = some (.int .u64 bh) ∧ ((w15.setCell ⟨pp3, 0, none⟩ (.int .u64 xh)).setCell ⟨pp3, 1, none⟩ (.int .u64 xl)).cell? ⟨w.heap.size, 1, none⟩ = some (.int .u64 bl) ∧ ((w15.setCell ⟨pp3, 0, none⟩ (.int .u64 xh)).setCell ⟨pp3, 1, none⟩ (.int .u64 xl)).cell? ⟨w.heap.size + 1, 0, none⟩ = some (.int .u64 0) ∧ ((w15.setCell ⟨pp3, 0, none⟩ (.int .u64 xh)).setCell ⟨pp3, 1, none⟩ (.int .u64 xl)).cell? ⟨w.heap.size + 1, 1, none⟩ = some (.int .u64 0) ∧ ((w15.setCell ⟨pp3, 0, none⟩ (.int .u64 xh)).setCell ⟨pp3, 1, none⟩ (.int .u64 xl)).cell? ⟨w.heap.size + 1, 2, none⟩ = some (.int .u8 0) ∧ ((w15.setCell ⟨pp3, 0, none⟩ (.int .u64 xh)).setCell ⟨pp3, 1, none⟩ (.int .u64 xl)).frozen? ⟨w.heap.size + 1, 0, none⟩ = false ∧ ((w15.setCell ⟨pp3, 0, none⟩ (.int .u64 xh)).setCell ⟨pp3, 1, none⟩ (.int .u64 xl)).frozen? ⟨w.heap.size + 1, 1, none⟩ = false ∧ ((w15.setCell ⟨pp3, 0, none⟩ (.int .u64 xh)).setCell ⟨pp3, 1, none⟩ (.int .u64 xl)).frozen? ⟨w.heap.size + 1, 2, none⟩ = false ∧ ((w15.setCell ⟨pp3, 0, none⟩ (.int .u64 xh)).setCell ⟨pp3, 1, none⟩ (.int .u64 xl)).cell? ⟨pp3, 0, none⟩ = some (.int .u64 xh) ∧ ((w15.setCell ⟨pp3, 0, none⟩ (.int .u64 xh)).setCell ⟨pp3, 1, none⟩ (.int .u64 xl)).cell? ⟨pp3, 1, none⟩ = some (.int .u64 xl) ∧ ((w15.setCell ⟨pp3, 0, none⟩ (.int .u64 xh)).setCell ⟨pp3, 1, none⟩ (.int .u64 xl)).frozen? ⟨pp3, 0, none⟩ = false ∧ ((w15.setCell ⟨pp3, 0, none⟩ (.int .u64 xh)).setCell ⟨pp3, 1, none⟩ (.int .u64 xl)).frozen? ⟨pp3, 1, none⟩ = false ∧ Below w.heap.size w ((w15.setCell ⟨pp3, 0, none⟩ (.int .u64 xh)).setCell ⟨pp3, 1, none⟩ (.int .u64 xl)) from ⟨by go_simp, by go_simp, by go_simp, by go_simp, by go_simp, by go_simp, by go_simp, by go_simp, by go_simp, by go_simp, by go_simp, by go_simp, ((kk.setCell (p := ⟨pp3, 0, none⟩) gX2 _).setCell (p := ⟨pp3, 1, none⟩) gX2 _)⟩)
  clear cX0_0 cX0_1 cX1_0 cX1_1 cX1_2 fX1_0 fX1_1 fX1_2 cX2_0 cX2_1 fX2_0 fX2_1 neX0 nfX0 neX1 nfX1 kk
  refine forget_at (fun W => W.cell? ⟨w.heap.size, 0, none⟩ = some (.int .u64 bh) ∧ W.cell? ⟨w.heap.size, 1, none⟩ = some (.int .u64 bl) ∧ W.cell? ⟨w.heap.size + 1, 0, none⟩ = some (.int .u64 0) ∧ W.cell? ⟨w.heap.size + 1, 1, none⟩ = some (.int .u64 0) ∧ W.cell? ⟨w.heap.size + 1, 2, none⟩ = some (.int .u8 0) ∧ W.frozen? ⟨w.heap.size + 1, 0, none⟩ = false ∧ W.frozen? ⟨w.heap.size + 1, 1, none⟩ = false ∧ W.frozen? ⟨w.heap.size + 1, 2, none⟩ = false ∧ W.cell? ⟨pp3, 0, none⟩ = some (.int .u64 xh) ∧ W.cell? ⟨pp3, 1, none⟩ = some (.int .u64 xl) ∧ W.frozen? ⟨pp3, 0, none⟩ = false ∧ W.frozen? ⟨pp3, 1, none⟩ = false ∧ Below w.heap.size w W) KEY.out (fun w16 hz => ?_)
  obtain ⟨cX0_0, cX0_1, cX1_0, cX1_1, cX1_2, fX1_0, fX1_1, fX1_2, cX2_0, cX2_1, fX2_0, fX2_1, kk⟩ := hz
  clear KEY
  refine hK.out _ _ ⟨cX0_0, cX0_1, trivial⟩ (fun hHeld => ?_)
  clear hK K
  try simp only [List.getElem_toArray, List.getElem_cons_zero, List.getElem_cons_succ, Act.put, List.setIfInBounds_toArray, List.set_cons_zero, List.set_cons_succ]
  clear w15
  clear hHeld
  refine wpAnyH_done (by kernel_rfl) ?_ _
  refine NoPanic.normal ?_
  revert kk; revert nX1_X2; revert nX0_X2; revert gX2; revert fX2_1; revert fX2_0; revert cX2_1; revert cX2_0; revert fX1_2; revert fX1_1; revert fX1_0; revert cX1_2; revert cX1_1; revert cX1_0; revert cX0_1; revert cX0_0; revert bk1; revert pp3; revert w16
  exact ?restw4
  go_simp
  have nX0_X2 : w.heap.size < w4.heap.size := World.block_lt_of_cell? _ _ cX0_0
  have nX1_X2 : w.heap.size + 1 < w4.heap.size := World.block_lt_of_cell? _ _ cX1_0
  have gX2 : w.heap.size ≤ w4.heap.size := kk.size
  have ha := bA (Below.refl _ w4) (.cells #[.int .u64 0, .int .u64 0] 25)
  have hx := HB.new w4 25 #[.int .u64 0, .int .u64 0]
  replace cX0_0 := cell_later ha cX0_0; replace cX0_1 := cell_later ha cX0_1
  replace fX1_0 := frozen_later ha cX1_0 fX1_0; replace fX1_1 := frozen_later ha cX1_1 fX1_1; replace fX1_2 := frozen_later ha cX1_2 fX1_2
  replace cX1_0 := cell_later ha cX1_0; replace cX1_1 := cell_later ha cX1_1; replace cX1_2 := cell_later ha cX1_2
  replace kk := bC kk ha
  have cX2_0 := hx.cell 0; have fX2_0 := hx.frozen 0; have cX2_1 := hx.cell 1; have fX2_1 := hx.frozen 1; dsimp at cX2_0 cX2_1
  clear ha hx
  refine hK.out _ _ ⟨cX0_0, cX0_1, trivial⟩ (fun hHeld => ?_)
  clear hK K
  generalize w4.alloc (.cells #[.int .u64 0, .int .u64 0] 25) = w17 at *
  generalize w4.heap.size = pp3 at *
  try simp only [List.getElem_toArray, List.getElem_cons_zero, List.getElem_cons_succ, Act.put, List.setIfInBounds_toArray, List.set_cons_zero, List.set_cons_succ]
  clear w4
  clear hHeld
  refine wpAnyH_ready (rs := [1]) (by kernel_rfl) (by simp) ?_
  refine AllReadyH.cons rfl (fun K hK => ?_) AllReadyH.nil
  go_simp
  (with_reducible refine (rf.out _).mono ?_); rintro e w18 ⟨bk1, rfl, nbk1, hb⟩
  replace cX0_0 := cell_later hb cX0_0; replace cX0_1 := cell_later hb cX0_1
  replace fX1_0 := frozen_later hb cX1_0 fX1_0; replace fX1_1 := frozen_later hb cX1_1 fX1_1; replace fX1_2 := frozen_later hb cX1_2 fX1_2
  replace cX1_0 := cell_later hb cX1_0; replace cX1_1 := cell_later hb cX1_1; replace cX1_2 := cell_later hb cX1_2
  replace fX2_0 := frozen_later hb cX2_0 fX2_0; replace fX2_1 := frozen_later hb cX2_1 fX2_1
  replace cX2_0 := cell_later hb cX2_0; replace cX2_1 := cell_later hb cX2_1
  replace kk := bC kk hb
  clear hb
  refine hK.out _ _ ⟨cX0_0, cX0_1, trivial⟩ (fun hHeld => ?_)
  clear hK K
  try simp only [List.getElem_toArray, List.getElem_cons_zero, List.getElem_cons_succ, Act.put, List.setIfInBounds_toArray, List.set_cons_zero, List.set_cons_succ]
  clear w17
  clear hHeld
  refine wpAnyH_ready (rs := [4]) (by kernel_rfl) (by simp) ?_
  refine AllReadyH.cons rfl (fun K hK => ?_) AllReadyH.nil
  go_simp
  (with_reducible refine (h3.out _ (ft.later kk)).mono ?_); rintro e w19 ⟨rfl, hb⟩
  replace nbk1 := nbk1.later hb
  replace cX0_0 := cell_later hb cX0_0; replace cX0_1 := cell_later hb cX0_1
  replace fX1_0 := frozen_later hb cX1_0 fX1_0; replace fX1_1 := frozen_later hb cX1_1 fX1_1; replace fX1_2 := frozen_later hb cX1_2 fX1_2
  replace cX1_0 := cell_later hb cX1_0; replace cX1_1 := cell_later hb cX1_1; replace cX1_2 := cell_later hb cX1_2
  replace fX2_0 := frozen_later hb cX2_0 fX2_0; replace fX2_1 := frozen_later hb cX2_1 fX2_1
  replace cX2_0 := cell_later hb cX2_0; replace cX2_1 := cell_later hb cX2_1
  replace kk := bC kk hb
  clear hb
  refine hK.out _ _ ⟨cX0_0, cX0_1, trivial⟩ (fun hHeld => ?_)
  clear hK K
  try simp only [List.getElem_toArray, List.getElem_cons_zero, List.getElem_cons_succ, Act.put, List.setIfInBounds_toArray, List.set_cons_zero, List.set_cons_succ]
  clear w18
  clear hHeld
  refine wpAnyH_ready (rs := [5]) (by kernel_rfl) (by simp) ?_
  refine AllReadyH.cons rfl (fun K hK => ?_) AllReadyH.nil
  go_simp
  (with_reducible refine (cf.out bk1 _ (ft.later kk) nbk1.fst).mono ?_); rintro e w20 ⟨rfl, hb⟩
  replace nbk1 := nbk1.later hb
  replace cX0_0 := cell_later hb cX0_0; replace cX0_1 := cell_later hb cX0_1
  replace fX1_0 := frozen_later hb cX1_0 fX1_0; replace fX1_1 := frozen_later hb cX1_1 fX1_1; replace fX1_2 := frozen_later hb cX1_2 fX1_2
  replace cX1_0 := cell_later hb cX1_0; replace cX1_1 := cell_later hb cX1_1; replace cX1_2 := cell_later hb cX1_2
  replace fX2_0 := frozen_later hb cX2_0 fX2_0; replace fX2_1 := frozen_later hb cX2_1 fX2_1
  replace cX2_0 := cell_later hb cX2_0; replace cX2_1 := cell_later hb cX2_1
  replace kk := bC kk hb
  clear hb
  clear nbk1
  refine hK.out _ _ ⟨cX0_0, cX0_1, trivial⟩ (fun hHeld => ?_)
  clear hK K
  try simp only [List.getElem_toArray, List.getElem_cons_zero, List.getElem_cons_succ, Act.put, List.setIfInBounds_toArray, List.set_cons_zero, List.set_cons_succ]
  clear w19
  refine wpAnyH_take (i := 6) (v := ?vq30) rfl (by kernel_rfl) (by kernel_rfl) (by kernel_rfl) (fun _ _ _ h => h) (Or.inl ⟨by rfl, ?yq30⟩) hHeld ?rq30
  case yq30 => (intro wq hb; obtain ⟨lq0, lq1, _⟩ := hb; go_simp; try (with_reducible rfl))
  try simp only [List.getElem_toArray, List.getElem_cons_zero, List.getElem_cons_succ, Act.put, List.setIfInBounds_toArray, List.set_cons_zero, List.set_cons_succ]
  refine wpAnyH_take (i := 7) (v := ?vq31) rfl (by kernel_rfl) (by kernel_rfl) (by kernel_rfl) (fun _ _ _ h => h) (Or.inl ⟨by rfl, ?yq31⟩) hHeld ?rq31
  case yq31 => (intro wq hb; obtain ⟨lq0, lq1, _⟩ := hb; go_simp; try (with_reducible rfl))
  try simp only [List.getElem_toArray, List.getElem_cons_zero, List.getElem_cons_succ, Act.put, List.setIfInBounds_toArray, List.set_cons_zero, List.set_cons_succ]
  refine wpAnyH_take (i := 8) (v := ?vq32) rfl (by kernel_rfl) (by kernel_rfl) (by kernel_rfl) (fun _ _ _ h => h) (Or.inl ⟨by rfl, ?yq32⟩) hHeld ?rq32
  case yq32 => (intro wq hb; obtain ⟨lq0, lq1, _⟩ := hb; go_simp; try (with_reducible rfl))
  try simp only [List.getElem_toArray, List.getElem_cons_zero, List.getElem_cons_succ, Act.put, List.setIfInBounds_toArray, List.set_cons_zero, List.set_cons_succ]
  refine wpAnyH_take (i := 9) (v := ?vq33) rfl (by kernel_rfl) (by kernel_rfl) (by kernel_rfl) (fun _ _ _ h => h) (Or.inl ⟨by rfl, ?yq33⟩) hHeld ?rq33
  case yq33 => (intro wq hb; obtain ⟨lq0, lq1, _⟩ := hb; go_simp; try (with_reducible rfl))
  try simp only [List.getElem_toArray, List.getElem_cons_zero, List.getElem_cons_succ, Act.put, List.setIfInBounds_toArray, List.set_cons_zero, List.set_cons_succ]
  refine wpAnyH_take (i := 11) (v := ?vq34) rfl (by kernel_rfl) (by kernel_rfl) (by kernel_rfl) (fun _ _ _ h => h) (Or.inl ⟨by rfl, ?yq34⟩) hHeld ?rq34
  case yq34 => (intro wq hb; obtain ⟨lq0, lq1, _⟩ := hb; go_simp; try (with_reducible rfl))
  try simp only [List.getElem_toArray, List.getElem_cons_zero, List.getElem_cons_succ, Act.put, List.setIfInBounds_toArray, List.set_cons_zero, List.set_cons_succ]
  refine wpAnyH_take (i := 12) (v := ?vq35) rfl (by kernel_rfl) (by kernel_rfl) (by kernel_rfl) (fun _ _ _ h => h) (Or.inl ⟨by rfl, ?yq35⟩) hHeld ?rq35
  case yq35 => (intro wq hb; obtain ⟨lq0, lq1, _⟩ := hb; go_simp; try (with_reducible rfl))
  try simp only [List.getElem_toArray, List.getElem_cons_zero, List.getElem_cons_succ, Act.put, List.setIfInBounds_toArray, List.set_cons_zero, List.set_cons_succ]
  clear hHeld
  refine wpAnyH_ready (rs := [13]) (by kernel_rfl) (by simp) ?_
  refine AllReadyH.cons rfl (fun K hK => ?_) AllReadyH.nil
  go_simp
  have neX0 : ¬ (pp3 = w.heap.size) := by omega
  have nfX0 : ¬ (w.heap.size = pp3) := by omega
  have neX1 : ¬ (pp3 = w.heap.size + 1) := by omega
  have nfX1 : ¬ (w.heap.size + 1 = pp3) := by omega
  have KEY := Lib.hid (show ((w20.setCell ⟨pp3, 0, none⟩ (.int .u64 xh)).setCell ⟨pp3, 1, none⟩ (.int .u64 xl)).cell? ⟨w.heap.size, 0, none⟩ = some (.int .u64 bh) ∧ ((w20.setCell ⟨pp3, 0, none⟩ (.int .u64 xh)).setCell ⟨pp3, 1, none⟩ (.int .u64 xl)).cell? ⟨w.heap.size, 1, none⟩ = some (.int .u64 bl) ∧ ((w20.setCell ⟨pp3, 0, none⟩ (.int .u64 xh)).setCell ⟨pp3, 1, none⟩ (.int .u64 xl)).cell? ⟨w.heap.size + 1, 0, none⟩ = some (.int .u64 0) ∧ ((w20.setCell ⟨pp3, 0, none⟩ (.int .u64 xh)).setCell ⟨pp3, 1, none⟩ (.int .u64 xl)).cell? ⟨w.heap.size + 1, 1, none⟩ = some (.int .u64 0) ∧ ((w20.setCell ⟨pp3, 0, none⟩ (.int .u64 xh)).setCell ⟨pp3, 1, none⟩ (.int .u64 xl)).cell? ⟨w.heap.size + 1, 2, none⟩ = some (.int .u8 0) ∧ ((w20.setCell ⟨pp3, 0, none⟩ (.int .u64 xh)).setCell ⟨pp3, 1, none⟩ (.int .u64 xl)).frozen? ⟨w.heap.size + 1, 0, none⟩ = false ∧ ((w20.setCell ⟨pp3, 0, none⟩ (.int .u64 xh)).setCell ⟨pp3, 1, none⟩ (.int .u64 xl)).frozen? ⟨w.heap.size + 1, 1, none⟩ = false ∧ ((w20.setCell ⟨pp3, 0, none⟩ (.int .u64 xh)).setCell ⟨pp3, 1, none⟩ (.int .u64 xl)).frozen? ⟨w.heap.size + 1, 2, none⟩ = false ∧ ((w20.setCell ⟨pp3, 0, none⟩ (.int .u64 xh)).setCell ⟨pp3, 1, none⟩ (.int .u64 xl)).cell? ⟨pp3, 0, none⟩ = some (.int .u64 xh) ∧ ((w20.setCell ⟨pp3, 0, none⟩ (.int .u64 xh)).setCell ⟨pp3, 1, none⟩ (.int .u64 xl)).cell? ⟨pp3, 1, none⟩ = some (.int .u64 xl) ∧ ((w20.setCell ⟨pp3, 0, none⟩ (.int .u64 xh)).setCell ⟨pp3, 1, none⟩ (.int .u64 xl)).frozen? ⟨pp3, 0, none⟩ = false ∧ ((w20.setCell ⟨pp3, 0, none⟩ (.int .u64 xh)).setCell ⟨pp3, 1, none⟩ (.int .u64 xl)).frozen? ⟨pp3, 1, none⟩ = false ∧ Below w.heap.size w ((w20.setCell ⟨pp3, 0, none⟩ (.int .u64 xh)).setCell ⟨pp3, 1, none⟩ (.int .u64 xl)) from ⟨by go_simp, by go_simp, by go_simp, by go_simp, by go_simp, by go_simp, by go_simp, by go_simp, by go_simp, by go_simp, by go_simp, by go_simp, ((kk.setCell (p := ⟨pp3, 0, none⟩) gX2 _).setCell (p := ⟨pp3, 1, none⟩) gX2 _)⟩)
  clear cX0_0 cX0_1 cX1_0 cX1_1 cX1_2 fX1_0 fX1_1 fX1_2 cX2_0 cX2_1 fX2_0 fX2_1 neX0 nfX0 neX1 nfX1 kk
  refine forget_at (fun W => W.cell? ⟨w.heap.size, 0, none⟩ = some (.int .u64 bh) ∧ W.cell? ⟨w.heap.size, 1, none⟩ = some (.int .u64 bl) ∧ W.cell? ⟨w.heap.size + 1, 0, none⟩ = some (.int .u64 0) ∧ W.cell? ⟨w.heap.size + 1, 1, none⟩ = some (.int .u64 0) ∧ W.cell? ⟨w.heap.size + 1, 2, none⟩ = some (.int .u8 0) ∧ W.frozen? ⟨w.heap.size + 1, 0, none⟩ = false ∧ W.frozen? ⟨w.heap.size + 1, 1, none⟩ = false ∧ W.frozen? ⟨w.heap.size + 1, 2, none⟩ = false ∧ W.cell? ⟨pp3, 0, none⟩ = some (.int .u64 xh) ∧ W.cell? ⟨pp3, 1, none⟩ = some (.int .u64 xl) ∧ W.frozen? ⟨pp3, 0, none⟩ = false ∧ W.frozen? ⟨pp3, 1, none⟩ = false ∧ Below w.heap.size w W) KEY.out (fun w21 hz => ?_)
  obtain ⟨cX0_0, cX0_1, cX1_0, cX1_1, cX1_2, fX1_0, fX1_1, fX1_2, cX2_0, cX2_1, fX2_0, fX2_1, kk⟩ := hz
  clear KEY
  refine hK.out _ _ ⟨cX0_0, cX0_1, trivial⟩ (fun hHeld => ?_)
  clear hK K
  try simp only [List.getElem_toArray, List.getElem_cons_zero, List.getElem_cons_succ, Act.put, List.setIfInBounds_toArray, List.set_cons_zero, List.set_cons_succ]
  clear w20
  clear hHeld
  refine wpAnyH_done (by kernel_rfl) ?_ _
  refine NoPanic.normal ?_
  revert kk; revert nX1_X2; revert nX0_X2; revert gX2; revert fX2_1; revert fX2_0; revert cX2_1; revert cX2_0; revert fX1_2; revert fX1_1; revert fX1_0; revert cX1_2; revert cX1_1; revert cX1_0; revert cX0_1; revert cX0_0; revert bk1; revert pp3; revert w21
  exact ?restw4
  intro w22 pp3 bk1 cX0_0 cX0_1 cX1_0 cX1_1 cX1_2 fX1_0 fX1_1 fX1_2 cX2_0 cX2_1 fX2_0 fX2_1 gX2 nX0_X2 nX1_X2 kk
  have sX0 : w.heap.size < w22.heap.size := World.block_lt_of_cell? _ _ cX0_0
  have sX1 : w.heap.size + 1 < w22.heap.size ∧ w.heap.size < w22.heap.size := by have h : w.heap.size + 1 < w22.heap.size := World.block_lt_of_cell? _ _ cX1_0; exact ⟨h, by omega⟩
  have sX2 : pp3 < w22.heap.size := World.block_lt_of_cell? _ _ cX2_0
  clear fX2_0 fX2_1
  go_wp2_with fail
  (with_reducible refine (rt.out _).mono ?_); rintro e w23 ⟨bk2, rfl, nbk2, hb⟩
  replace cX0_0 := cell_later hb cX0_0; replace cX0_1 := cell_later hb cX0_1
  replace sX0 : w.heap.size < w23.heap.size := World.block_lt_of_cell? _ _ cX0_0
  replace fX1_0 := frozen_later hb cX1_0 fX1_0; replace fX1_1 := frozen_later hb cX1_1 fX1_1; replace fX1_2 := frozen_later hb cX1_2 fX1_2
  replace cX1_0 := cell_later hb cX1_0; replace cX1_1 := cell_later hb cX1_1; replace cX1_2 := cell_later hb cX1_2
  replace sX1 : w.heap.size + 1 < w23.heap.size ∧ w.heap.size < w23.heap.size := by have h : w.heap.size + 1 < w23.heap.size := World.block_lt_of_cell? _ _ cX1_0; exact ⟨h, by omega⟩
  replace cX2_0 := cell_later hb cX2_0; replace cX2_1 := cell_later hb cX2_1
  replace sX2 : pp3 < w23.heap.size := World.block_lt_of_cell? _ _ cX2_0
  replace kk := bC kk hb
  clear hb
  go_wp2_with fail
  (with_reducible refine (h6.out _ (ft.later kk)).mono ?_); rintro e w24 ⟨rfl, hb⟩
  replace nbk2 := nbk2.later hb
  replace cX0_0 := cell_later hb cX0_0; replace cX0_1 := cell_later hb cX0_1
  replace sX0 : w.heap.size < w24.heap.size := World.block_lt_of_cell? _ _ cX0_0
  replace fX1_0 := frozen_later hb cX1_0 fX1_0; replace fX1_1 := frozen_later hb cX1_1 fX1_1; replace fX1_2 := frozen_later hb cX1_2 fX1_2
  replace cX1_0 := cell_later hb cX1_0; replace cX1_1 := cell_later hb cX1_1; replace cX1_2 := cell_later hb cX1_2
  replace sX1 : w.heap.size + 1 < w24.heap.size ∧ w.heap.size < w24.heap.size := by have h : w.heap.size + 1 < w24.heap.size := World.block_lt_of_cell? _ _ cX1_0; exact ⟨h, by omega⟩
  replace cX2_0 := cell_later hb cX2_0; replace cX2_1 := cell_later hb cX2_1
  replace sX2 : pp3 < w24.heap.size := World.block_lt_of_cell? _ _ cX2_0
  replace kk := bC kk hb
  clear hb
  go_wp2_with fail
  (with_reducible refine (ct.out bk2 _ (ft.later kk) nbk2.fst).mono ?_); rintro e w25 ⟨rfl, hb⟩
  replace nbk2 := nbk2.later hb
  replace cX0_0 := cell_later hb cX0_0; replace cX0_1 := cell_later hb cX0_1
  replace sX0 : w.heap.size < w25.heap.size := World.block_lt_of_cell? _ _ cX0_0
  replace fX1_0 := frozen_later hb cX1_0 fX1_0; replace fX1_1 := frozen_later hb cX1_1 fX1_1; replace fX1_2 := frozen_later hb cX1_2 fX1_2
  replace cX1_0 := cell_later hb cX1_0; replace cX1_1 := cell_later hb cX1_1; replace cX1_2 := cell_later hb cX1_2
  replace sX1 : w.heap.size + 1 < w25.heap.size ∧ w.heap.size < w25.heap.size := by have h : w.heap.size + 1 < w25.heap.size := World.block_lt_of_cell? _ _ cX1_0; exact ⟨h, by omega⟩
  replace cX2_0 := cell_later hb cX2_0; replace cX2_1 := cell_later hb cX2_1
  replace sX2 : pp3 < w25.heap.size := World.block_lt_of_cell? _ _ cX2_0
  replace kk := bC kk hb
  clear hb
  clear nbk2
  go_wp2_with fail
  refine wp_forget (fun W => W.cell? ⟨w.heap.size, 0, none⟩ = some (.int .u64 bh) ∧ W.cell? ⟨w.heap.size, 1, none⟩ = some (.int .u64 bl) ∧ W.cell? ⟨w.heap.size + 1, 0, none⟩ = some (.int .u64 0) ∧ W.cell? ⟨w.heap.size + 1, 1, none⟩ = some (.int .u64 0) ∧ W.cell? ⟨w.heap.size + 1, 2, none⟩ = some (.int .u8 0) ∧ W.cell? ⟨pp3, 0, none⟩ = some (.int .u64 xh) ∧ W.cell? ⟨pp3, 1, none⟩ = some (.int .u64 xl) ∧ W.frozen? ⟨w.heap.size + 1, 0, none⟩ = false ∧ W.frozen? ⟨w.heap.size + 1, 1, none⟩ = false ∧ W.frozen? ⟨w.heap.size + 1, 2, none⟩ = false ∧ Below w.heap.size w W) ⟨cell_later (bA (Below.refl _ _) _) cX0_0, cell_later (bA (Below.refl _ _) _) cX0_1, cell_later (bA (Below.refl _ _) _) cX1_0, cell_later (bA (Below.refl _ _) _) cX1_1, cell_later (bA (Below.refl _ _) _) cX1_2, cell_later (bA (Below.refl _ _) _) cX2_0, cell_later (bA (Below.refl _ _) _) cX2_1, frozen_later (bA (Below.refl _ _) _) cX1_0 fX1_0, frozen_later (bA (Below.refl _ _) _) cX1_1 fX1_1, frozen_later (bA (Below.refl _ _) _) cX1_2 fX1_2, bC kk (bA (Below.refl _ _) _)⟩ (fun w26 hst => ?_)
  clear cX0_0 cX0_1 sX0 cX1_0 cX1_1 cX1_2 sX1 fX1_0 fX1_1 fX1_2 cX2_0 cX2_1 sX2 kk
  obtain ⟨cX0_0, cX0_1, cX1_0, cX1_1, cX1_2, cX2_0, cX2_1, fX1_0, fX1_1, fX1_2, kk⟩ := hst
  have sX0 : w.heap.size < w26.heap.size := World.block_lt_of_cell? _ _ cX0_0
  have sX1 : w.heap.size + 1 < w26.heap.size ∧ w.heap.size < w26.heap.size := by have h : w.heap.size + 1 < w26.heap.size := World.block_lt_of_cell? _ _ cX1_0; exact ⟨h, by omega⟩
  have sX2 : pp3 < w26.heap.size := World.block_lt_of_cell? _ _ cX2_0
  clear sX0
  clear sX1
  clear sX2
  refine wp_region_noPanic ?_
  refine wp_region_held_drew (S := fun w' => w'.cell? ⟨pp3, 0, none⟩ = some (.int .u64 xh) ∧ w'.cell? ⟨pp3, 1, none⟩ = some (.int .u64 xl) ∧ True) (by kernel_rfl) ⟨cell_later (Below.refl _ _).drew cX2_0, cell_later (Below.refl _ _).drew cX2_1, trivial⟩ (fun hHeld => ?_)
  replace cX0_0 := cell_later (Below.refl _ _).drew cX0_0; replace cX0_1 := cell_later (Below.refl _ _).drew cX0_1
  replace fX1_0 := frozen_later (Below.refl _ _).drew cX1_0 fX1_0; replace fX1_1 := frozen_later (Below.refl _ _).drew cX1_1 fX1_1; replace fX1_2 := frozen_later (Below.refl _ _).drew cX1_2 fX1_2
  replace cX1_0 := cell_later (Below.refl _ _).drew cX1_0; replace cX1_1 := cell_later (Below.refl _ _).drew cX1_1; replace cX1_2 := cell_later (Below.refl _ _).drew cX1_2
  replace cX2_0 := cell_later (Below.refl _ _).drew cX2_0; replace cX2_1 := cell_later (Below.refl _ _).drew cX2_1
  replace kk := bC kk (Below.refl _ _).drew
  generalize World.drew _ = w27 at *
  refine wpAnyH_take (i := 0) (v := ?vq36) rfl (by kernel_rfl) (by kernel_rfl) (by kernel_rfl) (fun _ _ _ h => h) (Or.inl ⟨by rfl, ?yq36⟩) hHeld ?rq36
  case yq36 => (intro wq hb; obtain ⟨lq0, lq1, _⟩ := hb; go_simp; try (with_reducible rfl))
  try simp only [List.getElem_toArray, List.getElem_cons_zero, List.getElem_cons_succ, Act.put, List.setIfInBounds_toArray, List.set_cons_zero, List.set_cons_succ]
  refine wpAnyH_take (i := 1) (v := ?vq37) rfl (by kernel_rfl) (by kernel_rfl) (by kernel_rfl) (fun _ _ _ h => h) (Or.inl ⟨by rfl, ?yq37⟩) hHeld ?rq37
  case yq37 => (intro wq hb; obtain ⟨lq0, lq1, _⟩ := hb; go_simp; try (with_reducible rfl))
  try simp only [List.getElem_toArray, List.getElem_cons_zero, List.getElem_cons_succ, Act.put, List.setIfInBounds_toArray, List.set_cons_zero, List.set_cons_succ]
  refine wpAnyH_take (i := 2) (v := ?vq38) rfl (by kernel_rfl) (by kernel_rfl) (by kernel_rfl) (fun _ _ _ h => h) (Or.inl ⟨by rfl, ?yq38⟩) hHeld ?rq38
  case yq38 => (intro wq hb; obtain ⟨lq0, lq1, _⟩ := hb; go_simp; try (with_reducible rfl))
  try simp only [List.getElem_toArray, List.getElem_cons_zero, List.getElem_cons_succ, Act.put, List.setIfInBounds_toArray, List.set_cons_zero, List.set_cons_succ]
  refine wpAnyH_take (i := 3) (v := ?vq39) rfl (by kernel_rfl) (by kernel_rfl) (by kernel_rfl) (fun _ _ _ h => h) (Or.inl ⟨by rfl, ?yq39⟩) hHeld ?rq39
  case yq39 => (intro wq hb; obtain ⟨lq0, lq1, _⟩ := hb; go_simp; try (with_reducible rfl))
  try simp only [List.getElem_toArray, List.getElem_cons_zero, List.getElem_cons_succ, Act.put, List.setIfInBounds_toArray, List.set_cons_zero, List.set_cons_succ]
  refine wpAnyH_take (i := 4) (v := ?vq40) rfl (by kernel_rfl) (by kernel_rfl) (by kernel_rfl) (fun _ _ _ h => h) (Or.inl ⟨by rfl, ?yq40⟩) hHeld ?rq40
  case yq40 => (intro wq hb; obtain ⟨lq0, lq1, _⟩ := hb; go_simp; try (with_reducible rfl))
  try simp only [List.getElem_toArray, List.getElem_cons_zero, List.getElem_cons_succ, Act.put, List.setIfInBounds_toArray, List.set_cons_zero, List.set_cons_succ]
  clear hHeld
  refine wpAnyH_ready (rs := [5, 9]) (by kernel_rfl) (by simp) ?_
  refine AllReadyH.cons rfl (fun K hK => ?_) (AllReadyH.cons rfl (fun K hK => ?_) AllReadyH.nil)
  go_simp
  (with_reducible refine (h8.out _ (ft.later kk)).mono ?_); rintro e w28 ⟨rfl, hb⟩
  replace cX0_0 := cell_later hb cX0_0; replace cX0_1 := cell_later hb cX0_1
  replace fX1_0 := frozen_later hb cX1_0 fX1_0; replace fX1_1 := frozen_later hb cX1_1 fX1_1; replace fX1_2 := frozen_later hb cX1_2 fX1_2
  replace cX1_0 := cell_later hb cX1_0; replace cX1_1 := cell_later hb cX1_1; replace cX1_2 := cell_later hb cX1_2
  replace cX2_0 := cell_later hb cX2_0; replace cX2_1 := cell_later hb cX2_1
  replace kk := bC kk hb
  clear hb
  refine hK.out _ _ ⟨cX2_0, cX2_1, trivial⟩ (fun hHeld => ?_)
  clear hK K
  try simp only [List.getElem_toArray, List.getElem_cons_zero, List.getElem_cons_succ, Act.put, List.setIfInBounds_toArray, List.set_cons_zero, List.set_cons_succ]
  clear w27
  clear hHeld
  refine wpAnyH_ready (rs := [6, 9]) (by kernel_rfl) (by simp) ?_
  refine AllReadyH.cons rfl (fun K hK => ?_) (AllReadyH.cons rfl (fun K hK => ?_) AllReadyH.nil)
  go_simp
  (with_reducible refine (h9.out _).mono ?_); rintro e w29 ⟨rfl, hb⟩
  replace cX0_0 := cell_later hb cX0_0; replace cX0_1 := cell_later hb cX0_1
  replace fX1_0 := frozen_later hb cX1_0 fX1_0; replace fX1_1 := frozen_later hb cX1_1 fX1_1; replace fX1_2 := frozen_later hb cX1_2 fX1_2
  replace cX1_0 := cell_later hb cX1_0; replace cX1_1 := cell_later hb cX1_1; replace cX1_2 := cell_later hb cX1_2
  replace cX2_0 := cell_later hb cX2_0; replace cX2_1 := cell_later hb cX2_1
  replace kk := bC kk hb
  clear hb
  refine hK.out _ _ ⟨cX2_0, cX2_1, trivial⟩ (fun hHeld => ?_)
  clear hK K
  try simp only [List.getElem_toArray, List.getElem_cons_zero, List.getElem_cons_succ, Act.put, List.setIfInBounds_toArray, List.set_cons_zero, List.set_cons_succ]
  clear w28
  clear hHeld
  refine wpAnyH_ready (rs := [7, 9]) (by kernel_rfl) (by simp) ?_
  refine AllReadyH.cons rfl (fun K hK => ?_) (AllReadyH.cons rfl (fun K hK => ?_) AllReadyH.nil)
  go_simp
  (with_reducible refine (h10.out _ (ft.later kk)).mono ?_); rintro e w30 ⟨rfl, hb⟩
  replace cX0_0 := cell_later hb cX0_0; replace cX0_1 := cell_later hb cX0_1
  replace fX1_0 := frozen_later hb cX1_0 fX1_0; replace fX1_1 := frozen_later hb cX1_1 fX1_1; replace fX1_2 := frozen_later hb cX1_2 fX1_2
  replace cX1_0 := cell_later hb cX1_0; replace cX1_1 := cell_later hb cX1_1; replace cX1_2 := cell_later hb cX1_2
  replace cX2_0 := cell_later hb cX2_0; replace cX2_1 := cell_later hb cX2_1
  replace kk := bC kk hb
  clear hb
  refine hK.out _ _ ⟨cX2_0, cX2_1, trivial⟩ (fun hHeld => ?_)
  clear hK K
  try simp only [List.getElem_toArray, List.getElem_cons_zero, List.getElem_cons_succ, Act.put, List.setIfInBounds_toArray, List.set_cons_zero, List.set_cons_succ]
  clear w29
  refine wpAnyH_take (i := 8) (v := ?vq41) rfl (by kernel_rfl) (by kernel_rfl) (by kernel_rfl) (fun _ _ _ h => h) (Or.inl ⟨by rfl, ?yq41⟩) hHeld ?rq41
  case yq41 => (intro wq hb; obtain ⟨lq0, lq1, _⟩ := hb; go_simp; try (with_reducible rfl))
  try simp only [List.getElem_toArray, List.getElem_cons_zero, List.getElem_cons_succ, Act.put, List.setIfInBounds_toArray, List.set_cons_zero, List.set_cons_succ]
  clear hHeld
  refine wpAnyH_ready (rs := [9]) (by kernel_rfl) (by simp) ?_
  refine AllReadyH.cons rfl (fun K hK => ?_) AllReadyH.nil
  go_simp
  have nX0_X4 : w.heap.size < w30.heap.size := World.block_lt_of_cell? _ _ cX0_0
  have nX1_X4 : w.heap.size + 1 < w30.heap.size := World.block_lt_of_cell? _ _ cX1_0
  have nX2_X4 : pp3 < w30.heap.size := World.block_lt_of_cell? _ _ cX2_0
  have gX4 : w.heap.size ≤ w30.heap.size := kk.size
  have ha := bA (Below.refl _ w30) (.cells #[.int .u64 0, .int .u64 0, .int .u8 0] 28)
  have hx := HB.new w30 28 #[.int .u64 0, .int .u64 0, .int .u8 0]
  replace cX0_0 := cell_later ha cX0_0; replace cX0_1 := cell_later ha cX0_1
  replace fX1_0 := frozen_later ha cX1_0 fX1_0; replace fX1_1 := frozen_later ha cX1_1 fX1_1; replace fX1_2 := frozen_later ha cX1_2 fX1_2
  replace cX1_0 := cell_later ha cX1_0; replace cX1_1 := cell_later ha cX1_1; replace cX1_2 := cell_later ha cX1_2
  replace cX2_0 := cell_later ha cX2_0; replace cX2_1 := cell_later ha cX2_1
  replace kk := bC kk ha
  have cX4_0 := hx.cell 0; have fX4_0 := hx.frozen 0; have cX4_1 := hx.cell 1; have fX4_1 := hx.frozen 1; have cX4_2 := hx.cell 2; have fX4_2 := hx.frozen 2; dsimp at cX4_0 cX4_1 cX4_2
  clear ha hx
  refine hK.out _ _ ⟨cX2_0, cX2_1, trivial⟩ (fun hHeld => ?_)
  clear hK K
  generalize w30.alloc (.cells #[.int .u64 0, .int .u64 0, .int .u8 0] 28) = w31 at *
  generalize w30.heap.size = pp26 at *
  try simp only [List.getElem_toArray, List.getElem_cons_zero, List.getElem_cons_succ, Act.put, List.setIfInBounds_toArray, List.set_cons_zero, List.set_cons_succ]
  clear w30
  clear hHeld
  refine wpAnyH_ready (rs := [10]) (by kernel_rfl) (by simp) ?_
  refine AllReadyH.cons rfl (fun K hK => ?_) AllReadyH.nil
  go_simp
  have neX0 : ¬ (pp26 = w.heap.size) := by omega
  have nfX0 : ¬ (w.heap.size = pp26) := by omega
  have neX1 : ¬ (pp26 = w.heap.size + 1) := by omega
  have nfX1 : ¬ (w.heap.size + 1 = pp26) := by omega
  have neX2 : ¬ (pp26 = pp3) := by omega
  have nfX2 : ¬ (pp3 = pp26) := by omega
  have KEY := Lib.hid (show (((w31.setCell ⟨pp26, 0, none⟩ (.int .u64 rh)).setCell ⟨pp26, 1, none⟩ (.int .u64 rl)).setCell ⟨pp26, 2, none⟩ (.int .u8 0)).cell? ⟨w.heap.size, 0, none⟩ = some (.int .u64 bh) ∧ (((w31.setCell ⟨pp26, 0, none⟩ (.int .u64 rh)).setCell ⟨pp26, 1, none⟩ (.int .u64 rl)).setCell ⟨pp26, 2, none⟩ (.int .u8 0)).cell? ⟨w.heap.size, 1, none⟩ = some (.int .u64 bl) ∧ (((w31.setCell ⟨pp26, 0, none⟩ (.int .u64 rh)).setCell ⟨pp26, 1, none⟩ (.int .u64 rl)).setCell ⟨pp26, 2, none⟩ (.int .u8 0)).cell? ⟨w.heap.size + 1, 0, none⟩ = some (.int .u64 0) ∧ (((w31.setCell ⟨pp26, 0, none⟩ (.int .u64 rh)).setCell ⟨pp26, 1, none⟩ (.int .u64 rl)).setCell ⟨pp26, 2, none⟩ (.int .u8 0)).cell? ⟨w.heap.size + 1, 1, none⟩ = some (.int .u64 0) ∧ (((w31.setCell ⟨pp26, 0, none⟩ (.int .u64 rh)).setCell ⟨pp26, 1, none⟩ (.int .u64 rl)).setCell ⟨pp26, 2, none⟩ (.int .u8 0)).cell? ⟨w.heap.size + 1, 2, none⟩ = some (.int .u8 0) ∧ (((w31.setCell ⟨pp26, 0, none⟩ (.int .u64 rh)).setCell ⟨pp26, 1, none⟩ (.int .u64 rl)).setCell ⟨pp26, 2, none⟩ (.int .u8 0)).frozen? ⟨w.heap.size + 1, 0, none⟩ = false ∧ (((w31.setCell ⟨pp26, 0, none⟩ (.int .u64 rh)).setCell ⟨pp26, 1, none⟩ (.int .u64 rl)).setCell ⟨pp26, 2, none⟩ (.int .u8 0)).frozen? ⟨w.heap.size + 1, 1, none⟩ = false ∧ (((w31.setCell ⟨pp26, 0, none⟩ (.int .u64 rh)).setCell ⟨pp26, 1, none⟩ (.int .u64 rl)).setCell ⟨pp26, 2, none⟩ (.int .u8 0)).frozen? ⟨w.heap.size + 1, 2, none⟩ = false ∧ (((w31.setCell ⟨pp26, 0, none⟩ (.int .u64 rh)).setCell ⟨pp26, 1, none⟩ (.int .u64 rl)).setCell ⟨pp26, 2, none⟩ (.int .u8 0)).cell? ⟨pp3, 0, none⟩ = some (.int .u64 xh) ∧ (((w31.setCell ⟨pp26, 0, none⟩ (.int .u64 rh)).setCell ⟨pp26, 1, none⟩ (.int .u64 rl)).setCell ⟨pp26, 2, none⟩ (.int .u8 0)).cell? ⟨pp3, 1, none⟩ = some (.int .u64 xl) ∧ (((w31.setCell ⟨pp26, 0, none⟩ (.int .u64 rh)).setCell ⟨pp26, 1, none⟩ (.int .u64 rl)).setCell ⟨pp26, 2, none⟩ (.int .u8 0)).cell? ⟨pp26, 0, none⟩ = some (.int .u64 rh) ∧ (((w31.setCell ⟨pp26, 0, none⟩ (.int .u64 rh)).setCell ⟨pp26, 1, none⟩ (.int .u64 rl)).setCell ⟨pp26, 2, none⟩ (.int .u8 0)).cell? ⟨pp26, 1, none⟩ = some (.int .u64 rl) ∧ (((w31.setCell ⟨pp26, 0, none⟩ (.int .u64 rh)).setCell ⟨pp26, 1, none⟩ (.int .u64 rl)).setCell ⟨pp26, 2, none⟩ (.int .u8 0)).cell? ⟨pp26, 2, none⟩ = some (.int .u8 0) ∧ (((w31.setCell ⟨pp26, 0, none⟩ (.int .u64 rh)).setCell ⟨pp26, 1, none⟩ (.int .u64 rl)).setCell ⟨pp26, 2, none⟩ (.int .u8 0)).frozen? ⟨pp26, 0, none⟩ = false ∧ (((w31.setCell ⟨pp26, 0, none⟩ (.int .u64 rh)).setCell ⟨pp26, 1, none⟩ (.int .u64 rl)).setCell ⟨pp26, 2, none⟩ (.int .u8 0)).frozen? ⟨pp26, 1, none⟩ = false ∧ (((w31.setCell ⟨pp26, 0, none⟩ (.int .u64 rh)).setCell ⟨pp26, 1, none⟩ (.int .u64 rl)).setCell ⟨pp26, 2, none⟩ (.int .u8 0)).frozen? ⟨pp26, 2, none⟩ = false ∧ Below w.heap.size w (((w31.setCell ⟨pp26, 0, none⟩ (.int .u64 rh)).setCell ⟨pp26, 1, none⟩ (.int .u64 rl)).setCell ⟨pp26, 2, none⟩ (.int .u8 0)) from ⟨by go_simp, by go_simp, by go_simp, by go_simp, by go_simp, by go_simp, by go_simp, by go_simp, by go_simp, by go_simp, by go_simp, by go_simp, by go_simp, by go_simp, by go_simp, by go_simp, (((kk.setCell (p := ⟨pp26, 0, none⟩) gX4 _).setCell (p := ⟨pp26, 1, none⟩) gX4 _).setCell (p := ⟨pp26, 2, none⟩) gX4 _)⟩)
  clear cX0_0 cX0_1 cX1_0 cX1_1 cX1_2 fX1_0 fX1_1 fX1_2 cX2_0 cX2_1 cX4_0 cX4_1 cX4_2 fX4_0 fX4_1 fX4_2 neX0 nfX0 neX1 nfX1 neX2 nfX2 kk
  refine forget_at (fun W => W.cell? ⟨w.heap.size, 0, none⟩ = some (.int .u64 bh) ∧ W.cell? ⟨w.heap.size, 1, none⟩ = some (.int .u64 bl) ∧ W.cell? ⟨w.heap.size + 1, 0, none⟩ = some (.int .u64 0) ∧ W.cell? ⟨w.heap.size + 1, 1, none⟩ = some (.int .u64 0) ∧ W.cell? ⟨w.heap.size + 1, 2, none⟩ = some (.int .u8 0) ∧ W.frozen? ⟨w.heap.size + 1, 0, none⟩ = false ∧ W.frozen? ⟨w.heap.size + 1, 1, none⟩ = false ∧ W.frozen? ⟨w.heap.size + 1, 2, none⟩ = false ∧ W.cell? ⟨pp3, 0, none⟩ = some (.int .u64 xh) ∧ W.cell? ⟨pp3, 1, none⟩ = some (.int .u64 xl) ∧ W.cell? ⟨pp26, 0, none⟩ = some (.int .u64 rh) ∧ W.cell? ⟨pp26, 1, none⟩ = some (.int .u64 rl) ∧ W.cell? ⟨pp26, 2, none⟩ = some (.int .u8 0) ∧ W.frozen? ⟨pp26, 0, none⟩ = false ∧ W.frozen? ⟨pp26, 1, none⟩ = false ∧ W.frozen? ⟨pp26, 2, none⟩ = false ∧ Below w.heap.size w W) KEY.out (fun w32 hz => ?_)
  obtain ⟨cX0_0, cX0_1, cX1_0, cX1_1, cX1_2, fX1_0, fX1_1, fX1_2, cX2_0, cX2_1, cX4_0, cX4_1, cX4_2, fX4_0, fX4_1, fX4_2, kk⟩ := hz
  clear KEY
  refine hK.out _ _ ⟨cX2_0, cX2_1, trivial⟩ (fun hHeld => ?_)
  clear hK K
  try simp only [List.getElem_toArray, List.getElem_cons_zero, List.getElem_cons_succ, Act.put, List.setIfInBounds_toArray, List.set_cons_zero, List.set_cons_succ]
  clear w31
  clear hHeld
  refine wpAnyH_done (by kernel_rfl) ?_ _
  refine NoPanic.normal ?_
  revert kk; revert nX2_X4; revert nX1_X4; revert nX0_X4; revert gX4; revert fX4_2; revert fX4_1; revert fX4_0; revert cX4_2; revert cX4_1; revert cX4_0; revert cX2_1; revert cX2_0; revert fX1_2; revert fX1_1; revert fX1_0; revert cX1_2; revert cX1_1; revert cX1_0; revert cX0_1; revert cX0_0; revert pp26; revert w32
  refine ?restw27
  rotate_left
  go_simp
  have nX0_X4 : w.heap.size < w29.heap.size := World.block_lt_of_cell? _ _ cX0_0
  have nX1_X4 : w.heap.size + 1 < w29.heap.size := World.block_lt_of_cell? _ _ cX1_0
  have nX2_X4 : pp3 < w29.heap.size := World.block_lt_of_cell? _ _ cX2_0
  have gX4 : w.heap.size ≤ w29.heap.size := kk.size
  have ha := bA (Below.refl _ w29) (.cells #[.int .u64 0, .int .u64 0, .int .u8 0] 28)
  have hx := HB.new w29 28 #[.int .u64 0, .int .u64 0, .int .u8 0]
  replace cX0_0 := cell_later ha cX0_0; replace cX0_1 := cell_later ha cX0_1
  replace fX1_0 := frozen_later ha cX1_0 fX1_0; replace fX1_1 := frozen_later ha cX1_1 fX1_1; replace fX1_2 := frozen_later ha cX1_2 fX1_2
  replace cX1_0 := cell_later ha cX1_0; replace cX1_1 := cell_later ha cX1_1; replace cX1_2 := cell_later ha cX1_2
  replace cX2_0 := cell_later ha cX2_0; replace cX2_1 := cell_later ha cX2_1
  replace kk := bC kk ha
  have cX4_0 := hx.cell 0; have fX4_0 := hx.frozen 0; have cX4_1 := hx.cell 1; have fX4_1 := hx.frozen 1; have cX4_2 := hx.cell 2; have fX4_2 := hx.frozen 2; dsimp at cX4_0 cX4_1 cX4_2
  clear ha hx
  refine hK.out _ _ ⟨cX2_0, cX2_1, trivial⟩ (fun hHeld => ?_)
  clear hK K
  generalize w29.alloc (.cells #[.int .u64 0, .int .u64 0, .int .u8 0] 28) = w33 at *
  generalize w29.heap.size = pp26 at *
  try simp only [List.getElem_toArray, List.getElem_cons_zero, List.getElem_cons_succ, Act.put, List.setIfInBounds_toArray, List.set_cons_zero, List.set_cons_succ]
  clear w29
  clear hHeld
  refine wpAnyH_ready (rs := [7]) (by kernel_rfl) (by simp) ?_
  refine AllReadyH.cons rfl (fun K hK => ?_) AllReadyH.nil
  go_simp
  (with_reducible refine (h10.out _ (ft.later kk)).mono ?_); rintro e w34 ⟨rfl, hb⟩
  replace cX0_0 := cell_later hb cX0_0; replace cX0_1 := cell_later hb cX0_1
  replace fX1_0 := frozen_later hb cX1_0 fX1_0; replace fX1_1 := frozen_later hb cX1_1 fX1_1; replace fX1_2 := frozen_later hb cX1_2 fX1_2
  replace cX1_0 := cell_later hb cX1_0; replace cX1_1 := cell_later hb cX1_1; replace cX1_2 := cell_later hb cX1_2
  replace cX2_0 := cell_later hb cX2_0; replace cX2_1 := cell_later hb cX2_1
  replace fX4_0 := frozen_later hb cX4_0 fX4_0; replace fX4_1 := frozen_later hb cX4_1 fX4_1; replace fX4_2 := frozen_later hb cX4_2 fX4_2
  replace cX4_0 := cell_later hb cX4_0; replace cX4_1 := cell_later hb cX4_1; replace cX4_2 := cell_later hb cX4_2
  replace kk := bC kk hb
  clear hb
  refine hK.out _ _ ⟨cX2_0, cX2_1, trivial⟩ (fun hHeld => ?_)
  clear hK K
  try simp only [List.getElem_toArray, List.getElem_cons_zero, List.getElem_cons_succ, Act.put, List.setIfInBounds_toArray, List.set_cons_zero, List.set_cons_succ]
  clear w33
  refine wpAnyH_take (i := 8) (v := ?vq42) rfl (by kernel_rfl) (by kernel_rfl) (by kernel_rfl) (fun _ _ _ h => h) (Or.inl ⟨by rfl, ?yq42⟩) hHeld ?rq42
  case yq42 => (intro wq hb; obtain ⟨lq0, lq1, _⟩ := hb; go_simp; try (with_reducible rfl))
  try simp only [List.getElem_toArray, List.getElem_cons_zero, List.getElem_cons_succ, Act.put, List.setIfInBounds_toArray, List.set_cons_zero, List.set_cons_succ]
  clear hHeld
  refine wpAnyH_ready (rs := [10]) (by kernel_rfl) (by simp) ?_
  refine AllReadyH.cons rfl (fun K hK => ?_) AllReadyH.nil
  go_simp
  have neX0 : ¬ (pp26 = w.heap.size) := by omega
  have nfX0 : ¬ (w.heap.size = pp26) := by omega
  have neX1 : ¬ (pp26 = w.heap.size + 1) := by omega
  have nfX1 : ¬ (w.heap.size + 1 = pp26) := by omega
  have neX2 : ¬ (pp26 = pp3) := by omega
  have nfX2 : ¬ (pp3 = pp26) := by omega
  have KEY := Lib.hid (show (((w34.setCell ⟨pp26, 0, none⟩ (.int .u64 rh)).setCell ⟨pp26, 1, none⟩ (.int .u64 rl)).setCell ⟨pp26, 2, none⟩ (.int .u8 0)).cell? ⟨w.heap.size, 0, none⟩ = some (.int .u64 bh) ∧ (((w34.setCell ⟨pp26, 0, none⟩ (.int .u64 rh)).setCell ⟨pp26, 1, none⟩ (.int .u64 rl)).setCell ⟨pp26, 2, none⟩ (.int .u8 0)).cell? ⟨w.heap.size, 1, none⟩ = some (.int .u64 bl) ∧ (((w34.setCell ⟨pp26, 0, none⟩ (.int .u64 rh)).setCell ⟨pp26, 1, none⟩ (.int .u64 rl)).setCell ⟨pp26, 2, none⟩ (.int .u8 0)).cell? ⟨w.heap.size + 1, 0, none⟩ = some (.int .u64 0) ∧ (((w34.setCell ⟨pp26, 0, none⟩ (.int .u64 rh)).setCell ⟨pp26, 1, none⟩ (.int .u64 rl)).setCell ⟨pp26, 2, none⟩ (.int .u8 0)).cell? ⟨w.heap.size + 1, 1, none⟩ = some (.int .u64 0) ∧ (((w34.setCell ⟨pp26, 0, none⟩ (.int .u64 rh)).setCell ⟨pp26, 1, none⟩ (.int .u64 rl)).setCell ⟨pp26, 2, none⟩ (.int .u8 0)).cell? ⟨w.heap.size + 1, 2, none⟩ = some (.int .u8 0) ∧ (((w34.setCell ⟨pp26, 0, none⟩ (.int .u64 rh)).setCell ⟨pp26, 1, none⟩ (.int .u64 rl)).setCell ⟨pp26, 2, none⟩ (.int .u8 0)).frozen? ⟨w.heap.size + 1, 0, none⟩ = false ∧ (((w34.setCell ⟨pp26, 0, none⟩ (.int .u64 rh)).setCell ⟨pp26, 1, none⟩ (.int .u64 rl)).setCell ⟨pp26, 2, none⟩ (.int .u8 0)).frozen? ⟨w.heap.size + 1, 1, none⟩ = false ∧ (((w34.setCell ⟨pp26, 0, none⟩ (.int .u64 rh)).setCell ⟨pp26, 1, none⟩ (.int .u64 rl)).setCell ⟨pp26, 2, none⟩ (.int .u8 0)).frozen? ⟨w.heap.size + 1, 2, none⟩ = false ∧ (((w34.setCell ⟨pp26, 0, none⟩ (.int .u64 rh)).setCell ⟨pp26, 1, none⟩ (.int .u64 rl)).setCell ⟨pp26, 2, none⟩ (.int .u8 0)).cell? ⟨pp3, 0, none⟩ = some (.int .u64 xh) ∧ (((w34.setCell ⟨pp26, 0, none⟩ (.int .u64 rh)).setCell ⟨pp26, 1, none⟩ (.int .u64 rl)).setCell ⟨pp26, 2, none⟩ (.int .u8 0)).cell? ⟨pp3, 1, none⟩ = some (.int .u64 xl) ∧ (((w34.setCell ⟨pp26, 0, none⟩ (.int .u64 rh)).setCell ⟨pp26, 1, none⟩ (.int .u64 rl)).setCell ⟨pp26, 2, none⟩ (.int .u8 0)).cell? ⟨pp26, 0, none⟩ = some (.int .u64 rh) ∧ (((w34.setCell ⟨pp26, 0, none⟩ (.int .u64 rh)).setCell ⟨pp26, 1, none⟩ (.int .u64 rl)).setCell ⟨pp26, 2, none⟩ (.int .u8 0)).cell? ⟨pp26, 1, none⟩ = some (.int .u64 rl) ∧ (((w34.setCell ⟨pp26, 0, none⟩ (.int .u64 rh)).setCell ⟨pp26, 1, none⟩ (.int .u64 rl)).setCell ⟨pp26, 2, none⟩ (.int .u8 0)).cell? ⟨pp26, 2, none⟩ = some (.int .u8 0) ∧ (((w34.setCell ⟨pp26, 0, none⟩ (.int .u64 rh)).setCell ⟨pp26, 1, none⟩ (.int .u64 rl)).setCell ⟨pp26, 2, none⟩ (.int .u8 0)).frozen? ⟨pp26, 0, none⟩ = false ∧ (((w34.setCell ⟨pp26, 0, none⟩ (.int .u64 rh)).setCell ⟨pp26, 1, none⟩ (.int .u64 rl)).setCell ⟨pp26, 2, none⟩ (.int .u8 0)).frozen? ⟨pp26, 1, none⟩ = false ∧ (((w34.setCell ⟨pp26, 0, none⟩ (.int .u64 rh)).setCell ⟨pp26, 1, none⟩ (.int .u64 rl)).setCell ⟨pp26, 2, none⟩ (.int .u8 0)).frozen? ⟨pp26, 2, none⟩ = false ∧ Below w.heap.size w (((w34.setCell ⟨pp26, 0, none⟩ (.int .u64 rh)).setCell ⟨pp26, 1, none⟩ (.int .u64 rl)).setCell ⟨pp26, 2, none⟩ (.int .u8 0)) from ⟨by go_simp, by go_simp, by go_simp, by go_simp, by go_simp, by go_simp, by go_simp, by go_simp, by go_simp, by go_simp, by go_simp, by go_simp, by go_simp, by go_simp, by go_simp, by go_simp, (((kk.setCell (p := ⟨pp26, 0, none⟩) gX4 _).setCell (p := ⟨pp26, 1, none⟩) gX4 _).setCell (p := ⟨pp26, 2, none⟩) gX4 _)⟩)
  clear cX0_0 cX0_1 cX1_0 cX1_1 cX1_2 fX1_0 fX1_1 fX1_2 cX2_0 cX2_1 cX4_0 cX4_1 cX4_2 fX4_0 fX4_1 fX4_2 neX0 nfX0 neX1 nfX1 neX2 nfX2 kk
  refine forget_at (fun W => W.cell? ⟨w.heap.size, 0, none⟩ = some (.int .u64 bh) ∧ W.cell? ⟨w.heap.size, 1, none⟩ = some (.int .u64 bl) ∧ W.cell? ⟨w.heap.size + 1, 0, none⟩ = some (.int .u64 0) ∧ W.cell? ⟨w.heap.size + 1, 1, none⟩ = some (.int .u64 0) ∧ W.cell? ⟨w.heap.size + 1, 2, none⟩ = some (.int .u8 0) ∧ W.frozen? ⟨w.heap.size + 1, 0, none⟩ = false ∧ W.frozen? ⟨w.heap.size + 1, 1, none⟩ = false ∧ W.frozen? ⟨w.heap.size + 1, 2, none⟩ = false ∧ W.cell? ⟨pp3, 0, none⟩ = some (.int .u64 xh) ∧ W.cell? ⟨pp3, 1, none⟩ = some (.int .u64 xl) ∧ W.cell? ⟨pp26, 0, none⟩ = some (.int .u64 rh) ∧ W.cell? ⟨pp26, 1, none⟩ = some (.int .u64 rl) ∧ W.cell? ⟨pp26, 2, none⟩ = some (.int .u8 0) ∧ W.frozen? ⟨pp26, 0, none⟩ = false ∧ W.frozen? ⟨pp26, 1, none⟩ = false ∧ W.frozen? ⟨pp26, 2, none⟩ = false ∧ Below w.heap.size w W) KEY.out (fun w35 hz => ?_)
  obtain ⟨cX0_0, cX0_1, cX1_0, cX1_1, cX1_2, fX1_0, fX1_1, fX1_2, cX2_0, cX2_1, cX4_0, cX4_1, cX4_2, fX4_0, fX4_1, fX4_2, kk⟩ := hz
  clear KEY
  refine hK.out _ _ ⟨cX2_0, cX2_1, trivial⟩ (fun hHeld => ?_)
  clear hK K
  try simp only [List.getElem_toArray, List.getElem_cons_zero, List.getElem_cons_succ, Act.put, List.setIfInBounds_toArray, List.set_cons_zero, List.set_cons_succ]
  clear w34
  clear hHeld
  refine wpAnyH_done (by kernel_rfl) ?_ _
  refine NoPanic.normal ?_
  revert kk; revert nX2_X4; revert nX1_X4; revert nX0_X4; revert gX4; revert fX4_2; revert fX4_1; revert fX4_0; revert cX4_2; revert cX4_1; revert cX4_0; revert cX2_1; revert cX2_0; revert fX1_2; revert fX1_1; revert fX1_0; revert cX1_2; revert cX1_1; revert cX1_0; revert cX0_1; revert cX0_0; revert pp26; revert w35
  exact ?restw27
  go_simp
  have nX0_X4 : w.heap.size < w28.heap.size := World.block_lt_of_cell? _ _ cX0_0
  have nX1_X4 : w.heap.size + 1 < w28.heap.size := World.block_lt_of_cell? _ _ cX1_0
  have nX2_X4 : pp3 < w28.heap.size := World.block_lt_of_cell? _ _ cX2_0
  have gX4 : w.heap.size ≤ w28.heap.size := kk.size
  have ha := bA (Below.refl _ w28) (.cells #[.int .u64 0, .int .u64 0, .int .u8 0] 28)
  have hx := HB.new w28 28 #[.int .u64 0, .int .u64 0, .int .u8 0]
  replace cX0_0 := cell_later ha cX0_0; replace cX0_1 := cell_later ha cX0_1
  replace fX1_0 := frozen_later ha cX1_0 fX1_0; replace fX1_1 := frozen_later ha cX1_1 fX1_1; replace fX1_2 := frozen_later ha cX1_2 fX1_2
  replace cX1_0 := cell_later ha cX1_0; replace cX1_1 := cell_later ha cX1_1; replace cX1_2 := cell_later ha cX1_2
  replace cX2_0 := cell_later ha cX2_0; replace cX2_1 := cell_later ha cX2_1
  replace kk := bC kk ha
  have cX4_0 := hx.cell 0; have fX4_0 := hx.frozen 0; have cX4_1 := hx.cell 1; have fX4_1 := hx.frozen 1; have cX4_2 := hx.cell 2; have fX4_2 := hx.frozen 2; dsimp at cX4_0 cX4_1 cX4_2
  clear ha hx
  refine hK.out _ _ ⟨cX2_0, cX2_1, trivial⟩ (fun hHeld => ?_)
  clear hK K
  generalize w28.alloc (.cells #[.int .u64 0, .int .u64 0, .int .u8 0] 28) = w36 at *
  generalize w28.heap.size = pp26 at *
  try simp only [List.getElem_toArray, List.getElem_cons_zero, List.getElem_cons_succ, Act.put, List.setIfInBounds_toArray, List.set_cons_zero, List.set_cons_succ]
  clear w28
  clear hHeld
  refine wpAnyH_ready (rs := [6]) (by kernel_rfl) (by simp) ?_
  refine AllReadyH.cons rfl (fun K hK => ?_) AllReadyH.nil
  go_simp
  (with_reducible refine (h9.out _).mono ?_); rintro e w37 ⟨rfl, hb⟩
  replace cX0_0 := cell_later hb cX0_0; replace cX0_1 := cell_later hb cX0_1
  replace fX1_0 := frozen_later hb cX1_0 fX1_0; replace fX1_1 := frozen_later hb cX1_1 fX1_1; replace fX1_2 := frozen_later hb cX1_2 fX1_2
  replace cX1_0 := cell_later hb cX1_0; replace cX1_1 := cell_later hb cX1_1; replace cX1_2 := cell_later hb cX1_2
  replace cX2_0 := cell_later hb cX2_0; replace cX2_1 := cell_later hb cX2_1
  replace fX4_0 := frozen_later hb cX4_0 fX4_0; replace fX4_1 := frozen_later hb cX4_1 fX4_1; replace fX4_2 := frozen_later hb cX4_2 fX4_2
  replace cX4_0 := cell_later hb cX4_0; replace cX4_1 := cell_later hb cX4_1; replace cX4_2 := cell_later hb cX4_2
  replace kk := bC kk hb
  clear hb
  refine hK.out _ _ ⟨cX2_0, cX2_1, trivial⟩ (fun hHeld => ?_)
  clear hK K
  try simp only [List.getElem_toArray, List.getElem_cons_zero, List.getElem_cons_succ, Act.put, List.setIfInBounds_toArray, List.set_cons_zero, List.set_cons_succ]
  clear w36
  clear hHeld
  refine wpAnyH_ready (rs := [7]) (by kernel_rfl) (by simp) ?_
  refine AllReadyH.cons rfl (fun K hK => ?_) AllReadyH.nil
  go_simp
  (with_reducible refine (h10.out _ (ft.later kk)).mono ?_); rintro e w38 ⟨rfl, hb⟩
  replace cX0_0 := cell_later hb cX0_0; replace cX0_1 := cell_later hb cX0_1
  replace fX1_0 := frozen_later hb cX1_0 fX1_0; replace fX1_1 := frozen_later hb cX1_1 fX1_1; replace fX1_2 := frozen_later hb cX1_2 fX1_2
  replace cX1_0 := cell_later hb cX1_0; replace cX1_1 := cell_later hb cX1_1; replace cX1_2 := cell_later hb cX1_2
  replace cX2_0 := cell_later hb cX2_0; replace cX2_1 := cell_later hb cX2_1
  replace fX4_0 := frozen_later hb cX4_0 fX4_0; replace fX4_1 := frozen_later hb cX4_1 fX4_1; replace fX4_2 := frozen_later hb cX4_2 fX4_2
  replace cX4_0 := cell_later hb cX4_0; replace cX4_1 := cell_later hb cX4_1; replace cX4_2 := cell_later hb cX4_2
  replace kk := bC kk hb
  clear hb
  refine hK.out _ _ ⟨cX2_0, cX2_1, trivial⟩ (fun hHeld => ?_)
  clear hK K
  try simp only [List.getElem_toArray, List.getElem_cons_zero, List.getElem_cons_succ, Act.put, List.setIfInBounds_toArray, List.set_cons_zero, List.set_cons_succ]
  clear w37
  refine wpAnyH_take (i := 8) (v := ?vq43) rfl (by kernel_rfl) (by kernel_rfl) (by kernel_rfl) (fun _ _ _ h => h) (Or.inl ⟨by rfl, ?yq43⟩) hHeld ?rq43
  case yq43 => (intro wq hb; obtain ⟨lq0, lq1, _⟩ := hb; go_simp; try (with_reducible rfl))
  try simp only [List.getElem_toArray, List.getElem_cons_zero, List.getElem_cons_succ, Act.put, List.setIfInBounds_toArray, List.set_cons_zero, List.set_cons_succ]
  clear hHeld
  refine wpAnyH_ready (rs := [10]) (by kernel_rfl) (by simp) ?_
  refine AllReadyH.cons rfl (fun K hK => ?_) AllReadyH.nil
  go_simp
  have neX0 : ¬ (pp26 = w.heap.size) := by omega
  have nfX0 : ¬ (w.heap.size = pp26) := by omega
  have neX1 : ¬ (pp26 = w.heap.size + 1) := by omega
  have nfX1 : ¬ (w.heap.size + 1 = pp26) := by omega
  have neX2 : ¬ (pp26 = pp3) := by omega
  have nfX2 : ¬ (pp3 = pp26) := by omega
  have KEY := Lib.hid (show (((w38.setCell ⟨pp26, 0, none⟩ (.int .u64 rh)).setCell ⟨pp26, 1, none⟩ (.int .u64 rl)).setCell ⟨pp26, 2, none⟩ (.int .u8 0)).cell? ⟨w.heap.size, 0, none⟩ = some (.int .u64 bh) ∧ (((w38.setCell ⟨pp26, 0, none⟩ (.int .u64 rh)).setCell ⟨pp26, 1, none⟩ (.int .u64 rl)).setCell ⟨pp26, 2, none⟩ (.int .u8 0)).cell? ⟨w.heap.size, 1, none⟩ = some (.int .u64 bl) ∧ (((w38.setCell ⟨pp26, 0, none⟩ (.int .u64 rh)).setCell ⟨pp26, 1, none⟩ (.int .u64 rl)).setCell ⟨pp26, 2, none⟩ (.int .u8 0)).cell? ⟨w.heap.size + 1, 0, none⟩ = some (.int .u64 0) ∧ (((w38.setCell ⟨pp26, 0, none⟩ (.int .u64 rh)).setCell ⟨pp26, 1, none⟩ (.int .u64 rl)).setCell ⟨pp26, 2, none⟩ (.int .u8 0)).cell? ⟨w.heap.size + 1, 1, none⟩ = some (.int .u64 0) ∧ (((w38.setCell ⟨pp26, 0, none⟩ (.int .u64 rh)).setCell ⟨pp26, 1, none⟩ (.int .u64 rl)).setCell ⟨pp26, 2, none⟩ (.int .u8 0)).cell? ⟨w.heap.size + 1, 2, none⟩ = some (.int .u8 0) ∧ (((w38.setCell ⟨pp26, 0, none⟩ (.int .u64 rh)).setCell ⟨pp26, 1, none⟩ (.int .u64 rl)).setCell ⟨pp26, 2, none⟩ (.int .u8 0)).frozen? ⟨w.heap.size + 1, 0, none⟩ = false ∧ (((w38.setCell ⟨pp26, 0, none⟩ (.int .u64 rh)).setCell ⟨pp26, 1, none⟩ (.int .u64 rl)).setCell ⟨pp26, 2, none⟩ (.int .u8 0)).frozen? ⟨w.heap.size + 1, 1, none⟩ = false ∧ (((w38.setCell ⟨pp26, 0, none⟩ (.int .u64 rh)).setCell ⟨pp26, 1, none⟩ (.int .u64 rl)).setCell ⟨pp26, 2, none⟩ (.int .u8 0)).frozen? ⟨w.heap.size + 1, 2, none⟩ = false ∧ (((w38.setCell ⟨pp26, 0, none⟩ (.int .u64 rh)).setCell ⟨pp26, 1, none⟩ (.int .u64 rl)).setCell ⟨pp26, 2, none⟩ (.int .u8 0)).cell? ⟨pp3, 0, none⟩ = some (.int .u64 xh) ∧ (((w38.setCell ⟨pp26, 0, none⟩ (.int .u64 rh)).setCell ⟨pp26, 1, none⟩ (.int .u64 rl)).setCell ⟨pp26, 2, none⟩ (.int .u8 0)).cell? ⟨pp3, 1, none⟩ = some (.int .u64 xl) ∧ (((w38.setCell ⟨pp26, 0, none⟩ (.int .u64 rh)).setCell ⟨pp26, 1, none⟩ (.int .u64 rl)).setCell ⟨pp26, 2, none⟩ (.int .u8 0)).cell? ⟨pp26, 0, none⟩ = some (.int .u64 rh) ∧ (((w38.setCell ⟨pp26, 0, none⟩ (.int .u64 rh)).setCell ⟨pp26, 1, none⟩ (.int .u64 rl)).setCell ⟨pp26, 2, none⟩ (.int .u8 0)).cell? ⟨pp26, 1, none⟩ = some (.int .u64 rl) ∧ (((w38.setCell ⟨pp26, 0, none⟩ (.int .u64 rh)).setCell ⟨pp26, 1, none⟩ (.int .u64 rl)).setCell ⟨pp26, 2, none⟩ (.int .u8 0)).cell? ⟨pp26, 2, none⟩ = some (.int .u8 0) ∧ (((w38.setCell ⟨pp26, 0, none⟩ (.int .u64 rh)).setCell ⟨pp26, 1, none⟩ (.int .u64 rl)).setCell ⟨pp26, 2, none⟩ (.int .u8 0)).frozen? ⟨pp26, 0, none⟩ = false ∧ (((w38.setCell ⟨pp26, 0, none⟩ (.int .u64 rh)).setCell ⟨pp26, 1, none⟩ (.int .u64 rl)).setCell ⟨pp26, 2, none⟩ (.int .u8 0)).frozen? ⟨pp26, 1, none⟩ = false ∧ (((w38.setCell ⟨pp26, 0, none⟩ (.int .u64 rh)).setCell ⟨pp26, 1, none⟩ (.int .u64 rl)).setCell ⟨pp26, 2, none⟩ (.int .u8 0)).frozen? ⟨pp26, 2, none⟩ = false ∧ Below w.heap.size w (((w38.setCell ⟨pp26, 0, none⟩ (.int .u64 rh)).setCell ⟨pp26, 1, none⟩ (.int .u64 rl)).setCell ⟨pp26, 2, none⟩ (.int .u8 0)) from ⟨by go_simp, by go_simp, by go_simp, by go_simp, by go_simp, by go_simp, by go_simp, by go_simp, by go_simp, by go_simp, by go_simp, by go_simp, by go_simp, by go_simp, by go_simp, by go_simp, (((kk.setCell (p := ⟨pp26, 0, none⟩) gX4 _).setCell (p := ⟨pp26, 1, none⟩) gX4 _).setCell (p := ⟨pp26, 2, none⟩) gX4 _)⟩)
  clear cX0_0 cX0_1 cX1_0 cX1_1 cX1_2 fX1_0 fX1_1 fX1_2 cX2_0 cX2_1 cX4_0 cX4_1 cX4_2 fX4_0 fX4_1 fX4_2 neX0 nfX0 neX1 nfX1 neX2 nfX2 kk
  refine forget_at (fun W => W.cell? ⟨w.heap.size, 0, none⟩ = some (.int .u64 bh) ∧ W.cell? ⟨w.heap.size, 1, none⟩ = some (.int .u64 bl) ∧ W.cell? ⟨w.heap.size + 1, 0, none⟩ = some (.int .u64 0) ∧ W.cell? ⟨w.heap.size + 1, 1, none⟩ = some (.int .u64 0) ∧ W.cell? ⟨w.heap.size + 1, 2, none⟩ = some (.int .u8 0) ∧ W.frozen? ⟨w.heap.size + 1, 0, none⟩ = false ∧ W.frozen? ⟨w.heap.size + 1, 1, none⟩ = false ∧ W.frozen? ⟨w.heap.size + 1, 2, none⟩ = false ∧ W.cell? ⟨pp3, 0, none⟩ = some (.int .u64 xh) ∧ W.cell? ⟨pp3, 1, none⟩ = some (.int .u64 xl) ∧ W.cell? ⟨pp26, 0, none⟩ = some (.int .u64 rh) ∧ W.cell? ⟨pp26, 1, none⟩ = some (.int .u64 rl) ∧ W.cell? ⟨pp26, 2, none⟩ = some (.int .u8 0) ∧ W.frozen? ⟨pp26, 0, none⟩ = false ∧ W.frozen? ⟨pp26, 1, none⟩ = false ∧ W.frozen? ⟨pp26, 2, none⟩ = false ∧ Below w.heap.size w W) KEY.out (fun w39 hz => ?_)
  obtain ⟨cX0_0, cX0_1, cX1_0, cX1_1, cX1_2, fX1_0, fX1_1, fX1_2, cX2_0, cX2_1, cX4_0, cX4_1, cX4_2, fX4_0, fX4_1, fX4_2, kk⟩ := hz
  clear KEY
  refine hK.out _ _ ⟨cX2_0, cX2_1, trivial⟩ (fun hHeld => ?_)
  clear hK K
  try simp only [List.getElem_toArray, List.getElem_cons_zero, List.getElem_cons_succ, Act.put, List.setIfInBounds_toArray, List.set_cons_zero, List.set_cons_succ]
  clear w38
  clear hHeld
  refine wpAnyH_done (by kernel_rfl) ?_ _
  refine NoPanic.normal ?_
  revert kk; revert nX2_X4; revert nX1_X4; revert nX0_X4; revert gX4; revert fX4_2; revert fX4_1; revert fX4_0; revert cX4_2; revert cX4_1; revert cX4_0; revert cX2_1; revert cX2_0; revert fX1_2; revert fX1_1; revert fX1_0; revert cX1_2; revert cX1_1; revert cX1_0; revert cX0_1; revert cX0_0; revert pp26; revert w39
  exact ?restw27
  go_simp
  have nX0_X4 : w.heap.size < w27.heap.size := World.block_lt_of_cell? _ _ cX0_0
  have nX1_X4 : w.heap.size + 1 < w27.heap.size := World.block_lt_of_cell? _ _ cX1_0
  have nX2_X4 : pp3 < w27.heap.size := World.block_lt_of_cell? _ _ cX2_0
  have gX4 : w.heap.size ≤ w27.heap.size := kk.size
  have ha := bA (Below.refl _ w27) (.cells #[.int .u64 0, .int .u64 0, .int .u8 0] 28)
  have hx := HB.new w27 28 #[.int .u64 0, .int .u64 0, .int .u8 0]
  replace cX0_0 := cell_later ha cX0_0; replace cX0_1 := cell_later ha cX0_1
  replace fX1_0 := frozen_later ha cX1_0 fX1_0; replace fX1_1 := frozen_later ha cX1_1 fX1_1; replace fX1_2 := frozen_later ha cX1_2 fX1_2
  replace cX1_0 := cell_later ha cX1_0; replace cX1_1 := cell_later ha cX1_1; replace cX1_2 := cell_later ha cX1_2
  replace cX2_0 := cell_later ha cX2_0; replace cX2_1 := cell_later ha cX2_1
  replace kk := bC kk ha
  have cX4_0 := hx.cell 0; have fX4_0 := hx.frozen 0; have cX4_1 := hx.cell 1; have fX4_1 := hx.frozen 1; have cX4_2 := hx.cell 2; have fX4_2 := hx.frozen 2; dsimp at cX4_0 cX4_1 cX4_2
  clear ha hx
  refine hK.out _ _ ⟨cX2_0, cX2_1, trivial⟩ (fun hHeld => ?_)
  clear hK K
  generalize w27.alloc (.cells #[.int .u64 0, .int .u64 0, .int .u8 0] 28) = w40 at *
  generalize w27.heap.size = pp26 at *
  try simp only [List.getElem_toArray, List.getElem_cons_zero, List.getElem_cons_succ, Act.put, List.setIfInBounds_toArray, List.set_cons_zero, List.set_cons_succ]
  clear w27
  clear hHeld
  refine wpAnyH_ready (rs := [5]) (by kernel_rfl) (by simp) ?_
  refine AllReadyH.cons rfl (fun K hK => ?_) AllReadyH.nil
  go_simp
  (with_reducible refine (h8.out _ (ft.later kk)).mono ?_); rintro e w41 ⟨rfl, hb⟩
  replace cX0_0 := cell_later hb cX0_0; replace cX0_1 := cell_later hb cX0_1
  replace fX1_0 := frozen_later hb cX1_0 fX1_0; replace fX1_1 := frozen_later hb cX1_1 fX1_1; replace fX1_2 := frozen_later hb cX1_2 fX1_2
  replace cX1_0 := cell_later hb cX1_0; replace cX1_1 := cell_later hb cX1_1; replace cX1_2 := cell_later hb cX1_2
  replace cX2_0 := cell_later hb cX2_0; replace cX2_1 := cell_later hb cX2_1
  replace fX4_0 := frozen_later hb cX4_0 fX4_0; replace fX4_1 := frozen_later hb cX4_1 fX4_1; replace fX4_2 := frozen_later hb cX4_2 fX4_2
  replace cX4_0 := cell_later hb cX4_0; replace cX4_1 := cell_later hb cX4_1; replace cX4_2 := cell_later hb cX4_2
  replace kk := bC kk hb
  clear hb
  refine hK.out _ _ ⟨cX2_0, cX2_1, trivial⟩ (fun hHeld => ?_)
  clear hK K
  try simp only [List.getElem_toArray, List.getElem_cons_zero, List.getElem_cons_succ, Act.put, List.setIfInBounds_toArray, List.set_cons_zero, List.set_cons_succ]
  clear w40
  clear hHeld
  refine wpAnyH_ready (rs := [6]) (by kernel_rfl) (by simp) ?_
  refine AllReadyH.cons rfl (fun K hK => ?_) AllReadyH.nil
  go_simp
  (with_reducible refine (h9.out _).mono ?_); rintro e w42 ⟨rfl, hb⟩
  replace cX0_0 := cell_later hb cX0_0; replace cX0_1 := cell_later hb cX0_1
  replace fX1_0 := frozen_later hb cX1_0 fX1_0; replace fX1_1 := frozen_later hb cX1_1 fX1_1; replace fX1_2 := frozen_later hb cX1_2 fX1_2
  replace cX1_0 := cell_later hb cX1_0; replace cX1_1 := cell_later hb cX1_1; replace cX1_2 := cell_later hb cX1_2
  replace cX2_0 := cell_later hb cX2_0; replace cX2_1 := cell_later hb cX2_1
  replace fX4_0 := frozen_later hb cX4_0 fX4_0; replace fX4_1 := frozen_later hb cX4_1 fX4_1; replace fX4_2 := frozen_later hb cX4_2 fX4_2
  replace cX4_0 := cell_later hb cX4_0; replace cX4_1 := cell_later hb cX4_1; replace cX4_2 := cell_later hb cX4_2
  replace kk := bC kk hb
  clear hb
  refine hK.out _ _ ⟨cX2_0, cX2_1, trivial⟩ (fun hHeld => ?_)
  clear hK K
  try simp only [List.getElem_toArray, List.getElem_cons_zero, List.getElem_cons_succ, Act.put, List.setIfInBounds_toArray, List.set_cons_zero, List.set_cons_succ]
  clear w41
  clear hHeld
  refine wpAnyH_ready (rs := [7]) (by kernel_rfl) (by simp) ?_
  refine AllReadyH.cons rfl (fun K hK => ?_) AllReadyH.nil
  go_simp
  (with_reducible refine (h10.out _ (ft.later kk)).mono ?_); rintro e w43 ⟨rfl, hb⟩
  replace cX0_0 := cell_later hb cX0_0; replace cX0_1 := cell_later hb cX0_1
  replace fX1_0 := frozen_later hb cX1_0 fX1_0; replace fX1_1 := frozen_later hb cX1_1 fX1_1; replace fX1_2 := frozen_later hb cX1_2 fX1_2
  replace cX1_0 := cell_later hb cX1_0; replace cX1_1 := cell_later hb cX1_1; replace cX1_2 := cell_later hb cX1_2
  replace cX2_0 := cell_later hb cX2_0; replace cX2_1 := cell_later hb cX2_1
  replace fX4_0 := frozen_later hb cX4_0 fX4_0; replace fX4_1 := frozen_later hb cX4_1 fX4_1; replace fX4_2 := frozen_later hb cX4_2 fX4_2
  replace cX4_0 := cell_later hb cX4_0; replace cX4_1 := cell_later hb cX4_1; replace cX4_2 := cell_later hb cX4_2
  replace kk := bC kk hb
  clear hb
  refine hK.out _ _ ⟨cX2_0, cX2_1, trivial⟩ (fun hHeld => ?_)
  clear hK K
  try simp only [List.getElem_toArray, List.getElem_cons_zero, List.getElem_cons_succ, Act.put, List.setIfInBounds_toArray, List.set_cons_zero, List.set_cons_succ]
  clear w42
  refine wpAnyH_take (i := 8) (v := ?vq44) rfl (by kernel_rfl) (by kernel_rfl) (by kernel_rfl) (fun _ _ _ h => h) (Or.inl ⟨by rfl, ?yq44⟩) hHeld ?rq44
  case yq44 => (intro wq hb; obtain ⟨lq0, lq1, _⟩ := hb; go_simp; try (with_reducible rfl))
  try simp only [List.getElem_toArray, List.getElem_cons_zero, List.getElem_cons_succ, Act.put, List.setIfInBounds_toArray, List.set_cons_zero, List.set_cons_succ]
  clear hHeld
  refine wpAnyH_ready (rs := [10]) (by kernel_rfl) (by simp) ?_
  refine AllReadyH.cons rfl (fun K hK => ?_) AllReadyH.nil
  go_simp
  have neX0 : ¬ (pp26 = w.heap.size) := by omega
  have nfX0 : ¬ (w.heap.size = pp26) := by omega
  have neX1 : ¬ (pp26 = w.heap.size + 1) := by omega
  have nfX1 : ¬ (w.heap.size + 1 = pp26) := by omega
  have neX2 : ¬ (pp26 = pp3) := by omega
  have nfX2 : ¬ (pp3 = pp26) := by omega
  have KEY := Lib.hid (show (((w43.setCell ⟨pp26, 0, none⟩ (.int .u64 rh)).setCell ⟨pp26, 1, none⟩ (.int .u64 rl)).setCell ⟨pp26, 2, none⟩ (.int .u8 0)).cell? ⟨w.heap.size, 0, none⟩ = some (.int .u64 bh) ∧ (((w43.setCell ⟨pp26, 0, none⟩ (.int .u64 rh)).setCell ⟨pp26, 1, none⟩ (.int .u64 rl)).setCell ⟨pp26, 2, none⟩ (.int .u8 0)).cell? ⟨w.heap.size, 1, none⟩ = some (.int .u64 bl) ∧ (((w43.setCell ⟨pp26, 0, none⟩ (.int .u64 rh)).setCell ⟨pp26, 1, none⟩ (.int .u64 rl)).setCell ⟨pp26, 2, none⟩ (.int .u8 0)).cell? ⟨w.heap.size + 1, 0, none⟩ = some (.int .u64 0) ∧ (((w43.setCell ⟨pp26, 0, none⟩ (.int .u64 rh)).setCell ⟨pp26, 1, none⟩ (.int .u64 rl)).setCell ⟨pp26, 2, none⟩ (.int .u8 0)).cell? ⟨w.heap.size + 1, 1, none⟩ = some (.int .u64 0) ∧ (((w43.setCell ⟨pp26, 0, none⟩ (.int .u64 rh)).setCell ⟨pp26, 1, none⟩ (.int .u64 rl)).setCell ⟨pp26, 2, none⟩ (.int .u8 0)).cell? ⟨w.heap.size + 1, 2, none⟩ = some (.int .u8 0) ∧ (((w43.setCell ⟨pp26, 0, none⟩ (.int .u64 rh)).setCell ⟨pp26, 1, none⟩ (.int .u64 rl)).setCell ⟨pp26, 2, none⟩ (.int .u8 0)).frozen? ⟨w.heap.size + 1, 0, none⟩ = false ∧ (((w43.setCell ⟨pp26, 0, none⟩ (.int .u64 rh)).setCell ⟨pp26, 1, none⟩ (.int .u64 rl)).setCell ⟨pp26, 2, none⟩ (.int .u8 0)).frozen? ⟨w.heap.size + 1, 1, none⟩ = false ∧ (((w43.setCell ⟨pp26, 0, none⟩ (.int .u64 rh)).setCell ⟨pp26, 1, none⟩ (.int .u64 rl)).setCell ⟨pp26, 2, none⟩ (.int .u8 0)).frozen? ⟨w.heap.size + 1, 2, none⟩ = false ∧ (((w43.setCell ⟨pp26, 0, none⟩ (.int .u64 rh)).setCell ⟨pp26, 1, none⟩ (.int .u64 rl)).setCell ⟨pp26, 2, none⟩ (.int .u8 0)).cell? ⟨pp3, 0, none⟩ = some (.int .u64 xh) ∧ (((w43.setCell ⟨pp26, 0, none⟩ (.int .u64 rh)).setCell ⟨pp26, 1, none⟩ (.int .u64 rl)).setCell ⟨pp26, 2, none⟩ (.int .u8 0)).cell? ⟨pp3, 1, none⟩ = some (.int .u64 xl) ∧ (((w43.setCell ⟨pp26, 0, none⟩ (.int .u64 rh)).setCell ⟨pp26, 1, none⟩ (.int .u64 rl)).setCell ⟨pp26, 2, none⟩ (.int .u8 0)).cell? ⟨pp26, 0, none⟩ = some (.int .u64 rh) ∧ (((w43.setCell ⟨pp26, 0, none⟩ (.int .u64 rh)).setCell ⟨pp26, 1, none⟩ (.int .u64 rl)).setCell ⟨pp26, 2, none⟩ (.int .u8 0)).cell? ⟨pp26, 1, none⟩ = some (.int .u64 rl) ∧ (((w43.setCell ⟨pp26, 0, none⟩ (.int .u64 rh)).setCell ⟨pp26, 1, none⟩ (.int .u64 rl)).setCell ⟨pp26, 2, none⟩ (.int .u8 0)).cell? ⟨pp26, 2, none⟩ = some (.int .u8 0) ∧ (((w43.setCell ⟨pp26, 0, none⟩ (.int .u64 rh)).setCell ⟨pp26, 1, none⟩ (.int .u64 rl)).setCell ⟨pp26, 2, none⟩ (.int .u8 0)).frozen? ⟨pp26, 0, none⟩ = false ∧ (((w43.setCell ⟨pp26, 0, none⟩ (.int .u64 rh)).setCell ⟨pp26, 1, none⟩ (.int .u64 rl)).setCell ⟨pp26, 2, none⟩ (.int .u8 0)).frozen? ⟨pp26, 1, none⟩ = false ∧ (((w43.setCell ⟨pp26, 0, none⟩ (.int .u64 rh)).setCell ⟨pp26, 1, none⟩ (.int .u64 rl)).setCell ⟨pp26, 2, none⟩ (.int .u8 0)).frozen? ⟨pp26, 2, none⟩ = false ∧ Below w.heap.size w (((w43.setCell ⟨pp26, 0, none⟩ (.int .u64 rh)).setCell ⟨pp26, 1, none⟩ (.int .u64 rl)).setCell ⟨pp26, 2, none⟩ (.int .u8 0)) from ⟨by go_simp, by go_simp, by go_simp, by go_simp, by go_simp, by go_simp, by go_simp, by go_simp, by go_simp, by go_simp, by go_simp, by go_simp, by go_simp, by go_simp, by go_simp, by go_simp, (((kk.setCell (p := ⟨pp26, 0, none⟩) gX4 _).setCell (p := ⟨pp26, 1, none⟩) gX4 _).setCell (p := ⟨pp26, 2, none⟩) gX4 _)⟩)
  clear cX0_0 cX0_1 cX1_0 cX1_1 cX1_2 fX1_0 fX1_1 fX1_2 cX2_0 cX2_1 cX4_0 cX4_1 cX4_2 fX4_0 fX4_1 fX4_2 neX0 nfX0 neX1 nfX1 neX2 nfX2 kk
  refine forget_at (fun W => W.cell? ⟨w.heap.size, 0, none⟩ = some (.int .u64 bh) ∧ W.cell? ⟨w.heap.size, 1, none⟩ = some (.int .u64 bl) ∧ W.cell? ⟨w.heap.size + 1, 0, none⟩ = some (.int .u64 0) ∧ W.cell? ⟨w.heap.size + 1, 1, none⟩ = some (.int .u64 0) ∧ W.cell? ⟨w.heap.size + 1, 2, none⟩ = some (.int .u8 0) ∧ W.frozen? ⟨w.heap.size + 1, 0, none⟩ = false ∧ W.frozen? ⟨w.heap.size + 1, 1, none⟩ = false ∧ W.frozen? ⟨w.heap.size + 1, 2, none⟩ = false ∧ W.cell? ⟨pp3, 0, none⟩ = some (.int .u64 xh) ∧ W.cell? ⟨pp3, 1, none⟩ = some (.int .u64 xl) ∧ W.cell? ⟨pp26, 0, none⟩ = some (.int .u64 rh) ∧ W.cell? ⟨pp26, 1, none⟩ = some (.int .u64 rl) ∧ W.cell? ⟨pp26, 2, none⟩ = some (.int .u8 0) ∧ W.frozen? ⟨pp26, 0, none⟩ = false ∧ W.frozen? ⟨pp26, 1, none⟩ = false ∧ W.frozen? ⟨pp26, 2, none⟩ = false ∧ Below w.heap.size w W) KEY.out (fun w44 hz => ?_)
  obtain ⟨cX0_0, cX0_1, cX1_0, cX1_1, cX1_2, fX1_0, fX1_1, fX1_2, cX2_0, cX2_1, cX4_0, cX4_1, cX4_2, fX4_0, fX4_1, fX4_2, kk⟩ := hz
  clear KEY
  refine hK.out _ _ ⟨cX2_0, cX2_1, trivial⟩ (fun hHeld => ?_)
  clear hK K
  try simp only [List.getElem_toArray, List.getElem_cons_zero, List.getElem_cons_succ, Act.put, List.setIfInBounds_toArray, List.set_cons_zero, List.set_cons_succ]
  clear w43
  clear hHeld
  refine wpAnyH_done (by kernel_rfl) ?_ _
  refine NoPanic.normal ?_
  revert kk; revert nX2_X4; revert nX1_X4; revert nX0_X4; revert gX4; revert fX4_2; revert fX4_1; revert fX4_0; revert cX4_2; revert cX4_1; revert cX4_0; revert cX2_1; revert cX2_0; revert fX1_2; revert fX1_1; revert fX1_0; revert cX1_2; revert cX1_1; revert cX1_0; revert cX0_1; revert cX0_0; revert pp26; revert w44
  exact ?restw27
  intro w45 pp26 cX0_0 cX0_1 cX1_0 cX1_1 cX1_2 fX1_0 fX1_1 fX1_2 cX2_0 cX2_1 cX4_0 cX4_1 cX4_2 fX4_0 fX4_1 fX4_2 gX4 nX0_X4 nX1_X4 nX2_X4 kk
  have sX0 : w.heap.size < w45.heap.size := World.block_lt_of_cell? _ _ cX0_0
  have sX1 : w.heap.size + 1 < w45.heap.size ∧ w.heap.size < w45.heap.size := by have h : w.heap.size + 1 < w45.heap.size := World.block_lt_of_cell? _ _ cX1_0; exact ⟨h, by omega⟩
  clear cX2_0 cX2_1
  have sX4 : pp26 < w45.heap.size := World.block_lt_of_cell? _ _ cX4_0
  clear fX4_0 fX4_1 fX4_2
  go_wp2_with fail
  (with_reducible refine (h11.out _ (ft.later kk)).mono ?_); rintro e w46 ⟨rfl, hb⟩
  clear cX0_0 cX0_1 sX0
  replace fX1_0 := frozen_later hb cX1_0 fX1_0; replace fX1_1 := frozen_later hb cX1_1 fX1_1; replace fX1_2 := frozen_later hb cX1_2 fX1_2
  replace cX1_0 := cell_later hb cX1_0; replace cX1_1 := cell_later hb cX1_1; replace cX1_2 := cell_later hb cX1_2
  replace sX1 : w.heap.size + 1 < w46.heap.size ∧ w.heap.size < w46.heap.size := by have h : w.heap.size + 1 < w46.heap.size := World.block_lt_of_cell? _ _ cX1_0; exact ⟨h, by omega⟩
  replace cX4_0 := cell_later hb cX4_0; replace cX4_1 := cell_later hb cX4_1; replace cX4_2 := cell_later hb cX4_2
  replace sX4 : pp26 < w46.heap.size := World.block_lt_of_cell? _ _ cX4_0
  replace kk := bC kk hb
  clear hb
  have KEY : Hid ((((w46.setCell ⟨w.heap.size + 1, 0, none⟩ (.int .u64 rh)).setCell ⟨w.heap.size + 1, 1, none⟩ (.int .u64 rl)).setCell ⟨w.heap.size + 1, 2, none⟩ (.int .u8 0)).cell? ⟨w.heap.size + 1, 0, none⟩ = some (.int .u64 rh) ∧ (((w46.setCell ⟨w.heap.size + 1, 0, none⟩ (.int .u64 rh)).setCell ⟨w.heap.size + 1, 1, none⟩ (.int .u64 rl)).setCell ⟨w.heap.size + 1, 2, none⟩ (.int .u8 0)).cell? ⟨w.heap.size + 1, 1, none⟩ = some (.int .u64 rl) ∧ (((w46.setCell ⟨w.heap.size + 1, 0, none⟩ (.int .u64 rh)).setCell ⟨w.heap.size + 1, 1, none⟩ (.int .u64 rl)).setCell ⟨w.heap.size + 1, 2, none⟩ (.int .u8 0)).cell? ⟨w.heap.size + 1, 2, none⟩ = some (.int .u8 0) ∧ Below w.heap.size w (((w46.setCell ⟨w.heap.size + 1, 0, none⟩ (.int .u64 rh)).setCell ⟨w.heap.size + 1, 1, none⟩ (.int .u64 rl)).setCell ⟨w.heap.size + 1, 2, none⟩ (.int .u8 0))) := Lib.hid ⟨by go_simp, by go_simp, by go_simp, (((kk.setCell (p := ⟨w.heap.size + 1, 0, none⟩) gX1 _).setCell (p := ⟨w.heap.size + 1, 1, none⟩) gX1 _).setCell (p := ⟨w.heap.size + 1, 2, none⟩) gX1 _)⟩
  go_wp2_with fail
  obtain ⟨e0, e1, e2, kb⟩ := KEY.out
  clear KEY cX1_0 cX1_1 cX1_2 fX1_0 fX1_1 fX1_2
  refine bodyPost_ret (v := .tuple #[.agg #[.int .u64 rh, .int .u64 rl, .int .u8 0], .bool true]) ?_ rfl ⟨rfl, kb⟩
  simp [results, Tryd.results8, go_sem, e0, e1, e2]

set_option maxHeartbeats 4000000 in
set_option maxRecDepth 100000 in
theorem pay_yes_s (f t bh bl qh ql xh xl e1 dh dl yh yl e2 rm sh sl rh rl : Int) (g g2 : Bool)
    (h0 : Hid (∀ w, FTab w → Calls Tryd.prog 12 #[.int .u8 t] w fun e w' => e = .returned (.bool true) ∧ Below w.heap.size w w'))
    (h1 : Hid (∀ w, FTab w → Calls Tryd.prog 11 #[.int .u8 f, .agg #[.int .u64 bh, .int .u64 bl]] w fun e w' => e = .returned (.bool true) ∧ Below w.heap.size w w'))
    (h3 : Hid (∀ w, FTab w → Calls Tryd.prog 16 #[.int .u8 f, .agg #[.int .u64 bh, .int .u64 bl]] w fun e w' => e = .returned (.agg #[.int .u64 qh, .int .u64 ql]) ∧ Below w.heap.size w w'))
    (h6 : Hid (∀ w, FTab w → Calls Tryd.prog 19 #[.int .u8 t] w fun e w' => e = .returned (.agg #[.int .u64 dh, .int .u64 dl]) ∧ Below w.heap.size w w'))
    (h8 : Hid (∀ w, FTab w → Calls Tryd.prog 22 #[.int .u8 t] w fun e w' => e = .returned (.int .i64 rm) ∧ Below w.heap.size w w'))
    (h9 : Hid (∀ w, Calls Tryd.prog 21 #[.agg #[.int .u64 xh, .int .u64 xl], .int .i64 rm] w fun e w' => e = .returned (.agg #[.int .u64 sh, .int .u64 sl]) ∧ Below w.heap.size w w'))
    (h10 : Hid (∀ w, FTab w → Calls Tryd.prog 20 #[.int .u8 t, .bool g, .int .i64 e2, .agg #[.int .u64 sh, .int .u64 sl]] w fun e w' => e = .returned (.agg #[.int .u64 rh, .int .u64 rl]) ∧ Below w.heap.size w w'))
    (h11 : Hid (∀ w, FTab w → Calls Tryd.prog 15 #[.int .u8 f, .agg #[.int .u64 bh, .int .u64 bl]] w fun e w' => e = .returned (.bool true) ∧ Below w.heap.size w w')) (rf : Hid (∀ w, Calls Tryd.prog 18 #[.int .u8 f] w fun e w' => ∃ bk, e = .returned (.func (.func 40) #[] #[.pointer (some ⟨bk, 0, none⟩)]) ∧ HB w' bk 22 #[.int .u8 f] ∧ Below w.heap.size w w')) (cf : Hid (∀ bk w, FTab w → w.cell? ⟨bk, 0, none⟩ = some (.int .u8 f) → Calls Tryd.prog 40 #[.agg #[.int .u64 qh, .int .u64 ql], .pointer (some ⟨bk, 0, none⟩)] w fun e w' => e = .returned (.tuple #[.bool g, .int .i64 e1, .agg #[.int .u64 xh, .int .u64 xl]]) ∧ Below w.heap.size w w')) (rt : Hid (∀ w, Calls Tryd.prog 18 #[.int .u8 t] w fun e w' => ∃ bk, e = .returned (.func (.func 40) #[] #[.pointer (some ⟨bk, 0, none⟩)]) ∧ HB w' bk 22 #[.int .u8 t] ∧ Below w.heap.size w w')) (ct : Hid (∀ bk w, FTab w → w.cell? ⟨bk, 0, none⟩ = some (.int .u8 t) → Calls Tryd.prog 40 #[.agg #[.int .u64 dh, .int .u64 dl], .pointer (some ⟨bk, 0, none⟩)] w fun e w' => e = .returned (.tuple #[.bool g2, .int .i64 e2, .agg #[.int .u64 yh, .int .u64 yl]]) ∧ Below w.heap.size w w')) (w : World) (ft : FTab w) :
    Calls Tryd.prog 8 #[.int .u8 f, .int .u8 t, .agg #[.int .u64 bh, .int .u64 bl]] w fun e w' => e = .returned (.tuple #[.agg #[.int .u64 rh, .int .u64 rl, .int .u8 1], .bool true]) ∧ Below w.heap.size w w' := by
  go_enter Tryd.func8, Tryd.ntmps8
  go_wp2_with fail
  (with_reducible refine (h0.out _ (ft.later (bA (bA (Below.refl _ _) _) _))).mono ?_); rintro e w1 ⟨rfl, hb⟩
  have hz := bC (bA (bA (Below.refl _ _) _) _) hb
  have gX1 : w.heap.size ≤ w.heap.size + 1 := by omega
  have cX0_0 := cell_later hb (a := ⟨w.heap.size, 0, none⟩) (v := .int .u64 bh) (by go_simp)
  have cX0_1 := cell_later hb (a := ⟨w.heap.size, 1, none⟩) (v := .int .u64 bl) (by go_simp)
  have sX0 : w.heap.size < w1.heap.size := World.block_lt_of_cell? _ _ cX0_0
  have cX1_0 := cell_later hb (a := ⟨w.heap.size + 1, 0, none⟩) (v := .int .u64 0) (by go_simp)
  have cX1_1 := cell_later hb (a := ⟨w.heap.size + 1, 1, none⟩) (v := .int .u64 0) (by go_simp)
  have cX1_2 := cell_later hb (a := ⟨w.heap.size + 1, 2, none⟩) (v := .int .u8 0) (by go_simp)
  have sX1 : w.heap.size + 1 < w1.heap.size ∧ w.heap.size < w1.heap.size := by have h : w.heap.size + 1 < w1.heap.size := World.block_lt_of_cell? _ _ cX1_0; exact ⟨h, by omega⟩
  have fX1_0 := frozen_later hb (a := ⟨w.heap.size + 1, 0, none⟩) (v := .int .u64 0) (by go_simp) (by go_simp)
  have fX1_1 := frozen_later hb (a := ⟨w.heap.size + 1, 1, none⟩) (v := .int .u64 0) (by go_simp) (by go_simp)
  have fX1_2 := frozen_later hb (a := ⟨w.heap.size + 1, 2, none⟩) (v := .int .u8 0) (by go_simp) (by go_simp)
  have kk := hz
  clear hb hz
  go_wp2_with fail
  (with_reducible refine (h1.out _ (ft.later kk)).mono ?_); rintro e w2 ⟨rfl, hb⟩
  replace cX0_0 := cell_later hb cX0_0; replace cX0_1 := cell_later hb cX0_1
  replace sX0 : w.heap.size < w2.heap.size := World.block_lt_of_cell? _ _ cX0_0
  replace fX1_0 := frozen_later hb cX1_0 fX1_0; replace fX1_1 := frozen_later hb cX1_1 fX1_1; replace fX1_2 := frozen_later hb cX1_2 fX1_2
  replace cX1_0 := cell_later hb cX1_0; replace cX1_1 := cell_later hb cX1_1; replace cX1_2 := cell_later hb cX1_2
  replace sX1 : w.heap.size + 1 < w2.heap.size ∧ w.heap.size < w2.heap.size := by have h : w.heap.size + 1 < w2.heap.size := World.block_lt_of_cell? _ _ cX1_0; exact ⟨h, by omega⟩
  replace kk := bC kk hb
  clear hb
  go_wp2_with fail
  clear sX0
  clear sX1
  refine wp_region_noPanic ?_
  refine wp_region_held_drew (S := fun w' => w'.cell? ⟨w.heap.size, 0, none⟩ = some (.int .u64 bh) ∧ w'.cell? ⟨w.heap.size, 1, none⟩ = some (.int .u64 bl) ∧ True) (by kernel_rfl) ⟨cell_later (Below.refl _ _).drew cX0_0, cell_later (Below.refl _ _).drew cX0_1, trivial⟩ (fun hHeld => ?_)
  replace cX0_0 := cell_later (Below.refl _ _).drew cX0_0; replace cX0_1 := cell_later (Below.refl _ _).drew cX0_1
  replace fX1_0 := frozen_later (Below.refl _ _).drew cX1_0 fX1_0; replace fX1_1 := frozen_later (Below.refl _ _).drew cX1_1 fX1_1; replace fX1_2 := frozen_later (Below.refl _ _).drew cX1_2 fX1_2
  replace cX1_0 := cell_later (Below.refl _ _).drew cX1_0; replace cX1_1 := cell_later (Below.refl _ _).drew cX1_1; replace cX1_2 := cell_later (Below.refl _ _).drew cX1_2
  replace kk := bC kk (Below.refl _ _).drew
  generalize World.drew _ = w4 at *
  refine wpAnyH_take (i := 0) (v := ?vq45) rfl (by kernel_rfl) (by kernel_rfl) (by kernel_rfl) (fun _ _ _ h => h) (Or.inl ⟨by rfl, ?yq45⟩) hHeld ?rq45
  case yq45 => (intro wq hb; obtain ⟨lq0, lq1, _⟩ := hb; go_simp; try (with_reducible rfl))
  try simp only [List.getElem_toArray, List.getElem_cons_zero, List.getElem_cons_succ, Act.put, List.setIfInBounds_toArray, List.set_cons_zero, List.set_cons_succ]
  refine wpAnyH_take (i := 2) (v := ?vq46) rfl (by kernel_rfl) (by kernel_rfl) (by kernel_rfl) (fun _ _ _ h => h) (Or.inl ⟨by rfl, ?yq46⟩) hHeld ?rq46
  case yq46 => (intro wq hb; obtain ⟨lq0, lq1, _⟩ := hb; go_simp; try (with_reducible rfl))
  try simp only [List.getElem_toArray, List.getElem_cons_zero, List.getElem_cons_succ, Act.put, List.setIfInBounds_toArray, List.set_cons_zero, List.set_cons_succ]
  refine wpAnyH_take (i := 3) (v := ?vq47) rfl (by kernel_rfl) (by kernel_rfl) (by kernel_rfl) (fun _ _ _ h => h) (Or.inl ⟨by rfl, ?yq47⟩) hHeld ?rq47
  case yq47 => (intro wq hb; obtain ⟨lq0, lq1, _⟩ := hb; go_simp; try (with_reducible rfl))
  try simp only [List.getElem_toArray, List.getElem_cons_zero, List.getElem_cons_succ, Act.put, List.setIfInBounds_toArray, List.set_cons_zero, List.set_cons_succ]
  clear hHeld
  refine wpAnyH_ready (rs := [1, 10]) (by kernel_rfl) (by simp) ?_
  refine AllReadyH.cons rfl (fun K hK => ?_) (AllReadyH.cons rfl (fun K hK => ?_) AllReadyH.nil)
  go_simp
  (with_reducible refine (rf.out _).mono ?_); rintro e w5 ⟨bk1, rfl, nbk1, hb⟩
  replace cX0_0 := cell_later hb cX0_0; replace cX0_1 := cell_later hb cX0_1
  replace fX1_0 := frozen_later hb cX1_0 fX1_0; replace fX1_1 := frozen_later hb cX1_1 fX1_1; replace fX1_2 := frozen_later hb cX1_2 fX1_2
  replace cX1_0 := cell_later hb cX1_0; replace cX1_1 := cell_later hb cX1_1; replace cX1_2 := cell_later hb cX1_2
  replace kk := bC kk hb
  clear hb
  refine hK.out _ _ ⟨cX0_0, cX0_1, trivial⟩ (fun hHeld => ?_)
  clear hK K
  try simp only [List.getElem_toArray, List.getElem_cons_zero, List.getElem_cons_succ, Act.put, List.setIfInBounds_toArray, List.set_cons_zero, List.set_cons_succ]
  clear w4
  clear hHeld
  refine wpAnyH_ready (rs := [4, 10]) (by kernel_rfl) (by simp) ?_
  refine AllReadyH.cons rfl (fun K hK => ?_) (AllReadyH.cons rfl (fun K hK => ?_) AllReadyH.nil)
  go_simp
  (with_reducible refine (h3.out _ (ft.later kk)).mono ?_); rintro e w6 ⟨rfl, hb⟩
  replace nbk1 := nbk1.later hb
  replace cX0_0 := cell_later hb cX0_0; replace cX0_1 := cell_later hb cX0_1
  replace fX1_0 := frozen_later hb cX1_0 fX1_0; replace fX1_1 := frozen_later hb cX1_1 fX1_1; replace fX1_2 := frozen_later hb cX1_2 fX1_2
  replace cX1_0 := cell_later hb cX1_0; replace cX1_1 := cell_later hb cX1_1; replace cX1_2 := cell_later hb cX1_2
  replace kk := bC kk hb
  clear hb
  refine hK.out _ _ ⟨cX0_0, cX0_1, trivial⟩ (fun hHeld => ?_)
  clear hK K
  try simp only [List.getElem_toArray, List.getElem_cons_zero, List.getElem_cons_succ, Act.put, List.setIfInBounds_toArray, List.set_cons_zero, List.set_cons_succ]
  clear w5
  clear hHeld
  refine wpAnyH_ready (rs := [5, 10]) (by kernel_rfl) (by simp) ?_
  refine AllReadyH.cons rfl (fun K hK => ?_) (AllReadyH.cons rfl (fun K hK => ?_) AllReadyH.nil)
  go_simp
  (with_reducible refine (cf.out bk1 _ (ft.later kk) nbk1.fst).mono ?_); rintro e w7 ⟨rfl, hb⟩
  replace nbk1 := nbk1.later hb
  replace cX0_0 := cell_later hb cX0_0; replace cX0_1 := cell_later hb cX0_1
  replace fX1_0 := frozen_later hb cX1_0 fX1_0; replace fX1_1 := frozen_later hb cX1_1 fX1_1; replace fX1_2 := frozen_later hb cX1_2 fX1_2
  replace cX1_0 := cell_later hb cX1_0; replace cX1_1 := cell_later hb cX1_1; replace cX1_2 := cell_later hb cX1_2
  replace kk := bC kk hb
  clear hb
  clear nbk1
  refine hK.out _ _ ⟨cX0_0, cX0_1, trivial⟩ (fun hHeld => ?_)
  clear hK K
  try simp only [List.getElem_toArray, List.getElem_cons_zero, List.getElem_cons_succ, Act.put, List.setIfInBounds_toArray, List.set_cons_zero, List.set_cons_succ]
  clear w6
  refine wpAnyH_take (i := 6) (v := ?vq48) rfl (by kernel_rfl) (by kernel_rfl) (by kernel_rfl) (fun _ _ _ h => h) (Or.inl ⟨by rfl, ?yq48⟩) hHeld ?rq48
  case yq48 => (intro wq hb; obtain ⟨lq0, lq1, _⟩ := hb; go_simp; try (with_reducible rfl))
  try simp only [List.getElem_toArray, List.getElem_cons_zero, List.getElem_cons_succ, Act.put, List.setIfInBounds_toArray, List.set_cons_zero, List.set_cons_succ]
  refine wpAnyH_take (i := 7) (v := ?vq49) rfl (by kernel_rfl) (by kernel_rfl) (by kernel_rfl) (fun _ _ _ h => h) (Or.inl ⟨by rfl, ?yq49⟩) hHeld ?rq49
  case yq49 => (intro wq hb; obtain ⟨lq0, lq1, _⟩ := hb; go_simp; try (with_reducible rfl))
  try simp only [List.getElem_toArray, List.getElem_cons_zero, List.getElem_cons_succ, Act.put, List.setIfInBounds_toArray, List.set_cons_zero, List.set_cons_succ]
  refine wpAnyH_take (i := 8) (v := ?vq50) rfl (by kernel_rfl) (by kernel_rfl) (by kernel_rfl) (fun _ _ _ h => h) (Or.inl ⟨by rfl, ?yq50⟩) hHeld ?rq50
  case yq50 => (intro wq hb; obtain ⟨lq0, lq1, _⟩ := hb; go_simp; try (with_reducible rfl))
  try simp only [List.getElem_toArray, List.getElem_cons_zero, List.getElem_cons_succ, Act.put, List.setIfInBounds_toArray, List.set_cons_zero, List.set_cons_succ]
  refine wpAnyH_take (i := 9) (v := ?vq51) rfl (by kernel_rfl) (by kernel_rfl) (by kernel_rfl) (fun _ _ _ h => h) (Or.inl ⟨by rfl, ?yq51⟩) hHeld ?rq51
  case yq51 => (intro wq hb; obtain ⟨lq0, lq1, _⟩ := hb; go_simp; try (with_reducible rfl))
  try simp only [List.getElem_toArray, List.getElem_cons_zero, List.getElem_cons_succ, Act.put, List.setIfInBounds_toArray, List.set_cons_zero, List.set_cons_succ]
  clear hHeld
  refine wpAnyH_ready (rs := [10]) (by kernel_rfl) (by simp) ?_
  refine AllReadyH.cons rfl (fun K hK => ?_) AllReadyH.nil
  go_simp
  have nX0_X2 : w.heap.size < w7.heap.size := World.block_lt_of_cell? _ _ cX0_0
  have nX1_X2 : w.heap.size + 1 < w7.heap.size := World.block_lt_of_cell? _ _ cX1_0
  have gX2 : w.heap.size ≤ w7.heap.size := kk.size
  have ha := bA (Below.refl _ w7) (.cells #[.int .u64 0, .int .u64 0] 25)
  have hx := HB.new w7 25 #[.int .u64 0, .int .u64 0]
  replace cX0_0 := cell_later ha cX0_0; replace cX0_1 := cell_later ha cX0_1
  replace fX1_0 := frozen_later ha cX1_0 fX1_0; replace fX1_1 := frozen_later ha cX1_1 fX1_1; replace fX1_2 := frozen_later ha cX1_2 fX1_2
  replace cX1_0 := cell_later ha cX1_0; replace cX1_1 := cell_later ha cX1_1; replace cX1_2 := cell_later ha cX1_2
  replace kk := bC kk ha
  have cX2_0 := hx.cell 0; have fX2_0 := hx.frozen 0; have cX2_1 := hx.cell 1; have fX2_1 := hx.frozen 1; dsimp at cX2_0 cX2_1
  clear ha hx
  refine hK.out _ _ ⟨cX0_0, cX0_1, trivial⟩ (fun hHeld => ?_)
  clear hK K
  generalize w7.alloc (.cells #[.int .u64 0, .int .u64 0] 25) = w8 at *
  generalize w7.heap.size = pp3 at *
  try simp only [List.getElem_toArray, List.getElem_cons_zero, List.getElem_cons_succ, Act.put, List.setIfInBounds_toArray, List.set_cons_zero, List.set_cons_succ]
  clear w7
  refine wpAnyH_take (i := 11) (v := ?vq52) rfl (by kernel_rfl) (by kernel_rfl) (by kernel_rfl) (fun _ _ _ h => h) (Or.inl ⟨by rfl, ?yq52⟩) hHeld ?rq52
  case yq52 => (intro wq hb; obtain ⟨lq0, lq1, _⟩ := hb; go_simp; try (with_reducible rfl))
  try simp only [List.getElem_toArray, List.getElem_cons_zero, List.getElem_cons_succ, Act.put, List.setIfInBounds_toArray, List.set_cons_zero, List.set_cons_succ]
  refine wpAnyH_take (i := 12) (v := ?vq53) rfl (by kernel_rfl) (by kernel_rfl) (by kernel_rfl) (fun _ _ _ h => h) (Or.inl ⟨by rfl, ?yq53⟩) hHeld ?rq53
  case yq53 => (intro wq hb; obtain ⟨lq0, lq1, _⟩ := hb; go_simp; try (with_reducible rfl))
  try simp only [List.getElem_toArray, List.getElem_cons_zero, List.getElem_cons_succ, Act.put, List.setIfInBounds_toArray, List.set_cons_zero, List.set_cons_succ]
  clear hHeld
  refine wpAnyH_ready (rs := [13]) (by kernel_rfl) (by simp) ?_
  refine AllReadyH.cons rfl (fun K hK => ?_) AllReadyH.nil
  go_simp
  have neX0 : ¬ (pp3 = w.heap.size) := by omega
  have nfX0 : ¬ (w.heap.size = pp3) := by omega
  have neX1 : ¬ (pp3 = w.heap.size + 1) := by omega
  have nfX1 : ¬ (w.heap.size + 1 = pp3) := by omega
  have KEY := Lib.hid (show ((w8.setCell ⟨pp3, 0, none⟩ (.int .u64 xh)).setCell ⟨pp3, 1, none⟩ (.int .u64 xl)).cell? ⟨w.heap.size, 0, none⟩ = some (.int .u64 bh) ∧ ((w8.setCell ⟨pp3, 0, none⟩ (.int .u64 xh)).setCell ⟨pp3, 1, none⟩ (.int .u64 xl)).cell? ⟨w.heap.size, 1, none⟩ = some (.int .u64 bl) ∧ ((w8.setCell ⟨pp3, 0, none⟩ (.int .u64 xh)).setCell ⟨pp3, 1, none⟩ (.int .u64 xl)).cell? ⟨w.heap.size + 1, 0, none⟩ = some (.int .u64 0) ∧ ((w8.setCell ⟨pp3, 0, none⟩ (.int .u64 xh)).setCell ⟨pp3, 1, none⟩ (.int .u64 xl)).cell? ⟨w.heap.size + 1, 1, none⟩ = some (.int .u64 0) ∧ ((w8.setCell ⟨pp3, 0, none⟩ (.int .u64 xh)).setCell ⟨pp3, 1, none⟩ (.int .u64 xl)).cell? ⟨w.heap.size + 1, 2, none⟩ = some (.int .u8 0) ∧ ((w8.setCell ⟨pp3, 0, none⟩ (.int .u64 xh)).setCell ⟨pp3, 1, none⟩ (.int .u64 xl)).frozen? ⟨w.heap.size + 1, 0, none⟩ = false ∧ ((w8.setCell ⟨pp3, 0, none⟩ (.int .u64 xh)).setCell ⟨pp3, 1, none⟩ (.int .u64 xl)).frozen? ⟨w.heap.size + 1, 1, none⟩ = false ∧ ((w8.setCell ⟨pp3, 0, none⟩ (.int .u64 xh)).setCell ⟨pp3, 1, none⟩ (.int .u64 xl)).frozen? ⟨w.heap.size + 1, 2, none⟩ = false ∧ ((w8.setCell ⟨pp3, 0, none⟩ (.int .u64 xh)).setCell ⟨pp3, 1, none⟩ (.int .u64 xl)).cell? ⟨pp3, 0, none⟩ = some (.int .u64 xh) ∧ ((w8.setCell ⟨pp3, 0, none⟩ (.int .u64 xh)).setCell ⟨pp3, 1, none⟩ (.int .u64 xl)).cell? ⟨pp3, 1, none⟩ = some (.int .u64 xl) ∧ ((w8.setCell ⟨pp3, 0, none⟩ (.int .u64 xh)).setCell ⟨pp3, 1, none⟩ (.int .u64 xl)).frozen? ⟨pp3, 0, none⟩ = false ∧ ((w8.setCell ⟨pp3, 0, none⟩ (.int .u64 xh)).setCell ⟨pp3, 1, none⟩ (.int .u64 xl)).frozen? ⟨pp3, 1, none⟩ = false ∧ Below w.heap.size w ((w8.setCell ⟨pp3, 0, none⟩ (.int .u64 xh)).setCell ⟨pp3, 1, none⟩ (.int .u64 xl)) from ⟨by go_simp, by go_simp, by go_simp, by go_simp, by go_simp, by go_simp, by go_simp, by go_simp, by go_simp, by go_simp, by go_simp, by go_simp, ((kk.setCell (p := ⟨pp3, 0, none⟩) gX2 _).setCell (p := ⟨pp3, 1, none⟩) gX2 _)⟩)
  clear cX0_0 cX0_1 cX1_0 cX1_1 cX1_2 fX1_0 fX1_1 fX1_2 cX2_0 cX2_1 fX2_0 fX2_1 neX0 nfX0 neX1 nfX1 kk
  refine forget_at (fun W => W.cell? ⟨w.heap.size, 0, none⟩ = some (.int .u64 bh) ∧ W.cell? ⟨w.heap.size, 1, none⟩ = some (.int .u64 bl) ∧ W.cell? ⟨w.heap.size + 1, 0, none⟩ = some (.int .u64 0) ∧ W.cell? ⟨w.heap.size + 1, 1, none⟩ = some (.int .u64 0) ∧ W.cell? ⟨w.heap.size + 1, 2, none⟩ = some (.int .u8 0) ∧ W.frozen? ⟨w.heap.size + 1, 0, none⟩ = false ∧ W.frozen? ⟨w.heap.size + 1, 1, none⟩ = false ∧ W.frozen? ⟨w.heap.size + 1, 2, none⟩ = false ∧ W.cell? ⟨pp3, 0, none⟩ = some (.int .u64 xh) ∧ W.cell? ⟨pp3, 1, none⟩ = some (.int .u64 xl) ∧ W.frozen? ⟨pp3, 0, none⟩ = false ∧ W.frozen? ⟨pp3, 1, none⟩ = false ∧ Below w.heap.size w W) KEY.out (fun w9 hz => ?_)
  obtain ⟨cX0_0, cX0_1, cX1_0, cX1_1, cX1_2, fX1_0, fX1_1, fX1_2, cX2_0, cX2_1, fX2_0, fX2_1, kk⟩ := hz
  clear KEY
  refine hK.out _ _ ⟨cX0_0, cX0_1, trivial⟩ (fun hHeld => ?_)
  clear hK K
  try simp only [List.getElem_toArray, List.getElem_cons_zero, List.getElem_cons_succ, Act.put, List.setIfInBounds_toArray, List.set_cons_zero, List.set_cons_succ]
  clear w8
  clear hHeld
  refine wpAnyH_done (by kernel_rfl) ?_ _
  refine NoPanic.normal ?_
  revert kk; revert nX1_X2; revert nX0_X2; revert gX2; revert fX2_1; revert fX2_0; revert cX2_1; revert cX2_0; revert fX1_2; revert fX1_1; revert fX1_0; revert cX1_2; revert cX1_1; revert cX1_0; revert cX0_1; revert cX0_0; revert bk1; revert pp3; revert w9
  refine ?restw4
  rotate_left
  go_simp
  have nX0_X2 : w.heap.size < w6.heap.size := World.block_lt_of_cell? _ _ cX0_0
  have nX1_X2 : w.heap.size + 1 < w6.heap.size := World.block_lt_of_cell? _ _ cX1_0
  have gX2 : w.heap.size ≤ w6.heap.size := kk.size
  have ha := bA (Below.refl _ w6) (.cells #[.int .u64 0, .int .u64 0] 25)
  have hx := HB.new w6 25 #[.int .u64 0, .int .u64 0]
  replace nbk1 := nbk1.later ha
  replace cX0_0 := cell_later ha cX0_0; replace cX0_1 := cell_later ha cX0_1
  replace fX1_0 := frozen_later ha cX1_0 fX1_0; replace fX1_1 := frozen_later ha cX1_1 fX1_1; replace fX1_2 := frozen_later ha cX1_2 fX1_2
  replace cX1_0 := cell_later ha cX1_0; replace cX1_1 := cell_later ha cX1_1; replace cX1_2 := cell_later ha cX1_2
  replace kk := bC kk ha
  have cX2_0 := hx.cell 0; have fX2_0 := hx.frozen 0; have cX2_1 := hx.cell 1; have fX2_1 := hx.frozen 1; dsimp at cX2_0 cX2_1
  clear ha hx
  refine hK.out _ _ ⟨cX0_0, cX0_1, trivial⟩ (fun hHeld => ?_)
  clear hK K
  generalize w6.alloc (.cells #[.int .u64 0, .int .u64 0] 25) = w10 at *
  generalize w6.heap.size = pp3 at *
  try simp only [List.getElem_toArray, List.getElem_cons_zero, List.getElem_cons_succ, Act.put, List.setIfInBounds_toArray, List.set_cons_zero, List.set_cons_succ]
  clear w6
  clear hHeld
  refine wpAnyH_ready (rs := [5]) (by kernel_rfl) (by simp) ?_
  refine AllReadyH.cons rfl (fun K hK => ?_) AllReadyH.nil
  go_simp
  (with_reducible refine (cf.out bk1 _ (ft.later kk) nbk1.fst).mono ?_); rintro e w11 ⟨rfl, hb⟩
  replace nbk1 := nbk1.later hb
  replace cX0_0 := cell_later hb cX0_0; replace cX0_1 := cell_later hb cX0_1
  replace fX1_0 := frozen_later hb cX1_0 fX1_0; replace fX1_1 := frozen_later hb cX1_1 fX1_1; replace fX1_2 := frozen_later hb cX1_2 fX1_2
  replace cX1_0 := cell_later hb cX1_0; replace cX1_1 := cell_later hb cX1_1; replace cX1_2 := cell_later hb cX1_2
  replace fX2_0 := frozen_later hb cX2_0 fX2_0; replace fX2_1 := frozen_later hb cX2_1 fX2_1
  replace cX2_0 := cell_later hb cX2_0; replace cX2_1 := cell_later hb cX2_1
  replace kk := bC kk hb
  clear hb
  clear nbk1
  refine hK.out _ _ ⟨cX0_0, cX0_1, trivial⟩ (fun hHeld => ?_)
  clear hK K
  try simp only [List.getElem_toArray, List.getElem_cons_zero, List.getElem_cons_succ, Act.put, List.setIfInBounds_toArray, List.set_cons_zero, List.set_cons_succ]
  clear w10
  refine wpAnyH_take (i := 6) (v := ?vq54) rfl (by kernel_rfl) (by kernel_rfl) (by kernel_rfl) (fun _ _ _ h => h) (Or.inl ⟨by rfl, ?yq54⟩) hHeld ?rq54
  case yq54 => (intro wq hb; obtain ⟨lq0, lq1, _⟩ := hb; go_simp; try (with_reducible rfl))
  try simp only [List.getElem_toArray, List.getElem_cons_zero, List.getElem_cons_succ, Act.put, List.setIfInBounds_toArray, List.set_cons_zero, List.set_cons_succ]
  refine wpAnyH_take (i := 7) (v := ?vq55) rfl (by kernel_rfl) (by kernel_rfl) (by kernel_rfl) (fun _ _ _ h => h) (Or.inl ⟨by rfl, ?yq55⟩) hHeld ?rq55
  case yq55 => (intro wq hb; obtain ⟨lq0, lq1, _⟩ := hb; go_simp; try (with_reducible rfl))
  try simp only [List.getElem_toArray, List.getElem_cons_zero, List.getElem_cons_succ, Act.put, List.setIfInBounds_toArray, List.set_cons_zero, List.set_cons_succ]
  refine wpAnyH_take (i := 8) (v := ?vq56) rfl (by kernel_rfl) (by kernel_rfl) (by kernel_rfl) (fun _ _ _ h => h) (Or.inl ⟨by rfl, ?yq56⟩) hHeld ?rq56
  case yq56 => (intro wq hb; obtain ⟨lq0, lq1, _⟩ := hb; go_simp; try (with_reducible rfl))
  try simp only [List.getElem_toArray, List.getElem_cons_zero, List.getElem_cons_succ, Act.put, List.setIfInBounds_toArray, List.set_cons_zero, List.set_cons_succ]
  refine wpAnyH_take (i := 9) (v := ?vq57) rfl (by kernel_rfl) (by kernel_rfl) (by kernel_rfl) (fun _ _ _ h => h) (Or.inl ⟨by rfl, ?yq57⟩) hHeld ?rq57
  case yq57 => (intro wq hb; obtain ⟨lq0, lq1, _⟩ := hb; go_simp; try (with_reducible rfl))
  try simp only [List.getElem_toArray, List.getElem_cons_zero, List.getElem_cons_succ, Act.put, List.setIfInBounds_toArray, List.set_cons_zero, List.set_cons_succ]
  refine wpAnyH_take (i := 11) (v := ?vq58) rfl (by kernel_rfl) (by kernel_rfl) (by kernel_rfl) (fun _ _ _ h => h) (Or.inl ⟨by rfl, ?yq58⟩) hHeld ?rq58
  case yq58 => (intro wq hb; obtain ⟨lq0, lq1, _⟩ := hb; go_simp; try (with_reducible rfl))
  try simp only [List.getElem_toArray, List.getElem_cons_zero, List.getElem_cons_succ, Act.put, List.setIfInBounds_toArray, List.set_cons_zero, List.set_cons_succ]
  refine wpAnyH_take (i := 12) (v := ?vq59) rfl (by kernel_rfl) (by kernel_rfl) (by kernel_rfl) (fun _ _ _ h => h) (Or.inl ⟨by rfl, ?yq59⟩) hHeld ?rq59
  case yq59 => (intro wq hb; obtain ⟨lq0, lq1, _⟩ := hb; go_simp; try (with_reducible rfl))
  try simp only [List.getElem_toArray, List.getElem_cons_zero, List.getElem_cons_succ, Act.put, List.setIfInBounds_toArray, List.set_cons_zero, List.set_cons_succ]
  clear hHeld
  refine wpAnyH_ready (rs := [13]) (by kernel_rfl) (by simp) ?_
  refine AllReadyH.cons rfl (fun K hK => ?_) AllReadyH.nil
  go_simp
  have neX0 : ¬ (pp3 = w.heap.size) := by omega
  have nfX0 : ¬ (w.heap.size = pp3) := by omega
  have neX1 : ¬ (pp3 = w.heap.size + 1) := by omega
  have nfX1 : ¬ (w.heap.size + 1 = pp3) := by omega
  have KEY := Lib.hid (show ((w11.setCell ⟨pp3, 0, none⟩ (.int .u64 xh)).setCell ⟨pp3, 1, none⟩ (.int .u64 xl)).cell? ⟨w.heap.size, 0, none⟩ = some (.int .u64 bh) ∧ ((w11.setCell ⟨pp3, 0, none⟩ (.int .u64 xh)).setCell ⟨pp3, 1, none⟩ (.int .u64 xl)).cell? ⟨w.heap.size, 1, none⟩ = some (.int .u64 bl) ∧ ((w11.setCell ⟨pp3, 0, none⟩ (.int .u64 xh)).setCell ⟨pp3, 1, none⟩ (.int .u64 xl)).cell? ⟨w.heap.size + 1, 0, none⟩ = some (.int .u64 0) ∧ ((w11.setCell ⟨pp3, 0, none⟩ (.int .u64 xh)).setCell ⟨pp3, 1, none⟩ (.int .u64 xl)).cell? ⟨w.heap.size + 1, 1, none⟩ = some (.int .u64 0) ∧ ((w11.setCell ⟨pp3, 0, none⟩ (.int .u64 xh)).setCell ⟨pp3, 1, none⟩ (.int .u64 xl)).cell? ⟨w.heap.size + 1, 2, none⟩ = some (.int .u8 0) ∧ ((w11.setCell ⟨pp3, 0, none⟩ (.int .u64 xh)).setCell ⟨pp3, 1, none⟩ (.int .u64 xl)).frozen? ⟨w.heap.size + 1, 0, none⟩ = false ∧ ((w11.setCell ⟨pp3, 0, none⟩ (.int .u64 xh)).setCell ⟨pp3, 1, none⟩ (.int .u64 xl)).frozen? ⟨w.heap.size + 1, 1, none⟩ = false ∧ ((w11.setCell ⟨pp3, 0, none⟩ (.int .u64 xh)).setCell ⟨pp3, 1, none⟩ (.int .u64 xl)).frozen? ⟨w.heap.size + 1, 2, none⟩ = false ∧ ((w11.setCell ⟨pp3, 0, none⟩ (.int .u64 xh)).setCell ⟨pp3, 1, none⟩ (.int .u64 xl)).cell? ⟨pp3, 0, none⟩ = some (.int .u64 xh) ∧ ((w11.setCell ⟨pp3, 0, none⟩ (.int .u64 xh)).setCell ⟨pp3, 1, none⟩ (.int .u64 xl)).cell? ⟨pp3, 1, none⟩ = some (.int .u64 xl) ∧ ((w11.setCell ⟨pp3, 0, none⟩ (.int .u64 xh)).setCell ⟨pp3, 1, none⟩ (.int .u64 xl)).frozen? ⟨pp3, 0, none⟩ = false ∧ ((w11.setCell ⟨pp3, 0, none⟩ (.int .u64 xh)).setCell ⟨pp3, 1, none⟩ (.int .u64 xl)).frozen? ⟨pp3, 1, none⟩ = false ∧ Below w.heap.size w ((w11.setCell ⟨pp3, 0, none⟩ (.int .u64 xh)).setCell ⟨pp3, 1, none⟩ (.int .u64 xl)) from ⟨by go_simp, by go_simp, by go_simp, by go_simp, by go_simp, by go_simp, by go_simp, by go_simp, by go_simp, by go_simp, by go_simp, by go_simp, ((kk.setCell (p := ⟨pp3, 0, none⟩) gX2 _).setCell (p := ⟨pp3, 1, none⟩) gX2 _)⟩)
  clear cX0_0 cX0_1 cX1_0 cX1_1 cX1_2 fX1_0 fX1_1 fX1_2 cX2_0 cX2_1 fX2_0 fX2_1 neX0 nfX0 neX1 nfX1 kk
  refine forget_at (fun W => W.cell? ⟨w.heap.size, 0, none⟩ = some (.int .u64 bh) ∧ W.cell? ⟨w.heap.size, 1, none⟩ = some (.int .u64 bl) ∧ W.cell? ⟨w.heap.size + 1, 0, none⟩ = some (.int .u64 0) ∧ W.cell? ⟨w.heap.size + 1, 1, none⟩ = some (.int .u64 0) ∧ W.cell? ⟨w.heap.size + 1, 2, none⟩ = some (.int .u8 0) ∧ W.frozen? ⟨w.heap.size + 1, 0, none⟩ = false ∧ W.frozen? ⟨w.heap.size + 1, 1, none⟩ = false ∧ W.frozen? ⟨w.heap.size + 1, 2, none⟩ = false ∧ W.cell? ⟨pp3, 0, none⟩ = some (.int .u64 xh) ∧ W.cell? ⟨pp3, 1, none⟩ = some (.int .u64 xl) ∧ W.frozen? ⟨pp3, 0, none⟩ = false ∧ W.frozen? ⟨pp3, 1, none⟩ = false ∧ Below w.heap.size w W) KEY.out (fun w12 hz => ?_)
  obtain ⟨cX0_0, cX0_1, cX1_0, cX1_1, cX1_2, fX1_0, fX1_1, fX1_2, cX2_0, cX2_1, fX2_0, fX2_1, kk⟩ := hz
  clear KEY
  refine hK.out _ _ ⟨cX0_0, cX0_1, trivial⟩ (fun hHeld => ?_)
  clear hK K
  try simp only [List.getElem_toArray, List.getElem_cons_zero, List.getElem_cons_succ, Act.put, List.setIfInBounds_toArray, List.set_cons_zero, List.set_cons_succ]
  clear w11
  clear hHeld
  refine wpAnyH_done (by kernel_rfl) ?_ _
  refine NoPanic.normal ?_
  revert kk; revert nX1_X2; revert nX0_X2; revert gX2; revert fX2_1; revert fX2_0; revert cX2_1; revert cX2_0; revert fX1_2; revert fX1_1; revert fX1_0; revert cX1_2; revert cX1_1; revert cX1_0; revert cX0_1; revert cX0_0; revert bk1; revert pp3; revert w12
  exact ?restw4
  go_simp
  have nX0_X2 : w.heap.size < w5.heap.size := World.block_lt_of_cell? _ _ cX0_0
  have nX1_X2 : w.heap.size + 1 < w5.heap.size := World.block_lt_of_cell? _ _ cX1_0
  have gX2 : w.heap.size ≤ w5.heap.size := kk.size
  have ha := bA (Below.refl _ w5) (.cells #[.int .u64 0, .int .u64 0] 25)
  have hx := HB.new w5 25 #[.int .u64 0, .int .u64 0]
  replace nbk1 := nbk1.later ha
  replace cX0_0 := cell_later ha cX0_0; replace cX0_1 := cell_later ha cX0_1
  replace fX1_0 := frozen_later ha cX1_0 fX1_0; replace fX1_1 := frozen_later ha cX1_1 fX1_1; replace fX1_2 := frozen_later ha cX1_2 fX1_2
  replace cX1_0 := cell_later ha cX1_0; replace cX1_1 := cell_later ha cX1_1; replace cX1_2 := cell_later ha cX1_2
  replace kk := bC kk ha
  have cX2_0 := hx.cell 0; have fX2_0 := hx.frozen 0; have cX2_1 := hx.cell 1; have fX2_1 := hx.frozen 1; dsimp at cX2_0 cX2_1
  clear ha hx
  refine hK.out _ _ ⟨cX0_0, cX0_1, trivial⟩ (fun hHeld => ?_)
  clear hK K
  generalize w5.alloc (.cells #[.int .u64 0, .int .u64 0] 25) = w13 at *
  generalize w5.heap.size = pp3 at *
  try simp only [List.getElem_toArray, List.getElem_cons_zero, List.getElem_cons_succ, Act.put, List.setIfInBounds_toArray, List.set_cons_zero, List.set_cons_succ]
  clear w5
  clear hHeld
  refine wpAnyH_ready (rs := [4]) (by kernel_rfl) (by simp) ?_
  refine AllReadyH.cons rfl (fun K hK => ?_) AllReadyH.nil
  go_simp
  (with_reducible refine (h3.out _ (ft.later kk)).mono ?_); rintro e w14 ⟨rfl, hb⟩
  replace nbk1 := nbk1.later hb
  replace cX0_0 := cell_later hb cX0_0; replace cX0_1 := cell_later hb cX0_1
  replace fX1_0 := frozen_later hb cX1_0 fX1_0; replace fX1_1 := frozen_later hb cX1_1 fX1_1; replace fX1_2 := frozen_later hb cX1_2 fX1_2
  replace cX1_0 := cell_later hb cX1_0; replace cX1_1 := cell_later hb cX1_1; replace cX1_2 := cell_later hb cX1_2
  replace fX2_0 := frozen_later hb cX2_0 fX2_0; replace fX2_1 := frozen_later hb cX2_1 fX2_1
  replace cX2_0 := cell_later hb cX2_0; replace cX2_1 := cell_later hb cX2_1
  replace kk := bC kk hb
  clear hb
  refine hK.out _ _ ⟨cX0_0, cX0_1, trivial⟩ (fun hHeld => ?_)
  clear hK K
  try simp only [List.getElem_toArray, List.getElem_cons_zero, List.getElem_cons_succ, Act.put, List.setIfInBounds_toArray, List.set_cons_zero, List.set_cons_succ]
  clear w13
  clear hHeld
  refine wpAnyH_ready (rs := [5]) (by kernel_rfl) (by simp) ?_
  refine AllReadyH.cons rfl (fun K hK => ?_) AllReadyH.nil
  go_simp
  (with_reducible refine (cf.out bk1 _ (ft.later kk) nbk1.fst).mono ?_); rintro e w15 ⟨rfl, hb⟩
  replace nbk1 := nbk1.later hb
  replace cX0_0 := cell_later hb cX0_0; replace cX0_1 := cell_later hb cX0_1
  replace fX1_0 := frozen_later hb cX1_0 fX1_0; replace fX1_1 := frozen_later hb cX1_1 fX1_1; replace fX1_2 := frozen_later hb cX1_2 fX1_2
  replace cX1_0 := cell_later hb cX1_0; replace cX1_1 := cell_later hb cX1_1; replace cX1_2 := cell_later hb cX1_2
  replace fX2_0 := frozen_later hb cX2_0 fX2_0; replace fX2_1 := frozen_later hb cX2_1 fX2_1
  replace cX2_0 := cell_later hb cX2_0; replace cX2_1 := cell_later hb cX2_1
  replace kk := bC kk hb
  clear hb
  clear nbk1
  refine hK.out _ _ ⟨cX0_0, cX0_1, trivial⟩ (fun hHeld => ?_)
  clear hK K
  try simp only [List.getElem_toArray, List.getElem_cons_zero, List.getElem_cons_succ, Act.put, List.setIfInBounds_toArray, List.set_cons_zero, List.set_cons_succ]
  clear w14
  refine wpAnyH_take (i := 6) (v := ?vq60) rfl (by kernel_rfl) (by kernel_rfl) (by kernel_rfl) (fun _ _ _ h => h) (Or.inl ⟨by rfl, ?yq60⟩) hHeld ?rq60
  case yq60 => (intro wq hb; obtain ⟨lq0, lq1, _⟩ := hb; go_simp; try (with_reducible rfl))
  try simp only [List.getElem_toArray, List.getElem_cons_zero, List.getElem_cons_succ, Act.put, List.setIfInBounds_toArray, List.set_cons_zero, List.set_cons_succ]
  refine wpAnyH_take (i := 7) (v := ?vq61) rfl (by kernel_rfl) (by kernel_rfl) (by kernel_rfl) (fun _ _ _ h => h) (Or.inl ⟨by rfl, ?yq61⟩) hHeld ?rq61
  case yq61 => (intro wq hb; obtain ⟨lq0, lq1, _⟩ := hb; go_simp; try (with_reducible rfl))
  try simp only [List.getElem_toArray, List.getElem_cons_zero, List.getElem_cons_succ, Act.put, List.setIfInBounds_toArray, List.set_cons_zero, List.set_cons_succ]
  refine wpAnyH_take (i := 8) (v := ?vq62) rfl (by kernel_rfl) (by kernel_rfl) (by kernel_rfl) (fun _ _ _ h => h) (Or.inl ⟨by rfl, ?yq62⟩) hHeld ?rq62
  case yq62 => (intro wq hb; obtain ⟨lq0, lq1, _⟩ := hb; go_simp; try (with_reducible rfl))
  try simp only [List.getElem_toArray, List.getElem_cons_zero, List.getElem_cons_succ, Act.put, List.setIfInBounds_toArray, List.set_cons_zero, List.set_cons_succ]
  refine wpAnyH_take (i := 9) (v := ?vq63) rfl (by kernel_rfl) (by kernel_rfl) (by kernel_rfl) (fun _ _ _ h => h) (Or.inl ⟨by rfl, ?yq63⟩) hHeld ?rq63
  case yq63 => (intro wq hb; obtain ⟨lq0, lq1, _⟩ := hb; go_simp; try (with_reducible rfl))
  try simp only [List.getElem_toArray, List.getElem_cons_zero, List.getElem_cons_succ, Act.put, List.setIfInBounds_toArray, List.set_cons_zero, List.set_cons_succ]
  refine wpAnyH_take (i := 11) (v := ?vq64) rfl (by kernel_rfl) (by kernel_rfl) (by kernel_rfl) (fun _ _ _ h => h) (Or.inl ⟨by rfl, ?yq64⟩) hHeld ?rq64
  case yq64 => (intro wq hb; obtain ⟨lq0, lq1, _⟩ := hb; go_simp; try (with_reducible rfl))
  try simp only [List.getElem_toArray, List.getElem_cons_zero, List.getElem_cons_succ, Act.put, List.setIfInBounds_toArray, List.set_cons_zero, List.set_cons_succ]
  refine wpAnyH_take (i := 12) (v := ?vq65) rfl (by kernel_rfl) (by kernel_rfl) (by kernel_rfl) (fun _ _ _ h => h) (Or.inl ⟨by rfl, ?yq65⟩) hHeld ?rq65
  case yq65 => (intro wq hb; obtain ⟨lq0, lq1, _⟩ := hb; go_simp; try (with_reducible rfl))
  try simp only [List.getElem_toArray, List.getElem_cons_zero, List.getElem_cons_succ, Act.put, List.setIfInBounds_toArray, List.set_cons_zero, List.set_cons_succ]
  clear hHeld
  refine wpAnyH_ready (rs := [13]) (by kernel_rfl) (by simp) ?_
  refine AllReadyH.cons rfl (fun K hK => ?_) AllReadyH.nil
  go_simp
  have neX0 : ¬ (pp3 = w.heap.size) := by omega
  have nfX0 : ¬ (w.heap.size = pp3) := by omega
  have neX1 : ¬ (pp3 = w.heap.size + 1) := by omega
  have nfX1 : ¬ (w.heap.size + 1 = pp3) := by omega
  have KEY := Lib.hid (show ((w15.setCell ⟨pp3, 0, none⟩ (.int .u64 xh)).setCell ⟨pp3, 1, none⟩ (.int .u64 xl)).cell? ⟨w.heap.size, 0, none⟩ = some (.int .u64 bh) ∧ ((w15.setCell ⟨pp3, 0, none⟩ (.int .u64 xh)).setCell ⟨pp3, 1, none⟩ (.int .u64 xl)).cell? ⟨w.heap.size, 1, none⟩ = some (.int .u64 bl) ∧ ((w15.setCell ⟨pp3, 0, none⟩ (.int .u64 xh)).setCell ⟨pp3, 1, none⟩ (.int .u64 xl)).cell? ⟨w.heap.size + 1, 0, none⟩ = some (.int .u64 0) ∧ ((w15.setCell ⟨pp3, 0, none⟩ (.int .u64 xh)).setCell ⟨pp3, 1, none⟩ (.int .u64 xl)).cell? ⟨w.heap.size + 1, 1, none⟩ = some (.int .u64 0) ∧ ((w15.setCell ⟨pp3, 0, none⟩ (.int .u64 xh)).setCell ⟨pp3, 1, none⟩ (.int .u64 xl)).cell? ⟨w.heap.size + 1, 2, none⟩ = some (.int .u8 0) ∧ ((w15.setCell ⟨pp3, 0, none⟩ (.int .u64 xh)).setCell ⟨pp3, 1, none⟩ (.int .u64 xl)).frozen? ⟨w.heap.size + 1, 0, none⟩ = false ∧ ((w15.setCell ⟨pp3, 0, none⟩ (.int .u64 xh)).setCell ⟨pp3, 1, none⟩ (.int .u64 xl)).frozen? ⟨w.heap.size + 1, 1, none⟩ = false ∧ ((w15.setCell ⟨pp3, 0, none⟩ (.int .u64 xh)).setCell ⟨pp3, 1, none⟩ (.int .u64 xl)).frozen? ⟨w.heap.size + 1, 2, none⟩ = false ∧ ((w15.setCell ⟨pp3, 0, none⟩ (.int .u64 xh)).setCell ⟨pp3, 1, none⟩ (.int .u64 xl)).cell? ⟨pp3, 0, none⟩ = some (.int .u64 xh) ∧ ((w15.setCell ⟨pp3, 0, none⟩ (.int .u64 xh)).setCell ⟨pp3, 1, none⟩ (.int .u64 xl)).cell? ⟨pp3, 1, none⟩ = some (.int .u64 xl) ∧ ((w15.setCell ⟨pp3, 0, none⟩ (.int .u64 xh)).setCell ⟨pp3, 1, none⟩ (.int .u64 xl)).frozen? ⟨pp3, 0, none⟩ = false ∧ ((w15.setCell ⟨pp3, 0, none⟩ (.int .u64 xh)).setCell ⟨pp3, 1, none⟩ (.int .u64 xl)).frozen? ⟨pp3, 1, none⟩ = false ∧ Below w.heap.size w ((w15.setCell ⟨pp3, 0, none⟩ (.int .u64 xh)).setCell ⟨pp3, 1, none⟩ (.int .u64 xl)) from ⟨by go_simp, by go_simp, by go_simp, by go_simp, by go_simp, by go_simp, by go_simp, by go_simp, by go_simp, by go_simp, by go_simp, by go_simp, ((kk.setCell (p := ⟨pp3, 0, none⟩) gX2 _).setCell (p := ⟨pp3, 1, none⟩) gX2 _)⟩)
  clear cX0_0 cX0_1 cX1_0 cX1_1 cX1_2 fX1_0 fX1_1 fX1_2 cX2_0 cX2_1 fX2_0 fX2_1 neX0 nfX0 neX1 nfX1 kk
  refine forget_at (fun W => W.cell? ⟨w.heap.size, 0, none⟩ = some (.int .u64 bh) ∧ W.cell? ⟨w.heap.size, 1, none⟩ = some (.int .u64 bl) ∧ W.cell? ⟨w.heap.size + 1, 0, none⟩ = some (.int .u64 0) ∧ W.cell? ⟨w.heap.size + 1, 1, none⟩ = some (.int .u64 0) ∧ W.cell? ⟨w.heap.size + 1, 2, none⟩ = some (.int .u8 0) ∧ W.frozen? ⟨w.heap.size + 1, 0, none⟩ = false ∧ W.frozen? ⟨w.heap.size + 1, 1, none⟩ = false ∧ W.frozen? ⟨w.heap.size + 1, 2, none⟩ = false ∧ W.cell? ⟨pp3, 0, none⟩ = some (.int .u64 xh) ∧ W.cell? ⟨pp3, 1, none⟩ = some (.int .u64 xl) ∧ W.frozen? ⟨pp3, 0, none⟩ = false ∧ W.frozen? ⟨pp3, 1, none⟩ = false ∧ Below w.heap.size w W) KEY.out (fun w16 hz => ?_)
  obtain ⟨cX0_0, cX0_1, cX1_0, cX1_1, cX1_2, fX1_0, fX1_1, fX1_2, cX2_0, cX2_1, fX2_0, fX2_1, kk⟩ := hz
  clear KEY
  refine hK.out _ _ ⟨cX0_0, cX0_1, trivial⟩ (fun hHeld => ?_)
  clear hK K
  try simp only [List.getElem_toArray, List.getElem_cons_zero, List.getElem_cons_succ, Act.put, List.setIfInBounds_toArray, List.set_cons_zero, List.set_cons_succ]
  clear w15
  clear hHeld
  refine wpAnyH_done (by kernel_rfl) ?_ _
  refine NoPanic.normal ?_
  revert kk; revert nX1_X2; revert nX0_X2; revert gX2; revert fX2_1; revert fX2_0; revert cX2_1; revert cX2_0; revert fX1_2; revert fX1_1; revert fX1_0; revert cX1_2; revert cX1_1; revert cX1_0; revert cX0_1; revert cX0_0; revert bk1; revert pp3; revert w16
  exact ?restw4
  go_simp
  have nX0_X2 : w.heap.size < w4.heap.size := World.block_lt_of_cell? _ _ cX0_0
  have nX1_X2 : w.heap.size + 1 < w4.heap.size := World.block_lt_of_cell? _ _ cX1_0
  have gX2 : w.heap.size ≤ w4.heap.size := kk.size
  have ha := bA (Below.refl _ w4) (.cells #[.int .u64 0, .int .u64 0] 25)
  have hx := HB.new w4 25 #[.int .u64 0, .int .u64 0]
  replace cX0_0 := cell_later ha cX0_0; replace cX0_1 := cell_later ha cX0_1
  replace fX1_0 := frozen_later ha cX1_0 fX1_0; replace fX1_1 := frozen_later ha cX1_1 fX1_1; replace fX1_2 := frozen_later ha cX1_2 fX1_2
  replace cX1_0 := cell_later ha cX1_0; replace cX1_1 := cell_later ha cX1_1; replace cX1_2 := cell_later ha cX1_2
  replace kk := bC kk ha
  have cX2_0 := hx.cell 0; have fX2_0 := hx.frozen 0; have cX2_1 := hx.cell 1; have fX2_1 := hx.frozen 1; dsimp at cX2_0 cX2_1
  clear ha hx
  refine hK.out _ _ ⟨cX0_0, cX0_1, trivial⟩ (fun hHeld => ?_)
  clear hK K
  generalize w4.alloc (.cells #[.int .u64 0, .int .u64 0] 25) = w17 at *
  generalize w4.heap.size = pp3 at *
  try simp only [List.getElem_toArray, List.getElem_cons_zero, List.getElem_cons_succ, Act.put, List.setIfInBounds_toArray, List.set_cons_zero, List.set_cons_succ]
  clear w4
  clear hHeld
  refine wpAnyH_ready (rs := [1]) (by kernel_rfl) (by simp) ?_
  refine AllReadyH.cons rfl (fun K hK => ?_) AllReadyH.nil
  go_simp
  (with_reducible refine (rf.out _).mono ?_); rintro e w18 ⟨bk1, rfl, nbk1, hb⟩
  replace cX0_0 := cell_later hb cX0_0; replace cX0_1 := cell_later hb cX0_1
  replace fX1_0 := frozen_later hb cX1_0 fX1_0; replace fX1_1 := frozen_later hb cX1_1 fX1_1; replace fX1_2 := frozen_later hb cX1_2 fX1_2
  replace cX1_0 := cell_later hb cX1_0; replace cX1_1 := cell_later hb cX1_1; replace cX1_2 := cell_later hb cX1_2
  replace fX2_0 := frozen_later hb cX2_0 fX2_0; replace fX2_1 := frozen_later hb cX2_1 fX2_1
  replace cX2_0 := cell_later hb cX2_0; replace cX2_1 := cell_later hb cX2_1
  replace kk := bC kk hb
  clear hb
  refine hK.out _ _ ⟨cX0_0, cX0_1, trivial⟩ (fun hHeld => ?_)
  clear hK K
  try simp only [List.getElem_toArray, List.getElem_cons_zero, List.getElem_cons_succ, Act.put, List.setIfInBounds_toArray, List.set_cons_zero, List.set_cons_succ]
  clear w17
  clear hHeld
  refine wpAnyH_ready (rs := [4]) (by kernel_rfl) (by simp) ?_
  refine AllReadyH.cons rfl (fun K hK => ?_) AllReadyH.nil
  go_simp
  (with_reducible refine (h3.out _ (ft.later kk)).mono ?_); rintro e w19 ⟨rfl, hb⟩
  replace nbk1 := nbk1.later hb
  replace cX0_0 := cell_later hb cX0_0; replace cX0_1 := cell_later hb cX0_1
  replace fX1_0 := frozen_later hb cX1_0 fX1_0; replace fX1_1 := frozen_later hb cX1_1 fX1_1; replace fX1_2 := frozen_later hb cX1_2 fX1_2
  replace cX1_0 := cell_later hb cX1_0; replace cX1_1 := cell_later hb cX1_1; replace cX1_2 := cell_later hb cX1_2
  replace fX2_0 := frozen_later hb cX2_0 fX2_0; replace fX2_1 := frozen_later hb cX2_1 fX2_1
  replace cX2_0 := cell_later hb cX2_0; replace cX2_1 := cell_later hb cX2_1
  replace kk := bC kk hb
  clear hb
  refine hK.out _ _ ⟨cX0_0, cX0_1, trivial⟩ (fun hHeld => ?_)
  clear hK K
  try simp only [List.getElem_toArray, List.getElem_cons_zero, List.getElem_cons_succ, Act.put, List.setIfInBounds_toArray, List.set_cons_zero, List.set_cons_succ]
  clear w18
  clear hHeld
  refine wpAnyH_ready (rs := [5]) (by kernel_rfl) (by simp) ?_
  refine AllReadyH.cons rfl (fun K hK => ?_) AllReadyH.nil
  go_simp
  (with_reducible refine (cf.out bk1 _ (ft.later kk) nbk1.fst).mono ?_); rintro e w20 ⟨rfl, hb⟩
  replace nbk1 := nbk1.later hb
  replace cX0_0 := cell_later hb cX0_0; replace cX0_1 := cell_later hb cX0_1
  replace fX1_0 := frozen_later hb cX1_0 fX1_0; replace fX1_1 := frozen_later hb cX1_1 fX1_1; replace fX1_2 := frozen_later hb cX1_2 fX1_2
  replace cX1_0 := cell_later hb cX1_0; replace cX1_1 := cell_later hb cX1_1; replace cX1_2 := cell_later hb cX1_2
  replace fX2_0 := frozen_later hb cX2_0 fX2_0; replace fX2_1 := frozen_later hb cX2_1 fX2_1
  replace cX2_0 := cell_later hb cX2_0; replace cX2_1 := cell_later hb cX2_1
  replace kk := bC kk hb
  clear hb
  clear nbk1
  refine hK.out _ _ ⟨cX0_0, cX0_1, trivial⟩ (fun hHeld => ?_)
  clear hK K
  try simp only [List.getElem_toArray, List.getElem_cons_zero, List.getElem_cons_succ, Act.put, List.setIfInBounds_toArray, List.set_cons_zero, List.set_cons_succ]
  clear w19
  refine wpAnyH_take (i := 6) (v := ?vq66) rfl (by kernel_rfl) (by kernel_rfl) (by kernel_rfl) (fun _ _ _ h => h) (Or.inl ⟨by rfl, ?yq66⟩) hHeld ?rq66
  case yq66 => (intro wq hb; obtain ⟨lq0, lq1, _⟩ := hb; go_simp; try (with_reducible rfl))
  try simp only [List.getElem_toArray, List.getElem_cons_zero, List.getElem_cons_succ, Act.put, List.setIfInBounds_toArray, List.set_cons_zero, List.set_cons_succ]
  refine wpAnyH_take (i := 7) (v := ?vq67) rfl (by kernel_rfl) (by kernel_rfl) (by kernel_rfl) (fun _ _ _ h => h) (Or.inl ⟨by rfl, ?yq67⟩) hHeld ?rq67
  case yq67 => (intro wq hb; obtain ⟨lq0, lq1, _⟩ := hb; go_simp; try (with_reducible rfl))
  try simp only [List.getElem_toArray, List.getElem_cons_zero, List.getElem_cons_succ, Act.put, List.setIfInBounds_toArray, List.set_cons_zero, List.set_cons_succ]
  refine wpAnyH_take (i := 8) (v := ?vq68) rfl (by kernel_rfl) (by kernel_rfl) (by kernel_rfl) (fun _ _ _ h => h) (Or.inl ⟨by rfl, ?yq68⟩) hHeld ?rq68
  case yq68 => (intro wq hb; obtain ⟨lq0, lq1, _⟩ := hb; go_simp; try (with_reducible rfl))
  try simp only [List.getElem_toArray, List.getElem_cons_zero, List.getElem_cons_succ, Act.put, List.setIfInBounds_toArray, List.set_cons_zero, List.set_cons_succ]
  refine wpAnyH_take (i := 9) (v := ?vq69) rfl (by kernel_rfl) (by kernel_rfl) (by kernel_rfl) (fun _ _ _ h => h) (Or.inl ⟨by rfl, ?yq69⟩) hHeld ?rq69
  case yq69 => (intro wq hb; obtain ⟨lq0, lq1, _⟩ := hb; go_simp; try (with_reducible rfl))
  try simp only [List.getElem_toArray, List.getElem_cons_zero, List.getElem_cons_succ, Act.put, List.setIfInBounds_toArray, List.set_cons_zero, List.set_cons_succ]
  refine wpAnyH_take (i := 11) (v := ?vq70) rfl (by kernel_rfl) (by kernel_rfl) (by kernel_rfl) (fun _ _ _ h => h) (Or.inl ⟨by rfl, ?yq70⟩) hHeld ?rq70
  case yq70 => (intro wq hb; obtain ⟨lq0, lq1, _⟩ := hb; go_simp; try (with_reducible rfl))
  try simp only [List.getElem_toArray, List.getElem_cons_zero, List.getElem_cons_succ, Act.put, List.setIfInBounds_toArray, List.set_cons_zero, List.set_cons_succ]
  refine wpAnyH_take (i := 12) (v := ?vq71) rfl (by kernel_rfl) (by kernel_rfl) (by kernel_rfl) (fun _ _ _ h => h) (Or.inl ⟨by rfl, ?yq71⟩) hHeld ?rq71
  case yq71 => (intro wq hb; obtain ⟨lq0, lq1, _⟩ := hb; go_simp; try (with_reducible rfl))
  try simp only [List.getElem_toArray, List.getElem_cons_zero, List.getElem_cons_succ, Act.put, List.setIfInBounds_toArray, List.set_cons_zero, List.set_cons_succ]
  clear hHeld
  refine wpAnyH_ready (rs := [13]) (by kernel_rfl) (by simp) ?_
  refine AllReadyH.cons rfl (fun K hK => ?_) AllReadyH.nil
  go_simp
  have neX0 : ¬ (pp3 = w.heap.size) := by omega
  have nfX0 : ¬ (w.heap.size = pp3) := by omega
  have neX1 : ¬ (pp3 = w.heap.size + 1) := by omega
  have nfX1 : ¬ (w.heap.size + 1 = pp3) := by omega
  have KEY := Lib.hid (show ((w20.setCell ⟨pp3, 0, none⟩ (.int .u64 xh)).setCell ⟨pp3, 1, none⟩ (.int .u64 xl)).cell? ⟨w.heap.size, 0, none⟩ = some (.int .u64 bh) ∧ ((w20.setCell ⟨pp3, 0, none⟩ (.int .u64 xh)).setCell ⟨pp3, 1, none⟩ (.int .u64 xl)).cell? ⟨w.heap.size, 1, none⟩ = some (.int .u64 bl) ∧ ((w20.setCell ⟨pp3, 0, none⟩ (.int .u64 xh)).setCell ⟨pp3, 1, none⟩ (.int .u64 xl)).cell? ⟨w.heap.size + 1, 0, none⟩ = some (.int .u64 0) ∧ ((w20.setCell ⟨pp3, 0, none⟩ (.int .u64 xh)).setCell ⟨pp3, 1, none⟩ (.int .u64 xl)).cell? ⟨w.heap.size + 1, 1, none⟩ = some (.int .u64 0) ∧ ((w20.setCell ⟨pp3, 0, none⟩ (.int .u64 xh)).setCell ⟨pp3, 1, none⟩ (.int .u64 xl)).cell? ⟨w.heap.size + 1, 2, none⟩ = some (.int .u8 0) ∧ ((w20.setCell ⟨pp3, 0, none⟩ (.int .u64 xh)).setCell ⟨pp3, 1, none⟩ (.int .u64 xl)).frozen? ⟨w.heap.size + 1, 0, none⟩ = false ∧ ((w20.setCell ⟨pp3, 0, none⟩ (.int .u64 xh)).setCell ⟨pp3, 1, none⟩ (.int .u64 xl)).frozen? ⟨w.heap.size + 1, 1, none⟩ = false ∧ ((w20.setCell ⟨pp3, 0, none⟩ (.int .u64 xh)).setCell ⟨pp3, 1, none⟩ (.int .u64 xl)).frozen? ⟨w.heap.size + 1, 2, none⟩ = false ∧ ((w20.setCell ⟨pp3, 0, none⟩ (.int .u64 xh)).setCell ⟨pp3, 1, none⟩ (.int .u64 xl)).cell? ⟨pp3, 0, none⟩ = some (.int .u64 xh) ∧ ((w20.setCell ⟨pp3, 0, none⟩ (.int .u64 xh)).setCell ⟨pp3, 1, none⟩ (.int .u64 xl)).cell? ⟨pp3, 1, none⟩ = some (.int .u64 xl) ∧ ((w20.setCell ⟨pp3, 0, none⟩ (.int .u64 xh)).setCell ⟨pp3, 1, none⟩ (.int .u64 xl)).frozen? ⟨pp3, 0, none⟩ = false ∧ ((w20.setCell ⟨pp3, 0, none⟩ (.int .u64 xh)).setCell ⟨pp3, 1, none⟩ (.int .u64 xl)).frozen? ⟨pp3, 1, none⟩ = false ∧ Below w.heap.size w ((w20.setCell ⟨pp3, 0, none⟩ (.int .u64 xh)).setCell ⟨pp3, 1, none⟩ (.int .u64 xl)) from ⟨by go_simp, by go_simp, by go_simp, by go_simp, by go_simp, by go_simp, by go_simp, by go_simp, by go_simp, by go_simp, by go_simp, by go_simp, ((kk.setCell (p := ⟨pp3, 0, none⟩) gX2 _).setCell (p := ⟨pp3, 1, none⟩) gX2 _)⟩)
  clear cX0_0 cX0_1 cX1_0 cX1_1 cX1_2 fX1_0 fX1_1 fX1_2 cX2_0 cX2_1 fX2_0 fX2_1 neX0 nfX0 neX1 nfX1 kk
  refine forget_at (fun W => W.cell? ⟨w.heap.size, 0, none⟩ = some (.int .u64 bh) ∧ W.cell? ⟨w.heap.size, 1, none⟩ = some (.int .u64 bl) ∧ W.cell? ⟨w.heap.size + 1, 0, none⟩ = some (.int .u64 0) ∧ W.cell? ⟨w.heap.size + 1, 1, none⟩ = some (.int .u64 0) ∧ W.cell? ⟨w.heap.size + 1, 2, none⟩ = some (.int .u8 0) ∧ W.frozen? ⟨w.heap.size + 1, 0, none⟩ = false ∧ W.frozen? ⟨w.heap.size + 1, 1, none⟩ = false ∧ W.frozen? ⟨w.heap.size + 1, 2, none⟩ = false ∧ W.cell? ⟨pp3, 0, none⟩ = some (.int .u64 xh) ∧ W.cell? ⟨pp3, 1, none⟩ = some (.int .u64 xl) ∧ W.frozen? ⟨pp3, 0, none⟩ = false ∧ W.frozen? ⟨pp3, 1, none⟩ = false ∧ Below w.heap.size w W) KEY.out (fun w21 hz => ?_)
  obtain ⟨cX0_0, cX0_1, cX1_0, cX1_1, cX1_2, fX1_0, fX1_1, fX1_2, cX2_0, cX2_1, fX2_0, fX2_1, kk⟩ := hz
  clear KEY
  refine hK.out _ _ ⟨cX0_0, cX0_1, trivial⟩ (fun hHeld => ?_)
  clear hK K
  try simp only [List.getElem_toArray, List.getElem_cons_zero, List.getElem_cons_succ, Act.put, List.setIfInBounds_toArray, List.set_cons_zero, List.set_cons_succ]
  clear w20
  clear hHeld
  refine wpAnyH_done (by kernel_rfl) ?_ _
  refine NoPanic.normal ?_
  revert kk; revert nX1_X2; revert nX0_X2; revert gX2; revert fX2_1; revert fX2_0; revert cX2_1; revert cX2_0; revert fX1_2; revert fX1_1; revert fX1_0; revert cX1_2; revert cX1_1; revert cX1_0; revert cX0_1; revert cX0_0; revert bk1; revert pp3; revert w21
  exact ?restw4
  intro w22 pp3 bk1 cX0_0 cX0_1 cX1_0 cX1_1 cX1_2 fX1_0 fX1_1 fX1_2 cX2_0 cX2_1 fX2_0 fX2_1 gX2 nX0_X2 nX1_X2 kk
  have sX0 : w.heap.size < w22.heap.size := World.block_lt_of_cell? _ _ cX0_0
  have sX1 : w.heap.size + 1 < w22.heap.size ∧ w.heap.size < w22.heap.size := by have h : w.heap.size + 1 < w22.heap.size := World.block_lt_of_cell? _ _ cX1_0; exact ⟨h, by omega⟩
  have sX2 : pp3 < w22.heap.size := World.block_lt_of_cell? _ _ cX2_0
  clear fX2_0 fX2_1
  go_wp2_with fail
  (with_reducible refine (rt.out _).mono ?_); rintro e w23 ⟨bk2, rfl, nbk2, hb⟩
  replace cX0_0 := cell_later hb cX0_0; replace cX0_1 := cell_later hb cX0_1
  replace sX0 : w.heap.size < w23.heap.size := World.block_lt_of_cell? _ _ cX0_0
  replace fX1_0 := frozen_later hb cX1_0 fX1_0; replace fX1_1 := frozen_later hb cX1_1 fX1_1; replace fX1_2 := frozen_later hb cX1_2 fX1_2
  replace cX1_0 := cell_later hb cX1_0; replace cX1_1 := cell_later hb cX1_1; replace cX1_2 := cell_later hb cX1_2
  replace sX1 : w.heap.size + 1 < w23.heap.size ∧ w.heap.size < w23.heap.size := by have h : w.heap.size + 1 < w23.heap.size := World.block_lt_of_cell? _ _ cX1_0; exact ⟨h, by omega⟩
  replace cX2_0 := cell_later hb cX2_0; replace cX2_1 := cell_later hb cX2_1
  replace sX2 : pp3 < w23.heap.size := World.block_lt_of_cell? _ _ cX2_0
  replace kk := bC kk hb
  clear hb
  go_wp2_with fail
  (with_reducible refine (h6.out _ (ft.later kk)).mono ?_); rintro e w24 ⟨rfl, hb⟩
  replace nbk2 := nbk2.later hb
  replace cX0_0 := cell_later hb cX0_0; replace cX0_1 := cell_later hb cX0_1
  replace sX0 : w.heap.size < w24.heap.size := World.block_lt_of_cell? _ _ cX0_0
  replace fX1_0 := frozen_later hb cX1_0 fX1_0; replace fX1_1 := frozen_later hb cX1_1 fX1_1; replace fX1_2 := frozen_later hb cX1_2 fX1_2
  replace cX1_0 := cell_later hb cX1_0; replace cX1_1 := cell_later hb cX1_1; replace cX1_2 := cell_later hb cX1_2
  replace sX1 : w.heap.size + 1 < w24.heap.size ∧ w.heap.size < w24.heap.size := by have h : w.heap.size + 1 < w24.heap.size := World.block_lt_of_cell? _ _ cX1_0; exact ⟨h, by omega⟩
  replace cX2_0 := cell_later hb cX2_0; replace cX2_1 := cell_later hb cX2_1
  replace sX2 : pp3 < w24.heap.size := World.block_lt_of_cell? _ _ cX2_0
  replace kk := bC kk hb
  clear hb
  go_wp2_with fail
  (with_reducible refine (ct.out bk2 _ (ft.later kk) nbk2.fst).mono ?_); rintro e w25 ⟨rfl, hb⟩
  replace nbk2 := nbk2.later hb
  replace cX0_0 := cell_later hb cX0_0; replace cX0_1 := cell_later hb cX0_1
  replace sX0 : w.heap.size < w25.heap.size := World.block_lt_of_cell? _ _ cX0_0
  replace fX1_0 := frozen_later hb cX1_0 fX1_0; replace fX1_1 := frozen_later hb cX1_1 fX1_1; replace fX1_2 := frozen_later hb cX1_2 fX1_2
  replace cX1_0 := cell_later hb cX1_0; replace cX1_1 := cell_later hb cX1_1; replace cX1_2 := cell_later hb cX1_2
  replace sX1 : w.heap.size + 1 < w25.heap.size ∧ w.heap.size < w25.heap.size := by have h : w.heap.size + 1 < w25.heap.size := World.block_lt_of_cell? _ _ cX1_0; exact ⟨h, by omega⟩
  replace cX2_0 := cell_later hb cX2_0; replace cX2_1 := cell_later hb cX2_1
  replace sX2 : pp3 < w25.heap.size := World.block_lt_of_cell? _ _ cX2_0
  replace kk := bC kk hb
  clear hb
  clear nbk2
  go_wp2_with fail
  refine wp_forget (fun W => W.cell? ⟨w.heap.size, 0, none⟩ = some (.int .u64 bh) ∧ W.cell? ⟨w.heap.size, 1, none⟩ = some (.int .u64 bl) ∧ W.cell? ⟨w.heap.size + 1, 0, none⟩ = some (.int .u64 0) ∧ W.cell? ⟨w.heap.size + 1, 1, none⟩ = some (.int .u64 0) ∧ W.cell? ⟨w.heap.size + 1, 2, none⟩ = some (.int .u8 0) ∧ W.cell? ⟨pp3, 0, none⟩ = some (.int .u64 xh) ∧ W.cell? ⟨pp3, 1, none⟩ = some (.int .u64 xl) ∧ W.frozen? ⟨w.heap.size + 1, 0, none⟩ = false ∧ W.frozen? ⟨w.heap.size + 1, 1, none⟩ = false ∧ W.frozen? ⟨w.heap.size + 1, 2, none⟩ = false ∧ Below w.heap.size w W) ⟨cell_later (bA (Below.refl _ _) _) cX0_0, cell_later (bA (Below.refl _ _) _) cX0_1, cell_later (bA (Below.refl _ _) _) cX1_0, cell_later (bA (Below.refl _ _) _) cX1_1, cell_later (bA (Below.refl _ _) _) cX1_2, cell_later (bA (Below.refl _ _) _) cX2_0, cell_later (bA (Below.refl _ _) _) cX2_1, frozen_later (bA (Below.refl _ _) _) cX1_0 fX1_0, frozen_later (bA (Below.refl _ _) _) cX1_1 fX1_1, frozen_later (bA (Below.refl _ _) _) cX1_2 fX1_2, bC kk (bA (Below.refl _ _) _)⟩ (fun w26 hst => ?_)
  clear cX0_0 cX0_1 sX0 cX1_0 cX1_1 cX1_2 sX1 fX1_0 fX1_1 fX1_2 cX2_0 cX2_1 sX2 kk
  obtain ⟨cX0_0, cX0_1, cX1_0, cX1_1, cX1_2, cX2_0, cX2_1, fX1_0, fX1_1, fX1_2, kk⟩ := hst
  have sX0 : w.heap.size < w26.heap.size := World.block_lt_of_cell? _ _ cX0_0
  have sX1 : w.heap.size + 1 < w26.heap.size ∧ w.heap.size < w26.heap.size := by have h : w.heap.size + 1 < w26.heap.size := World.block_lt_of_cell? _ _ cX1_0; exact ⟨h, by omega⟩
  have sX2 : pp3 < w26.heap.size := World.block_lt_of_cell? _ _ cX2_0
  clear sX0
  clear sX1
  clear sX2
  refine wp_region_noPanic ?_
  refine wp_region_held_drew (S := fun w' => w'.cell? ⟨pp3, 0, none⟩ = some (.int .u64 xh) ∧ w'.cell? ⟨pp3, 1, none⟩ = some (.int .u64 xl) ∧ True) (by kernel_rfl) ⟨cell_later (Below.refl _ _).drew cX2_0, cell_later (Below.refl _ _).drew cX2_1, trivial⟩ (fun hHeld => ?_)
  replace cX0_0 := cell_later (Below.refl _ _).drew cX0_0; replace cX0_1 := cell_later (Below.refl _ _).drew cX0_1
  replace fX1_0 := frozen_later (Below.refl _ _).drew cX1_0 fX1_0; replace fX1_1 := frozen_later (Below.refl _ _).drew cX1_1 fX1_1; replace fX1_2 := frozen_later (Below.refl _ _).drew cX1_2 fX1_2
  replace cX1_0 := cell_later (Below.refl _ _).drew cX1_0; replace cX1_1 := cell_later (Below.refl _ _).drew cX1_1; replace cX1_2 := cell_later (Below.refl _ _).drew cX1_2
  replace cX2_0 := cell_later (Below.refl _ _).drew cX2_0; replace cX2_1 := cell_later (Below.refl _ _).drew cX2_1
  replace kk := bC kk (Below.refl _ _).drew
  generalize World.drew _ = w27 at *
  refine wpAnyH_take (i := 0) (v := ?vq72) rfl (by kernel_rfl) (by kernel_rfl) (by kernel_rfl) (fun _ _ _ h => h) (Or.inl ⟨by rfl, ?yq72⟩) hHeld ?rq72
  case yq72 => (intro wq hb; obtain ⟨lq0, lq1, _⟩ := hb; go_simp; try (with_reducible rfl))
  try simp only [List.getElem_toArray, List.getElem_cons_zero, List.getElem_cons_succ, Act.put, List.setIfInBounds_toArray, List.set_cons_zero, List.set_cons_succ]
  refine wpAnyH_take (i := 1) (v := ?vq73) rfl (by kernel_rfl) (by kernel_rfl) (by kernel_rfl) (fun _ _ _ h => h) (Or.inl ⟨by rfl, ?yq73⟩) hHeld ?rq73
  case yq73 => (intro wq hb; obtain ⟨lq0, lq1, _⟩ := hb; go_simp; try (with_reducible rfl))
  try simp only [List.getElem_toArray, List.getElem_cons_zero, List.getElem_cons_succ, Act.put, List.setIfInBounds_toArray, List.set_cons_zero, List.set_cons_succ]
  refine wpAnyH_take (i := 2) (v := ?vq74) rfl (by kernel_rfl) (by kernel_rfl) (by kernel_rfl) (fun _ _ _ h => h) (Or.inl ⟨by rfl, ?yq74⟩) hHeld ?rq74
  case yq74 => (intro wq hb; obtain ⟨lq0, lq1, _⟩ := hb; go_simp; try (with_reducible rfl))
  try simp only [List.getElem_toArray, List.getElem_cons_zero, List.getElem_cons_succ, Act.put, List.setIfInBounds_toArray, List.set_cons_zero, List.set_cons_succ]
  refine wpAnyH_take (i := 3) (v := ?vq75) rfl (by kernel_rfl) (by kernel_rfl) (by kernel_rfl) (fun _ _ _ h => h) (Or.inl ⟨by rfl, ?yq75⟩) hHeld ?rq75
  case yq75 => (intro wq hb; obtain ⟨lq0, lq1, _⟩ := hb; go_simp; try (with_reducible rfl))
  try simp only [List.getElem_toArray, List.getElem_cons_zero, List.getElem_cons_succ, Act.put, List.setIfInBounds_toArray, List.set_cons_zero, List.set_cons_succ]
  refine wpAnyH_take (i := 4) (v := ?vq76) rfl (by kernel_rfl) (by kernel_rfl) (by kernel_rfl) (fun _ _ _ h => h) (Or.inl ⟨by rfl, ?yq76⟩) hHeld ?rq76
  case yq76 => (intro wq hb; obtain ⟨lq0, lq1, _⟩ := hb; go_simp; try (with_reducible rfl))
  try simp only [List.getElem_toArray, List.getElem_cons_zero, List.getElem_cons_succ, Act.put, List.setIfInBounds_toArray, List.set_cons_zero, List.set_cons_succ]
  clear hHeld
  refine wpAnyH_ready (rs := [5, 9]) (by kernel_rfl) (by simp) ?_
  refine AllReadyH.cons rfl (fun K hK => ?_) (AllReadyH.cons rfl (fun K hK => ?_) AllReadyH.nil)
  go_simp
  (with_reducible refine (h8.out _ (ft.later kk)).mono ?_); rintro e w28 ⟨rfl, hb⟩
  replace cX0_0 := cell_later hb cX0_0; replace cX0_1 := cell_later hb cX0_1
  replace fX1_0 := frozen_later hb cX1_0 fX1_0; replace fX1_1 := frozen_later hb cX1_1 fX1_1; replace fX1_2 := frozen_later hb cX1_2 fX1_2
  replace cX1_0 := cell_later hb cX1_0; replace cX1_1 := cell_later hb cX1_1; replace cX1_2 := cell_later hb cX1_2
  replace cX2_0 := cell_later hb cX2_0; replace cX2_1 := cell_later hb cX2_1
  replace kk := bC kk hb
  clear hb
  refine hK.out _ _ ⟨cX2_0, cX2_1, trivial⟩ (fun hHeld => ?_)
  clear hK K
  try simp only [List.getElem_toArray, List.getElem_cons_zero, List.getElem_cons_succ, Act.put, List.setIfInBounds_toArray, List.set_cons_zero, List.set_cons_succ]
  clear w27
  clear hHeld
  refine wpAnyH_ready (rs := [6, 9]) (by kernel_rfl) (by simp) ?_
  refine AllReadyH.cons rfl (fun K hK => ?_) (AllReadyH.cons rfl (fun K hK => ?_) AllReadyH.nil)
  go_simp
  (with_reducible refine (h9.out _).mono ?_); rintro e w29 ⟨rfl, hb⟩
  replace cX0_0 := cell_later hb cX0_0; replace cX0_1 := cell_later hb cX0_1
  replace fX1_0 := frozen_later hb cX1_0 fX1_0; replace fX1_1 := frozen_later hb cX1_1 fX1_1; replace fX1_2 := frozen_later hb cX1_2 fX1_2
  replace cX1_0 := cell_later hb cX1_0; replace cX1_1 := cell_later hb cX1_1; replace cX1_2 := cell_later hb cX1_2
  replace cX2_0 := cell_later hb cX2_0; replace cX2_1 := cell_later hb cX2_1
  replace kk := bC kk hb
  clear hb
  refine hK.out _ _ ⟨cX2_0, cX2_1, trivial⟩ (fun hHeld => ?_)
  clear hK K
  try simp only [List.getElem_toArray, List.getElem_cons_zero, List.getElem_cons_succ, Act.put, List.setIfInBounds_toArray, List.set_cons_zero, List.set_cons_succ]
  clear w28
  clear hHeld
  refine wpAnyH_ready (rs := [7, 9]) (by kernel_rfl) (by simp) ?_
  refine AllReadyH.cons rfl (fun K hK => ?_) (AllReadyH.cons rfl (fun K hK => ?_) AllReadyH.nil)
  go_simp
  (with_reducible refine (h10.out _ (ft.later kk)).mono ?_); rintro e w30 ⟨rfl, hb⟩
  replace cX0_0 := cell_later hb cX0_0; replace cX0_1 := cell_later hb cX0_1
  replace fX1_0 := frozen_later hb cX1_0 fX1_0; replace fX1_1 := frozen_later hb cX1_1 fX1_1; replace fX1_2 := frozen_later hb cX1_2 fX1_2
  replace cX1_0 := cell_later hb cX1_0; replace cX1_1 := cell_later hb cX1_1; replace cX1_2 := cell_later hb cX1_2
  replace cX2_0 := cell_later hb cX2_0; replace cX2_1 := cell_later hb cX2_1
  replace kk := bC kk hb
  clear hb
  refine hK.out _ _ ⟨cX2_0, cX2_1, trivial⟩ (fun hHeld => ?_)
  clear hK K
  try simp only [List.getElem_toArray, List.getElem_cons_zero, List.getElem_cons_succ, Act.put, List.setIfInBounds_toArray, List.set_cons_zero, List.set_cons_succ]
  clear w29
  refine wpAnyH_take (i := 8) (v := ?vq77) rfl (by kernel_rfl) (by kernel_rfl) (by kernel_rfl) (fun _ _ _ h => h) (Or.inl ⟨by rfl, ?yq77⟩) hHeld ?rq77
  case yq77 => (intro wq hb; obtain ⟨lq0, lq1, _⟩ := hb; go_simp; try (with_reducible rfl))
  try simp only [List.getElem_toArray, List.getElem_cons_zero, List.getElem_cons_succ, Act.put, List.setIfInBounds_toArray, List.set_cons_zero, List.set_cons_succ]
  clear hHeld
  refine wpAnyH_ready (rs := [9]) (by kernel_rfl) (by simp) ?_
  refine AllReadyH.cons rfl (fun K hK => ?_) AllReadyH.nil
  go_simp
  have nX0_X4 : w.heap.size < w30.heap.size := World.block_lt_of_cell? _ _ cX0_0
  have nX1_X4 : w.heap.size + 1 < w30.heap.size := World.block_lt_of_cell? _ _ cX1_0
  have nX2_X4 : pp3 < w30.heap.size := World.block_lt_of_cell? _ _ cX2_0
  have gX4 : w.heap.size ≤ w30.heap.size := kk.size
  have ha := bA (Below.refl _ w30) (.cells #[.int .u64 0, .int .u64 0, .int .u8 0] 28)
  have hx := HB.new w30 28 #[.int .u64 0, .int .u64 0, .int .u8 0]
  replace cX0_0 := cell_later ha cX0_0; replace cX0_1 := cell_later ha cX0_1
  replace fX1_0 := frozen_later ha cX1_0 fX1_0; replace fX1_1 := frozen_later ha cX1_1 fX1_1; replace fX1_2 := frozen_later ha cX1_2 fX1_2
  replace cX1_0 := cell_later ha cX1_0; replace cX1_1 := cell_later ha cX1_1; replace cX1_2 := cell_later ha cX1_2
  replace cX2_0 := cell_later ha cX2_0; replace cX2_1 := cell_later ha cX2_1
  replace kk := bC kk ha
  have cX4_0 := hx.cell 0; have fX4_0 := hx.frozen 0; have cX4_1 := hx.cell 1; have fX4_1 := hx.frozen 1; have cX4_2 := hx.cell 2; have fX4_2 := hx.frozen 2; dsimp at cX4_0 cX4_1 cX4_2
  clear ha hx
  refine hK.out _ _ ⟨cX2_0, cX2_1, trivial⟩ (fun hHeld => ?_)
  clear hK K
  generalize w30.alloc (.cells #[.int .u64 0, .int .u64 0, .int .u8 0] 28) = w31 at *
  generalize w30.heap.size = pp26 at *
  try simp only [List.getElem_toArray, List.getElem_cons_zero, List.getElem_cons_succ, Act.put, List.setIfInBounds_toArray, List.set_cons_zero, List.set_cons_succ]
  clear w30
  clear hHeld
  refine wpAnyH_ready (rs := [10]) (by kernel_rfl) (by simp) ?_
  refine AllReadyH.cons rfl (fun K hK => ?_) AllReadyH.nil
  go_simp
  have neX0 : ¬ (pp26 = w.heap.size) := by omega
  have nfX0 : ¬ (w.heap.size = pp26) := by omega
  have neX1 : ¬ (pp26 = w.heap.size + 1) := by omega
  have nfX1 : ¬ (w.heap.size + 1 = pp26) := by omega
  have neX2 : ¬ (pp26 = pp3) := by omega
  have nfX2 : ¬ (pp3 = pp26) := by omega
  have KEY := Lib.hid (show (((w31.setCell ⟨pp26, 0, none⟩ (.int .u64 rh)).setCell ⟨pp26, 1, none⟩ (.int .u64 rl)).setCell ⟨pp26, 2, none⟩ (.int .u8 0)).cell? ⟨w.heap.size, 0, none⟩ = some (.int .u64 bh) ∧ (((w31.setCell ⟨pp26, 0, none⟩ (.int .u64 rh)).setCell ⟨pp26, 1, none⟩ (.int .u64 rl)).setCell ⟨pp26, 2, none⟩ (.int .u8 0)).cell? ⟨w.heap.size, 1, none⟩ = some (.int .u64 bl) ∧ (((w31.setCell ⟨pp26, 0, none⟩ (.int .u64 rh)).setCell ⟨pp26, 1, none⟩ (.int .u64 rl)).setCell ⟨pp26, 2, none⟩ (.int .u8 0)).cell? ⟨w.heap.size + 1, 0, none⟩ = some (.int .u64 0) ∧ (((w31.setCell ⟨pp26, 0, none⟩ (.int .u64 rh)).setCell ⟨pp26, 1, none⟩ (.int .u64 rl)).setCell ⟨pp26, 2, none⟩ (.int .u8 0)).cell? ⟨w.heap.size + 1, 1, none⟩ = some (.int .u64 0) ∧ (((w31.setCell ⟨pp26, 0, none⟩ (.int .u64 rh)).setCell ⟨pp26, 1, none⟩ (.int .u64 rl)).setCell ⟨pp26, 2, none⟩ (.int .u8 0)).cell? ⟨w.heap.size + 1, 2, none⟩ = some (.int .u8 0) ∧ (((w31.setCell ⟨pp26, 0, none⟩ (.int .u64 rh)).setCell ⟨pp26, 1, none⟩ (.int .u64 rl)).setCell ⟨pp26, 2, none⟩ (.int .u8 0)).frozen? ⟨w.heap.size + 1, 0, none⟩ = false ∧ (((w31.setCell ⟨pp26, 0, none⟩ (.int .u64 rh)).setCell ⟨pp26, 1, none⟩ (.int .u64 rl)).setCell ⟨pp26, 2, none⟩ (.int .u8 0)).frozen? ⟨w.heap.size + 1, 1, none⟩ = false ∧ (((w31.setCell ⟨pp26, 0, none⟩ (.int .u64 rh)).setCell ⟨pp26, 1, none⟩ (.int .u64 rl)).setCell ⟨pp26, 2, none⟩ (.int .u8 0)).frozen? ⟨w.heap.size + 1, 2, none⟩ = false ∧ (((w31.setCell ⟨pp26, 0, none⟩ (.int .u64 rh)).setCell ⟨pp26, 1, none⟩ (.int .u64 rl)).setCell ⟨pp26, 2, none⟩ (.int .u8 0)).cell? ⟨pp3, 0, none⟩ = some (.int .u64 xh) ∧ (((w31.setCell ⟨pp26, 0, none⟩ (.int .u64 rh)).setCell ⟨pp26, 1, none⟩ (.int .u64 rl)).setCell ⟨pp26, 2, none⟩ (.int .u8 0)).cell? ⟨pp3, 1, none⟩ = some (.int .u64 xl) ∧ (((w31.setCell ⟨pp26, 0, none⟩ (.int .u64 rh)).setCell ⟨pp26, 1, none⟩ (.int .u64 rl)).setCell ⟨pp26, 2, none⟩ (.int .u8 0)).cell? ⟨pp26, 0, none⟩ = some (.int .u64 rh) ∧ (((w31.setCell ⟨pp26, 0, none⟩ (.int .u64 rh)).setCell ⟨pp26, 1, none⟩ (.int .u64 rl)).setCell ⟨pp26, 2, none⟩ (.int .u8 0)).cell? ⟨pp26, 1, none⟩ = some (.int .u64 rl) ∧ (((w31.setCell ⟨pp26, 0, none⟩ (.int .u64 rh)).setCell ⟨pp26, 1, none⟩ (.int .u64 rl)).setCell ⟨pp26, 2, none⟩ (.int .u8 0)).cell? ⟨pp26, 2, none⟩ = some (.int .u8 0) ∧ (((w31.setCell ⟨pp26, 0, none⟩ (.int .u64 rh)).setCell ⟨pp26, 1, none⟩ (.int .u64 rl)).setCell ⟨pp26, 2, none⟩ (.int .u8 0)).frozen? ⟨pp26, 0, none⟩ = false ∧ (((w31.setCell ⟨pp26, 0, none⟩ (.int .u64 rh)).setCell ⟨pp26, 1, none⟩ (.int .u64 rl)).setCell ⟨pp26, 2, none⟩ (.int .u8 0)).frozen? ⟨pp26, 1, none⟩ = false ∧ (((w31.setCell ⟨pp26, 0, none⟩ (.int .u64 rh)).setCell ⟨pp26, 1, none⟩ (.int .u64 rl)).setCell ⟨pp26, 2, none⟩ (.int .u8 0)).frozen? ⟨pp26, 2, none⟩ = false ∧ Below w.heap.size w (((w31.setCell ⟨pp26, 0, none⟩ (.int .u64 rh)).setCell ⟨pp26, 1, none⟩ (.int .u64 rl)).setCell ⟨pp26, 2, none⟩ (.int .u8 0)) from ⟨by go_simp, by go_simp, by go_simp, by go_simp, by go_simp, by go_simp, by go_simp, by go_simp, by go_simp, by go_simp, by go_simp, by go_simp, by go_simp, by go_simp, by go_simp, by go_simp, (((kk.setCell (p := ⟨pp26, 0, none⟩) gX4 _).setCell (p := ⟨pp26, 1, none⟩) gX4 _).setCell (p := ⟨pp26, 2, none⟩) gX4 _)⟩)
  clear cX0_0 cX0_1 cX1_0 cX1_1 cX1_2 fX1_0 fX1_1 fX1_2 cX2_0 cX2_1 cX4_0 cX4_1 cX4_2 fX4_0 fX4_1 fX4_2 neX0 nfX0 neX1 nfX1 neX2 nfX2 kk
  refine forget_at (fun W => W.cell? ⟨w.heap.size, 0, none⟩ = some (.int .u64 bh) ∧ W.cell? ⟨w.heap.size, 1, none⟩ = some (.int .u64 bl) ∧ W.cell? ⟨w.heap.size + 1, 0, none⟩ = some (.int .u64 0) ∧ W.cell? ⟨w.heap.size + 1, 1, none⟩ = some (.int .u64 0) ∧ W.cell? ⟨w.heap.size + 1, 2, none⟩ = some (.int .u8 0) ∧ W.frozen? ⟨w.heap.size + 1, 0, none⟩ = false ∧ W.frozen? ⟨w.heap.size + 1, 1, none⟩ = false ∧ W.frozen? ⟨w.heap.size + 1, 2, none⟩ = false ∧ W.cell? ⟨pp3, 0, none⟩ = some (.int .u64 xh) ∧ W.cell? ⟨pp3, 1, none⟩ = some (.int .u64 xl) ∧ W.cell? ⟨pp26, 0, none⟩ = some (.int .u64 rh) ∧ W.cell? ⟨pp26, 1, none⟩ = some (.int .u64 rl) ∧ W.cell? ⟨pp26, 2, none⟩ = some (.int .u8 0) ∧ W.frozen? ⟨pp26, 0, none⟩ = false ∧ W.frozen? ⟨pp26, 1, none⟩ = false ∧ W.frozen? ⟨pp26, 2, none⟩ = false ∧ Below w.heap.size w W) KEY.out (fun w32 hz => ?_)
  obtain ⟨cX0_0, cX0_1, cX1_0, cX1_1, cX1_2, fX1_0, fX1_1, fX1_2, cX2_0, cX2_1, cX4_0, cX4_1, cX4_2, fX4_0, fX4_1, fX4_2, kk⟩ := hz
  clear KEY
  refine hK.out _ _ ⟨cX2_0, cX2_1, trivial⟩ (fun hHeld => ?_)
  clear hK K
  try simp only [List.getElem_toArray, List.getElem_cons_zero, List.getElem_cons_succ, Act.put, List.setIfInBounds_toArray, List.set_cons_zero, List.set_cons_succ]
  clear w31
  clear hHeld
  refine wpAnyH_done (by kernel_rfl) ?_ _
  refine NoPanic.normal ?_
  revert kk; revert nX2_X4; revert nX1_X4; revert nX0_X4; revert gX4; revert fX4_2; revert fX4_1; revert fX4_0; revert cX4_2; revert cX4_1; revert cX4_0; revert cX2_1; revert cX2_0; revert fX1_2; revert fX1_1; revert fX1_0; revert cX1_2; revert cX1_1; revert cX1_0; revert cX0_1; revert cX0_0; revert pp26; revert w32
  refine ?restw27
  rotate_left
  go_simp
  have nX0_X4 : w.heap.size < w29.heap.size := World.block_lt_of_cell? _ _ cX0_0
  have nX1_X4 : w.heap.size + 1 < w29.heap.size := World.block_lt_of_cell? _ _ cX1_0
  have nX2_X4 : pp3 < w29.heap.size := World.block_lt_of_cell? _ _ cX2_0
  have gX4 : w.heap.size ≤ w29.heap.size := kk.size
  have ha := bA (Below.refl _ w29) (.cells #[.int .u64 0, .int .u64 0, .int .u8 0] 28)
  have hx := HB.new w29 28 #[.int .u64 0, .int .u64 0, .int .u8 0]
  replace cX0_0 := cell_later ha cX0_0; replace cX0_1 := cell_later ha cX0_1
  replace fX1_0 := frozen_later ha cX1_0 fX1_0; replace fX1_1 := frozen_later ha cX1_1 fX1_1; replace fX1_2 := frozen_later ha cX1_2 fX1_2
  replace cX1_0 := cell_later ha cX1_0; replace cX1_1 := cell_later ha cX1_1; replace cX1_2 := cell_later ha cX1_2
  replace cX2_0 := cell_later ha cX2_0; replace cX2_1 := cell_later ha cX2_1
  replace kk := bC kk ha
  have cX4_0 := hx.cell 0; have fX4_0 := hx.frozen 0; have cX4_1 := hx.cell 1; have fX4_1 := hx.frozen 1; have cX4_2 := hx.cell 2; have fX4_2 := hx.frozen 2; dsimp at cX4_0 cX4_1 cX4_2
  clear ha hx
  refine hK.out _ _ ⟨cX2_0, cX2_1, trivial⟩ (fun hHeld => ?_)
  clear hK K
  generalize w29.alloc (.cells #[.int .u64 0, .int .u64 0, .int .u8 0] 28) = w33 at *
  generalize w29.heap.size = pp26 at *
  try simp only [List.getElem_toArray, List.getElem_cons_zero, List.getElem_cons_succ, Act.put, List.setIfInBounds_toArray, List.set_cons_zero, List.set_cons_succ]
  clear w29
  clear hHeld
  refine wpAnyH_ready (rs := [7]) (by kernel_rfl) (by simp) ?_
  refine AllReadyH.cons rfl (fun K hK => ?_) AllReadyH.nil
  go_simp
  (with_reducible refine (h10.out _ (ft.later kk)).mono ?_); rintro e w34 ⟨rfl, hb⟩
  replace cX0_0 := cell_later hb cX0_0; replace cX0_1 := cell_later hb cX0_1
  replace fX1_0 := frozen_later hb cX1_0 fX1_0; replace fX1_1 := frozen_later hb cX1_1 fX1_1; replace fX1_2 := frozen_later hb cX1_2 fX1_2
  replace cX1_0 := cell_later hb cX1_0; replace cX1_1 := cell_later hb cX1_1; replace cX1_2 := cell_later hb cX1_2
  replace cX2_0 := cell_later hb cX2_0; replace cX2_1 := cell_later hb cX2_1
  replace fX4_0 := frozen_later hb cX4_0 fX4_0; replace fX4_1 := frozen_later hb cX4_1 fX4_1; replace fX4_2 := frozen_later hb cX4_2 fX4_2
  replace cX4_0 := cell_later hb cX4_0; replace cX4_1 := cell_later hb cX4_1; replace cX4_2 := cell_later hb cX4_2
  replace kk := bC kk hb
  clear hb
  refine hK.out _ _ ⟨cX2_0, cX2_1, trivial⟩ (fun hHeld => ?_)
  clear hK K
  try simp only [List.getElem_toArray, List.getElem_cons_zero, List.getElem_cons_succ, Act.put, List.setIfInBounds_toArray, List.set_cons_zero, List.set_cons_succ]
  clear w33
  refine wpAnyH_take (i := 8) (v := ?vq78) rfl (by kernel_rfl) (by kernel_rfl) (by kernel_rfl) (fun _ _ _ h => h) (Or.inl ⟨by rfl, ?yq78⟩) hHeld ?rq78
  case yq78 => (intro wq hb; obtain ⟨lq0, lq1, _⟩ := hb; go_simp; try (with_reducible rfl))
  try simp only [List.getElem_toArray, List.getElem_cons_zero, List.getElem_cons_succ, Act.put, List.setIfInBounds_toArray, List.set_cons_zero, List.set_cons_succ]
  clear hHeld
  refine wpAnyH_ready (rs := [10]) (by kernel_rfl) (by simp) ?_
  refine AllReadyH.cons rfl (fun K hK => ?_) AllReadyH.nil
  go_simp
  have neX0 : ¬ (pp26 = w.heap.size) := by omega
  have nfX0 : ¬ (w.heap.size = pp26) := by omega
  have neX1 : ¬ (pp26 = w.heap.size + 1) := by omega
  have nfX1 : ¬ (w.heap.size + 1 = pp26) := by omega
  have neX2 : ¬ (pp26 = pp3) := by omega
  have nfX2 : ¬ (pp3 = pp26) := by omega
  have KEY := Lib.hid (show (((w34.setCell ⟨pp26, 0, none⟩ (.int .u64 rh)).setCell ⟨pp26, 1, none⟩ (.int .u64 rl)).setCell ⟨pp26, 2, none⟩ (.int .u8 0)).cell? ⟨w.heap.size, 0, none⟩ = some (.int .u64 bh) ∧ (((w34.setCell ⟨pp26, 0, none⟩ (.int .u64 rh)).setCell ⟨pp26, 1, none⟩ (.int .u64 rl)).setCell ⟨pp26, 2, none⟩ (.int .u8 0)).cell? ⟨w.heap.size, 1, none⟩ = some (.int .u64 bl) ∧ (((w34.setCell ⟨pp26, 0, none⟩ (.int .u64 rh)).setCell ⟨pp26, 1, none⟩ (.int .u64 rl)).setCell ⟨pp26, 2, none⟩ (.int .u8 0)).cell? ⟨w.heap.size + 1, 0, none⟩ = some (.int .u64 0) ∧ (((w34.setCell ⟨pp26, 0, none⟩ (.int .u64 rh)).setCell ⟨pp26, 1, none⟩ (.int .u64 rl)).setCell ⟨pp26, 2, none⟩ (.int .u8 0)).cell? ⟨w.heap.size + 1, 1, none⟩ = some (.int .u64 0) ∧ (((w34.setCell ⟨pp26, 0, none⟩ (.int .u64 rh)).setCell ⟨pp26, 1, none⟩ (.int .u64 rl)).setCell ⟨pp26, 2, none⟩ (.int .u8 0)).cell? ⟨w.heap.size + 1, 2, none⟩ = some (.int .u8 0) ∧ (((w34.setCell ⟨pp26, 0, none⟩ (.int .u64 rh)).setCell ⟨pp26, 1, none⟩ (.int .u64 rl)).setCell ⟨pp26, 2, none⟩ (.int .u8 0)).frozen? ⟨w.heap.size + 1, 0, none⟩ = false ∧ (((w34.setCell ⟨pp26, 0, none⟩ (.int .u64 rh)).setCell ⟨pp26, 1, none⟩ (.int .u64 rl)).setCell ⟨pp26, 2, none⟩ (.int .u8 0)).frozen? ⟨w.heap.size + 1, 1, none⟩ = false ∧ (((w34.setCell ⟨pp26, 0, none⟩ (.int .u64 rh)).setCell ⟨pp26, 1, none⟩ (.int .u64 rl)).setCell ⟨pp26, 2, none⟩ (.int .u8 0)).frozen? ⟨w.heap.size + 1, 2, none⟩ = false ∧ (((w34.setCell ⟨pp26, 0, none⟩ (.int .u64 rh)).setCell ⟨pp26, 1, none⟩ (.int .u64 rl)).setCell ⟨pp26, 2, none⟩ (.int .u8 0)).cell? ⟨pp3, 0, none⟩ = some (.int .u64 xh) ∧ (((w34.setCell ⟨pp26, 0, none⟩ (.int .u64 rh)).setCell ⟨pp26, 1, none⟩ (.int .u64 rl)).setCell ⟨pp26, 2, none⟩ (.int .u8 0)).cell? ⟨pp3, 1, none⟩ = some (.int .u64 xl) ∧ (((w34.setCell ⟨pp26, 0, none⟩ (.int .u64 rh)).setCell ⟨pp26, 1, none⟩ (.int .u64 rl)).setCell ⟨pp26, 2, none⟩ (.int .u8 0)).cell? ⟨pp26, 0, none⟩ = some (.int .u64 rh) ∧ (((w34.setCell ⟨pp26, 0, none⟩ (.int .u64 rh)).setCell ⟨pp26, 1, none⟩ (.int .u64 rl)).setCell ⟨pp26, 2, none⟩ (.int .u8 0)).cell? ⟨pp26, 1, none⟩ = some (.int .u64 rl) ∧ (((w34.setCell ⟨pp26, 0, none⟩ (.int .u64 rh)).setCell ⟨pp26, 1, none⟩ (.int .u64 rl)).setCell ⟨pp26, 2, none⟩ (.int .u8 0)).cell? ⟨pp26, 2, none⟩ = some (.int .u8 0) ∧ (((w34.setCell ⟨pp26, 0, none⟩ (.int .u64 rh)).setCell ⟨pp26, 1, none⟩ (.int .u64 rl)).setCell ⟨pp26, 2, none⟩ (.int .u8 0)).frozen? ⟨pp26, 0, none⟩ = false ∧ (((w34.setCell ⟨pp26, 0, none⟩ (.int .u64 rh)).setCell ⟨pp26, 1, none⟩ (.int .u64 rl)).setCell ⟨pp26, 2, none⟩ (.int .u8 0)).frozen? ⟨pp26, 1, none⟩ = false ∧ (((w34.setCell ⟨pp26, 0, none⟩ (.int .u64 rh)).setCell ⟨pp26, 1, none⟩ (.int .u64 rl)).setCell ⟨pp26, 2, none⟩ (.int .u8 0)).frozen? ⟨pp26, 2, none⟩ = false ∧ Below w.heap.size w (((w34.setCell ⟨pp26, 0, none⟩ (.int .u64 rh)).setCell ⟨pp26, 1, none⟩ (.int .u64 rl)).setCell ⟨pp26, 2, none⟩ (.int .u8 0)) from ⟨by go_simp, by go_simp, by go_simp, by go_simp, by go_simp, by go_simp, by go_simp, by go_simp, by go_simp, by go_simp, by go_simp, by go_simp, by go_simp, by go_simp, by go_simp, by go_simp, (((kk.setCell (p := ⟨pp26, 0, none⟩) gX4 _).setCell (p := ⟨pp26, 1, none⟩) gX4 _).setCell (p := ⟨pp26, 2, none⟩) gX4 _)⟩)
  clear cX0_0 cX0_1 cX1_0 cX1_1 cX1_2 fX1_0 fX1_1 fX1_2 cX2_0 cX2_1 cX4_0 cX4_1 cX4_2 fX4_0 fX4_1 fX4_2 neX0 nfX0 neX1 nfX1 neX2 nfX2 kk
  refine forget_at (fun W => W.cell? ⟨w.heap.size, 0, none⟩ = some (.int .u64 bh) ∧ W.cell? ⟨w.heap.size, 1, none⟩ = some (.int .u64 bl) ∧ W.cell? ⟨w.heap.size + 1, 0, none⟩ = some (.int .u64 0) ∧ W.cell? ⟨w.heap.size + 1, 1, none⟩ = some (.int .u64 0) ∧ W.cell? ⟨w.heap.size + 1, 2, none⟩ = some (.int .u8 0) ∧ W.frozen? ⟨w.heap.size + 1, 0, none⟩ = false ∧ W.frozen? ⟨w.heap.size + 1, 1, none⟩ = false ∧ W.frozen? ⟨w.heap.size + 1, 2, none⟩ = false ∧ W.cell? ⟨pp3, 0, none⟩ = some (.int .u64 xh) ∧ W.cell? ⟨pp3, 1, none⟩ = some (.int .u64 xl) ∧ W.cell? ⟨pp26, 0, none⟩ = some (.int .u64 rh) ∧ W.cell? ⟨pp26, 1, none⟩ = some (.int .u64 rl) ∧ W.cell? ⟨pp26, 2, none⟩ = some (.int .u8 0) ∧ W.frozen? ⟨pp26, 0, none⟩ = false ∧ W.frozen? ⟨pp26, 1, none⟩ = false ∧ W.frozen? ⟨pp26, 2, none⟩ = false ∧ Below w.heap.size w W) KEY.out (fun w35 hz => ?_)
  obtain ⟨cX0_0, cX0_1, cX1_0, cX1_1, cX1_2, fX1_0, fX1_1, fX1_2, cX2_0, cX2_1, cX4_0, cX4_1, cX4_2, fX4_0, fX4_1, fX4_2, kk⟩ := hz
  clear KEY
  refine hK.out _ _ ⟨cX2_0, cX2_1, trivial⟩ (fun hHeld => ?_)
  clear hK K
  try simp only [List.getElem_toArray, List.getElem_cons_zero, List.getElem_cons_succ, Act.put, List.setIfInBounds_toArray, List.set_cons_zero, List.set_cons_succ]
  clear w34
  clear hHeld
  refine wpAnyH_done (by kernel_rfl) ?_ _
  refine NoPanic.normal ?_
  revert kk; revert nX2_X4; revert nX1_X4; revert nX0_X4; revert gX4; revert fX4_2; revert fX4_1; revert fX4_0; revert cX4_2; revert cX4_1; revert cX4_0; revert cX2_1; revert cX2_0; revert fX1_2; revert fX1_1; revert fX1_0; revert cX1_2; revert cX1_1; revert cX1_0; revert cX0_1; revert cX0_0; revert pp26; revert w35
  exact ?restw27
  go_simp
  have nX0_X4 : w.heap.size < w28.heap.size := World.block_lt_of_cell? _ _ cX0_0
  have nX1_X4 : w.heap.size + 1 < w28.heap.size := World.block_lt_of_cell? _ _ cX1_0
  have nX2_X4 : pp3 < w28.heap.size := World.block_lt_of_cell? _ _ cX2_0
  have gX4 : w.heap.size ≤ w28.heap.size := kk.size
  have ha := bA (Below.refl _ w28) (.cells #[.int .u64 0, .int .u64 0, .int .u8 0] 28)
  have hx := HB.new w28 28 #[.int .u64 0, .int .u64 0, .int .u8 0]
  replace cX0_0 := cell_later ha cX0_0; replace cX0_1 := cell_later ha cX0_1
  replace fX1_0 := frozen_later ha cX1_0 fX1_0; replace fX1_1 := frozen_later ha cX1_1 fX1_1; replace fX1_2 := frozen_later ha cX1_2 fX1_2
  replace cX1_0 := cell_later ha cX1_0; replace cX1_1 := cell_later ha cX1_1; replace cX1_2 := cell_later ha cX1_2
  replace cX2_0 := cell_later ha cX2_0; replace cX2_1 := cell_later ha cX2_1
  replace kk := bC kk ha
  have cX4_0 := hx.cell 0; have fX4_0 := hx.frozen 0; have cX4_1 := hx.cell 1; have fX4_1 := hx.frozen 1; have cX4_2 := hx.cell 2; have fX4_2 := hx.frozen 2; dsimp at cX4_0 cX4_1 cX4_2
  clear ha hx
  refine hK.out _ _ ⟨cX2_0, cX2_1, trivial⟩ (fun hHeld => ?_)
  clear hK K
  generalize w28.alloc (.cells #[.int .u64 0, .int .u64 0, .int .u8 0] 28) = w36 at *
  generalize w28.heap.size = pp26 at *
  try simp only [List.getElem_toArray, List.getElem_cons_zero, List.getElem_cons_succ, Act.put, List.setIfInBounds_toArray, List.set_cons_zero, List.set_cons_succ]
  clear w28
  clear hHeld
  refine wpAnyH_ready (rs := [6]) (by kernel_rfl) (by simp) ?_
  refine AllReadyH.cons rfl (fun K hK => ?_) AllReadyH.nil
  go_simp
  (with_reducible refine (h9.out _).mono ?_); rintro e w37 ⟨rfl, hb⟩
  replace cX0_0 := cell_later hb cX0_0; replace cX0_1 := cell_later hb cX0_1
  replace fX1_0 := frozen_later hb cX1_0 fX1_0; replace fX1_1 := frozen_later hb cX1_1 fX1_1; replace fX1_2 := frozen_later hb cX1_2 fX1_2
  replace cX1_0 := cell_later hb cX1_0; replace cX1_1 := cell_later hb cX1_1; replace cX1_2 := cell_later hb cX1_2
  replace cX2_0 := cell_later hb cX2_0; replace cX2_1 := cell_later hb cX2_1
  replace fX4_0 := frozen_later hb cX4_0 fX4_0; replace fX4_1 := frozen_later hb cX4_1 fX4_1; replace fX4_2 := frozen_later hb cX4_2 fX4_2
  replace cX4_0 := cell_later hb cX4_0; replace cX4_1 := cell_later hb cX4_1; replace cX4_2 := cell_later hb cX4_2
  replace kk := bC kk hb
  clear hb
  refine hK.out _ _ ⟨cX2_0, cX2_1, trivial⟩ (fun hHeld => ?_)
  clear hK K
  try simp only [List.getElem_toArray, List.getElem_cons_zero, List.getElem_cons_succ, Act.put, List.setIfInBounds_toArray, List.set_cons_zero, List.set_cons_succ]
  clear w36
  clear hHeld
  refine wpAnyH_ready (rs := [7]) (by kernel_rfl) (by simp) ?_
  refine AllReadyH.cons rfl (fun K hK => ?_) AllReadyH.nil
  go_simp
  (with_reducible refine (h10.out _ (ft.later kk)).mono ?_); rintro e w38 ⟨rfl, hb⟩
  replace cX0_0 := cell_later hb cX0_0; replace cX0_1 := cell_later hb cX0_1
  replace fX1_0 := frozen_later hb cX1_0 fX1_0; replace fX1_1 := frozen_later hb cX1_1 fX1_1; replace fX1_2 := frozen_later hb cX1_2 fX1_2
  replace cX1_0 := cell_later hb cX1_0; replace cX1_1 := cell_later hb cX1_1; replace cX1_2 := cell_later hb cX1_2
  replace cX2_0 := cell_later hb cX2_0; replace cX2_1 := cell_later hb cX2_1
  replace fX4_0 := frozen_later hb cX4_0 fX4_0; replace fX4_1 := frozen_later hb cX4_1 fX4_1; replace fX4_2 := frozen_later hb cX4_2 fX4_2
  replace cX4_0 := cell_later hb cX4_0; replace cX4_1 := cell_later hb cX4_1; replace cX4_2 := cell_later hb cX4_2
  replace kk := bC kk hb
  clear hb
  refine hK.out _ _ ⟨cX2_0, cX2_1, trivial⟩ (fun hHeld => ?_)
  clear hK K
  try simp only [List.getElem_toArray, List.getElem_cons_zero, List.getElem_cons_succ, Act.put, List.setIfInBounds_toArray, List.set_cons_zero, List.set_cons_succ]
  clear w37
  refine wpAnyH_take (i := 8) (v := ?vq79) rfl (by kernel_rfl) (by kernel_rfl) (by kernel_rfl) (fun _ _ _ h => h) (Or.inl ⟨by rfl, ?yq79⟩) hHeld ?rq79
  case yq79 => (intro wq hb; obtain ⟨lq0, lq1, _⟩ := hb; go_simp; try (with_reducible rfl))
  try simp only [List.getElem_toArray, List.getElem_cons_zero, List.getElem_cons_succ, Act.put, List.setIfInBounds_toArray, List.set_cons_zero, List.set_cons_succ]
  clear hHeld
  refine wpAnyH_ready (rs := [10]) (by kernel_rfl) (by simp) ?_
  refine AllReadyH.cons rfl (fun K hK => ?_) AllReadyH.nil
  go_simp
  have neX0 : ¬ (pp26 = w.heap.size) := by omega
  have nfX0 : ¬ (w.heap.size = pp26) := by omega
  have neX1 : ¬ (pp26 = w.heap.size + 1) := by omega
  have nfX1 : ¬ (w.heap.size + 1 = pp26) := by omega
  have neX2 : ¬ (pp26 = pp3) := by omega
  have nfX2 : ¬ (pp3 = pp26) := by omega
  have KEY := Lib.hid (show (((w38.setCell ⟨pp26, 0, none⟩ (.int .u64 rh)).setCell ⟨pp26, 1, none⟩ (.int .u64 rl)).setCell ⟨pp26, 2, none⟩ (.int .u8 0)).cell? ⟨w.heap.size, 0, none⟩ = some (.int .u64 bh) ∧ (((w38.setCell ⟨pp26, 0, none⟩ (.int .u64 rh)).setCell ⟨pp26, 1, none⟩ (.int .u64 rl)).setCell ⟨pp26, 2, none⟩ (.int .u8 0)).cell? ⟨w.heap.size, 1, none⟩ = some (.int .u64 bl) ∧ (((w38.setCell ⟨pp26, 0, none⟩ (.int .u64 rh)).setCell ⟨pp26, 1, none⟩ (.int .u64 rl)).setCell ⟨pp26, 2, none⟩ (.int .u8 0)).cell? ⟨w.heap.size + 1, 0, none⟩ = some (.int .u64 0) ∧ (((w38.setCell ⟨pp26, 0, none⟩ (.int .u64 rh)).setCell ⟨pp26, 1, none⟩ (.int .u64 rl)).setCell ⟨pp26, 2, none⟩ (.int .u8 0)).cell? ⟨w.heap.size + 1, 1, none⟩ = some (.int .u64 0) ∧ (((w38.setCell ⟨pp26, 0, none⟩ (.int .u64 rh)).setCell ⟨pp26, 1, none⟩ (.int .u64 rl)).setCell ⟨pp26, 2, none⟩ (.int .u8 0)).cell? ⟨w.heap.size + 1, 2, none⟩ = some (.int .u8 0) ∧ (((w38.setCell ⟨pp26, 0, none⟩ (.int .u64 rh)).setCell ⟨pp26, 1, none⟩ (.int .u64 rl)).setCell ⟨pp26, 2, none⟩ (.int .u8 0)).frozen? ⟨w.heap.size + 1, 0, none⟩ = false ∧ (((w38.setCell ⟨pp26, 0, none⟩ (.int .u64 rh)).setCell ⟨pp26, 1, none⟩ (.int .u64 rl)).setCell ⟨pp26, 2, none⟩ (.int .u8 0)).frozen? ⟨w.heap.size + 1, 1, none⟩ = false ∧ (((w38.setCell ⟨pp26, 0, none⟩ (.int .u64 rh)).setCell ⟨pp26, 1, none⟩ (.int .u64 rl)).setCell ⟨pp26, 2, none⟩ (.int .u8 0)).frozen? ⟨w.heap.size + 1, 2, none⟩ = false ∧ (((w38.setCell ⟨pp26, 0, none⟩ (.int .u64 rh)).setCell ⟨pp26, 1, none⟩ (.int .u64 rl)).setCell ⟨pp26, 2, none⟩ (.int .u8 0)).cell? ⟨pp3, 0, none⟩ = some (.int .u64 xh) ∧ (((w38.setCell ⟨pp26, 0, none⟩ (.int .u64 rh)).setCell ⟨pp26, 1, none⟩ (.int .u64 rl)).setCell ⟨pp26, 2, none⟩ (.int .u8 0)).cell? ⟨pp3, 1, none⟩ = some (.int .u64 xl) ∧ (((w38.setCell ⟨pp26, 0, none⟩ (.int .u64 rh)).setCell ⟨pp26, 1, none⟩ (.int .u64 rl)).setCell ⟨pp26, 2, none⟩ (.int .u8 0)).cell? ⟨pp26, 0, none⟩ = some (.int .u64 rh) ∧ (((w38.setCell ⟨pp26, 0, none⟩ (.int .u64 rh)).setCell ⟨pp26, 1, none⟩ (.int .u64 rl)).setCell ⟨pp26, 2, none⟩ (.int .u8 0)).cell? ⟨pp26, 1, none⟩ = some (.int .u64 rl) ∧ (((w38.setCell ⟨pp26, 0, none⟩ (.int .u64 rh)).setCell ⟨pp26, 1, none⟩ (.int .u64 rl)).setCell ⟨pp26, 2, none⟩ (.int .u8 0)).cell? ⟨pp26, 2, none⟩ = some (.int .u8 0) ∧ (((w38.setCell ⟨pp26, 0, none⟩ (.int .u64 rh)).setCell ⟨pp26, 1, none⟩ (.int .u64 rl)).setCell ⟨pp26, 2, none⟩ (.int .u8 0)).frozen? ⟨pp26, 0, none⟩ = false ∧ (((w38.setCell ⟨pp26, 0, none⟩ (.int .u64 rh)).setCell ⟨pp26, 1, none⟩ (.int .u64 rl)).setCell ⟨pp26, 2, none⟩ (.int .u8 0)).frozen? ⟨pp26, 1, none⟩ = false ∧ (((w38.setCell ⟨pp26, 0, none⟩ (.int .u64 rh)).setCell ⟨pp26, 1, none⟩ (.int .u64 rl)).setCell ⟨pp26, 2, none⟩ (.int .u8 0)).frozen? ⟨pp26, 2, none⟩ = false ∧ Below w.heap.size w (((w38.setCell ⟨pp26, 0, none⟩ (.int .u64 rh)).setCell ⟨pp26, 1, none⟩ (.int .u64 rl)).setCell ⟨pp26, 2, none⟩ (.int .u8 0)) from ⟨by go_simp, by go_simp, by go_simp, by go_simp, by go_simp, by go_simp, by go_simp, by go_simp, by go_simp, by go_simp, by go_simp, by go_simp, by go_simp, by go_simp, by go_simp, by go_simp, (((kk.setCell (p := ⟨pp26, 0, none⟩) gX4 _).setCell (p := ⟨pp26, 1, none⟩) gX4 _).setCell (p := ⟨pp26, 2, none⟩) gX4 _)⟩)
  clear cX0_0 cX0_1 cX1_0 cX1_1 cX1_2 fX1_0 fX1_1 fX1_2 cX2_0 cX2_1 cX4_0 cX4_1 cX4_2 fX4_0 fX4_1 fX4_2 neX0 nfX0 neX1 nfX1 neX2 nfX2 kk
  refine forget_at (fun W => W.cell? ⟨w.heap.size, 0, none⟩ = some (.int .u64 bh) ∧ W.cell? ⟨w.heap.size, 1, none⟩ = some (.int .u64 bl) ∧ W.cell? ⟨w.heap.size + 1, 0, none⟩ = some (.int .u64 0) ∧ W.cell? ⟨w.heap.size + 1, 1, none⟩ = some (.int .u64 0) ∧ W.cell? ⟨w.heap.size + 1, 2, none⟩ = some (.int .u8 0) ∧ W.frozen? ⟨w.heap.size + 1, 0, none⟩ = false ∧ W.frozen? ⟨w.heap.size + 1, 1, none⟩ = false ∧ W.frozen? ⟨w.heap.size + 1, 2, none⟩ = false ∧ W.cell? ⟨pp3, 0, none⟩ = some (.int .u64 xh) ∧ W.cell? ⟨pp3, 1, none⟩ = some (.int .u64 xl) ∧ W.cell? ⟨pp26, 0, none⟩ = some (.int .u64 rh) ∧ W.cell? ⟨pp26, 1, none⟩ = some (.int .u64 rl) ∧ W.cell? ⟨pp26, 2, none⟩ = some (.int .u8 0) ∧ W.frozen? ⟨pp26, 0, none⟩ = false ∧ W.frozen? ⟨pp26, 1, none⟩ = false ∧ W.frozen? ⟨pp26, 2, none⟩ = false ∧ Below w.heap.size w W) KEY.out (fun w39 hz => ?_)
  obtain ⟨cX0_0, cX0_1, cX1_0, cX1_1, cX1_2, fX1_0, fX1_1, fX1_2, cX2_0, cX2_1, cX4_0, cX4_1, cX4_2, fX4_0, fX4_1, fX4_2, kk⟩ := hz
  clear KEY
  refine hK.out _ _ ⟨cX2_0, cX2_1, trivial⟩ (fun hHeld => ?_)
  clear hK K
  try simp only [List.getElem_toArray, List.getElem_cons_zero, List.getElem_cons_succ, Act.put, List.setIfInBounds_toArray, List.set_cons_zero, List.set_cons_succ]
  clear w38
  clear hHeld
  refine wpAnyH_done (by kernel_rfl) ?_ _
  refine NoPanic.normal ?_
  revert kk; revert nX2_X4; revert nX1_X4; revert nX0_X4; revert gX4; revert fX4_2; revert fX4_1; revert fX4_0; revert cX4_2; revert cX4_1; revert cX4_0; revert cX2_1; revert cX2_0; revert fX1_2; revert fX1_1; revert fX1_0; revert cX1_2; revert cX1_1; revert cX1_0; revert cX0_1; revert cX0_0; revert pp26; revert w39
  exact ?restw27
  go_simp
  have nX0_X4 : w.heap.size < w27.heap.size := World.block_lt_of_cell? _ _ cX0_0
  have nX1_X4 : w.heap.size + 1 < w27.heap.size := World.block_lt_of_cell? _ _ cX1_0
  have nX2_X4 : pp3 < w27.heap.size := World.block_lt_of_cell? _ _ cX2_0
  have gX4 : w.heap.size ≤ w27.heap.size := kk.size
  have ha := bA (Below.refl _ w27) (.cells #[.int .u64 0, .int .u64 0, .int .u8 0] 28)
  have hx := HB.new w27 28 #[.int .u64 0, .int .u64 0, .int .u8 0]
  replace cX0_0 := cell_later ha cX0_0; replace cX0_1 := cell_later ha cX0_1
  replace fX1_0 := frozen_later ha cX1_0 fX1_0; replace fX1_1 := frozen_later ha cX1_1 fX1_1; replace fX1_2 := frozen_later ha cX1_2 fX1_2
  replace cX1_0 := cell_later ha cX1_0; replace cX1_1 := cell_later ha cX1_1; replace cX1_2 := cell_later ha cX1_2
  replace cX2_0 := cell_later ha cX2_0; replace cX2_1 := cell_later ha cX2_1
  replace kk := bC kk ha
  have cX4_0 := hx.cell 0; have fX4_0 := hx.frozen 0; have cX4_1 := hx.cell 1; have fX4_1 := hx.frozen 1; have cX4_2 := hx.cell 2; have fX4_2 := hx.frozen 2; dsimp at cX4_0 cX4_1 cX4_2
  clear ha hx
  refine hK.out _ _ ⟨cX2_0, cX2_1, trivial⟩ (fun hHeld => ?_)
  clear hK K
  generalize w27.alloc (.cells #[.int .u64 0, .int .u64 0, .int .u8 0] 28) = w40 at *
  generalize w27.heap.size = pp26 at *
  try simp only [List.getElem_toArray, List.getElem_cons_zero, List.getElem_cons_succ, Act.put, List.setIfInBounds_toArray, List.set_cons_zero, List.set_cons_succ]
  clear w27
  clear hHeld
  refine wpAnyH_ready (rs := [5]) (by kernel_rfl) (by simp) ?_
  refine AllReadyH.cons rfl (fun K hK => ?_) AllReadyH.nil
  go_simp
  (with_reducible refine (h8.out _ (ft.later kk)).mono ?_); rintro e w41 ⟨rfl, hb⟩
  replace cX0_0 := cell_later hb cX0_0; replace cX0_1 := cell_later hb cX0_1
  replace fX1_0 := frozen_later hb cX1_0 fX1_0; replace fX1_1 := frozen_later hb cX1_1 fX1_1; replace fX1_2 := frozen_later hb cX1_2 fX1_2
  replace cX1_0 := cell_later hb cX1_0; replace cX1_1 := cell_later hb cX1_1; replace cX1_2 := cell_later hb cX1_2
  replace cX2_0 := cell_later hb cX2_0; replace cX2_1 := cell_later hb cX2_1
  replace fX4_0 := frozen_later hb cX4_0 fX4_0; replace fX4_1 := frozen_later hb cX4_1 fX4_1; replace fX4_2 := frozen_later hb cX4_2 fX4_2
  replace cX4_0 := cell_later hb cX4_0; replace cX4_1 := cell_later hb cX4_1; replace cX4_2 := cell_later hb cX4_2
  replace kk := bC kk hb
  clear hb
  refine hK.out _ _ ⟨cX2_0, cX2_1, trivial⟩ (fun hHeld => ?_)
  clear hK K
  try simp only [List.getElem_toArray, List.getElem_cons_zero, List.getElem_cons_succ, Act.put, List.setIfInBounds_toArray, List.set_cons_zero, List.set_cons_succ]
  clear w40
  clear hHeld
  refine wpAnyH_ready (rs := [6]) (by kernel_rfl) (by simp) ?_
  refine AllReadyH.cons rfl (fun K hK => ?_) AllReadyH.nil
  go_simp
  (with_reducible refine (h9.out _).mono ?_); rintro e w42 ⟨rfl, hb⟩
  replace cX0_0 := cell_later hb cX0_0; replace cX0_1 := cell_later hb cX0_1
  replace fX1_0 := frozen_later hb cX1_0 fX1_0; replace fX1_1 := frozen_later hb cX1_1 fX1_1; replace fX1_2 := frozen_later hb cX1_2 fX1_2
  replace cX1_0 := cell_later hb cX1_0; replace cX1_1 := cell_later hb cX1_1; replace cX1_2 := cell_later hb cX1_2
  replace cX2_0 := cell_later hb cX2_0; replace cX2_1 := cell_later hb cX2_1
  replace fX4_0 := frozen_later hb cX4_0 fX4_0; replace fX4_1 := frozen_later hb cX4_1 fX4_1; replace fX4_2 := frozen_later hb cX4_2 fX4_2
  replace cX4_0 := cell_later hb cX4_0; replace cX4_1 := cell_later hb cX4_1; replace cX4_2 := cell_later hb cX4_2
  replace kk := bC kk hb
  clear hb
  refine hK.out _ _ ⟨cX2_0, cX2_1, trivial⟩ (fun hHeld => ?_)
  clear hK K
  try simp only [List.getElem_toArray, List.getElem_cons_zero, List.getElem_cons_succ, Act.put, List.setIfInBounds_toArray, List.set_cons_zero, List.set_cons_succ]
  clear w41
  clear hHeld
  refine wpAnyH_ready (rs := [7]) (by kernel_rfl) (by simp) ?_
  refine AllReadyH.cons rfl (fun K hK => ?_) AllReadyH.nil
  go_simp
  (with_reducible refine (h10.out _ (ft.later kk)).mono ?_); rintro e w43 ⟨rfl, hb⟩
  replace cX0_0 := cell_later hb cX0_0; replace cX0_1 := cell_later hb cX0_1
  replace fX1_0 := frozen_later hb cX1_0 fX1_0; replace fX1_1 := frozen_later hb cX1_1 fX1_1; replace fX1_2 := frozen_later hb cX1_2 fX1_2
  replace cX1_0 := cell_later hb cX1_0; replace cX1_1 := cell_later hb cX1_1; replace cX1_2 := cell_later hb cX1_2
  replace cX2_0 := cell_later hb cX2_0; replace cX2_1 := cell_later hb cX2_1
  replace fX4_0 := frozen_later hb cX4_0 fX4_0; replace fX4_1 := frozen_later hb cX4_1 fX4_1; replace fX4_2 := frozen_later hb cX4_2 fX4_2
  replace cX4_0 := cell_later hb cX4_0; replace cX4_1 := cell_later hb cX4_1; replace cX4_2 := cell_later hb cX4_2
  replace kk := bC kk hb
  clear hb
  refine hK.out _ _ ⟨cX2_0, cX2_1, trivial⟩ (fun hHeld => ?_)
  clear hK K
  try simp only [List.getElem_toArray, List.getElem_cons_zero, List.getElem_cons_succ, Act.put, List.setIfInBounds_toArray, List.set_cons_zero, List.set_cons_succ]
  clear w42
  refine wpAnyH_take (i := 8) (v := ?vq80) rfl (by kernel_rfl) (by kernel_rfl) (by kernel_rfl) (fun _ _ _ h => h) (Or.inl ⟨by rfl, ?yq80⟩) hHeld ?rq80
  case yq80 => (intro wq hb; obtain ⟨lq0, lq1, _⟩ := hb; go_simp; try (with_reducible rfl))
  try simp only [List.getElem_toArray, List.getElem_cons_zero, List.getElem_cons_succ, Act.put, List.setIfInBounds_toArray, List.set_cons_zero, List.set_cons_succ]
  clear hHeld
  refine wpAnyH_ready (rs := [10]) (by kernel_rfl) (by simp) ?_
  refine AllReadyH.cons rfl (fun K hK => ?_) AllReadyH.nil
  go_simp
  have neX0 : ¬ (pp26 = w.heap.size) := by omega
  have nfX0 : ¬ (w.heap.size = pp26) := by omega
  have neX1 : ¬ (pp26 = w.heap.size + 1) := by omega
  have nfX1 : ¬ (w.heap.size + 1 = pp26) := by omega
  have neX2 : ¬ (pp26 = pp3) := by omega
  have nfX2 : ¬ (pp3 = pp26) := by omega
  have KEY := Lib.hid (show (((w43.setCell ⟨pp26, 0, none⟩ (.int .u64 rh)).setCell ⟨pp26, 1, none⟩ (.int .u64 rl)).setCell ⟨pp26, 2, none⟩ (.int .u8 0)).cell? ⟨w.heap.size, 0, none⟩ = some (.int .u64 bh) ∧ (((w43.setCell ⟨pp26, 0, none⟩ (.int .u64 rh)).setCell ⟨pp26, 1, none⟩ (.int .u64 rl)).setCell ⟨pp26, 2, none⟩ (.int .u8 0)).cell? ⟨w.heap.size, 1, none⟩ = some (.int .u64 bl) ∧ (((w43.setCell ⟨pp26, 0, none⟩ (.int .u64 rh)).setCell ⟨pp26, 1, none⟩ (.int .u64 rl)).setCell ⟨pp26, 2, none⟩ (.int .u8 0)).cell? ⟨w.heap.size + 1, 0, none⟩ = some (.int .u64 0) ∧ (((w43.setCell ⟨pp26, 0, none⟩ (.int .u64 rh)).setCell ⟨pp26, 1, none⟩ (.int .u64 rl)).setCell ⟨pp26, 2, none⟩ (.int .u8 0)).cell? ⟨w.heap.size + 1, 1, none⟩ = some (.int .u64 0) ∧ (((w43.setCell ⟨pp26, 0, none⟩ (.int .u64 rh)).setCell ⟨pp26, 1, none⟩ (.int .u64 rl)).setCell ⟨pp26, 2, none⟩ (.int .u8 0)).cell? ⟨w.heap.size + 1, 2, none⟩ = some (.int .u8 0) ∧ (((w43.setCell ⟨pp26, 0, none⟩ (.int .u64 rh)).setCell ⟨pp26, 1, none⟩ (.int .u64 rl)).setCell ⟨pp26, 2, none⟩ (.int .u8 0)).frozen? ⟨w.heap.size + 1, 0, none⟩ = false ∧ (((w43.setCell ⟨pp26, 0, none⟩ (.int .u64 rh)).setCell ⟨pp26, 1, none⟩ (.int .u64 rl)).setCell ⟨pp26, 2, none⟩ (.int .u8 0)).frozen? ⟨w.heap.size + 1, 1, none⟩ = false ∧ (((w43.setCell ⟨pp26, 0, none⟩ (.int .u64 rh)).setCell ⟨pp26, 1, none⟩ (.int .u64 rl)).setCell ⟨pp26, 2, none⟩ (.int .u8 0)).frozen? ⟨w.heap.size + 1, 2, none⟩ = false ∧ (((w43.setCell ⟨pp26, 0, none⟩ (.int .u64 rh)).setCell ⟨pp26, 1, none⟩ (.int .u64 rl)).setCell ⟨pp26, 2, none⟩ (.int .u8 0)).cell? ⟨pp3, 0, none⟩ = some (.int .u64 xh) ∧ (((w43.setCell ⟨pp26, 0, none⟩ (.int .u64 rh)).setCell ⟨pp26, 1, none⟩ (.int .u64 rl)).setCell ⟨pp26, 2, none⟩ (.int .u8 0)).cell? ⟨pp3, 1, none⟩ = some (.int .u64 xl) ∧ (((w43.setCell ⟨pp26, 0, none⟩ (.int .u64 rh)).setCell ⟨pp26, 1, none⟩ (.int .u64 rl)).setCell ⟨pp26, 2, none⟩ (.int .u8 0)).cell? ⟨pp26, 0, none⟩ = some (.int .u64 rh) ∧ (((w43.setCell ⟨pp26, 0, none⟩ (.int .u64 rh)).setCell ⟨pp26, 1, none⟩ (.int .u64 rl)).setCell ⟨pp26, 2, none⟩ (.int .u8 0)).cell? ⟨pp26, 1, none⟩ = some (.int .u64 rl) ∧ (((w43.setCell ⟨pp26, 0, none⟩ (.int .u64 rh)).setCell ⟨pp26, 1, none⟩ (.int .u64 rl)).setCell ⟨pp26, 2, none⟩ (.int .u8 0)).cell? ⟨pp26, 2, none⟩ = some (.int .u8 0) ∧ (((w43.setCell ⟨pp26, 0, none⟩ (.int .u64 rh)).setCell ⟨pp26, 1, none⟩ (.int .u64 rl)).setCell ⟨pp26, 2, none⟩ (.int .u8 0)).frozen? ⟨pp26, 0, none⟩ = false ∧ (((w43.setCell ⟨pp26, 0, none⟩ (.int .u64 rh)).setCell ⟨pp26, 1, none⟩ (.int .u64 rl)).setCell ⟨pp26, 2, none⟩ (.int .u8 0)).frozen? ⟨pp26, 1, none⟩ = false ∧ (((w43.setCell ⟨pp26, 0, none⟩ (.int .u64 rh)).setCell ⟨pp26, 1, none⟩ (.int .u64 rl)).setCell ⟨pp26, 2, none⟩ (.int .u8 0)).frozen? ⟨pp26, 2, none⟩ = false ∧ Below w.heap.size w (((w43.setCell ⟨pp26, 0, none⟩ (.int .u64 rh)).setCell ⟨pp26, 1, none⟩ (.int .u64 rl)).setCell ⟨pp26, 2, none⟩ (.int .u8 0)) from ⟨by go_simp, by go_simp, by go_simp, by go_simp, by go_simp, by go_simp, by go_simp, by go_simp, by go_simp, by go_simp, by go_simp, by go_simp, by go_simp, by go_simp, by go_simp, by go_simp, (((kk.setCell (p := ⟨pp26, 0, none⟩) gX4 _).setCell (p := ⟨pp26, 1, none⟩) gX4 _).setCell (p := ⟨pp26, 2, none⟩) gX4 _)⟩)
  clear cX0_0 cX0_1 cX1_0 cX1_1 cX1_2 fX1_0 fX1_1 fX1_2 cX2_0 cX2_1 cX4_0 cX4_1 cX4_2 fX4_0 fX4_1 fX4_2 neX0 nfX0 neX1 nfX1 neX2 nfX2 kk
  refine forget_at (fun W => W.cell? ⟨w.heap.size, 0, none⟩ = some (.int .u64 bh) ∧ W.cell? ⟨w.heap.size, 1, none⟩ = some (.int .u64 bl) ∧ W.cell? ⟨w.heap.size + 1, 0, none⟩ = some (.int .u64 0) ∧ W.cell? ⟨w.heap.size + 1, 1, none⟩ = some (.int .u64 0) ∧ W.cell? ⟨w.heap.size + 1, 2, none⟩ = some (.int .u8 0) ∧ W.frozen? ⟨w.heap.size + 1, 0, none⟩ = false ∧ W.frozen? ⟨w.heap.size + 1, 1, none⟩ = false ∧ W.frozen? ⟨w.heap.size + 1, 2, none⟩ = false ∧ W.cell? ⟨pp3, 0, none⟩ = some (.int .u64 xh) ∧ W.cell? ⟨pp3, 1, none⟩ = some (.int .u64 xl) ∧ W.cell? ⟨pp26, 0, none⟩ = some (.int .u64 rh) ∧ W.cell? ⟨pp26, 1, none⟩ = some (.int .u64 rl) ∧ W.cell? ⟨pp26, 2, none⟩ = some (.int .u8 0) ∧ W.frozen? ⟨pp26, 0, none⟩ = false ∧ W.frozen? ⟨pp26, 1, none⟩ = false ∧ W.frozen? ⟨pp26, 2, none⟩ = false ∧ Below w.heap.size w W) KEY.out (fun w44 hz => ?_)
  obtain ⟨cX0_0, cX0_1, cX1_0, cX1_1, cX1_2, fX1_0, fX1_1, fX1_2, cX2_0, cX2_1, cX4_0, cX4_1, cX4_2, fX4_0, fX4_1, fX4_2, kk⟩ := hz
  clear KEY
  refine hK.out _ _ ⟨cX2_0, cX2_1, trivial⟩ (fun hHeld => ?_)
  clear hK K
  try simp only [List.getElem_toArray, List.getElem_cons_zero, List.getElem_cons_succ, Act.put, List.setIfInBounds_toArray, List.set_cons_zero, List.set_cons_succ]
  clear w43
  clear hHeld
  refine wpAnyH_done (by kernel_rfl) ?_ _
  refine NoPanic.normal ?_
  revert kk; revert nX2_X4; revert nX1_X4; revert nX0_X4; revert gX4; revert fX4_2; revert fX4_1; revert fX4_0; revert cX4_2; revert cX4_1; revert cX4_0; revert cX2_1; revert cX2_0; revert fX1_2; revert fX1_1; revert fX1_0; revert cX1_2; revert cX1_1; revert cX1_0; revert cX0_1; revert cX0_0; revert pp26; revert w44
  exact ?restw27
  intro w45 pp26 cX0_0 cX0_1 cX1_0 cX1_1 cX1_2 fX1_0 fX1_1 fX1_2 cX2_0 cX2_1 cX4_0 cX4_1 cX4_2 fX4_0 fX4_1 fX4_2 gX4 nX0_X4 nX1_X4 nX2_X4 kk
  have sX0 : w.heap.size < w45.heap.size := World.block_lt_of_cell? _ _ cX0_0
  have sX1 : w.heap.size + 1 < w45.heap.size ∧ w.heap.size < w45.heap.size := by have h : w.heap.size + 1 < w45.heap.size := World.block_lt_of_cell? _ _ cX1_0; exact ⟨h, by omega⟩
  clear cX2_0 cX2_1
  have sX4 : pp26 < w45.heap.size := World.block_lt_of_cell? _ _ cX4_0
  go_wp2_with fail
  (with_reducible refine (h11.out _ (ft.later kk)).mono ?_); rintro e w46 ⟨rfl, hb⟩
  clear cX0_0 cX0_1 sX0
  replace fX1_0 := frozen_later hb cX1_0 fX1_0; replace fX1_1 := frozen_later hb cX1_1 fX1_1; replace fX1_2 := frozen_later hb cX1_2 fX1_2
  replace cX1_0 := cell_later hb cX1_0; replace cX1_1 := cell_later hb cX1_1; replace cX1_2 := cell_later hb cX1_2
  replace sX1 : w.heap.size + 1 < w46.heap.size ∧ w.heap.size < w46.heap.size := by have h : w.heap.size + 1 < w46.heap.size := World.block_lt_of_cell? _ _ cX1_0; exact ⟨h, by omega⟩
  replace fX4_0 := frozen_later hb cX4_0 fX4_0; replace fX4_1 := frozen_later hb cX4_1 fX4_1; replace fX4_2 := frozen_later hb cX4_2 fX4_2
  replace cX4_0 := cell_later hb cX4_0; replace cX4_1 := cell_later hb cX4_1; replace cX4_2 := cell_later hb cX4_2
  replace sX4 : pp26 < w46.heap.size := World.block_lt_of_cell? _ _ cX4_0
  replace kk := bC kk hb
  clear hb
  have KEY : Hid (((((w46.setCell ⟨pp26, 2, none⟩ (.int .u8 1)).setCell ⟨w.heap.size + 1, 0, none⟩ (.int .u64 rh)).setCell ⟨w.heap.size + 1, 1, none⟩ (.int .u64 rl)).setCell ⟨w.heap.size + 1, 2, none⟩ (.int .u8 1)).cell? ⟨w.heap.size + 1, 0, none⟩ = some (.int .u64 rh) ∧ ((((w46.setCell ⟨pp26, 2, none⟩ (.int .u8 1)).setCell ⟨w.heap.size + 1, 0, none⟩ (.int .u64 rh)).setCell ⟨w.heap.size + 1, 1, none⟩ (.int .u64 rl)).setCell ⟨w.heap.size + 1, 2, none⟩ (.int .u8 1)).cell? ⟨w.heap.size + 1, 1, none⟩ = some (.int .u64 rl) ∧ ((((w46.setCell ⟨pp26, 2, none⟩ (.int .u8 1)).setCell ⟨w.heap.size + 1, 0, none⟩ (.int .u64 rh)).setCell ⟨w.heap.size + 1, 1, none⟩ (.int .u64 rl)).setCell ⟨w.heap.size + 1, 2, none⟩ (.int .u8 1)).cell? ⟨w.heap.size + 1, 2, none⟩ = some (.int .u8 1) ∧ Below w.heap.size w ((((w46.setCell ⟨pp26, 2, none⟩ (.int .u8 1)).setCell ⟨w.heap.size + 1, 0, none⟩ (.int .u64 rh)).setCell ⟨w.heap.size + 1, 1, none⟩ (.int .u64 rl)).setCell ⟨w.heap.size + 1, 2, none⟩ (.int .u8 1))) := Lib.hid ⟨by go_simp, by go_simp, by go_simp, ((((kk.setCell (p := ⟨pp26, 2, none⟩) gX4 _).setCell (p := ⟨w.heap.size + 1, 0, none⟩) gX1 _).setCell (p := ⟨w.heap.size + 1, 1, none⟩) gX1 _).setCell (p := ⟨w.heap.size + 1, 2, none⟩) gX1 _)⟩
  go_wp2_with fail
  obtain ⟨e0, e1, e2, kb⟩ := KEY.out
  clear KEY cX1_0 cX1_1 cX1_2 fX1_0 fX1_1 fX1_2
  refine bodyPost_ret (v := .tuple #[.agg #[.int .u64 rh, .int .u64 rl, .int .u8 1], .bool true]) ?_ rfl ⟨rfl, kb⟩
  simp [results, Tryd.results8, go_sem, e0, e1, e2]

end Go.Proofs.YthnikhhgnogibaaDoor
