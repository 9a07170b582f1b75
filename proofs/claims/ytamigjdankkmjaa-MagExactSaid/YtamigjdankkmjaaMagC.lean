/-
  Walks through package mag's functions.
-/
import Derived.Test.YtamigjdankkmjaaMag17M
import Derived.Test.YtamigjdankkmjaaGaB
import Derived.Test.YtamigjdankkmjaaGhA
import Derived.Test.YtamigjdankkmjaaGaA
set_option linter.unusedVariables false
set_option linter.unusedSimpArgs false
set_option maxRecDepth 100000
namespace Go.Proofs.Ytamigjdankkmjaa
open Go.RowKit
attribute [local go_sem ↓] Go.wp_at_zero Go.wp_at_succ

/-- A closure's variable: the operation. -/
def FitIn (w : World) (v : Value) (bk : Nat) : Prop := w.cell? ⟨bk, 0, none⟩ = some v
theorem FitIn.later {w w' : World} {v : Value} {bk : Nat} (h : FitIn w v bk) (hb : Below w.heap.size w w') : FitIn w' v bk := cell_later hb h
set_option maxHeartbeats 4000000 in
set_option maxRecDepth 100000 in
theorem mag_of (c em h l j0 j1 j2 j3 : Int) (g : Bool)
    (h0 : Hid (∀ w, Calls Try.prog 16 #[.agg #[.int .u64 h, .int .u64 l], .agg #[.int .u64 0, .int .u64 0]] w fun e w' => e = .returned (.agg #[.int .u64 j0, .int .u64 j1, .int .u64 j2, .int .u64 j3]) ∧ Below w.heap.size w w')) (w : World) :
    Calls Try.prog 15 #[.agg #[.bool g, .int .u8 c, .int .i64 em, .int .u64 h, .int .u64 l]] w fun e w' => e = .returned (.agg #[.int .i64 em, .int .u64 j0, .int .u64 j1, .int .u64 j2, .int .u64 j3]) ∧ Below w.heap.size w w' := by
  go_enter Try.func15, Try.ntmps15
  go_wp2_with fail
  have gX1 : w.heap.size ≤ w.heap.size + 1 := by omega
  refine wp_forget (fun W => W.cell? ⟨w.heap.size, 0, none⟩ = some (.bool g) ∧ W.cell? ⟨w.heap.size, 1, none⟩ = some (.int .u8 c) ∧ W.cell? ⟨w.heap.size, 2, none⟩ = some (.int .i64 em) ∧ W.cell? ⟨w.heap.size, 3, none⟩ = some (.int .u64 h) ∧ W.cell? ⟨w.heap.size, 4, none⟩ = some (.int .u64 l) ∧ W.cell? ⟨w.heap.size + 1, 0, none⟩ = some (.int .i64 0) ∧ W.cell? ⟨w.heap.size + 1, 1, none⟩ = some (.int .u64 0) ∧ W.cell? ⟨w.heap.size + 1, 2, none⟩ = some (.int .u64 0) ∧ W.cell? ⟨w.heap.size + 1, 3, none⟩ = some (.int .u64 0) ∧ W.cell? ⟨w.heap.size + 1, 4, none⟩ = some (.int .u64 0) ∧ W.frozen? ⟨w.heap.size + 1, 0, none⟩ = false ∧ W.frozen? ⟨w.heap.size + 1, 1, none⟩ = false ∧ W.frozen? ⟨w.heap.size + 1, 2, none⟩ = false ∧ W.frozen? ⟨w.heap.size + 1, 3, none⟩ = false ∧ W.frozen? ⟨w.heap.size + 1, 4, none⟩ = false ∧ Below w.heap.size w W) ⟨by go_simp, by go_simp, by go_simp, by go_simp, by go_simp, by go_simp, by go_simp, by go_simp, by go_simp, by go_simp, by go_simp, by go_simp, by go_simp, by go_simp, by go_simp, (bA (bA (Below.refl _ _) _) _)⟩ (fun w1 hst => ?_)
  obtain ⟨cX0_0, cX0_1, cX0_2, cX0_3, cX0_4, cX1_0, cX1_1, cX1_2, cX1_3, cX1_4, fX1_0, fX1_1, fX1_2, fX1_3, fX1_4, kk⟩ := hst
  have sX0 : w.heap.size < w1.heap.size := World.block_lt_of_cell? _ _ cX0_0
  have sX1 : w.heap.size + 1 < w1.heap.size ∧ w.heap.size < w1.heap.size := by have h : w.heap.size + 1 < w1.heap.size := World.block_lt_of_cell? _ _ cX1_0; exact ⟨h, by omega⟩
  refine wp_region_noPanic ?_
  refine wp_region_held_drew (S := fun w' => w'.cell? ⟨w.heap.size, 2, none⟩ = some (.int .i64 em) ∧ w'.cell? ⟨w.heap.size, 3, none⟩ = some (.int .u64 h) ∧ w'.cell? ⟨w.heap.size, 4, none⟩ = some (.int .u64 l) ∧ True) (by kernel_rfl) ⟨cell_later (Below.refl _ _).drew cX0_2, cell_later (Below.refl _ _).drew cX0_3, cell_later (Below.refl _ _).drew cX0_4, trivial⟩ (fun hHeld => ?_)
  replace cX0_0 := cell_later (Below.refl _ _).drew cX0_0; replace cX0_1 := cell_later (Below.refl _ _).drew cX0_1; replace cX0_2 := cell_later (Below.refl _ _).drew cX0_2; replace cX0_3 := cell_later (Below.refl _ _).drew cX0_3; replace cX0_4 := cell_later (Below.refl _ _).drew cX0_4
  replace fX1_0 := frozen_later (Below.refl _ _).drew cX1_0 fX1_0; replace fX1_1 := frozen_later (Below.refl _ _).drew cX1_1 fX1_1; replace fX1_2 := frozen_later (Below.refl _ _).drew cX1_2 fX1_2; replace fX1_3 := frozen_later (Below.refl _ _).drew cX1_3 fX1_3; replace fX1_4 := frozen_later (Below.refl _ _).drew cX1_4 fX1_4
  replace cX1_0 := cell_later (Below.refl _ _).drew cX1_0; replace cX1_1 := cell_later (Below.refl _ _).drew cX1_1; replace cX1_2 := cell_later (Below.refl _ _).drew cX1_2; replace cX1_3 := cell_later (Below.refl _ _).drew cX1_3; replace cX1_4 := cell_later (Below.refl _ _).drew cX1_4
  replace kk := bC kk (Below.refl _ _).drew
  refine wpAnyH_take (i := 0) (v := ?vq1) rfl (by kernel_rfl) (by kernel_rfl) (by kernel_rfl) (fun _ _ _ h => h) (Or.inl ⟨by rfl, ?yq1⟩) hHeld ?rq1
  case yq1 => (intro wq hb; obtain ⟨lq0, lq1, lq2, _⟩ := hb; go_simp; try (with_reducible rfl))
  try simp only [List.getElem_toArray, List.getElem_cons_zero, List.getElem_cons_succ, Act.put, List.setIfInBounds_toArray, List.set_cons_zero, List.set_cons_succ]
  refine wpAnyH_take (i := 1) (v := ?vq2) rfl (by kernel_rfl) (by kernel_rfl) (by kernel_rfl) (fun _ _ _ h => h) (Or.inl ⟨by rfl, ?yq2⟩) hHeld ?rq2
  case yq2 => (intro wq hb; obtain ⟨lq0, lq1, lq2, _⟩ := hb; go_simp; try (with_reducible rfl))
  try simp only [List.getElem_toArray, List.getElem_cons_zero, List.getElem_cons_succ, Act.put, List.setIfInBounds_toArray, List.set_cons_zero, List.set_cons_succ]
  refine wpAnyH_take (i := 2) (v := ?vq3) rfl (by kernel_rfl) (by kernel_rfl) (by kernel_rfl) (fun _ _ _ h => h) (Or.inl ⟨by rfl, ?yq3⟩) hHeld ?rq3
  case yq3 => (intro wq hb; obtain ⟨lq0, lq1, lq2, _⟩ := hb; go_simp; try (with_reducible rfl))
  try simp only [List.getElem_toArray, List.getElem_cons_zero, List.getElem_cons_succ, Act.put, List.setIfInBounds_toArray, List.set_cons_zero, List.set_cons_succ]
  refine wpAnyH_take (i := 3) (v := ?vq4) rfl (by kernel_rfl) (by kernel_rfl) (by kernel_rfl) (fun _ _ _ h => h) (Or.inl ⟨by rfl, ?yq4⟩) hHeld ?rq4
  case yq4 => (intro wq hb; obtain ⟨lq0, lq1, lq2, _⟩ := hb; go_simp; try (with_reducible rfl))
  try simp only [List.getElem_toArray, List.getElem_cons_zero, List.getElem_cons_succ, Act.put, List.setIfInBounds_toArray, List.set_cons_zero, List.set_cons_succ]
  refine wpAnyH_take (i := 4) (v := ?vq5) rfl (by kernel_rfl) (by kernel_rfl) (by kernel_rfl) (fun _ _ _ h => h) (Or.inl ⟨by rfl, ?yq5⟩) hHeld ?rq5
  case yq5 => (intro wq hb; obtain ⟨lq0, lq1, lq2, _⟩ := hb; go_simp; try (with_reducible rfl))
  try simp only [List.getElem_toArray, List.getElem_cons_zero, List.getElem_cons_succ, Act.put, List.setIfInBounds_toArray, List.set_cons_zero, List.set_cons_succ]
  clear hHeld
  refine wpAnyH_ready (rs := [5]) (by kernel_rfl) (by simp) ?_
  refine AllReadyH.cons rfl (fun K hK => ?_) AllReadyH.nil
  go_simp
  (with_reducible refine (h0.out _).mono ?_); rintro e w2 ⟨rfl, hb⟩
  replace cX0_0 := cell_later hb cX0_0; replace cX0_1 := cell_later hb cX0_1; replace cX0_2 := cell_later hb cX0_2; replace cX0_3 := cell_later hb cX0_3; replace cX0_4 := cell_later hb cX0_4
  replace fX1_0 := frozen_later hb cX1_0 fX1_0; replace fX1_1 := frozen_later hb cX1_1 fX1_1; replace fX1_2 := frozen_later hb cX1_2 fX1_2; replace fX1_3 := frozen_later hb cX1_3 fX1_3; replace fX1_4 := frozen_later hb cX1_4 fX1_4
  replace cX1_0 := cell_later hb cX1_0; replace cX1_1 := cell_later hb cX1_1; replace cX1_2 := cell_later hb cX1_2; replace cX1_3 := cell_later hb cX1_3; replace cX1_4 := cell_later hb cX1_4
  replace kk := bC kk hb
  clear hb
  refine hK.out _ _ ⟨cX0_2, cX0_3, cX0_4, trivial⟩ (fun hHeld => ?_)
  clear hK K
  try simp only [List.getElem_toArray, List.getElem_cons_zero, List.getElem_cons_succ, Act.put, List.setIfInBounds_toArray, List.set_cons_zero, List.set_cons_succ]
  refine wpAnyH_take (i := 6) (v := ?vq6) rfl (by kernel_rfl) (by kernel_rfl) (by kernel_rfl) (fun _ _ _ h => h) (Or.inl ⟨by rfl, ?yq6⟩) hHeld ?rq6
  case yq6 => (intro wq hb; obtain ⟨lq0, lq1, lq2, _⟩ := hb; go_simp; try (with_reducible rfl))
  try simp only [List.getElem_toArray, List.getElem_cons_zero, List.getElem_cons_succ, Act.put, List.setIfInBounds_toArray, List.set_cons_zero, List.set_cons_succ]
  clear hHeld
  refine wpAnyH_ready (rs := [7]) (by kernel_rfl) (by simp) ?_
  refine AllReadyH.cons rfl (fun K hK => ?_) AllReadyH.nil
  go_simp
  have neX0 : ¬ (w.heap.size + 1 = w.heap.size) := by omega
  have nfX0 : ¬ (w.heap.size = w.heap.size + 1) := by omega
  have KEY := Lib.hid (show (fun W => W.cell? ⟨w.heap.size, 0, none⟩ = some (.bool g) ∧ W.cell? ⟨w.heap.size, 1, none⟩ = some (.int .u8 c) ∧ W.cell? ⟨w.heap.size, 2, none⟩ = some (.int .i64 em) ∧ W.cell? ⟨w.heap.size, 3, none⟩ = some (.int .u64 h) ∧ W.cell? ⟨w.heap.size, 4, none⟩ = some (.int .u64 l) ∧ W.cell? ⟨w.heap.size + 1, 0, none⟩ = some (.int .i64 em) ∧ W.cell? ⟨w.heap.size + 1, 1, none⟩ = some (.int .u64 j0) ∧ W.cell? ⟨w.heap.size + 1, 2, none⟩ = some (.int .u64 j1) ∧ W.cell? ⟨w.heap.size + 1, 3, none⟩ = some (.int .u64 j2) ∧ W.cell? ⟨w.heap.size + 1, 4, none⟩ = some (.int .u64 j3) ∧ W.frozen? ⟨w.heap.size + 1, 0, none⟩ = false ∧ W.frozen? ⟨w.heap.size + 1, 1, none⟩ = false ∧ W.frozen? ⟨w.heap.size + 1, 2, none⟩ = false ∧ W.frozen? ⟨w.heap.size + 1, 3, none⟩ = false ∧ W.frozen? ⟨w.heap.size + 1, 4, none⟩ = false ∧ Below w.heap.size w W) (((((w2.setCell ⟨w.heap.size + 1, 0, none⟩ (.int .i64 em)).setCell ⟨w.heap.size + 1, 1, none⟩ (.int .u64 j0)).setCell ⟨w.heap.size + 1, 2, none⟩ (.int .u64 j1)).setCell ⟨w.heap.size + 1, 3, none⟩ (.int .u64 j2)).setCell ⟨w.heap.size + 1, 4, none⟩ (.int .u64 j3)) from ⟨by go_simp, by go_simp, by go_simp, by go_simp, by go_simp, by go_simp, by go_simp, by go_simp, by go_simp, by go_simp, by go_simp, by go_simp, by go_simp, by go_simp, by go_simp, (((((kk.setCell (p := ⟨w.heap.size + 1, 0, none⟩) gX1 _).setCell (p := ⟨w.heap.size + 1, 1, none⟩) gX1 _).setCell (p := ⟨w.heap.size + 1, 2, none⟩) gX1 _).setCell (p := ⟨w.heap.size + 1, 3, none⟩) gX1 _).setCell (p := ⟨w.heap.size + 1, 4, none⟩) gX1 _)⟩)
  clear cX0_0 cX0_1 cX0_2 cX0_3 cX0_4 cX1_0 cX1_1 cX1_2 cX1_3 cX1_4 fX1_0 fX1_1 fX1_2 fX1_3 fX1_4 neX0 nfX0 kk
  refine forget_at (fun W => W.cell? ⟨w.heap.size, 0, none⟩ = some (.bool g) ∧ W.cell? ⟨w.heap.size, 1, none⟩ = some (.int .u8 c) ∧ W.cell? ⟨w.heap.size, 2, none⟩ = some (.int .i64 em) ∧ W.cell? ⟨w.heap.size, 3, none⟩ = some (.int .u64 h) ∧ W.cell? ⟨w.heap.size, 4, none⟩ = some (.int .u64 l) ∧ W.cell? ⟨w.heap.size + 1, 0, none⟩ = some (.int .i64 em) ∧ W.cell? ⟨w.heap.size + 1, 1, none⟩ = some (.int .u64 j0) ∧ W.cell? ⟨w.heap.size + 1, 2, none⟩ = some (.int .u64 j1) ∧ W.cell? ⟨w.heap.size + 1, 3, none⟩ = some (.int .u64 j2) ∧ W.cell? ⟨w.heap.size + 1, 4, none⟩ = some (.int .u64 j3) ∧ W.frozen? ⟨w.heap.size + 1, 0, none⟩ = false ∧ W.frozen? ⟨w.heap.size + 1, 1, none⟩ = false ∧ W.frozen? ⟨w.heap.size + 1, 2, none⟩ = false ∧ W.frozen? ⟨w.heap.size + 1, 3, none⟩ = false ∧ W.frozen? ⟨w.heap.size + 1, 4, none⟩ = false ∧ Below w.heap.size w W) KEY.out (fun w3 hz => ?_)
  obtain ⟨cX0_0, cX0_1, cX0_2, cX0_3, cX0_4, cX1_0, cX1_1, cX1_2, cX1_3, cX1_4, fX1_0, fX1_1, fX1_2, fX1_3, fX1_4, kk⟩ := hz
  clear KEY
  refine hK.out _ _ ⟨cX0_2, cX0_3, cX0_4, trivial⟩ (fun hHeld => ?_)
  clear hK K
  try simp only [List.getElem_toArray, List.getElem_cons_zero, List.getElem_cons_succ, Act.put, List.setIfInBounds_toArray, List.set_cons_zero, List.set_cons_succ]
  clear hHeld
  refine wpAnyH_done (by kernel_rfl) ?_ _
  refine NoPanic.normal ?_
  clear cX0_0 cX0_1 cX0_2 cX0_3 cX0_4 sX0
  replace sX1 : w.heap.size + 1 < w3.heap.size ∧ w.heap.size < w3.heap.size := by have h : w.heap.size + 1 < w3.heap.size := World.block_lt_of_cell? _ _ cX1_0; exact ⟨h, by omega⟩
  go_wp2_with fail
  refine bodyPost_ret (v := .agg #[.int .i64 em, .int .u64 j0, .int .u64 j1, .int .u64 j2, .int .u64 j3]) ?_ rfl ⟨rfl, kk⟩
  simp [results, Try.results15, go_sem, cX1_0, cX1_1, cX1_2, cX1_3, cX1_4]

set_option maxHeartbeats 4000000 in
set_option maxRecDepth 100000 in
theorem mag_exponent (ea ca cb x0 x1 x2 x3 : Int)
     (q1 : (if (-1099511627776) > ea then (-1099511627776) else ea) = ca) (q1' : (if ea < (-1099511627776) then (-1099511627776) else ea) = ca) (q2 : (if 1099511627776 < ca then 1099511627776 else ca) = cb) (q2' : (if ca > 1099511627776 then 1099511627776 else ca) = cb) (w : World) :
    Calls Try.prog 35 #[.agg #[.int .i64 ea, .int .u64 x0, .int .u64 x1, .int .u64 x2, .int .u64 x3]] w fun e w' => e = .returned (.int .i64 cb) ∧ Below w.heap.size w w' := by
  go_enter Try.func35, Try.ntmps35
  go_wp2_with fail
  go_ret
  exact ⟨rfl, (bA (Below.refl _ _) _)⟩

set_option maxHeartbeats 4000000 in
set_option maxRecDepth 100000 in
theorem mag_aligned (ea l ca d x0 x1 x2 x3 j0 j1 j2 j3 : Int)
    (h0 : Hid (∀ w, Calls Try.prog 35 #[.agg #[.int .i64 ea, .int .u64 x0, .int .u64 x1, .int .u64 x2, .int .u64 x3]] w fun e w' => e = .returned (.int .i64 ca) ∧ Below w.heap.size w w'))
    (h1 : Hid (∀ w, Calls Try.prog 62 #[.agg #[.int .u64 x0, .int .u64 x1, .int .u64 x2, .int .u64 x3], .int .i64 d] w fun e w' => e = .returned (.agg #[.int .u64 j0, .int .u64 j1, .int .u64 j2, .int .u64 j3]) ∧ Below w.heap.size w w')) (w1 : IntKind.i64.wrap (l - ca) = d) (w : World) :
    Calls Try.prog 49 #[.agg #[.int .i64 ea, .int .u64 x0, .int .u64 x1, .int .u64 x2, .int .u64 x3], .int .i64 l] w fun e w' => e = .returned (.agg #[.int .u64 j0, .int .u64 j1, .int .u64 j2, .int .u64 j3]) ∧ Below w.heap.size w w' := by
  go_enter Try.func49, Try.ntmps49
  go_wp2_with fail
  have gX1 : w.heap.size ≤ w.heap.size + 1 := by omega
  refine wp_forget (fun W => W.cell? ⟨w.heap.size, 0, none⟩ = some (.int .i64 ea) ∧ W.cell? ⟨w.heap.size, 1, none⟩ = some (.int .u64 x0) ∧ W.cell? ⟨w.heap.size, 2, none⟩ = some (.int .u64 x1) ∧ W.cell? ⟨w.heap.size, 3, none⟩ = some (.int .u64 x2) ∧ W.cell? ⟨w.heap.size, 4, none⟩ = some (.int .u64 x3) ∧ W.cell? ⟨w.heap.size + 1, 0, none⟩ = some (.int .u64 0) ∧ W.cell? ⟨w.heap.size + 1, 1, none⟩ = some (.int .u64 0) ∧ W.cell? ⟨w.heap.size + 1, 2, none⟩ = some (.int .u64 0) ∧ W.cell? ⟨w.heap.size + 1, 3, none⟩ = some (.int .u64 0) ∧ W.frozen? ⟨w.heap.size + 1, 0, none⟩ = false ∧ W.frozen? ⟨w.heap.size + 1, 1, none⟩ = false ∧ W.frozen? ⟨w.heap.size + 1, 2, none⟩ = false ∧ W.frozen? ⟨w.heap.size + 1, 3, none⟩ = false ∧ Below w.heap.size w W) ⟨by go_simp, by go_simp, by go_simp, by go_simp, by go_simp, by go_simp, by go_simp, by go_simp, by go_simp, by go_simp, by go_simp, by go_simp, by go_simp, (bA (bA (Below.refl _ _) _) _)⟩ (fun w1 hst => ?_)
  obtain ⟨cX0_0, cX0_1, cX0_2, cX0_3, cX0_4, cX1_0, cX1_1, cX1_2, cX1_3, fX1_0, fX1_1, fX1_2, fX1_3, kk⟩ := hst
  have sX0 : w.heap.size < w1.heap.size := World.block_lt_of_cell? _ _ cX0_0
  have sX1 : w.heap.size + 1 < w1.heap.size ∧ w.heap.size < w1.heap.size := by have h : w.heap.size + 1 < w1.heap.size := World.block_lt_of_cell? _ _ cX1_0; exact ⟨h, by omega⟩
  refine wp_region_noPanic ?_
  refine wp_region_held_drew (S := fun w' => w'.cell? ⟨w.heap.size, 1, none⟩ = some (.int .u64 x0) ∧ w'.cell? ⟨w.heap.size, 2, none⟩ = some (.int .u64 x1) ∧ w'.cell? ⟨w.heap.size, 3, none⟩ = some (.int .u64 x2) ∧ w'.cell? ⟨w.heap.size, 4, none⟩ = some (.int .u64 x3) ∧ w'.cell? ⟨w.heap.size, 0, none⟩ = some (.int .i64 ea) ∧ True) (by kernel_rfl) ⟨cell_later (Below.refl _ _).drew cX0_1, cell_later (Below.refl _ _).drew cX0_2, cell_later (Below.refl _ _).drew cX0_3, cell_later (Below.refl _ _).drew cX0_4, cell_later (Below.refl _ _).drew cX0_0, trivial⟩ (fun hHeld => ?_)
  replace cX0_0 := cell_later (Below.refl _ _).drew cX0_0; replace cX0_1 := cell_later (Below.refl _ _).drew cX0_1; replace cX0_2 := cell_later (Below.refl _ _).drew cX0_2; replace cX0_3 := cell_later (Below.refl _ _).drew cX0_3; replace cX0_4 := cell_later (Below.refl _ _).drew cX0_4
  replace fX1_0 := frozen_later (Below.refl _ _).drew cX1_0 fX1_0; replace fX1_1 := frozen_later (Below.refl _ _).drew cX1_1 fX1_1; replace fX1_2 := frozen_later (Below.refl _ _).drew cX1_2 fX1_2; replace fX1_3 := frozen_later (Below.refl _ _).drew cX1_3 fX1_3
  replace cX1_0 := cell_later (Below.refl _ _).drew cX1_0; replace cX1_1 := cell_later (Below.refl _ _).drew cX1_1; replace cX1_2 := cell_later (Below.refl _ _).drew cX1_2; replace cX1_3 := cell_later (Below.refl _ _).drew cX1_3
  replace kk := bC kk (Below.refl _ _).drew
  refine wpAnyH_take (i := 0) (v := ?vq7) rfl (by kernel_rfl) (by kernel_rfl) (by kernel_rfl) (fun _ _ _ h => h) (Or.inl ⟨by rfl, ?yq7⟩) hHeld ?rq7
  case yq7 => (intro wq hb; obtain ⟨lq0, lq1, lq2, lq3, lq4, _⟩ := hb; go_simp; try (with_reducible rfl))
  try simp only [List.getElem_toArray, List.getElem_cons_zero, List.getElem_cons_succ, Act.put, List.setIfInBounds_toArray, List.set_cons_zero, List.set_cons_succ]
  refine wpAnyH_take (i := 1) (v := ?vq8) rfl (by kernel_rfl) (by kernel_rfl) (by kernel_rfl) (fun _ _ _ h => h) (Or.inl ⟨by rfl, ?yq8⟩) hHeld ?rq8
  case yq8 => (intro wq hb; obtain ⟨lq0, lq1, lq2, lq3, lq4, _⟩ := hb; go_simp; try (with_reducible rfl))
  try simp only [List.getElem_toArray, List.getElem_cons_zero, List.getElem_cons_succ, Act.put, List.setIfInBounds_toArray, List.set_cons_zero, List.set_cons_succ]
  refine wpAnyH_take (i := 2) (v := ?vq9) rfl (by kernel_rfl) (by kernel_rfl) (by kernel_rfl) (fun _ _ _ h => h) (Or.inl ⟨by rfl, ?yq9⟩) hHeld ?rq9
  case yq9 => (intro wq hb; obtain ⟨lq0, lq1, lq2, lq3, lq4, _⟩ := hb; go_simp; try (with_reducible rfl))
  try simp only [List.getElem_toArray, List.getElem_cons_zero, List.getElem_cons_succ, Act.put, List.setIfInBounds_toArray, List.set_cons_zero, List.set_cons_succ]
  refine wpAnyH_take (i := 3) (v := ?vq10) rfl (by kernel_rfl) (by kernel_rfl) (by kernel_rfl) (fun _ _ _ h => h) (Or.inl ⟨by rfl, ?yq10⟩) hHeld ?rq10
  case yq10 => (intro wq hb; obtain ⟨lq0, lq1, lq2, lq3, lq4, _⟩ := hb; go_simp; try (with_reducible rfl))
  try simp only [List.getElem_toArray, List.getElem_cons_zero, List.getElem_cons_succ, Act.put, List.setIfInBounds_toArray, List.set_cons_zero, List.set_cons_succ]
  clear hHeld
  refine wpAnyH_ready (rs := [4]) (by kernel_rfl) (by simp) ?_
  refine AllReadyH.cons rfl (fun K hK => ?_) AllReadyH.nil
  go_simp
  (with_reducible refine (h0.out _).mono ?_); rintro e w2 ⟨rfl, hb⟩
  replace cX0_0 := cell_later hb cX0_0; replace cX0_1 := cell_later hb cX0_1; replace cX0_2 := cell_later hb cX0_2; replace cX0_3 := cell_later hb cX0_3; replace cX0_4 := cell_later hb cX0_4
  replace fX1_0 := frozen_later hb cX1_0 fX1_0; replace fX1_1 := frozen_later hb cX1_1 fX1_1; replace fX1_2 := frozen_later hb cX1_2 fX1_2; replace fX1_3 := frozen_later hb cX1_3 fX1_3
  replace cX1_0 := cell_later hb cX1_0; replace cX1_1 := cell_later hb cX1_1; replace cX1_2 := cell_later hb cX1_2; replace cX1_3 := cell_later hb cX1_3
  replace kk := bC kk hb
  clear hb
  refine hK.out _ _ ⟨cX0_1, cX0_2, cX0_3, cX0_4, cX0_0, trivial⟩ (fun hHeld => ?_)
  clear hK K
  try simp only [List.getElem_toArray, List.getElem_cons_zero, List.getElem_cons_succ, Act.put, List.setIfInBounds_toArray, List.set_cons_zero, List.set_cons_succ]
  refine wpAnyH_take (i := 5) (v := ?vq11) rfl (by kernel_rfl) (by kernel_rfl) (by kernel_rfl) (fun _ _ _ h => h) (Or.inl ⟨by rfl, ?yq11⟩) hHeld ?rq11
  case yq11 => (intro wq hb; obtain ⟨lq0, lq1, lq2, lq3, lq4, _⟩ := hb; go_simp; try (with_reducible rfl))
  try simp only [List.getElem_toArray, List.getElem_cons_zero, List.getElem_cons_succ, Act.put, List.setIfInBounds_toArray, List.set_cons_zero, List.set_cons_succ]
  clear hHeld
  refine wpAnyH_ready (rs := [6]) (by kernel_rfl) (by simp) ?_
  refine AllReadyH.cons rfl (fun K hK => ?_) AllReadyH.nil
  go_simp
  (with_reducible refine (h1.out _).mono ?_); rintro e w3 ⟨rfl, hb⟩
  replace cX0_0 := cell_later hb cX0_0; replace cX0_1 := cell_later hb cX0_1; replace cX0_2 := cell_later hb cX0_2; replace cX0_3 := cell_later hb cX0_3; replace cX0_4 := cell_later hb cX0_4
  replace fX1_0 := frozen_later hb cX1_0 fX1_0; replace fX1_1 := frozen_later hb cX1_1 fX1_1; replace fX1_2 := frozen_later hb cX1_2 fX1_2; replace fX1_3 := frozen_later hb cX1_3 fX1_3
  replace cX1_0 := cell_later hb cX1_0; replace cX1_1 := cell_later hb cX1_1; replace cX1_2 := cell_later hb cX1_2; replace cX1_3 := cell_later hb cX1_3
  replace kk := bC kk hb
  clear hb
  refine hK.out _ _ ⟨cX0_1, cX0_2, cX0_3, cX0_4, cX0_0, trivial⟩ (fun hHeld => ?_)
  clear hK K
  try simp only [List.getElem_toArray, List.getElem_cons_zero, List.getElem_cons_succ, Act.put, List.setIfInBounds_toArray, List.set_cons_zero, List.set_cons_succ]
  clear hHeld
  refine wpAnyH_ready (rs := [7]) (by kernel_rfl) (by simp) ?_
  refine AllReadyH.cons rfl (fun K hK => ?_) AllReadyH.nil
  go_simp
  have neX0 : ¬ (w.heap.size + 1 = w.heap.size) := by omega
  have nfX0 : ¬ (w.heap.size = w.heap.size + 1) := by omega
  have KEY := Lib.hid (show (fun W => W.cell? ⟨w.heap.size, 0, none⟩ = some (.int .i64 ea) ∧ W.cell? ⟨w.heap.size, 1, none⟩ = some (.int .u64 x0) ∧ W.cell? ⟨w.heap.size, 2, none⟩ = some (.int .u64 x1) ∧ W.cell? ⟨w.heap.size, 3, none⟩ = some (.int .u64 x2) ∧ W.cell? ⟨w.heap.size, 4, none⟩ = some (.int .u64 x3) ∧ W.cell? ⟨w.heap.size + 1, 0, none⟩ = some (.int .u64 j0) ∧ W.cell? ⟨w.heap.size + 1, 1, none⟩ = some (.int .u64 j1) ∧ W.cell? ⟨w.heap.size + 1, 2, none⟩ = some (.int .u64 j2) ∧ W.cell? ⟨w.heap.size + 1, 3, none⟩ = some (.int .u64 j3) ∧ W.frozen? ⟨w.heap.size + 1, 0, none⟩ = false ∧ W.frozen? ⟨w.heap.size + 1, 1, none⟩ = false ∧ W.frozen? ⟨w.heap.size + 1, 2, none⟩ = false ∧ W.frozen? ⟨w.heap.size + 1, 3, none⟩ = false ∧ Below w.heap.size w W) ((((w3.setCell ⟨w.heap.size + 1, 0, none⟩ (.int .u64 j0)).setCell ⟨w.heap.size + 1, 1, none⟩ (.int .u64 j1)).setCell ⟨w.heap.size + 1, 2, none⟩ (.int .u64 j2)).setCell ⟨w.heap.size + 1, 3, none⟩ (.int .u64 j3)) from ⟨by go_simp, by go_simp, by go_simp, by go_simp, by go_simp, by go_simp, by go_simp, by go_simp, by go_simp, by go_simp, by go_simp, by go_simp, by go_simp, ((((kk.setCell (p := ⟨w.heap.size + 1, 0, none⟩) gX1 _).setCell (p := ⟨w.heap.size + 1, 1, none⟩) gX1 _).setCell (p := ⟨w.heap.size + 1, 2, none⟩) gX1 _).setCell (p := ⟨w.heap.size + 1, 3, none⟩) gX1 _)⟩)
  clear cX0_0 cX0_1 cX0_2 cX0_3 cX0_4 cX1_0 cX1_1 cX1_2 cX1_3 fX1_0 fX1_1 fX1_2 fX1_3 neX0 nfX0 kk
  refine forget_at (fun W => W.cell? ⟨w.heap.size, 0, none⟩ = some (.int .i64 ea) ∧ W.cell? ⟨w.heap.size, 1, none⟩ = some (.int .u64 x0) ∧ W.cell? ⟨w.heap.size, 2, none⟩ = some (.int .u64 x1) ∧ W.cell? ⟨w.heap.size, 3, none⟩ = some (.int .u64 x2) ∧ W.cell? ⟨w.heap.size, 4, none⟩ = some (.int .u64 x3) ∧ W.cell? ⟨w.heap.size + 1, 0, none⟩ = some (.int .u64 j0) ∧ W.cell? ⟨w.heap.size + 1, 1, none⟩ = some (.int .u64 j1) ∧ W.cell? ⟨w.heap.size + 1, 2, none⟩ = some (.int .u64 j2) ∧ W.cell? ⟨w.heap.size + 1, 3, none⟩ = some (.int .u64 j3) ∧ W.frozen? ⟨w.heap.size + 1, 0, none⟩ = false ∧ W.frozen? ⟨w.heap.size + 1, 1, none⟩ = false ∧ W.frozen? ⟨w.heap.size + 1, 2, none⟩ = false ∧ W.frozen? ⟨w.heap.size + 1, 3, none⟩ = false ∧ Below w.heap.size w W) KEY.out (fun w4 hz => ?_)
  obtain ⟨cX0_0, cX0_1, cX0_2, cX0_3, cX0_4, cX1_0, cX1_1, cX1_2, cX1_3, fX1_0, fX1_1, fX1_2, fX1_3, kk⟩ := hz
  clear KEY
  refine hK.out _ _ ⟨cX0_1, cX0_2, cX0_3, cX0_4, cX0_0, trivial⟩ (fun hHeld => ?_)
  clear hK K
  try simp only [List.getElem_toArray, List.getElem_cons_zero, List.getElem_cons_succ, Act.put, List.setIfInBounds_toArray, List.set_cons_zero, List.set_cons_succ]
  clear hHeld
  refine wpAnyH_done (by kernel_rfl) ?_ _
  refine NoPanic.normal ?_
  clear cX0_0 cX0_1 cX0_2 cX0_3 cX0_4 sX0
  replace sX1 : w.heap.size + 1 < w4.heap.size ∧ w.heap.size < w4.heap.size := by have h : w.heap.size + 1 < w4.heap.size := World.block_lt_of_cell? _ _ cX1_0; exact ⟨h, by omega⟩
  go_wp2_with fail
  refine bodyPost_ret (v := .agg #[.int .u64 j0, .int .u64 j1, .int .u64 j2, .int .u64 j3]) ?_ rfl ⟨rfl, kk⟩
  simp [results, Try.results49, go_sem, cX1_0, cX1_1, cX1_2, cX1_3]

set_option maxHeartbeats 4000000 in
set_option maxRecDepth 100000 in
theorem mag_cmp_lt (ea eb ca cb d r s x0 x1 x2 x3 y0 y1 y2 y3 : Int)
    (h0 : Hid (∀ w, Calls Try.prog 35 #[.agg #[.int .i64 ea, .int .u64 x0, .int .u64 x1, .int .u64 x2, .int .u64 x3]] w fun e w' => e = .returned (.int .i64 ca) ∧ Below w.heap.size w w'))
    (h1 : Hid (∀ w, Calls Try.prog 35 #[.agg #[.int .i64 eb, .int .u64 y0, .int .u64 y1, .int .u64 y2, .int .u64 y3]] w fun e w' => e = .returned (.int .i64 cb) ∧ Below w.heap.size w w'))
    (h2 : Hid (∀ w, Calls Try.prog 13 #[.agg #[.int .i64 eb, .int .u64 y0, .int .u64 y1, .int .u64 y2, .int .u64 y3], .agg #[.int .i64 ea, .int .u64 x0, .int .u64 x1, .int .u64 x2, .int .u64 x3]] w fun e w' => e = .returned (.int .i64 r) ∧ Below w.heap.size w w')) (w1 : IntKind.i64.wrap (ca - cb) = d) (g1 : decide (d < 0) = true) (w2 : IntKind.i64.wrap (-r) = s) (w2x : wrap64 (-r) = s) (w : World) :
    Calls Try.prog 13 #[.agg #[.int .i64 ea, .int .u64 x0, .int .u64 x1, .int .u64 x2, .int .u64 x3], .agg #[.int .i64 eb, .int .u64 y0, .int .u64 y1, .int .u64 y2, .int .u64 y3]] w fun e w' => e = .returned (.int .i64 s) ∧ Below w.heap.size w w' := by
  go_enter Try.func13, Try.ntmps13
  go_wp2_with fail
  refine wp_forget (fun W => W.cell? ⟨w.heap.size, 0, none⟩ = some (.int .i64 ea) ∧ W.cell? ⟨w.heap.size, 1, none⟩ = some (.int .u64 x0) ∧ W.cell? ⟨w.heap.size, 2, none⟩ = some (.int .u64 x1) ∧ W.cell? ⟨w.heap.size, 3, none⟩ = some (.int .u64 x2) ∧ W.cell? ⟨w.heap.size, 4, none⟩ = some (.int .u64 x3) ∧ W.cell? ⟨w.heap.size + 1, 0, none⟩ = some (.int .i64 eb) ∧ W.cell? ⟨w.heap.size + 1, 1, none⟩ = some (.int .u64 y0) ∧ W.cell? ⟨w.heap.size + 1, 2, none⟩ = some (.int .u64 y1) ∧ W.cell? ⟨w.heap.size + 1, 3, none⟩ = some (.int .u64 y2) ∧ W.cell? ⟨w.heap.size + 1, 4, none⟩ = some (.int .u64 y3) ∧ Below w.heap.size w W) ⟨by go_simp, by go_simp, by go_simp, by go_simp, by go_simp, by go_simp, by go_simp, by go_simp, by go_simp, by go_simp, (bA (bA (Below.refl _ _) _) _)⟩ (fun w1 hst => ?_)
  obtain ⟨cX0_0, cX0_1, cX0_2, cX0_3, cX0_4, cX1_0, cX1_1, cX1_2, cX1_3, cX1_4, kk⟩ := hst
  have sX0 : w.heap.size < w1.heap.size := World.block_lt_of_cell? _ _ cX0_0
  have sX1 : w.heap.size + 1 < w1.heap.size ∧ w.heap.size < w1.heap.size := by have h : w.heap.size + 1 < w1.heap.size := World.block_lt_of_cell? _ _ cX1_0; exact ⟨h, by omega⟩
  refine wp_region_noPanic ?_
  refine wp_region_F [] [] (LS w1 (fun _ _ => True) (fun _ _ _ => True)) (by kernel_rfl) (bs := []) (vs := []) (by kernel_rfl) rfl (LS.before noBits_nil (Below.refl _ _).drew trivial) ?_
  refine wpF_take (i := 0) (v := ?vq12) rfl (by kernel_rfl) (by kernel_rfl) (fun _ _ _ h => h) (LS.load (by rfl) ?yq12) ?rq12
  case yq12 => (intro wq hb; have lcX0_0 := cell_later hb cX0_0; have lcX0_1 := cell_later hb cX0_1; have lcX0_2 := cell_later hb cX0_2; have lcX0_3 := cell_later hb cX0_3; have lcX0_4 := cell_later hb cX0_4; go_simp; try (with_reducible rfl))
  try simp only [List.getElem_toArray, List.getElem_cons_zero, List.getElem_cons_succ, Act.put, List.setIfInBounds_toArray, List.set_cons_zero, List.set_cons_succ]
  refine wpF_take (i := 1) (v := _) rfl (by kernel_rfl) (by kernel_rfl) (fun _ _ _ h => h) (LS.call lasts_true (by rfl) _ _ ?yq13 (h0.out)) ?rq13
  case yq13 => (intro wq; go_simp; try (with_reducible rfl))
  try simp only [List.getElem_toArray, List.getElem_cons_zero, List.getElem_cons_succ, Act.put, List.setIfInBounds_toArray, List.set_cons_zero, List.set_cons_succ]
  refine wpF_take (i := 2) (v := ?vq14) rfl (by kernel_rfl) (by kernel_rfl) (fun _ _ _ h => h) (LS.load (by rfl) ?yq14) ?rq14
  case yq14 => (intro wq hb; have lcX1_0 := cell_later hb cX1_0; have lcX1_1 := cell_later hb cX1_1; have lcX1_2 := cell_later hb cX1_2; have lcX1_3 := cell_later hb cX1_3; have lcX1_4 := cell_later hb cX1_4; go_simp; try (with_reducible rfl))
  try simp only [List.getElem_toArray, List.getElem_cons_zero, List.getElem_cons_succ, Act.put, List.setIfInBounds_toArray, List.set_cons_zero, List.set_cons_succ]
  refine wpF_take (i := 3) (v := _) rfl (by kernel_rfl) (by kernel_rfl) (fun _ _ _ h => h) (LS.call lasts_true (by rfl) _ _ ?yq15 (h1.out)) ?rq15
  case yq15 => (intro wq; go_simp; try (with_reducible rfl))
  try simp only [List.getElem_toArray, List.getElem_cons_zero, List.getElem_cons_succ, Act.put, List.setIfInBounds_toArray, List.set_cons_zero, List.set_cons_succ]
  refine wpF_yield (i := 4) (v := ?vq16) rfl (by kernel_rfl) (by kernel_rfl) (fun _ _ _ h => h) (Or.inl ⟨by rfl, ?yq16⟩) ?rq16
  case yq16 => (intro wq; go_simp; try (with_reducible rfl))
  try simp only [List.getElem_toArray, List.getElem_cons_zero, List.getElem_cons_succ, Act.put, List.setIfInBounds_toArray, List.set_cons_zero, List.set_cons_succ]
  refine wpF_yield (i := 5) (v := ?vq17) rfl (by kernel_rfl) (by kernel_rfl) (fun _ _ _ h => h) (Or.inl ⟨by rfl, ?yq17⟩) ?rq17
  case yq17 => (intro wq; go_simp; try (with_reducible rfl))
  try simp only [List.getElem_toArray, List.getElem_cons_zero, List.getElem_cons_succ, Act.put, List.setIfInBounds_toArray, List.set_cons_zero, List.set_cons_succ]
  refine wpF_done (bs := []) (vs := []) (by kernel_rfl) (by kernel_rfl) rfl (fun w2 hS => ?_) _
  refine NoPanic.normal ?_
  obtain ⟨hb, _⟩ := hS.1 noBits_nil
  clear hS
  replace cX0_0 := cell_later hb cX0_0; replace cX0_1 := cell_later hb cX0_1; replace cX0_2 := cell_later hb cX0_2; replace cX0_3 := cell_later hb cX0_3; replace cX0_4 := cell_later hb cX0_4
  replace sX0 : w.heap.size < w2.heap.size := World.block_lt_of_cell? _ _ cX0_0
  replace cX1_0 := cell_later hb cX1_0; replace cX1_1 := cell_later hb cX1_1; replace cX1_2 := cell_later hb cX1_2; replace cX1_3 := cell_later hb cX1_3; replace cX1_4 := cell_later hb cX1_4
  replace sX1 : w.heap.size + 1 < w2.heap.size ∧ w.heap.size < w2.heap.size := by have h : w.heap.size + 1 < w2.heap.size := World.block_lt_of_cell? _ _ cX1_0; exact ⟨h, by omega⟩
  replace kk := bC kk hb
  clear hb
  go_wp2_with fail
  (with_reducible refine (h2.out _).mono ?_); rintro e w3 ⟨rfl, hb⟩
  clear cX0_0 cX0_1 cX0_2 cX0_3 cX0_4 sX0
  clear cX1_0 cX1_1 cX1_2 cX1_3 cX1_4 sX1
  replace kk := bC kk hb
  clear hb
  go_wp2_with fail
  go_ret
  exact ⟨rfl, kk⟩

set_option maxHeartbeats 4000000 in
set_option maxRecDepth 100000 in
theorem mag_cmp_ne (ea eb ca cb d r x0 x1 x2 x3 y0 y1 y2 y3 z0 z1 z2 z3 : Int)
    (h0 : Hid (∀ w, Calls Try.prog 35 #[.agg #[.int .i64 ea, .int .u64 x0, .int .u64 x1, .int .u64 x2, .int .u64 x3]] w fun e w' => e = .returned (.int .i64 ca) ∧ Below w.heap.size w w'))
    (h1 : Hid (∀ w, Calls Try.prog 35 #[.agg #[.int .i64 eb, .int .u64 y0, .int .u64 y1, .int .u64 y2, .int .u64 y3]] w fun e w' => e = .returned (.int .i64 cb) ∧ Below w.heap.size w w'))
    (h2 : Hid (∀ w, Calls Try.prog 37 #[.agg #[.int .u64 y0, .int .u64 y1, .int .u64 y2, .int .u64 y3], .int .i64 d] w fun e w' => e = .returned (.agg #[.int .u64 z0, .int .u64 z1, .int .u64 z2, .int .u64 z3]) ∧ Below w.heap.size w w'))
    (h3 : Hid (∀ w, Calls Try.prog 36 #[.agg #[.int .u64 x0, .int .u64 x1, .int .u64 x2, .int .u64 x3], .agg #[.int .u64 z0, .int .u64 z1, .int .u64 z2, .int .u64 z3]] w fun e w' => e = .returned (.int .i64 r) ∧ Below w.heap.size w w')) (w1 : IntKind.i64.wrap (ca - cb) = d) (g1 : decide (d < 0) = false) (g2 : (r == 0) = false) (w : World) :
    Calls Try.prog 13 #[.agg #[.int .i64 ea, .int .u64 x0, .int .u64 x1, .int .u64 x2, .int .u64 x3], .agg #[.int .i64 eb, .int .u64 y0, .int .u64 y1, .int .u64 y2, .int .u64 y3]] w fun e w' => e = .returned (.int .i64 r) ∧ Below w.heap.size w w' := by
  go_enter Try.func13, Try.ntmps13
  go_wp2_with fail
  refine wp_forget (fun W => W.cell? ⟨w.heap.size, 0, none⟩ = some (.int .i64 ea) ∧ W.cell? ⟨w.heap.size, 1, none⟩ = some (.int .u64 x0) ∧ W.cell? ⟨w.heap.size, 2, none⟩ = some (.int .u64 x1) ∧ W.cell? ⟨w.heap.size, 3, none⟩ = some (.int .u64 x2) ∧ W.cell? ⟨w.heap.size, 4, none⟩ = some (.int .u64 x3) ∧ W.cell? ⟨w.heap.size + 1, 0, none⟩ = some (.int .i64 eb) ∧ W.cell? ⟨w.heap.size + 1, 1, none⟩ = some (.int .u64 y0) ∧ W.cell? ⟨w.heap.size + 1, 2, none⟩ = some (.int .u64 y1) ∧ W.cell? ⟨w.heap.size + 1, 3, none⟩ = some (.int .u64 y2) ∧ W.cell? ⟨w.heap.size + 1, 4, none⟩ = some (.int .u64 y3) ∧ Below w.heap.size w W) ⟨by go_simp, by go_simp, by go_simp, by go_simp, by go_simp, by go_simp, by go_simp, by go_simp, by go_simp, by go_simp, (bA (bA (Below.refl _ _) _) _)⟩ (fun w1 hst => ?_)
  obtain ⟨cX0_0, cX0_1, cX0_2, cX0_3, cX0_4, cX1_0, cX1_1, cX1_2, cX1_3, cX1_4, kk⟩ := hst
  have sX0 : w.heap.size < w1.heap.size := World.block_lt_of_cell? _ _ cX0_0
  have sX1 : w.heap.size + 1 < w1.heap.size ∧ w.heap.size < w1.heap.size := by have h : w.heap.size + 1 < w1.heap.size := World.block_lt_of_cell? _ _ cX1_0; exact ⟨h, by omega⟩
  refine wp_region_noPanic ?_
  refine wp_region_F [] [] (LS w1 (fun _ _ => True) (fun _ _ _ => True)) (by kernel_rfl) (bs := []) (vs := []) (by kernel_rfl) rfl (LS.before noBits_nil (Below.refl _ _).drew trivial) ?_
  refine wpF_take (i := 0) (v := ?vq18) rfl (by kernel_rfl) (by kernel_rfl) (fun _ _ _ h => h) (LS.load (by rfl) ?yq18) ?rq18
  case yq18 => (intro wq hb; have lcX0_0 := cell_later hb cX0_0; have lcX0_1 := cell_later hb cX0_1; have lcX0_2 := cell_later hb cX0_2; have lcX0_3 := cell_later hb cX0_3; have lcX0_4 := cell_later hb cX0_4; go_simp; try (with_reducible rfl))
  try simp only [List.getElem_toArray, List.getElem_cons_zero, List.getElem_cons_succ, Act.put, List.setIfInBounds_toArray, List.set_cons_zero, List.set_cons_succ]
  refine wpF_take (i := 1) (v := _) rfl (by kernel_rfl) (by kernel_rfl) (fun _ _ _ h => h) (LS.call lasts_true (by rfl) _ _ ?yq19 (h0.out)) ?rq19
  case yq19 => (intro wq; go_simp; try (with_reducible rfl))
  try simp only [List.getElem_toArray, List.getElem_cons_zero, List.getElem_cons_succ, Act.put, List.setIfInBounds_toArray, List.set_cons_zero, List.set_cons_succ]
  refine wpF_take (i := 2) (v := ?vq20) rfl (by kernel_rfl) (by kernel_rfl) (fun _ _ _ h => h) (LS.load (by rfl) ?yq20) ?rq20
  case yq20 => (intro wq hb; have lcX1_0 := cell_later hb cX1_0; have lcX1_1 := cell_later hb cX1_1; have lcX1_2 := cell_later hb cX1_2; have lcX1_3 := cell_later hb cX1_3; have lcX1_4 := cell_later hb cX1_4; go_simp; try (with_reducible rfl))
  try simp only [List.getElem_toArray, List.getElem_cons_zero, List.getElem_cons_succ, Act.put, List.setIfInBounds_toArray, List.set_cons_zero, List.set_cons_succ]
  refine wpF_take (i := 3) (v := _) rfl (by kernel_rfl) (by kernel_rfl) (fun _ _ _ h => h) (LS.call lasts_true (by rfl) _ _ ?yq21 (h1.out)) ?rq21
  case yq21 => (intro wq; go_simp; try (with_reducible rfl))
  try simp only [List.getElem_toArray, List.getElem_cons_zero, List.getElem_cons_succ, Act.put, List.setIfInBounds_toArray, List.set_cons_zero, List.set_cons_succ]
  refine wpF_yield (i := 4) (v := ?vq22) rfl (by kernel_rfl) (by kernel_rfl) (fun _ _ _ h => h) (Or.inl ⟨by rfl, ?yq22⟩) ?rq22
  case yq22 => (intro wq; go_simp; try (with_reducible rfl))
  try simp only [List.getElem_toArray, List.getElem_cons_zero, List.getElem_cons_succ, Act.put, List.setIfInBounds_toArray, List.set_cons_zero, List.set_cons_succ]
  refine wpF_yield (i := 5) (v := ?vq23) rfl (by kernel_rfl) (by kernel_rfl) (fun _ _ _ h => h) (Or.inl ⟨by rfl, ?yq23⟩) ?rq23
  case yq23 => (intro wq; go_simp; try (with_reducible rfl))
  try simp only [List.getElem_toArray, List.getElem_cons_zero, List.getElem_cons_succ, Act.put, List.setIfInBounds_toArray, List.set_cons_zero, List.set_cons_succ]
  refine wpF_done (bs := []) (vs := []) (by kernel_rfl) (by kernel_rfl) rfl (fun w2 hS => ?_) _
  refine NoPanic.normal ?_
  obtain ⟨hb, _⟩ := hS.1 noBits_nil
  clear hS
  replace cX0_0 := cell_later hb cX0_0; replace cX0_1 := cell_later hb cX0_1; replace cX0_2 := cell_later hb cX0_2; replace cX0_3 := cell_later hb cX0_3; replace cX0_4 := cell_later hb cX0_4
  replace sX0 : w.heap.size < w2.heap.size := World.block_lt_of_cell? _ _ cX0_0
  replace cX1_0 := cell_later hb cX1_0; replace cX1_1 := cell_later hb cX1_1; replace cX1_2 := cell_later hb cX1_2; replace cX1_3 := cell_later hb cX1_3; replace cX1_4 := cell_later hb cX1_4
  replace sX1 : w.heap.size + 1 < w2.heap.size ∧ w.heap.size < w2.heap.size := by have h : w.heap.size + 1 < w2.heap.size := World.block_lt_of_cell? _ _ cX1_0; exact ⟨h, by omega⟩
  replace kk := bC kk hb
  clear hb
  go_wp2_with fail
  refine wp_region_noPanic ?_
  refine wp_region_F [] [] (LS w2 (fun _ _ => True) (fun _ _ _ => True)) (by kernel_rfl) (bs := []) (vs := []) (by kernel_rfl) rfl (LS.before noBits_nil (Below.refl _ _).drew trivial) ?_
  refine wpF_yield (i := 0) (v := ?vq24) rfl (by kernel_rfl) (by kernel_rfl) (fun _ _ _ h => h) (Or.inl ⟨by rfl, ?yq24⟩) ?rq24
  case yq24 => (intro wq; go_simp; try (with_reducible rfl))
  try simp only [List.getElem_toArray, List.getElem_cons_zero, List.getElem_cons_succ, Act.put, List.setIfInBounds_toArray, List.set_cons_zero, List.set_cons_succ]
  refine wpF_take (i := 1) (v := ?vq25) rfl (by kernel_rfl) (by kernel_rfl) (fun _ _ _ h => h) (LS.load (by rfl) ?yq25) ?rq25
  case yq25 => (intro wq hb; have lcX0_1 := cell_later hb cX0_1; have lcX0_2 := cell_later hb cX0_2; have lcX0_3 := cell_later hb cX0_3; have lcX0_4 := cell_later hb cX0_4; go_simp; try (with_reducible rfl))
  try simp only [List.getElem_toArray, List.getElem_cons_zero, List.getElem_cons_succ, Act.put, List.setIfInBounds_toArray, List.set_cons_zero, List.set_cons_succ]
  refine wpF_yield (i := 2) (v := ?vq26) rfl (by kernel_rfl) (by kernel_rfl) (fun _ _ _ h => h) (Or.inl ⟨by rfl, ?yq26⟩) ?rq26
  case yq26 => (intro wq; go_simp; try (with_reducible rfl))
  try simp only [List.getElem_toArray, List.getElem_cons_zero, List.getElem_cons_succ, Act.put, List.setIfInBounds_toArray, List.set_cons_zero, List.set_cons_succ]
  refine wpF_take (i := 3) (v := ?vq27) rfl (by kernel_rfl) (by kernel_rfl) (fun _ _ _ h => h) (LS.load (by rfl) ?yq27) ?rq27
  case yq27 => (intro wq hb; have lcX1_1 := cell_later hb cX1_1; have lcX1_2 := cell_later hb cX1_2; have lcX1_3 := cell_later hb cX1_3; have lcX1_4 := cell_later hb cX1_4; go_simp; try (with_reducible rfl))
  try simp only [List.getElem_toArray, List.getElem_cons_zero, List.getElem_cons_succ, Act.put, List.setIfInBounds_toArray, List.set_cons_zero, List.set_cons_succ]
  refine wpF_yield (i := 4) (v := ?vq28) rfl (by kernel_rfl) (by kernel_rfl) (fun _ _ _ h => h) (Or.inl ⟨by rfl, ?yq28⟩) ?rq28
  case yq28 => (intro wq; go_simp; try (with_reducible rfl))
  try simp only [List.getElem_toArray, List.getElem_cons_zero, List.getElem_cons_succ, Act.put, List.setIfInBounds_toArray, List.set_cons_zero, List.set_cons_succ]
  refine wpF_take (i := 5) (v := _) rfl (by kernel_rfl) (by kernel_rfl) (fun _ _ _ h => h) (LS.call lasts_true (by rfl) _ _ ?yq29 (h2.out)) ?rq29
  case yq29 => (intro wq; go_simp; try (with_reducible rfl))
  try simp only [List.getElem_toArray, List.getElem_cons_zero, List.getElem_cons_succ, Act.put, List.setIfInBounds_toArray, List.set_cons_zero, List.set_cons_succ]
  refine wpF_take (i := 6) (v := _) rfl (by kernel_rfl) (by kernel_rfl) (fun _ _ _ h => h) (LS.call lasts_true (by rfl) _ _ ?yq30 (h3.out)) ?rq30
  case yq30 => (intro wq; go_simp; try (with_reducible rfl))
  try simp only [List.getElem_toArray, List.getElem_cons_zero, List.getElem_cons_succ, Act.put, List.setIfInBounds_toArray, List.set_cons_zero, List.set_cons_succ]
  refine wpF_yield (i := 7) (v := ?vq31) rfl (by kernel_rfl) (by kernel_rfl) (fun _ _ _ h => h) (Or.inl ⟨by rfl, ?yq31⟩) ?rq31
  case yq31 => (intro wq; go_simp; try (with_reducible rfl))
  try simp only [List.getElem_toArray, List.getElem_cons_zero, List.getElem_cons_succ, Act.put, List.setIfInBounds_toArray, List.set_cons_zero, List.set_cons_succ]
  refine wpF_done (bs := []) (vs := []) (by kernel_rfl) (by kernel_rfl) rfl (fun w4 hS => ?_) _
  refine NoPanic.normal ?_
  obtain ⟨hb, _⟩ := hS.1 noBits_nil
  clear hS
  clear cX0_0 cX0_1 cX0_2 cX0_3 cX0_4 sX0
  replace cX1_0 := cell_later hb cX1_0; replace cX1_1 := cell_later hb cX1_1; replace cX1_2 := cell_later hb cX1_2; replace cX1_3 := cell_later hb cX1_3; replace cX1_4 := cell_later hb cX1_4
  replace sX1 : w.heap.size + 1 < w4.heap.size ∧ w.heap.size < w4.heap.size := by have h : w.heap.size + 1 < w4.heap.size := World.block_lt_of_cell? _ _ cX1_0; exact ⟨h, by omega⟩
  replace kk := bC kk hb
  clear hb
  go_wp2_with fail
  go_ret
  exact ⟨rfl, kk⟩

set_option maxHeartbeats 4000000 in
set_option maxRecDepth 100000 in
theorem mag_cmp_eq0 (ea eb ca cb d x0 x1 x2 x3 y0 y1 y2 y3 z0 z1 z2 z3 : Int)
    (h0 : Hid (∀ w, Calls Try.prog 35 #[.agg #[.int .i64 ea, .int .u64 x0, .int .u64 x1, .int .u64 x2, .int .u64 x3]] w fun e w' => e = .returned (.int .i64 ca) ∧ Below w.heap.size w w'))
    (h1 : Hid (∀ w, Calls Try.prog 35 #[.agg #[.int .i64 eb, .int .u64 y0, .int .u64 y1, .int .u64 y2, .int .u64 y3]] w fun e w' => e = .returned (.int .i64 cb) ∧ Below w.heap.size w w'))
    (h2 : Hid (∀ w, Calls Try.prog 37 #[.agg #[.int .u64 y0, .int .u64 y1, .int .u64 y2, .int .u64 y3], .int .i64 d] w fun e w' => e = .returned (.agg #[.int .u64 z0, .int .u64 z1, .int .u64 z2, .int .u64 z3]) ∧ Below w.heap.size w w'))
    (h3 : Hid (∀ w, Calls Try.prog 36 #[.agg #[.int .u64 x0, .int .u64 x1, .int .u64 x2, .int .u64 x3], .agg #[.int .u64 z0, .int .u64 z1, .int .u64 z2, .int .u64 z3]] w fun e w' => e = .returned (.int .i64 0) ∧ Below w.heap.size w w'))
    (h4 : Hid (∀ w, Calls Try.prog 38 #[.agg #[.int .u64 y0, .int .u64 y1, .int .u64 y2, .int .u64 y3], .int .i64 d] w fun e w' => e = .returned (.bool false) ∧ Below w.heap.size w w')) (w1 : IntKind.i64.wrap (ca - cb) = d) (g1 : decide (d < 0) = false) (w : World) :
    Calls Try.prog 13 #[.agg #[.int .i64 ea, .int .u64 x0, .int .u64 x1, .int .u64 x2, .int .u64 x3], .agg #[.int .i64 eb, .int .u64 y0, .int .u64 y1, .int .u64 y2, .int .u64 y3]] w fun e w' => e = .returned (.int .i64 0) ∧ Below w.heap.size w w' := by
  go_enter Try.func13, Try.ntmps13
  go_wp2_with fail
  refine wp_forget (fun W => W.cell? ⟨w.heap.size, 0, none⟩ = some (.int .i64 ea) ∧ W.cell? ⟨w.heap.size, 1, none⟩ = some (.int .u64 x0) ∧ W.cell? ⟨w.heap.size, 2, none⟩ = some (.int .u64 x1) ∧ W.cell? ⟨w.heap.size, 3, none⟩ = some (.int .u64 x2) ∧ W.cell? ⟨w.heap.size, 4, none⟩ = some (.int .u64 x3) ∧ W.cell? ⟨w.heap.size + 1, 0, none⟩ = some (.int .i64 eb) ∧ W.cell? ⟨w.heap.size + 1, 1, none⟩ = some (.int .u64 y0) ∧ W.cell? ⟨w.heap.size + 1, 2, none⟩ = some (.int .u64 y1) ∧ W.cell? ⟨w.heap.size + 1, 3, none⟩ = some (.int .u64 y2) ∧ W.cell? ⟨w.heap.size + 1, 4, none⟩ = some (.int .u64 y3) ∧ Below w.heap.size w W) ⟨by go_simp, by go_simp, by go_simp, by go_simp, by go_simp, by go_simp, by go_simp, by go_simp, by go_simp, by go_simp, (bA (bA (Below.refl _ _) _) _)⟩ (fun w1 hst => ?_)
  obtain ⟨cX0_0, cX0_1, cX0_2, cX0_3, cX0_4, cX1_0, cX1_1, cX1_2, cX1_3, cX1_4, kk⟩ := hst
  have sX0 : w.heap.size < w1.heap.size := World.block_lt_of_cell? _ _ cX0_0
  have sX1 : w.heap.size + 1 < w1.heap.size ∧ w.heap.size < w1.heap.size := by have h : w.heap.size + 1 < w1.heap.size := World.block_lt_of_cell? _ _ cX1_0; exact ⟨h, by omega⟩
  refine wp_region_noPanic ?_
  refine wp_region_F [] [] (LS w1 (fun _ _ => True) (fun _ _ _ => True)) (by kernel_rfl) (bs := []) (vs := []) (by kernel_rfl) rfl (LS.before noBits_nil (Below.refl _ _).drew trivial) ?_
  refine wpF_take (i := 0) (v := ?vq32) rfl (by kernel_rfl) (by kernel_rfl) (fun _ _ _ h => h) (LS.load (by rfl) ?yq32) ?rq32
  case yq32 => (intro wq hb; have lcX0_0 := cell_later hb cX0_0; have lcX0_1 := cell_later hb cX0_1; have lcX0_2 := cell_later hb cX0_2; have lcX0_3 := cell_later hb cX0_3; have lcX0_4 := cell_later hb cX0_4; go_simp; try (with_reducible rfl))
  try simp only [List.getElem_toArray, List.getElem_cons_zero, List.getElem_cons_succ, Act.put, List.setIfInBounds_toArray, List.set_cons_zero, List.set_cons_succ]
  refine wpF_take (i := 1) (v := _) rfl (by kernel_rfl) (by kernel_rfl) (fun _ _ _ h => h) (LS.call lasts_true (by rfl) _ _ ?yq33 (h0.out)) ?rq33
  case yq33 => (intro wq; go_simp; try (with_reducible rfl))
  try simp only [List.getElem_toArray, List.getElem_cons_zero, List.getElem_cons_succ, Act.put, List.setIfInBounds_toArray, List.set_cons_zero, List.set_cons_succ]
  refine wpF_take (i := 2) (v := ?vq34) rfl (by kernel_rfl) (by kernel_rfl) (fun _ _ _ h => h) (LS.load (by rfl) ?yq34) ?rq34
  case yq34 => (intro wq hb; have lcX1_0 := cell_later hb cX1_0; have lcX1_1 := cell_later hb cX1_1; have lcX1_2 := cell_later hb cX1_2; have lcX1_3 := cell_later hb cX1_3; have lcX1_4 := cell_later hb cX1_4; go_simp; try (with_reducible rfl))
  try simp only [List.getElem_toArray, List.getElem_cons_zero, List.getElem_cons_succ, Act.put, List.setIfInBounds_toArray, List.set_cons_zero, List.set_cons_succ]
  refine wpF_take (i := 3) (v := _) rfl (by kernel_rfl) (by kernel_rfl) (fun _ _ _ h => h) (LS.call lasts_true (by rfl) _ _ ?yq35 (h1.out)) ?rq35
  case yq35 => (intro wq; go_simp; try (with_reducible rfl))
  try simp only [List.getElem_toArray, List.getElem_cons_zero, List.getElem_cons_succ, Act.put, List.setIfInBounds_toArray, List.set_cons_zero, List.set_cons_succ]
  refine wpF_yield (i := 4) (v := ?vq36) rfl (by kernel_rfl) (by kernel_rfl) (fun _ _ _ h => h) (Or.inl ⟨by rfl, ?yq36⟩) ?rq36
  case yq36 => (intro wq; go_simp; try (with_reducible rfl))
  try simp only [List.getElem_toArray, List.getElem_cons_zero, List.getElem_cons_succ, Act.put, List.setIfInBounds_toArray, List.set_cons_zero, List.set_cons_succ]
  refine wpF_yield (i := 5) (v := ?vq37) rfl (by kernel_rfl) (by kernel_rfl) (fun _ _ _ h => h) (Or.inl ⟨by rfl, ?yq37⟩) ?rq37
  case yq37 => (intro wq; go_simp; try (with_reducible rfl))
  try simp only [List.getElem_toArray, List.getElem_cons_zero, List.getElem_cons_succ, Act.put, List.setIfInBounds_toArray, List.set_cons_zero, List.set_cons_succ]
  refine wpF_done (bs := []) (vs := []) (by kernel_rfl) (by kernel_rfl) rfl (fun w2 hS => ?_) _
  refine NoPanic.normal ?_
  obtain ⟨hb, _⟩ := hS.1 noBits_nil
  clear hS
  replace cX0_0 := cell_later hb cX0_0; replace cX0_1 := cell_later hb cX0_1; replace cX0_2 := cell_later hb cX0_2; replace cX0_3 := cell_later hb cX0_3; replace cX0_4 := cell_later hb cX0_4
  replace sX0 : w.heap.size < w2.heap.size := World.block_lt_of_cell? _ _ cX0_0
  replace cX1_0 := cell_later hb cX1_0; replace cX1_1 := cell_later hb cX1_1; replace cX1_2 := cell_later hb cX1_2; replace cX1_3 := cell_later hb cX1_3; replace cX1_4 := cell_later hb cX1_4
  replace sX1 : w.heap.size + 1 < w2.heap.size ∧ w.heap.size < w2.heap.size := by have h : w.heap.size + 1 < w2.heap.size := World.block_lt_of_cell? _ _ cX1_0; exact ⟨h, by omega⟩
  replace kk := bC kk hb
  clear hb
  go_wp2_with fail
  refine wp_region_noPanic ?_
  refine wp_region_F [] [] (LS w2 (fun _ _ => True) (fun _ _ _ => True)) (by kernel_rfl) (bs := []) (vs := []) (by kernel_rfl) rfl (LS.before noBits_nil (Below.refl _ _).drew trivial) ?_
  refine wpF_yield (i := 0) (v := ?vq38) rfl (by kernel_rfl) (by kernel_rfl) (fun _ _ _ h => h) (Or.inl ⟨by rfl, ?yq38⟩) ?rq38
  case yq38 => (intro wq; go_simp; try (with_reducible rfl))
  try simp only [List.getElem_toArray, List.getElem_cons_zero, List.getElem_cons_succ, Act.put, List.setIfInBounds_toArray, List.set_cons_zero, List.set_cons_succ]
  refine wpF_take (i := 1) (v := ?vq39) rfl (by kernel_rfl) (by kernel_rfl) (fun _ _ _ h => h) (LS.load (by rfl) ?yq39) ?rq39
  case yq39 => (intro wq hb; have lcX0_1 := cell_later hb cX0_1; have lcX0_2 := cell_later hb cX0_2; have lcX0_3 := cell_later hb cX0_3; have lcX0_4 := cell_later hb cX0_4; go_simp; try (with_reducible rfl))
  try simp only [List.getElem_toArray, List.getElem_cons_zero, List.getElem_cons_succ, Act.put, List.setIfInBounds_toArray, List.set_cons_zero, List.set_cons_succ]
  refine wpF_yield (i := 2) (v := ?vq40) rfl (by kernel_rfl) (by kernel_rfl) (fun _ _ _ h => h) (Or.inl ⟨by rfl, ?yq40⟩) ?rq40
  case yq40 => (intro wq; go_simp; try (with_reducible rfl))
  try simp only [List.getElem_toArray, List.getElem_cons_zero, List.getElem_cons_succ, Act.put, List.setIfInBounds_toArray, List.set_cons_zero, List.set_cons_succ]
  refine wpF_take (i := 3) (v := ?vq41) rfl (by kernel_rfl) (by kernel_rfl) (fun _ _ _ h => h) (LS.load (by rfl) ?yq41) ?rq41
  case yq41 => (intro wq hb; have lcX1_1 := cell_later hb cX1_1; have lcX1_2 := cell_later hb cX1_2; have lcX1_3 := cell_later hb cX1_3; have lcX1_4 := cell_later hb cX1_4; go_simp; try (with_reducible rfl))
  try simp only [List.getElem_toArray, List.getElem_cons_zero, List.getElem_cons_succ, Act.put, List.setIfInBounds_toArray, List.set_cons_zero, List.set_cons_succ]
  refine wpF_yield (i := 4) (v := ?vq42) rfl (by kernel_rfl) (by kernel_rfl) (fun _ _ _ h => h) (Or.inl ⟨by rfl, ?yq42⟩) ?rq42
  case yq42 => (intro wq; go_simp; try (with_reducible rfl))
  try simp only [List.getElem_toArray, List.getElem_cons_zero, List.getElem_cons_succ, Act.put, List.setIfInBounds_toArray, List.set_cons_zero, List.set_cons_succ]
  refine wpF_take (i := 5) (v := _) rfl (by kernel_rfl) (by kernel_rfl) (fun _ _ _ h => h) (LS.call lasts_true (by rfl) _ _ ?yq43 (h2.out)) ?rq43
  case yq43 => (intro wq; go_simp; try (with_reducible rfl))
  try simp only [List.getElem_toArray, List.getElem_cons_zero, List.getElem_cons_succ, Act.put, List.setIfInBounds_toArray, List.set_cons_zero, List.set_cons_succ]
  refine wpF_take (i := 6) (v := _) rfl (by kernel_rfl) (by kernel_rfl) (fun _ _ _ h => h) (LS.call lasts_true (by rfl) _ _ ?yq44 (h3.out)) ?rq44
  case yq44 => (intro wq; go_simp; try (with_reducible rfl))
  try simp only [List.getElem_toArray, List.getElem_cons_zero, List.getElem_cons_succ, Act.put, List.setIfInBounds_toArray, List.set_cons_zero, List.set_cons_succ]
  refine wpF_yield (i := 7) (v := ?vq45) rfl (by kernel_rfl) (by kernel_rfl) (fun _ _ _ h => h) (Or.inl ⟨by rfl, ?yq45⟩) ?rq45
  case yq45 => (intro wq; go_simp; try (with_reducible rfl))
  try simp only [List.getElem_toArray, List.getElem_cons_zero, List.getElem_cons_succ, Act.put, List.setIfInBounds_toArray, List.set_cons_zero, List.set_cons_succ]
  refine wpF_done (bs := []) (vs := []) (by kernel_rfl) (by kernel_rfl) rfl (fun w4 hS => ?_) _
  refine NoPanic.normal ?_
  obtain ⟨hb, _⟩ := hS.1 noBits_nil
  clear hS
  clear cX0_0 cX0_1 cX0_2 cX0_3 cX0_4 sX0
  replace cX1_0 := cell_later hb cX1_0; replace cX1_1 := cell_later hb cX1_1; replace cX1_2 := cell_later hb cX1_2; replace cX1_3 := cell_later hb cX1_3; replace cX1_4 := cell_later hb cX1_4
  replace sX1 : w.heap.size + 1 < w4.heap.size ∧ w.heap.size < w4.heap.size := by have h : w.heap.size + 1 < w4.heap.size := World.block_lt_of_cell? _ _ cX1_0; exact ⟨h, by omega⟩
  replace kk := bC kk hb
  clear hb
  go_wp2_with fail
  (with_reducible refine (h4.out _).mono ?_); rintro e w5 ⟨rfl, hb⟩
  clear cX1_0 cX1_1 cX1_2 cX1_3 cX1_4 sX1
  replace kk := bC kk hb
  clear hb
  go_wp2_with fail
  go_ret
  exact ⟨rfl, kk⟩

set_option maxHeartbeats 4000000 in
set_option maxRecDepth 100000 in
theorem mag_cmp_eq1 (ea eb ca cb d x0 x1 x2 x3 y0 y1 y2 y3 z0 z1 z2 z3 : Int)
    (h0 : Hid (∀ w, Calls Try.prog 35 #[.agg #[.int .i64 ea, .int .u64 x0, .int .u64 x1, .int .u64 x2, .int .u64 x3]] w fun e w' => e = .returned (.int .i64 ca) ∧ Below w.heap.size w w'))
    (h1 : Hid (∀ w, Calls Try.prog 35 #[.agg #[.int .i64 eb, .int .u64 y0, .int .u64 y1, .int .u64 y2, .int .u64 y3]] w fun e w' => e = .returned (.int .i64 cb) ∧ Below w.heap.size w w'))
    (h2 : Hid (∀ w, Calls Try.prog 37 #[.agg #[.int .u64 y0, .int .u64 y1, .int .u64 y2, .int .u64 y3], .int .i64 d] w fun e w' => e = .returned (.agg #[.int .u64 z0, .int .u64 z1, .int .u64 z2, .int .u64 z3]) ∧ Below w.heap.size w w'))
    (h3 : Hid (∀ w, Calls Try.prog 36 #[.agg #[.int .u64 x0, .int .u64 x1, .int .u64 x2, .int .u64 x3], .agg #[.int .u64 z0, .int .u64 z1, .int .u64 z2, .int .u64 z3]] w fun e w' => e = .returned (.int .i64 0) ∧ Below w.heap.size w w'))
    (h4 : Hid (∀ w, Calls Try.prog 38 #[.agg #[.int .u64 y0, .int .u64 y1, .int .u64 y2, .int .u64 y3], .int .i64 d] w fun e w' => e = .returned (.bool true) ∧ Below w.heap.size w w')) (w1 : IntKind.i64.wrap (ca - cb) = d) (g1 : decide (d < 0) = false) (w : World) :
    Calls Try.prog 13 #[.agg #[.int .i64 ea, .int .u64 x0, .int .u64 x1, .int .u64 x2, .int .u64 x3], .agg #[.int .i64 eb, .int .u64 y0, .int .u64 y1, .int .u64 y2, .int .u64 y3]] w fun e w' => e = .returned (.int .i64 (-1)) ∧ Below w.heap.size w w' := by
  go_enter Try.func13, Try.ntmps13
  go_wp2_with fail
  refine wp_forget (fun W => W.cell? ⟨w.heap.size, 0, none⟩ = some (.int .i64 ea) ∧ W.cell? ⟨w.heap.size, 1, none⟩ = some (.int .u64 x0) ∧ W.cell? ⟨w.heap.size, 2, none⟩ = some (.int .u64 x1) ∧ W.cell? ⟨w.heap.size, 3, none⟩ = some (.int .u64 x2) ∧ W.cell? ⟨w.heap.size, 4, none⟩ = some (.int .u64 x3) ∧ W.cell? ⟨w.heap.size + 1, 0, none⟩ = some (.int .i64 eb) ∧ W.cell? ⟨w.heap.size + 1, 1, none⟩ = some (.int .u64 y0) ∧ W.cell? ⟨w.heap.size + 1, 2, none⟩ = some (.int .u64 y1) ∧ W.cell? ⟨w.heap.size + 1, 3, none⟩ = some (.int .u64 y2) ∧ W.cell? ⟨w.heap.size + 1, 4, none⟩ = some (.int .u64 y3) ∧ Below w.heap.size w W) ⟨by go_simp, by go_simp, by go_simp, by go_simp, by go_simp, by go_simp, by go_simp, by go_simp, by go_simp, by go_simp, (bA (bA (Below.refl _ _) _) _)⟩ (fun w1 hst => ?_)
  obtain ⟨cX0_0, cX0_1, cX0_2, cX0_3, cX0_4, cX1_0, cX1_1, cX1_2, cX1_3, cX1_4, kk⟩ := hst
  have sX0 : w.heap.size < w1.heap.size := World.block_lt_of_cell? _ _ cX0_0
  have sX1 : w.heap.size + 1 < w1.heap.size ∧ w.heap.size < w1.heap.size := by have h : w.heap.size + 1 < w1.heap.size := World.block_lt_of_cell? _ _ cX1_0; exact ⟨h, by omega⟩
  refine wp_region_noPanic ?_
  refine wp_region_F [] [] (LS w1 (fun _ _ => True) (fun _ _ _ => True)) (by kernel_rfl) (bs := []) (vs := []) (by kernel_rfl) rfl (LS.before noBits_nil (Below.refl _ _).drew trivial) ?_
  refine wpF_take (i := 0) (v := ?vq46) rfl (by kernel_rfl) (by kernel_rfl) (fun _ _ _ h => h) (LS.load (by rfl) ?yq46) ?rq46
  case yq46 => (intro wq hb; have lcX0_0 := cell_later hb cX0_0; have lcX0_1 := cell_later hb cX0_1; have lcX0_2 := cell_later hb cX0_2; have lcX0_3 := cell_later hb cX0_3; have lcX0_4 := cell_later hb cX0_4; go_simp; try (with_reducible rfl))
  try simp only [List.getElem_toArray, List.getElem_cons_zero, List.getElem_cons_succ, Act.put, List.setIfInBounds_toArray, List.set_cons_zero, List.set_cons_succ]
  refine wpF_take (i := 1) (v := _) rfl (by kernel_rfl) (by kernel_rfl) (fun _ _ _ h => h) (LS.call lasts_true (by rfl) _ _ ?yq47 (h0.out)) ?rq47
  case yq47 => (intro wq; go_simp; try (with_reducible rfl))
  try simp only [List.getElem_toArray, List.getElem_cons_zero, List.getElem_cons_succ, Act.put, List.setIfInBounds_toArray, List.set_cons_zero, List.set_cons_succ]
  refine wpF_take (i := 2) (v := ?vq48) rfl (by kernel_rfl) (by kernel_rfl) (fun _ _ _ h => h) (LS.load (by rfl) ?yq48) ?rq48
  case yq48 => (intro wq hb; have lcX1_0 := cell_later hb cX1_0; have lcX1_1 := cell_later hb cX1_1; have lcX1_2 := cell_later hb cX1_2; have lcX1_3 := cell_later hb cX1_3; have lcX1_4 := cell_later hb cX1_4; go_simp; try (with_reducible rfl))
  try simp only [List.getElem_toArray, List.getElem_cons_zero, List.getElem_cons_succ, Act.put, List.setIfInBounds_toArray, List.set_cons_zero, List.set_cons_succ]
  refine wpF_take (i := 3) (v := _) rfl (by kernel_rfl) (by kernel_rfl) (fun _ _ _ h => h) (LS.call lasts_true (by rfl) _ _ ?yq49 (h1.out)) ?rq49
  case yq49 => (intro wq; go_simp; try (with_reducible rfl))
  try simp only [List.getElem_toArray, List.getElem_cons_zero, List.getElem_cons_succ, Act.put, List.setIfInBounds_toArray, List.set_cons_zero, List.set_cons_succ]
  refine wpF_yield (i := 4) (v := ?vq50) rfl (by kernel_rfl) (by kernel_rfl) (fun _ _ _ h => h) (Or.inl ⟨by rfl, ?yq50⟩) ?rq50
  case yq50 => (intro wq; go_simp; try (with_reducible rfl))
  try simp only [List.getElem_toArray, List.getElem_cons_zero, List.getElem_cons_succ, Act.put, List.setIfInBounds_toArray, List.set_cons_zero, List.set_cons_succ]
  refine wpF_yield (i := 5) (v := ?vq51) rfl (by kernel_rfl) (by kernel_rfl) (fun _ _ _ h => h) (Or.inl ⟨by rfl, ?yq51⟩) ?rq51
  case yq51 => (intro wq; go_simp; try (with_reducible rfl))
  try simp only [List.getElem_toArray, List.getElem_cons_zero, List.getElem_cons_succ, Act.put, List.setIfInBounds_toArray, List.set_cons_zero, List.set_cons_succ]
  refine wpF_done (bs := []) (vs := []) (by kernel_rfl) (by kernel_rfl) rfl (fun w2 hS => ?_) _
  refine NoPanic.normal ?_
  obtain ⟨hb, _⟩ := hS.1 noBits_nil
  clear hS
  replace cX0_0 := cell_later hb cX0_0; replace cX0_1 := cell_later hb cX0_1; replace cX0_2 := cell_later hb cX0_2; replace cX0_3 := cell_later hb cX0_3; replace cX0_4 := cell_later hb cX0_4
  replace sX0 : w.heap.size < w2.heap.size := World.block_lt_of_cell? _ _ cX0_0
  replace cX1_0 := cell_later hb cX1_0; replace cX1_1 := cell_later hb cX1_1; replace cX1_2 := cell_later hb cX1_2; replace cX1_3 := cell_later hb cX1_3; replace cX1_4 := cell_later hb cX1_4
  replace sX1 : w.heap.size + 1 < w2.heap.size ∧ w.heap.size < w2.heap.size := by have h : w.heap.size + 1 < w2.heap.size := World.block_lt_of_cell? _ _ cX1_0; exact ⟨h, by omega⟩
  replace kk := bC kk hb
  clear hb
  go_wp2_with fail
  refine wp_region_noPanic ?_
  refine wp_region_F [] [] (LS w2 (fun _ _ => True) (fun _ _ _ => True)) (by kernel_rfl) (bs := []) (vs := []) (by kernel_rfl) rfl (LS.before noBits_nil (Below.refl _ _).drew trivial) ?_
  refine wpF_yield (i := 0) (v := ?vq52) rfl (by kernel_rfl) (by kernel_rfl) (fun _ _ _ h => h) (Or.inl ⟨by rfl, ?yq52⟩) ?rq52
  case yq52 => (intro wq; go_simp; try (with_reducible rfl))
  try simp only [List.getElem_toArray, List.getElem_cons_zero, List.getElem_cons_succ, Act.put, List.setIfInBounds_toArray, List.set_cons_zero, List.set_cons_succ]
  refine wpF_take (i := 1) (v := ?vq53) rfl (by kernel_rfl) (by kernel_rfl) (fun _ _ _ h => h) (LS.load (by rfl) ?yq53) ?rq53
  case yq53 => (intro wq hb; have lcX0_1 := cell_later hb cX0_1; have lcX0_2 := cell_later hb cX0_2; have lcX0_3 := cell_later hb cX0_3; have lcX0_4 := cell_later hb cX0_4; go_simp; try (with_reducible rfl))
  try simp only [List.getElem_toArray, List.getElem_cons_zero, List.getElem_cons_succ, Act.put, List.setIfInBounds_toArray, List.set_cons_zero, List.set_cons_succ]
  refine wpF_yield (i := 2) (v := ?vq54) rfl (by kernel_rfl) (by kernel_rfl) (fun _ _ _ h => h) (Or.inl ⟨by rfl, ?yq54⟩) ?rq54
  case yq54 => (intro wq; go_simp; try (with_reducible rfl))
  try simp only [List.getElem_toArray, List.getElem_cons_zero, List.getElem_cons_succ, Act.put, List.setIfInBounds_toArray, List.set_cons_zero, List.set_cons_succ]
  refine wpF_take (i := 3) (v := ?vq55) rfl (by kernel_rfl) (by kernel_rfl) (fun _ _ _ h => h) (LS.load (by rfl) ?yq55) ?rq55
  case yq55 => (intro wq hb; have lcX1_1 := cell_later hb cX1_1; have lcX1_2 := cell_later hb cX1_2; have lcX1_3 := cell_later hb cX1_3; have lcX1_4 := cell_later hb cX1_4; go_simp; try (with_reducible rfl))
  try simp only [List.getElem_toArray, List.getElem_cons_zero, List.getElem_cons_succ, Act.put, List.setIfInBounds_toArray, List.set_cons_zero, List.set_cons_succ]
  refine wpF_yield (i := 4) (v := ?vq56) rfl (by kernel_rfl) (by kernel_rfl) (fun _ _ _ h => h) (Or.inl ⟨by rfl, ?yq56⟩) ?rq56
  case yq56 => (intro wq; go_simp; try (with_reducible rfl))
  try simp only [List.getElem_toArray, List.getElem_cons_zero, List.getElem_cons_succ, Act.put, List.setIfInBounds_toArray, List.set_cons_zero, List.set_cons_succ]
  refine wpF_take (i := 5) (v := _) rfl (by kernel_rfl) (by kernel_rfl) (fun _ _ _ h => h) (LS.call lasts_true (by rfl) _ _ ?yq57 (h2.out)) ?rq57
  case yq57 => (intro wq; go_simp; try (with_reducible rfl))
  try simp only [List.getElem_toArray, List.getElem_cons_zero, List.getElem_cons_succ, Act.put, List.setIfInBounds_toArray, List.set_cons_zero, List.set_cons_succ]
  refine wpF_take (i := 6) (v := _) rfl (by kernel_rfl) (by kernel_rfl) (fun _ _ _ h => h) (LS.call lasts_true (by rfl) _ _ ?yq58 (h3.out)) ?rq58
  case yq58 => (intro wq; go_simp; try (with_reducible rfl))
  try simp only [List.getElem_toArray, List.getElem_cons_zero, List.getElem_cons_succ, Act.put, List.setIfInBounds_toArray, List.set_cons_zero, List.set_cons_succ]
  refine wpF_yield (i := 7) (v := ?vq59) rfl (by kernel_rfl) (by kernel_rfl) (fun _ _ _ h => h) (Or.inl ⟨by rfl, ?yq59⟩) ?rq59
  case yq59 => (intro wq; go_simp; try (with_reducible rfl))
  try simp only [List.getElem_toArray, List.getElem_cons_zero, List.getElem_cons_succ, Act.put, List.setIfInBounds_toArray, List.set_cons_zero, List.set_cons_succ]
  refine wpF_done (bs := []) (vs := []) (by kernel_rfl) (by kernel_rfl) rfl (fun w4 hS => ?_) _
  refine NoPanic.normal ?_
  obtain ⟨hb, _⟩ := hS.1 noBits_nil
  clear hS
  clear cX0_0 cX0_1 cX0_2 cX0_3 cX0_4 sX0
  replace cX1_0 := cell_later hb cX1_0; replace cX1_1 := cell_later hb cX1_1; replace cX1_2 := cell_later hb cX1_2; replace cX1_3 := cell_later hb cX1_3; replace cX1_4 := cell_later hb cX1_4
  replace sX1 : w.heap.size + 1 < w4.heap.size ∧ w.heap.size < w4.heap.size := by have h : w.heap.size + 1 < w4.heap.size := World.block_lt_of_cell? _ _ cX1_0; exact ⟨h, by omega⟩
  replace kk := bC kk hb
  clear hb
  go_wp2_with fail
  (with_reducible refine (h4.out _).mono ?_); rintro e w5 ⟨rfl, hb⟩
  clear cX1_0 cX1_1 cX1_2 cX1_3 cX1_4 sX1
  replace kk := bC kk hb
  clear hb
  go_wp2_with fail
  go_ret
  exact ⟨rfl, kk⟩

theorem mag_fit_Add (w : World) : Calls Try.prog 32 #[.func (.func 34) #[] #[]] w fun e w' => ∃ bk, e = .returned (.func (.func 50) #[] #[.pointer (some ⟨bk, 0, none⟩)]) ∧ FitIn w' (.func (.func 34) #[] #[]) bk ∧ Below w.heap.size w w' := by
  have hmf : ∀ (fn : Fn) (first cap : Array Value) (w : World), (Instr.makeFunc fn first cap).run Try.prog w = .ok (.func fn first cap) w := fun _ _ _ _ => rfl
  go_enter Try.func32, Try.ntmps32
  go_wp2_with fail
  go_ret
  exact ⟨_, rfl, by unfold FitIn; go_simp, bA (Below.refl _ _) _⟩

set_option maxHeartbeats 4000000 in
set_option maxRecDepth 100000 in
theorem mag_op_Add (bk : Nat) (x0 x1 x2 x3 y0 y1 y2 y3 z0 z1 z2 z3 : Int) (o : Bool)
    (h0 : Hid (∀ w, Calls Try.prog 34 #[.agg #[.int .u64 x0, .int .u64 x1, .int .u64 x2, .int .u64 x3], .agg #[.int .u64 y0, .int .u64 y1, .int .u64 y2, .int .u64 y3]] w fun e w' => e = .returned (.tuple #[.agg #[.int .u64 z0, .int .u64 z1, .int .u64 z2, .int .u64 z3], .bool o]) ∧ Below w.heap.size w w')) (w : World) (cX0_0 : w.cell? ⟨bk, 0, none⟩ = some (.func (.func 34) #[] #[])) :
    Calls Try.prog 50 #[.agg #[.int .u64 x0, .int .u64 x1, .int .u64 x2, .int .u64 x3], .agg #[.int .u64 y0, .int .u64 y1, .int .u64 y2, .int .u64 y3], .pointer (some ⟨bk, 0, none⟩)] w fun e w' => e = .returned (.agg #[.int .u64 z0, .int .u64 z1, .int .u64 z2, .int .u64 z3]) ∧ Below w.heap.size w w' := by
  have sb0 : bk < w.heap.size := World.block_lt_of_cell? _ _ cX0_0
  have sb1 : bk < w.heap.size + 1 := by omega
  have sb2 : bk < w.heap.size + 1 + 1 := by omega
  go_enter Try.func50, Try.ntmps50
  have sX0 : bk < w.heap.size := World.block_lt_of_cell? _ _ cX0_0
  go_wp2_with fail
  (with_reducible refine (h0.out _).mono ?_); rintro e w1 ⟨rfl, hb⟩
  have hz := bC (bA (bA (bA (Below.refl _ _) _) _) _) hb
  have gX3 : w.heap.size ≤ w.heap.size + 1 + 1 := by omega
  clear cX0_0 sX0
  have cX3_0 := cell_later hb (a := ⟨w.heap.size + 1 + 1, 0, none⟩) (v := .int .u64 0) (by go_simp)
  have cX3_1 := cell_later hb (a := ⟨w.heap.size + 1 + 1, 1, none⟩) (v := .int .u64 0) (by go_simp)
  have cX3_2 := cell_later hb (a := ⟨w.heap.size + 1 + 1, 2, none⟩) (v := .int .u64 0) (by go_simp)
  have cX3_3 := cell_later hb (a := ⟨w.heap.size + 1 + 1, 3, none⟩) (v := .int .u64 0) (by go_simp)
  have sX3 : w.heap.size + 1 + 1 < w1.heap.size ∧ w.heap.size + 1 < w1.heap.size := by have h : w.heap.size + 1 + 1 < w1.heap.size := World.block_lt_of_cell? _ _ cX3_0; exact ⟨h, by omega⟩
  have fX3_0 := frozen_later hb (a := ⟨w.heap.size + 1 + 1, 0, none⟩) (v := .int .u64 0) (by go_simp) (by go_simp)
  have fX3_1 := frozen_later hb (a := ⟨w.heap.size + 1 + 1, 1, none⟩) (v := .int .u64 0) (by go_simp) (by go_simp)
  have fX3_2 := frozen_later hb (a := ⟨w.heap.size + 1 + 1, 2, none⟩) (v := .int .u64 0) (by go_simp) (by go_simp)
  have fX3_3 := frozen_later hb (a := ⟨w.heap.size + 1 + 1, 3, none⟩) (v := .int .u64 0) (by go_simp) (by go_simp)
  have kk := hz
  clear hb hz
  have NW := wbox_put4 (WBox.of cX3_0 cX3_1 cX3_2 cX3_3) z0 z1 z2 z3
  have KEY : Hid ((((((w1.setCell ⟨w.heap.size + 1 + 1, 0, none⟩ (.int .u64 z0)).setCell ⟨w.heap.size + 1 + 1, 1, none⟩ (.int .u64 z1)).setCell ⟨w.heap.size + 1 + 1, 2, none⟩ (.int .u64 z2)).setCell ⟨w.heap.size + 1 + 1, 3, none⟩ (.int .u64 z3)).alloc (.cells #[.int .u64 z0, .int .u64 z1, .int .u64 z2, .int .u64 z3] 24)).cell? ⟨w.heap.size + 1 + 1, 0, none⟩ = some (.int .u64 z0) ∧ (((((w1.setCell ⟨w.heap.size + 1 + 1, 0, none⟩ (.int .u64 z0)).setCell ⟨w.heap.size + 1 + 1, 1, none⟩ (.int .u64 z1)).setCell ⟨w.heap.size + 1 + 1, 2, none⟩ (.int .u64 z2)).setCell ⟨w.heap.size + 1 + 1, 3, none⟩ (.int .u64 z3)).alloc (.cells #[.int .u64 z0, .int .u64 z1, .int .u64 z2, .int .u64 z3] 24)).cell? ⟨w.heap.size + 1 + 1, 1, none⟩ = some (.int .u64 z1) ∧ (((((w1.setCell ⟨w.heap.size + 1 + 1, 0, none⟩ (.int .u64 z0)).setCell ⟨w.heap.size + 1 + 1, 1, none⟩ (.int .u64 z1)).setCell ⟨w.heap.size + 1 + 1, 2, none⟩ (.int .u64 z2)).setCell ⟨w.heap.size + 1 + 1, 3, none⟩ (.int .u64 z3)).alloc (.cells #[.int .u64 z0, .int .u64 z1, .int .u64 z2, .int .u64 z3] 24)).cell? ⟨w.heap.size + 1 + 1, 2, none⟩ = some (.int .u64 z2) ∧ (((((w1.setCell ⟨w.heap.size + 1 + 1, 0, none⟩ (.int .u64 z0)).setCell ⟨w.heap.size + 1 + 1, 1, none⟩ (.int .u64 z1)).setCell ⟨w.heap.size + 1 + 1, 2, none⟩ (.int .u64 z2)).setCell ⟨w.heap.size + 1 + 1, 3, none⟩ (.int .u64 z3)).alloc (.cells #[.int .u64 z0, .int .u64 z1, .int .u64 z2, .int .u64 z3] 24)).cell? ⟨w.heap.size + 1 + 1, 3, none⟩ = some (.int .u64 z3) ∧ Below w.heap.size w (((((w1.setCell ⟨w.heap.size + 1 + 1, 0, none⟩ (.int .u64 z0)).setCell ⟨w.heap.size + 1 + 1, 1, none⟩ (.int .u64 z1)).setCell ⟨w.heap.size + 1 + 1, 2, none⟩ (.int .u64 z2)).setCell ⟨w.heap.size + 1 + 1, 3, none⟩ (.int .u64 z3)).alloc (.cells #[.int .u64 z0, .int .u64 z1, .int .u64 z2, .int .u64 z3] 24))) := Lib.hid ⟨(cell_later (bA (Below.refl _ _) _) NW.2.1), (cell_later (bA (Below.refl _ _) _) NW.2.2.1), (cell_later (bA (Below.refl _ _) _) NW.2.2.2.1), (cell_later (bA (Below.refl _ _) _) NW.2.2.2.2), (bA (below_set4 kk gX3 _ _ _ _) _)⟩
  clear NW
  go_wp2_with fail
  obtain ⟨e0, e1, e2, e3, kb⟩ := KEY.out
  clear KEY
  refine bodyPost_ret (v := .agg #[.int .u64 z0, .int .u64 z1, .int .u64 z2, .int .u64 z3]) ?_ rfl ⟨rfl, kb⟩
  simp [results, Try.results50, go_sem, e0, e1, e2, e3]

theorem mag_fit_Sub (w : World) : Calls Try.prog 32 #[.func (.func 33) #[] #[]] w fun e w' => ∃ bk, e = .returned (.func (.func 50) #[] #[.pointer (some ⟨bk, 0, none⟩)]) ∧ FitIn w' (.func (.func 33) #[] #[]) bk ∧ Below w.heap.size w w' := by
  have hmf : ∀ (fn : Fn) (first cap : Array Value) (w : World), (Instr.makeFunc fn first cap).run Try.prog w = .ok (.func fn first cap) w := fun _ _ _ _ => rfl
  go_enter Try.func32, Try.ntmps32
  go_wp2_with fail
  go_ret
  exact ⟨_, rfl, by unfold FitIn; go_simp, bA (Below.refl _ _) _⟩

set_option maxHeartbeats 4000000 in
set_option maxRecDepth 100000 in
theorem mag_op_Sub (bk : Nat) (x0 x1 x2 x3 y0 y1 y2 y3 z0 z1 z2 z3 : Int) (o : Bool)
    (h0 : Hid (∀ w, Calls Try.prog 33 #[.agg #[.int .u64 x0, .int .u64 x1, .int .u64 x2, .int .u64 x3], .agg #[.int .u64 y0, .int .u64 y1, .int .u64 y2, .int .u64 y3]] w fun e w' => e = .returned (.tuple #[.agg #[.int .u64 z0, .int .u64 z1, .int .u64 z2, .int .u64 z3], .bool o]) ∧ Below w.heap.size w w')) (w : World) (cX0_0 : w.cell? ⟨bk, 0, none⟩ = some (.func (.func 33) #[] #[])) :
    Calls Try.prog 50 #[.agg #[.int .u64 x0, .int .u64 x1, .int .u64 x2, .int .u64 x3], .agg #[.int .u64 y0, .int .u64 y1, .int .u64 y2, .int .u64 y3], .pointer (some ⟨bk, 0, none⟩)] w fun e w' => e = .returned (.agg #[.int .u64 z0, .int .u64 z1, .int .u64 z2, .int .u64 z3]) ∧ Below w.heap.size w w' := by
  have sb0 : bk < w.heap.size := World.block_lt_of_cell? _ _ cX0_0
  have sb1 : bk < w.heap.size + 1 := by omega
  have sb2 : bk < w.heap.size + 1 + 1 := by omega
  go_enter Try.func50, Try.ntmps50
  have sX0 : bk < w.heap.size := World.block_lt_of_cell? _ _ cX0_0
  go_wp2_with fail
  (with_reducible refine (h0.out _).mono ?_); rintro e w1 ⟨rfl, hb⟩
  have hz := bC (bA (bA (bA (Below.refl _ _) _) _) _) hb
  have gX3 : w.heap.size ≤ w.heap.size + 1 + 1 := by omega
  clear cX0_0 sX0
  have cX3_0 := cell_later hb (a := ⟨w.heap.size + 1 + 1, 0, none⟩) (v := .int .u64 0) (by go_simp)
  have cX3_1 := cell_later hb (a := ⟨w.heap.size + 1 + 1, 1, none⟩) (v := .int .u64 0) (by go_simp)
  have cX3_2 := cell_later hb (a := ⟨w.heap.size + 1 + 1, 2, none⟩) (v := .int .u64 0) (by go_simp)
  have cX3_3 := cell_later hb (a := ⟨w.heap.size + 1 + 1, 3, none⟩) (v := .int .u64 0) (by go_simp)
  have sX3 : w.heap.size + 1 + 1 < w1.heap.size ∧ w.heap.size + 1 < w1.heap.size := by have h : w.heap.size + 1 + 1 < w1.heap.size := World.block_lt_of_cell? _ _ cX3_0; exact ⟨h, by omega⟩
  have fX3_0 := frozen_later hb (a := ⟨w.heap.size + 1 + 1, 0, none⟩) (v := .int .u64 0) (by go_simp) (by go_simp)
  have fX3_1 := frozen_later hb (a := ⟨w.heap.size + 1 + 1, 1, none⟩) (v := .int .u64 0) (by go_simp) (by go_simp)
  have fX3_2 := frozen_later hb (a := ⟨w.heap.size + 1 + 1, 2, none⟩) (v := .int .u64 0) (by go_simp) (by go_simp)
  have fX3_3 := frozen_later hb (a := ⟨w.heap.size + 1 + 1, 3, none⟩) (v := .int .u64 0) (by go_simp) (by go_simp)
  have kk := hz
  clear hb hz
  have NW := wbox_put4 (WBox.of cX3_0 cX3_1 cX3_2 cX3_3) z0 z1 z2 z3
  have KEY : Hid ((((((w1.setCell ⟨w.heap.size + 1 + 1, 0, none⟩ (.int .u64 z0)).setCell ⟨w.heap.size + 1 + 1, 1, none⟩ (.int .u64 z1)).setCell ⟨w.heap.size + 1 + 1, 2, none⟩ (.int .u64 z2)).setCell ⟨w.heap.size + 1 + 1, 3, none⟩ (.int .u64 z3)).alloc (.cells #[.int .u64 z0, .int .u64 z1, .int .u64 z2, .int .u64 z3] 24)).cell? ⟨w.heap.size + 1 + 1, 0, none⟩ = some (.int .u64 z0) ∧ (((((w1.setCell ⟨w.heap.size + 1 + 1, 0, none⟩ (.int .u64 z0)).setCell ⟨w.heap.size + 1 + 1, 1, none⟩ (.int .u64 z1)).setCell ⟨w.heap.size + 1 + 1, 2, none⟩ (.int .u64 z2)).setCell ⟨w.heap.size + 1 + 1, 3, none⟩ (.int .u64 z3)).alloc (.cells #[.int .u64 z0, .int .u64 z1, .int .u64 z2, .int .u64 z3] 24)).cell? ⟨w.heap.size + 1 + 1, 1, none⟩ = some (.int .u64 z1) ∧ (((((w1.setCell ⟨w.heap.size + 1 + 1, 0, none⟩ (.int .u64 z0)).setCell ⟨w.heap.size + 1 + 1, 1, none⟩ (.int .u64 z1)).setCell ⟨w.heap.size + 1 + 1, 2, none⟩ (.int .u64 z2)).setCell ⟨w.heap.size + 1 + 1, 3, none⟩ (.int .u64 z3)).alloc (.cells #[.int .u64 z0, .int .u64 z1, .int .u64 z2, .int .u64 z3] 24)).cell? ⟨w.heap.size + 1 + 1, 2, none⟩ = some (.int .u64 z2) ∧ (((((w1.setCell ⟨w.heap.size + 1 + 1, 0, none⟩ (.int .u64 z0)).setCell ⟨w.heap.size + 1 + 1, 1, none⟩ (.int .u64 z1)).setCell ⟨w.heap.size + 1 + 1, 2, none⟩ (.int .u64 z2)).setCell ⟨w.heap.size + 1 + 1, 3, none⟩ (.int .u64 z3)).alloc (.cells #[.int .u64 z0, .int .u64 z1, .int .u64 z2, .int .u64 z3] 24)).cell? ⟨w.heap.size + 1 + 1, 3, none⟩ = some (.int .u64 z3) ∧ Below w.heap.size w (((((w1.setCell ⟨w.heap.size + 1 + 1, 0, none⟩ (.int .u64 z0)).setCell ⟨w.heap.size + 1 + 1, 1, none⟩ (.int .u64 z1)).setCell ⟨w.heap.size + 1 + 1, 2, none⟩ (.int .u64 z2)).setCell ⟨w.heap.size + 1 + 1, 3, none⟩ (.int .u64 z3)).alloc (.cells #[.int .u64 z0, .int .u64 z1, .int .u64 z2, .int .u64 z3] 24))) := Lib.hid ⟨(cell_later (bA (Below.refl _ _) _) NW.2.1), (cell_later (bA (Below.refl _ _) _) NW.2.2.1), (cell_later (bA (Below.refl _ _) _) NW.2.2.2.1), (cell_later (bA (Below.refl _ _) _) NW.2.2.2.2), (bA (below_set4 kk gX3 _ _ _ _) _)⟩
  clear NW
  go_wp2_with fail
  obtain ⟨e0, e1, e2, e3, kb⟩ := KEY.out
  clear KEY
  refine bodyPost_ret (v := .agg #[.int .u64 z0, .int .u64 z1, .int .u64 z2, .int .u64 z3]) ?_ rfl ⟨rfl, kb⟩
  simp [results, Try.results50, go_sem, e0, e1, e2, e3]

set_option maxHeartbeats 4000000 in
set_option maxRecDepth 100000 in
theorem mag_desc_1 (ea eb r x0 x1 x2 x3 y0 y1 y2 y3 : Int)
    (h0 : Hid (∀ w, Calls Try.prog 13 #[.agg #[.int .i64 ea, .int .u64 x0, .int .u64 x1, .int .u64 x2, .int .u64 x3], .agg #[.int .i64 eb, .int .u64 y0, .int .u64 y1, .int .u64 y2, .int .u64 y3]] w fun e w' => e = .returned (.int .i64 r) ∧ Below w.heap.size w w')) (g1 : decide (r < 0) = true) (w : World) :
    Calls Try.prog 47 #[.agg #[.int .i64 ea, .int .u64 x0, .int .u64 x1, .int .u64 x2, .int .u64 x3], .agg #[.int .i64 eb, .int .u64 y0, .int .u64 y1, .int .u64 y2, .int .u64 y3]] w fun e w' => e = .returned (.tuple #[.agg #[.int .i64 eb, .int .u64 y0, .int .u64 y1, .int .u64 y2, .int .u64 y3, .int .i64 ea, .int .u64 x0, .int .u64 x1, .int .u64 x2, .int .u64 x3], .bool true]) ∧ Below w.heap.size w w' := by
  go_enter Try.func47, Try.ntmps47
  go_wp2_with fail
  (with_reducible refine (h0.out _).mono ?_); rintro e w1 ⟨rfl, hb⟩
  have hz := bC (bA (bA (bA (Below.refl _ _) _) _) _) hb
  have gX2 : w.heap.size ≤ w.heap.size + 1 + 1 := by omega
  have cX0_0 := cell_later hb (a := ⟨w.heap.size, 0, none⟩) (v := .int .i64 ea) (by go_simp)
  have cX0_1 := cell_later hb (a := ⟨w.heap.size, 1, none⟩) (v := .int .u64 x0) (by go_simp)
  have cX0_2 := cell_later hb (a := ⟨w.heap.size, 2, none⟩) (v := .int .u64 x1) (by go_simp)
  have cX0_3 := cell_later hb (a := ⟨w.heap.size, 3, none⟩) (v := .int .u64 x2) (by go_simp)
  have cX0_4 := cell_later hb (a := ⟨w.heap.size, 4, none⟩) (v := .int .u64 x3) (by go_simp)
  have sX0 : w.heap.size < w1.heap.size := World.block_lt_of_cell? _ _ cX0_0
  have cX1_0 := cell_later hb (a := ⟨w.heap.size + 1, 0, none⟩) (v := .int .i64 eb) (by go_simp)
  have cX1_1 := cell_later hb (a := ⟨w.heap.size + 1, 1, none⟩) (v := .int .u64 y0) (by go_simp)
  have cX1_2 := cell_later hb (a := ⟨w.heap.size + 1, 2, none⟩) (v := .int .u64 y1) (by go_simp)
  have cX1_3 := cell_later hb (a := ⟨w.heap.size + 1, 3, none⟩) (v := .int .u64 y2) (by go_simp)
  have cX1_4 := cell_later hb (a := ⟨w.heap.size + 1, 4, none⟩) (v := .int .u64 y3) (by go_simp)
  have sX1 : w.heap.size + 1 < w1.heap.size ∧ w.heap.size < w1.heap.size := by have h : w.heap.size + 1 < w1.heap.size := World.block_lt_of_cell? _ _ cX1_0; exact ⟨h, by omega⟩
  have cX2_0 := cell_later hb (a := ⟨w.heap.size + 1 + 1, 0, none⟩) (v := .int .i64 0) (by go_simp)
  have cX2_1 := cell_later hb (a := ⟨w.heap.size + 1 + 1, 1, none⟩) (v := .int .u64 0) (by go_simp)
  have cX2_2 := cell_later hb (a := ⟨w.heap.size + 1 + 1, 2, none⟩) (v := .int .u64 0) (by go_simp)
  have cX2_3 := cell_later hb (a := ⟨w.heap.size + 1 + 1, 3, none⟩) (v := .int .u64 0) (by go_simp)
  have cX2_4 := cell_later hb (a := ⟨w.heap.size + 1 + 1, 4, none⟩) (v := .int .u64 0) (by go_simp)
  have cX2_5 := cell_later hb (a := ⟨w.heap.size + 1 + 1, 5, none⟩) (v := .int .i64 0) (by go_simp)
  have cX2_6 := cell_later hb (a := ⟨w.heap.size + 1 + 1, 6, none⟩) (v := .int .u64 0) (by go_simp)
  have cX2_7 := cell_later hb (a := ⟨w.heap.size + 1 + 1, 7, none⟩) (v := .int .u64 0) (by go_simp)
  have cX2_8 := cell_later hb (a := ⟨w.heap.size + 1 + 1, 8, none⟩) (v := .int .u64 0) (by go_simp)
  have cX2_9 := cell_later hb (a := ⟨w.heap.size + 1 + 1, 9, none⟩) (v := .int .u64 0) (by go_simp)
  have sX2 : w.heap.size + 1 + 1 < w1.heap.size ∧ w.heap.size + 1 < w1.heap.size := by have h : w.heap.size + 1 + 1 < w1.heap.size := World.block_lt_of_cell? _ _ cX2_0; exact ⟨h, by omega⟩
  have fX2_0 := frozen_later hb (a := ⟨w.heap.size + 1 + 1, 0, none⟩) (v := .int .i64 0) (by go_simp) (by go_simp)
  have fX2_1 := frozen_later hb (a := ⟨w.heap.size + 1 + 1, 1, none⟩) (v := .int .u64 0) (by go_simp) (by go_simp)
  have fX2_2 := frozen_later hb (a := ⟨w.heap.size + 1 + 1, 2, none⟩) (v := .int .u64 0) (by go_simp) (by go_simp)
  have fX2_3 := frozen_later hb (a := ⟨w.heap.size + 1 + 1, 3, none⟩) (v := .int .u64 0) (by go_simp) (by go_simp)
  have fX2_4 := frozen_later hb (a := ⟨w.heap.size + 1 + 1, 4, none⟩) (v := .int .u64 0) (by go_simp) (by go_simp)
  have fX2_5 := frozen_later hb (a := ⟨w.heap.size + 1 + 1, 5, none⟩) (v := .int .i64 0) (by go_simp) (by go_simp)
  have fX2_6 := frozen_later hb (a := ⟨w.heap.size + 1 + 1, 6, none⟩) (v := .int .u64 0) (by go_simp) (by go_simp)
  have fX2_7 := frozen_later hb (a := ⟨w.heap.size + 1 + 1, 7, none⟩) (v := .int .u64 0) (by go_simp) (by go_simp)
  have fX2_8 := frozen_later hb (a := ⟨w.heap.size + 1 + 1, 8, none⟩) (v := .int .u64 0) (by go_simp) (by go_simp)
  have fX2_9 := frozen_later hb (a := ⟨w.heap.size + 1 + 1, 9, none⟩) (v := .int .u64 0) (by go_simp) (by go_simp)
  have kk := hz
  clear hb hz
  have KEY : Hid ((fun W : World => W.cell? ⟨w.heap.size + 1 + 1, 0, none⟩ = some (.int .i64 eb) ∧ W.cell? ⟨w.heap.size + 1 + 1, 1, none⟩ = some (.int .u64 y0) ∧ W.cell? ⟨w.heap.size + 1 + 1, 2, none⟩ = some (.int .u64 y1) ∧ W.cell? ⟨w.heap.size + 1 + 1, 3, none⟩ = some (.int .u64 y2) ∧ W.cell? ⟨w.heap.size + 1 + 1, 4, none⟩ = some (.int .u64 y3) ∧ W.cell? ⟨w.heap.size + 1 + 1, 5, none⟩ = some (.int .i64 ea) ∧ W.cell? ⟨w.heap.size + 1 + 1, 6, none⟩ = some (.int .u64 x0) ∧ W.cell? ⟨w.heap.size + 1 + 1, 7, none⟩ = some (.int .u64 x1) ∧ W.cell? ⟨w.heap.size + 1 + 1, 8, none⟩ = some (.int .u64 x2) ∧ W.cell? ⟨w.heap.size + 1 + 1, 9, none⟩ = some (.int .u64 x3) ∧ Below w.heap.size w W) ((((((((((w1.setCell ⟨w.heap.size + 1 + 1, 0, none⟩ (.int .i64 eb)).setCell ⟨w.heap.size + 1 + 1, 1, none⟩ (.int .u64 y0)).setCell ⟨w.heap.size + 1 + 1, 2, none⟩ (.int .u64 y1)).setCell ⟨w.heap.size + 1 + 1, 3, none⟩ (.int .u64 y2)).setCell ⟨w.heap.size + 1 + 1, 4, none⟩ (.int .u64 y3)).setCell ⟨w.heap.size + 1 + 1, 5, none⟩ (.int .i64 ea)).setCell ⟨w.heap.size + 1 + 1, 6, none⟩ (.int .u64 x0)).setCell ⟨w.heap.size + 1 + 1, 7, none⟩ (.int .u64 x1)).setCell ⟨w.heap.size + 1 + 1, 8, none⟩ (.int .u64 x2)).setCell ⟨w.heap.size + 1 + 1, 9, none⟩ (.int .u64 x3))) := Lib.hid ⟨by go_simp, by go_simp, by go_simp, by go_simp, by go_simp, by go_simp, by go_simp, by go_simp, by go_simp, by go_simp, ((((((((((kk.setCell (p := ⟨w.heap.size + 1 + 1, 0, none⟩) gX2 _).setCell (p := ⟨w.heap.size + 1 + 1, 1, none⟩) gX2 _).setCell (p := ⟨w.heap.size + 1 + 1, 2, none⟩) gX2 _).setCell (p := ⟨w.heap.size + 1 + 1, 3, none⟩) gX2 _).setCell (p := ⟨w.heap.size + 1 + 1, 4, none⟩) gX2 _).setCell (p := ⟨w.heap.size + 1 + 1, 5, none⟩) gX2 _).setCell (p := ⟨w.heap.size + 1 + 1, 6, none⟩) gX2 _).setCell (p := ⟨w.heap.size + 1 + 1, 7, none⟩) gX2 _).setCell (p := ⟨w.heap.size + 1 + 1, 8, none⟩) gX2 _).setCell (p := ⟨w.heap.size + 1 + 1, 9, none⟩) gX2 _)⟩
  go_wp2_with fail
  obtain ⟨e0, e1, e2, e3, e4, e5, e6, e7, e8, e9, kb⟩ := KEY.out
  clear KEY cX2_0 cX2_1 cX2_2 cX2_3 cX2_4 cX2_5 cX2_6 cX2_7 cX2_8 cX2_9 fX2_0 fX2_1 fX2_2 fX2_3 fX2_4 fX2_5 fX2_6 fX2_7 fX2_8 fX2_9
  refine bodyPost_ret (v := .tuple #[.agg #[.int .i64 eb, .int .u64 y0, .int .u64 y1, .int .u64 y2, .int .u64 y3, .int .i64 ea, .int .u64 x0, .int .u64 x1, .int .u64 x2, .int .u64 x3], .bool true]) ?_ rfl ⟨rfl, kb⟩
  simp [results, Try.results47, go_sem, e0, e1, e2, e3, e4, e5, e6, e7, e8, e9]

set_option maxHeartbeats 4000000 in
set_option maxRecDepth 100000 in
theorem mag_desc_0 (ea eb r x0 x1 x2 x3 y0 y1 y2 y3 : Int)
    (h0 : Hid (∀ w, Calls Try.prog 13 #[.agg #[.int .i64 ea, .int .u64 x0, .int .u64 x1, .int .u64 x2, .int .u64 x3], .agg #[.int .i64 eb, .int .u64 y0, .int .u64 y1, .int .u64 y2, .int .u64 y3]] w fun e w' => e = .returned (.int .i64 r) ∧ Below w.heap.size w w')) (g1 : decide (r < 0) = false) (w : World) :
    Calls Try.prog 47 #[.agg #[.int .i64 ea, .int .u64 x0, .int .u64 x1, .int .u64 x2, .int .u64 x3], .agg #[.int .i64 eb, .int .u64 y0, .int .u64 y1, .int .u64 y2, .int .u64 y3]] w fun e w' => e = .returned (.tuple #[.agg #[.int .i64 ea, .int .u64 x0, .int .u64 x1, .int .u64 x2, .int .u64 x3, .int .i64 eb, .int .u64 y0, .int .u64 y1, .int .u64 y2, .int .u64 y3], .bool false]) ∧ Below w.heap.size w w' := by
  go_enter Try.func47, Try.ntmps47
  go_wp2_with fail
  (with_reducible refine (h0.out _).mono ?_); rintro e w1 ⟨rfl, hb⟩
  have hz := bC (bA (bA (bA (Below.refl _ _) _) _) _) hb
  have gX2 : w.heap.size ≤ w.heap.size + 1 + 1 := by omega
  have cX0_0 := cell_later hb (a := ⟨w.heap.size, 0, none⟩) (v := .int .i64 ea) (by go_simp)
  have cX0_1 := cell_later hb (a := ⟨w.heap.size, 1, none⟩) (v := .int .u64 x0) (by go_simp)
  have cX0_2 := cell_later hb (a := ⟨w.heap.size, 2, none⟩) (v := .int .u64 x1) (by go_simp)
  have cX0_3 := cell_later hb (a := ⟨w.heap.size, 3, none⟩) (v := .int .u64 x2) (by go_simp)
  have cX0_4 := cell_later hb (a := ⟨w.heap.size, 4, none⟩) (v := .int .u64 x3) (by go_simp)
  have sX0 : w.heap.size < w1.heap.size := World.block_lt_of_cell? _ _ cX0_0
  have cX1_0 := cell_later hb (a := ⟨w.heap.size + 1, 0, none⟩) (v := .int .i64 eb) (by go_simp)
  have cX1_1 := cell_later hb (a := ⟨w.heap.size + 1, 1, none⟩) (v := .int .u64 y0) (by go_simp)
  have cX1_2 := cell_later hb (a := ⟨w.heap.size + 1, 2, none⟩) (v := .int .u64 y1) (by go_simp)
  have cX1_3 := cell_later hb (a := ⟨w.heap.size + 1, 3, none⟩) (v := .int .u64 y2) (by go_simp)
  have cX1_4 := cell_later hb (a := ⟨w.heap.size + 1, 4, none⟩) (v := .int .u64 y3) (by go_simp)
  have sX1 : w.heap.size + 1 < w1.heap.size ∧ w.heap.size < w1.heap.size := by have h : w.heap.size + 1 < w1.heap.size := World.block_lt_of_cell? _ _ cX1_0; exact ⟨h, by omega⟩
  have cX2_0 := cell_later hb (a := ⟨w.heap.size + 1 + 1, 0, none⟩) (v := .int .i64 0) (by go_simp)
  have cX2_1 := cell_later hb (a := ⟨w.heap.size + 1 + 1, 1, none⟩) (v := .int .u64 0) (by go_simp)
  have cX2_2 := cell_later hb (a := ⟨w.heap.size + 1 + 1, 2, none⟩) (v := .int .u64 0) (by go_simp)
  have cX2_3 := cell_later hb (a := ⟨w.heap.size + 1 + 1, 3, none⟩) (v := .int .u64 0) (by go_simp)
  have cX2_4 := cell_later hb (a := ⟨w.heap.size + 1 + 1, 4, none⟩) (v := .int .u64 0) (by go_simp)
  have cX2_5 := cell_later hb (a := ⟨w.heap.size + 1 + 1, 5, none⟩) (v := .int .i64 0) (by go_simp)
  have cX2_6 := cell_later hb (a := ⟨w.heap.size + 1 + 1, 6, none⟩) (v := .int .u64 0) (by go_simp)
  have cX2_7 := cell_later hb (a := ⟨w.heap.size + 1 + 1, 7, none⟩) (v := .int .u64 0) (by go_simp)
  have cX2_8 := cell_later hb (a := ⟨w.heap.size + 1 + 1, 8, none⟩) (v := .int .u64 0) (by go_simp)
  have cX2_9 := cell_later hb (a := ⟨w.heap.size + 1 + 1, 9, none⟩) (v := .int .u64 0) (by go_simp)
  have sX2 : w.heap.size + 1 + 1 < w1.heap.size ∧ w.heap.size + 1 < w1.heap.size := by have h : w.heap.size + 1 + 1 < w1.heap.size := World.block_lt_of_cell? _ _ cX2_0; exact ⟨h, by omega⟩
  have fX2_0 := frozen_later hb (a := ⟨w.heap.size + 1 + 1, 0, none⟩) (v := .int .i64 0) (by go_simp) (by go_simp)
  have fX2_1 := frozen_later hb (a := ⟨w.heap.size + 1 + 1, 1, none⟩) (v := .int .u64 0) (by go_simp) (by go_simp)
  have fX2_2 := frozen_later hb (a := ⟨w.heap.size + 1 + 1, 2, none⟩) (v := .int .u64 0) (by go_simp) (by go_simp)
  have fX2_3 := frozen_later hb (a := ⟨w.heap.size + 1 + 1, 3, none⟩) (v := .int .u64 0) (by go_simp) (by go_simp)
  have fX2_4 := frozen_later hb (a := ⟨w.heap.size + 1 + 1, 4, none⟩) (v := .int .u64 0) (by go_simp) (by go_simp)
  have fX2_5 := frozen_later hb (a := ⟨w.heap.size + 1 + 1, 5, none⟩) (v := .int .i64 0) (by go_simp) (by go_simp)
  have fX2_6 := frozen_later hb (a := ⟨w.heap.size + 1 + 1, 6, none⟩) (v := .int .u64 0) (by go_simp) (by go_simp)
  have fX2_7 := frozen_later hb (a := ⟨w.heap.size + 1 + 1, 7, none⟩) (v := .int .u64 0) (by go_simp) (by go_simp)
  have fX2_8 := frozen_later hb (a := ⟨w.heap.size + 1 + 1, 8, none⟩) (v := .int .u64 0) (by go_simp) (by go_simp)
  have fX2_9 := frozen_later hb (a := ⟨w.heap.size + 1 + 1, 9, none⟩) (v := .int .u64 0) (by go_simp) (by go_simp)
  have kk := hz
  clear hb hz
  have KEY : Hid ((fun W : World => W.cell? ⟨w.heap.size + 1 + 1, 0, none⟩ = some (.int .i64 ea) ∧ W.cell? ⟨w.heap.size + 1 + 1, 1, none⟩ = some (.int .u64 x0) ∧ W.cell? ⟨w.heap.size + 1 + 1, 2, none⟩ = some (.int .u64 x1) ∧ W.cell? ⟨w.heap.size + 1 + 1, 3, none⟩ = some (.int .u64 x2) ∧ W.cell? ⟨w.heap.size + 1 + 1, 4, none⟩ = some (.int .u64 x3) ∧ W.cell? ⟨w.heap.size + 1 + 1, 5, none⟩ = some (.int .i64 eb) ∧ W.cell? ⟨w.heap.size + 1 + 1, 6, none⟩ = some (.int .u64 y0) ∧ W.cell? ⟨w.heap.size + 1 + 1, 7, none⟩ = some (.int .u64 y1) ∧ W.cell? ⟨w.heap.size + 1 + 1, 8, none⟩ = some (.int .u64 y2) ∧ W.cell? ⟨w.heap.size + 1 + 1, 9, none⟩ = some (.int .u64 y3) ∧ Below w.heap.size w W) ((((((((((w1.setCell ⟨w.heap.size + 1 + 1, 0, none⟩ (.int .i64 ea)).setCell ⟨w.heap.size + 1 + 1, 1, none⟩ (.int .u64 x0)).setCell ⟨w.heap.size + 1 + 1, 2, none⟩ (.int .u64 x1)).setCell ⟨w.heap.size + 1 + 1, 3, none⟩ (.int .u64 x2)).setCell ⟨w.heap.size + 1 + 1, 4, none⟩ (.int .u64 x3)).setCell ⟨w.heap.size + 1 + 1, 5, none⟩ (.int .i64 eb)).setCell ⟨w.heap.size + 1 + 1, 6, none⟩ (.int .u64 y0)).setCell ⟨w.heap.size + 1 + 1, 7, none⟩ (.int .u64 y1)).setCell ⟨w.heap.size + 1 + 1, 8, none⟩ (.int .u64 y2)).setCell ⟨w.heap.size + 1 + 1, 9, none⟩ (.int .u64 y3))) := Lib.hid ⟨by go_simp, by go_simp, by go_simp, by go_simp, by go_simp, by go_simp, by go_simp, by go_simp, by go_simp, by go_simp, ((((((((((kk.setCell (p := ⟨w.heap.size + 1 + 1, 0, none⟩) gX2 _).setCell (p := ⟨w.heap.size + 1 + 1, 1, none⟩) gX2 _).setCell (p := ⟨w.heap.size + 1 + 1, 2, none⟩) gX2 _).setCell (p := ⟨w.heap.size + 1 + 1, 3, none⟩) gX2 _).setCell (p := ⟨w.heap.size + 1 + 1, 4, none⟩) gX2 _).setCell (p := ⟨w.heap.size + 1 + 1, 5, none⟩) gX2 _).setCell (p := ⟨w.heap.size + 1 + 1, 6, none⟩) gX2 _).setCell (p := ⟨w.heap.size + 1 + 1, 7, none⟩) gX2 _).setCell (p := ⟨w.heap.size + 1 + 1, 8, none⟩) gX2 _).setCell (p := ⟨w.heap.size + 1 + 1, 9, none⟩) gX2 _)⟩
  go_wp2_with fail
  obtain ⟨e0, e1, e2, e3, e4, e5, e6, e7, e8, e9, kb⟩ := KEY.out
  clear KEY cX2_0 cX2_1 cX2_2 cX2_3 cX2_4 cX2_5 cX2_6 cX2_7 cX2_8 cX2_9 fX2_0 fX2_1 fX2_2 fX2_3 fX2_4 fX2_5 fX2_6 fX2_7 fX2_8 fX2_9
  refine bodyPost_ret (v := .tuple #[.agg #[.int .i64 ea, .int .u64 x0, .int .u64 x1, .int .u64 x2, .int .u64 x3, .int .i64 eb, .int .u64 y0, .int .u64 y1, .int .u64 y2, .int .u64 y3], .bool false]) ?_ rfl ⟨rfl, kb⟩
  simp [results, Try.results47, go_sem, e0, e1, e2, e3, e4, e5, e6, e7, e8, e9]

set_option maxHeartbeats 4000000 in
set_option maxRecDepth 100000 in
theorem mag_level_one (ea eb ca x0 x1 x2 x3 y0 y1 y2 y3 : Int)
    (h0 : Hid (∀ w, Calls Try.prog 25 #[.agg #[.int .u64 y0, .int .u64 y1, .int .u64 y2, .int .u64 y3]] w fun e w' => e = .returned (.bool true) ∧ Below w.heap.size w w'))
    (h1 : Hid (∀ w, Calls Try.prog 25 #[.agg #[.int .u64 x0, .int .u64 x1, .int .u64 x2, .int .u64 x3]] w fun e w' => e = .returned (.bool false) ∧ Below w.heap.size w w'))
    (h2 : Hid (∀ w, Calls Try.prog 35 #[.agg #[.int .i64 ea, .int .u64 x0, .int .u64 x1, .int .u64 x2, .int .u64 x3]] w fun e w' => e = .returned (.int .i64 ca) ∧ Below w.heap.size w w')) (w : World) :
    Calls Try.prog 48 #[.agg #[.int .i64 ea, .int .u64 x0, .int .u64 x1, .int .u64 x2, .int .u64 x3, .int .i64 eb, .int .u64 y0, .int .u64 y1, .int .u64 y2, .int .u64 y3]] w fun e w' => e = .returned (.int .i64 ca) ∧ Below w.heap.size w w' := by
  go_enter Try.func48, Try.ntmps48
  go_wp2_with fail
  (with_reducible refine (h0.out _).mono ?_); rintro e w1 ⟨rfl, hb⟩
  have hz := bC (bA (Below.refl _ _) _) hb
  have cX0_0 := cell_later hb (a := ⟨w.heap.size, 0, none⟩) (v := .int .i64 ea) (by go_simp)
  have cX0_1 := cell_later hb (a := ⟨w.heap.size, 1, none⟩) (v := .int .u64 x0) (by go_simp)
  have cX0_2 := cell_later hb (a := ⟨w.heap.size, 2, none⟩) (v := .int .u64 x1) (by go_simp)
  have cX0_3 := cell_later hb (a := ⟨w.heap.size, 3, none⟩) (v := .int .u64 x2) (by go_simp)
  have cX0_4 := cell_later hb (a := ⟨w.heap.size, 4, none⟩) (v := .int .u64 x3) (by go_simp)
  have cX0_5 := cell_later hb (a := ⟨w.heap.size, 5, none⟩) (v := .int .i64 eb) (by go_simp)
  have cX0_6 := cell_later hb (a := ⟨w.heap.size, 6, none⟩) (v := .int .u64 y0) (by go_simp)
  have cX0_7 := cell_later hb (a := ⟨w.heap.size, 7, none⟩) (v := .int .u64 y1) (by go_simp)
  have cX0_8 := cell_later hb (a := ⟨w.heap.size, 8, none⟩) (v := .int .u64 y2) (by go_simp)
  have cX0_9 := cell_later hb (a := ⟨w.heap.size, 9, none⟩) (v := .int .u64 y3) (by go_simp)
  have sX0 : w.heap.size < w1.heap.size := World.block_lt_of_cell? _ _ cX0_0
  have kk := hz
  clear hb hz
  go_wp2_with fail
  (with_reducible refine (h1.out _).mono ?_); rintro e w2 ⟨rfl, hb⟩
  replace cX0_0 := cell_later hb cX0_0; replace cX0_1 := cell_later hb cX0_1; replace cX0_2 := cell_later hb cX0_2; replace cX0_3 := cell_later hb cX0_3; replace cX0_4 := cell_later hb cX0_4; replace cX0_5 := cell_later hb cX0_5; replace cX0_6 := cell_later hb cX0_6; replace cX0_7 := cell_later hb cX0_7; replace cX0_8 := cell_later hb cX0_8; replace cX0_9 := cell_later hb cX0_9
  replace sX0 : w.heap.size < w2.heap.size := World.block_lt_of_cell? _ _ cX0_0
  replace kk := bC kk hb
  clear hb
  go_wp2_with fail
  (with_reducible refine (h2.out _).mono ?_); rintro e w3 ⟨rfl, hb⟩
  clear cX0_0 cX0_1 cX0_2 cX0_3 cX0_4 cX0_5 cX0_6 cX0_7 cX0_8 cX0_9 sX0
  replace kk := bC kk hb
  clear hb
  go_wp2_with fail
  go_ret
  exact ⟨rfl, kk⟩

set_option maxHeartbeats 4000000 in
set_option maxRecDepth 100000 in
theorem mag_level_none (ea eb ca cb l x0 x1 x2 x3 y0 y1 y2 y3 : Int)
    (h0 : Hid (∀ w, Calls Try.prog 25 #[.agg #[.int .u64 y0, .int .u64 y1, .int .u64 y2, .int .u64 y3]] w fun e w' => e = .returned (.bool true) ∧ Below w.heap.size w w'))
    (h1 : Hid (∀ w, Calls Try.prog 25 #[.agg #[.int .u64 x0, .int .u64 x1, .int .u64 x2, .int .u64 x3]] w fun e w' => e = .returned (.bool true) ∧ Below w.heap.size w w'))
    (h2 : Hid (∀ w, Calls Try.prog 35 #[.agg #[.int .i64 ea, .int .u64 x0, .int .u64 x1, .int .u64 x2, .int .u64 x3]] w fun e w' => e = .returned (.int .i64 ca) ∧ Below w.heap.size w w'))
    (h3 : Hid (∀ w, Calls Try.prog 35 #[.agg #[.int .i64 eb, .int .u64 y0, .int .u64 y1, .int .u64 y2, .int .u64 y3]] w fun e w' => e = .returned (.int .i64 cb) ∧ Below w.heap.size w w')) (q1 : (if cb > ca then cb else ca) = l) (q1' : (if ca < cb then cb else ca) = l) (w : World) :
    Calls Try.prog 48 #[.agg #[.int .i64 ea, .int .u64 x0, .int .u64 x1, .int .u64 x2, .int .u64 x3, .int .i64 eb, .int .u64 y0, .int .u64 y1, .int .u64 y2, .int .u64 y3]] w fun e w' => e = .returned (.int .i64 l) ∧ Below w.heap.size w w' := by
  go_enter Try.func48, Try.ntmps48
  go_wp2_with fail
  (with_reducible refine (h0.out _).mono ?_); rintro e w1 ⟨rfl, hb⟩
  have hz := bC (bA (Below.refl _ _) _) hb
  have cX0_0 := cell_later hb (a := ⟨w.heap.size, 0, none⟩) (v := .int .i64 ea) (by go_simp)
  have cX0_1 := cell_later hb (a := ⟨w.heap.size, 1, none⟩) (v := .int .u64 x0) (by go_simp)
  have cX0_2 := cell_later hb (a := ⟨w.heap.size, 2, none⟩) (v := .int .u64 x1) (by go_simp)
  have cX0_3 := cell_later hb (a := ⟨w.heap.size, 3, none⟩) (v := .int .u64 x2) (by go_simp)
  have cX0_4 := cell_later hb (a := ⟨w.heap.size, 4, none⟩) (v := .int .u64 x3) (by go_simp)
  have cX0_5 := cell_later hb (a := ⟨w.heap.size, 5, none⟩) (v := .int .i64 eb) (by go_simp)
  have cX0_6 := cell_later hb (a := ⟨w.heap.size, 6, none⟩) (v := .int .u64 y0) (by go_simp)
  have cX0_7 := cell_later hb (a := ⟨w.heap.size, 7, none⟩) (v := .int .u64 y1) (by go_simp)
  have cX0_8 := cell_later hb (a := ⟨w.heap.size, 8, none⟩) (v := .int .u64 y2) (by go_simp)
  have cX0_9 := cell_later hb (a := ⟨w.heap.size, 9, none⟩) (v := .int .u64 y3) (by go_simp)
  have sX0 : w.heap.size < w1.heap.size := World.block_lt_of_cell? _ _ cX0_0
  have kk := hz
  clear hb hz
  go_wp2_with fail
  (with_reducible refine (h1.out _).mono ?_); rintro e w2 ⟨rfl, hb⟩
  replace cX0_0 := cell_later hb cX0_0; replace cX0_1 := cell_later hb cX0_1; replace cX0_2 := cell_later hb cX0_2; replace cX0_3 := cell_later hb cX0_3; replace cX0_4 := cell_later hb cX0_4; replace cX0_5 := cell_later hb cX0_5; replace cX0_6 := cell_later hb cX0_6; replace cX0_7 := cell_later hb cX0_7; replace cX0_8 := cell_later hb cX0_8; replace cX0_9 := cell_later hb cX0_9
  replace sX0 : w.heap.size < w2.heap.size := World.block_lt_of_cell? _ _ cX0_0
  replace kk := bC kk hb
  clear hb
  go_wp2_with fail
  refine wp_region_noPanic ?_
  refine wp_region_F [] [] (LS w2 (fun _ _ => True) (fun _ _ _ => True)) (by kernel_rfl) (bs := []) (vs := []) (by kernel_rfl) rfl (LS.before noBits_nil (Below.refl _ _).drew trivial) ?_
  refine wpF_yield (i := 0) (v := ?vq60) rfl (by kernel_rfl) (by kernel_rfl) (fun _ _ _ h => h) (Or.inl ⟨by rfl, ?yq60⟩) ?rq60
  case yq60 => (intro wq; go_simp; try (with_reducible rfl))
  try simp only [List.getElem_toArray, List.getElem_cons_zero, List.getElem_cons_succ, Act.put, List.setIfInBounds_toArray, List.set_cons_zero, List.set_cons_succ]
  refine wpF_take (i := 1) (v := ?vq61) rfl (by kernel_rfl) (by kernel_rfl) (fun _ _ _ h => h) (LS.load (by rfl) ?yq61) ?rq61
  case yq61 => (intro wq hb; have lcX0_0 := cell_later hb cX0_0; have lcX0_1 := cell_later hb cX0_1; have lcX0_2 := cell_later hb cX0_2; have lcX0_3 := cell_later hb cX0_3; have lcX0_4 := cell_later hb cX0_4; go_simp; try (with_reducible rfl))
  try simp only [List.getElem_toArray, List.getElem_cons_zero, List.getElem_cons_succ, Act.put, List.setIfInBounds_toArray, List.set_cons_zero, List.set_cons_succ]
  refine wpF_take (i := 2) (v := _) rfl (by kernel_rfl) (by kernel_rfl) (fun _ _ _ h => h) (LS.call lasts_true (by rfl) _ _ ?yq62 (h2.out)) ?rq62
  case yq62 => (intro wq; go_simp; try (with_reducible rfl))
  try simp only [List.getElem_toArray, List.getElem_cons_zero, List.getElem_cons_succ, Act.put, List.setIfInBounds_toArray, List.set_cons_zero, List.set_cons_succ]
  refine wpF_yield (i := 3) (v := ?vq63) rfl (by kernel_rfl) (by kernel_rfl) (fun _ _ _ h => h) (Or.inl ⟨by rfl, ?yq63⟩) ?rq63
  case yq63 => (intro wq; go_simp; try (with_reducible rfl))
  try simp only [List.getElem_toArray, List.getElem_cons_zero, List.getElem_cons_succ, Act.put, List.setIfInBounds_toArray, List.set_cons_zero, List.set_cons_succ]
  refine wpF_take (i := 4) (v := ?vq64) rfl (by kernel_rfl) (by kernel_rfl) (fun _ _ _ h => h) (LS.load (by rfl) ?yq64) ?rq64
  case yq64 => (intro wq hb; have lcX0_5 := cell_later hb cX0_5; have lcX0_6 := cell_later hb cX0_6; have lcX0_7 := cell_later hb cX0_7; have lcX0_8 := cell_later hb cX0_8; have lcX0_9 := cell_later hb cX0_9; go_simp; try (with_reducible rfl))
  try simp only [List.getElem_toArray, List.getElem_cons_zero, List.getElem_cons_succ, Act.put, List.setIfInBounds_toArray, List.set_cons_zero, List.set_cons_succ]
  refine wpF_take (i := 5) (v := _) rfl (by kernel_rfl) (by kernel_rfl) (fun _ _ _ h => h) (LS.call lasts_true (by rfl) _ _ ?yq65 (h3.out)) ?rq65
  case yq65 => (intro wq; go_simp; try (with_reducible rfl))
  try simp only [List.getElem_toArray, List.getElem_cons_zero, List.getElem_cons_succ, Act.put, List.setIfInBounds_toArray, List.set_cons_zero, List.set_cons_succ]
  refine wpF_yield (i := 6) (v := ?vq66) rfl (by kernel_rfl) (by kernel_rfl) (fun _ _ _ h => h) (Or.inl ⟨by rfl, ?yq66⟩) ?rq66
  case yq66 => (intro wq; go_simp; try (with_reducible rfl))
  try simp only [List.getElem_toArray, List.getElem_cons_zero, List.getElem_cons_succ, Act.put, List.setIfInBounds_toArray, List.set_cons_zero, List.set_cons_succ]
  refine wpF_yield (i := 7) (v := ?vq67) rfl (by kernel_rfl) (by kernel_rfl) (fun _ _ _ h => h) (Or.inl ⟨by rfl, ?yq67⟩) ?rq67
  case yq67 => (intro wq; go_simp; try (with_reducible rfl))
  try simp only [List.getElem_toArray, List.getElem_cons_zero, List.getElem_cons_succ, Act.put, List.setIfInBounds_toArray, List.set_cons_zero, List.set_cons_succ]
  refine wpF_done (bs := []) (vs := []) (by kernel_rfl) (by kernel_rfl) rfl (fun w4 hS => ?_) _
  refine NoPanic.normal ?_
  obtain ⟨hb, _⟩ := hS.1 noBits_nil
  clear hS
  clear cX0_0 cX0_1 cX0_2 cX0_3 cX0_4 cX0_5 cX0_6 cX0_7 cX0_8 cX0_9 sX0
  replace kk := bC kk hb
  clear hb
  go_wp2_with fail
  go_ret
  exact ⟨rfl, kk⟩

set_option maxHeartbeats 4000000 in
set_option maxRecDepth 100000 in
theorem mag_level_two (ea eb ca cb l x0 x1 x2 x3 y0 y1 y2 y3 : Int)
    (h0 : Hid (∀ w, Calls Try.prog 25 #[.agg #[.int .u64 y0, .int .u64 y1, .int .u64 y2, .int .u64 y3]] w fun e w' => e = .returned (.bool false) ∧ Below w.heap.size w w'))
    (h2 : Hid (∀ w, Calls Try.prog 35 #[.agg #[.int .i64 ea, .int .u64 x0, .int .u64 x1, .int .u64 x2, .int .u64 x3]] w fun e w' => e = .returned (.int .i64 ca) ∧ Below w.heap.size w w'))
    (h3 : Hid (∀ w, Calls Try.prog 35 #[.agg #[.int .i64 eb, .int .u64 y0, .int .u64 y1, .int .u64 y2, .int .u64 y3]] w fun e w' => e = .returned (.int .i64 cb) ∧ Below w.heap.size w w')) (q1 : (if cb > ca then cb else ca) = l) (q1' : (if ca < cb then cb else ca) = l) (w : World) :
    Calls Try.prog 48 #[.agg #[.int .i64 ea, .int .u64 x0, .int .u64 x1, .int .u64 x2, .int .u64 x3, .int .i64 eb, .int .u64 y0, .int .u64 y1, .int .u64 y2, .int .u64 y3]] w fun e w' => e = .returned (.int .i64 l) ∧ Below w.heap.size w w' := by
  go_enter Try.func48, Try.ntmps48
  go_wp2_with fail
  (with_reducible refine (h0.out _).mono ?_); rintro e w1 ⟨rfl, hb⟩
  have hz := bC (bA (Below.refl _ _) _) hb
  have cX0_0 := cell_later hb (a := ⟨w.heap.size, 0, none⟩) (v := .int .i64 ea) (by go_simp)
  have cX0_1 := cell_later hb (a := ⟨w.heap.size, 1, none⟩) (v := .int .u64 x0) (by go_simp)
  have cX0_2 := cell_later hb (a := ⟨w.heap.size, 2, none⟩) (v := .int .u64 x1) (by go_simp)
  have cX0_3 := cell_later hb (a := ⟨w.heap.size, 3, none⟩) (v := .int .u64 x2) (by go_simp)
  have cX0_4 := cell_later hb (a := ⟨w.heap.size, 4, none⟩) (v := .int .u64 x3) (by go_simp)
  have cX0_5 := cell_later hb (a := ⟨w.heap.size, 5, none⟩) (v := .int .i64 eb) (by go_simp)
  have cX0_6 := cell_later hb (a := ⟨w.heap.size, 6, none⟩) (v := .int .u64 y0) (by go_simp)
  have cX0_7 := cell_later hb (a := ⟨w.heap.size, 7, none⟩) (v := .int .u64 y1) (by go_simp)
  have cX0_8 := cell_later hb (a := ⟨w.heap.size, 8, none⟩) (v := .int .u64 y2) (by go_simp)
  have cX0_9 := cell_later hb (a := ⟨w.heap.size, 9, none⟩) (v := .int .u64 y3) (by go_simp)
  have sX0 : w.heap.size < w1.heap.size := World.block_lt_of_cell? _ _ cX0_0
  have kk := hz
  clear hb hz
  go_wp2_with fail
  refine wp_region_noPanic ?_
  refine wp_region_F [] [] (LS w1 (fun _ _ => True) (fun _ _ _ => True)) (by kernel_rfl) (bs := []) (vs := []) (by kernel_rfl) rfl (LS.before noBits_nil (Below.refl _ _).drew trivial) ?_
  refine wpF_yield (i := 0) (v := ?vq68) rfl (by kernel_rfl) (by kernel_rfl) (fun _ _ _ h => h) (Or.inl ⟨by rfl, ?yq68⟩) ?rq68
  case yq68 => (intro wq; go_simp; try (with_reducible rfl))
  try simp only [List.getElem_toArray, List.getElem_cons_zero, List.getElem_cons_succ, Act.put, List.setIfInBounds_toArray, List.set_cons_zero, List.set_cons_succ]
  refine wpF_take (i := 1) (v := ?vq69) rfl (by kernel_rfl) (by kernel_rfl) (fun _ _ _ h => h) (LS.load (by rfl) ?yq69) ?rq69
  case yq69 => (intro wq hb; have lcX0_0 := cell_later hb cX0_0; have lcX0_1 := cell_later hb cX0_1; have lcX0_2 := cell_later hb cX0_2; have lcX0_3 := cell_later hb cX0_3; have lcX0_4 := cell_later hb cX0_4; go_simp; try (with_reducible rfl))
  try simp only [List.getElem_toArray, List.getElem_cons_zero, List.getElem_cons_succ, Act.put, List.setIfInBounds_toArray, List.set_cons_zero, List.set_cons_succ]
  refine wpF_take (i := 2) (v := _) rfl (by kernel_rfl) (by kernel_rfl) (fun _ _ _ h => h) (LS.call lasts_true (by rfl) _ _ ?yq70 (h2.out)) ?rq70
  case yq70 => (intro wq; go_simp; try (with_reducible rfl))
  try simp only [List.getElem_toArray, List.getElem_cons_zero, List.getElem_cons_succ, Act.put, List.setIfInBounds_toArray, List.set_cons_zero, List.set_cons_succ]
  refine wpF_yield (i := 3) (v := ?vq71) rfl (by kernel_rfl) (by kernel_rfl) (fun _ _ _ h => h) (Or.inl ⟨by rfl, ?yq71⟩) ?rq71
  case yq71 => (intro wq; go_simp; try (with_reducible rfl))
  try simp only [List.getElem_toArray, List.getElem_cons_zero, List.getElem_cons_succ, Act.put, List.setIfInBounds_toArray, List.set_cons_zero, List.set_cons_succ]
  refine wpF_take (i := 4) (v := ?vq72) rfl (by kernel_rfl) (by kernel_rfl) (fun _ _ _ h => h) (LS.load (by rfl) ?yq72) ?rq72
  case yq72 => (intro wq hb; have lcX0_5 := cell_later hb cX0_5; have lcX0_6 := cell_later hb cX0_6; have lcX0_7 := cell_later hb cX0_7; have lcX0_8 := cell_later hb cX0_8; have lcX0_9 := cell_later hb cX0_9; go_simp; try (with_reducible rfl))
  try simp only [List.getElem_toArray, List.getElem_cons_zero, List.getElem_cons_succ, Act.put, List.setIfInBounds_toArray, List.set_cons_zero, List.set_cons_succ]
  refine wpF_take (i := 5) (v := _) rfl (by kernel_rfl) (by kernel_rfl) (fun _ _ _ h => h) (LS.call lasts_true (by rfl) _ _ ?yq73 (h3.out)) ?rq73
  case yq73 => (intro wq; go_simp; try (with_reducible rfl))
  try simp only [List.getElem_toArray, List.getElem_cons_zero, List.getElem_cons_succ, Act.put, List.setIfInBounds_toArray, List.set_cons_zero, List.set_cons_succ]
  refine wpF_yield (i := 6) (v := ?vq74) rfl (by kernel_rfl) (by kernel_rfl) (fun _ _ _ h => h) (Or.inl ⟨by rfl, ?yq74⟩) ?rq74
  case yq74 => (intro wq; go_simp; try (with_reducible rfl))
  try simp only [List.getElem_toArray, List.getElem_cons_zero, List.getElem_cons_succ, Act.put, List.setIfInBounds_toArray, List.set_cons_zero, List.set_cons_succ]
  refine wpF_yield (i := 7) (v := ?vq75) rfl (by kernel_rfl) (by kernel_rfl) (fun _ _ _ h => h) (Or.inl ⟨by rfl, ?yq75⟩) ?rq75
  case yq75 => (intro wq; go_simp; try (with_reducible rfl))
  try simp only [List.getElem_toArray, List.getElem_cons_zero, List.getElem_cons_succ, Act.put, List.setIfInBounds_toArray, List.set_cons_zero, List.set_cons_succ]
  refine wpF_done (bs := []) (vs := []) (by kernel_rfl) (by kernel_rfl) rfl (fun w3 hS => ?_) _
  refine NoPanic.normal ?_
  obtain ⟨hb, _⟩ := hS.1 noBits_nil
  clear hS
  clear cX0_0 cX0_1 cX0_2 cX0_3 cX0_4 cX0_5 cX0_6 cX0_7 cX0_8 cX0_9 sX0
  replace kk := bC kk hb
  clear hb
  go_wp2_with fail
  go_ret
  exact ⟨rfl, kk⟩

set_option maxHeartbeats 4000000 in
set_option maxRecDepth 100000 in
theorem mag_combine_core (fv : Value) (bk : Nat) (ea eb ep eq_ rs l m x0 x1 x2 x3 y0 y1 y2 y3 p0 p1 p2 p3 q0 q1 q2 q3 u0 u1 u2 u3 v0 v1 v2 v3 z0 z1 z2 z3 : Int) (t : Bool)
    (h0 : Hid (∀ w, Calls Try.prog 47 #[.agg #[.int .i64 ea, .int .u64 x0, .int .u64 x1, .int .u64 x2, .int .u64 x3], .agg #[.int .i64 eb, .int .u64 y0, .int .u64 y1, .int .u64 y2, .int .u64 y3]] w fun e w' => e = .returned (.tuple #[.agg #[.int .i64 ep, .int .u64 p0, .int .u64 p1, .int .u64 p2, .int .u64 p3, .int .i64 eq_, .int .u64 q0, .int .u64 q1, .int .u64 q2, .int .u64 q3], .bool t]) ∧ Below w.heap.size w w'))
    (h1 : Hid (∀ w, Calls Try.prog 48 #[.agg #[.int .i64 ep, .int .u64 p0, .int .u64 p1, .int .u64 p2, .int .u64 p3, .int .i64 eq_, .int .u64 q0, .int .u64 q1, .int .u64 q2, .int .u64 q3]] w fun e w' => e = .returned (.int .i64 l) ∧ Below w.heap.size w w'))
    (h2 : Hid (∀ w, Calls Try.prog 49 #[.agg #[.int .i64 ep, .int .u64 p0, .int .u64 p1, .int .u64 p2, .int .u64 p3], .int .i64 m] w fun e w' => e = .returned (.agg #[.int .u64 u0, .int .u64 u1, .int .u64 u2, .int .u64 u3]) ∧ Below w.heap.size w w'))
    (h3 : Hid (∀ w, Calls Try.prog 49 #[.agg #[.int .i64 eq_, .int .u64 q0, .int .u64 q1, .int .u64 q2, .int .u64 q3], .int .i64 m] w fun e w' => e = .returned (.agg #[.int .u64 v0, .int .u64 v1, .int .u64 v2, .int .u64 v3]) ∧ Below w.heap.size w w')) (OP : Hid (∀ w, FitIn w fv bk → Calls Try.prog 50 #[.agg #[.int .u64 u0, .int .u64 u1, .int .u64 u2, .int .u64 u3], .agg #[.int .u64 v0, .int .u64 v1, .int .u64 v2, .int .u64 v3], .pointer (some ⟨bk, 0, none⟩)] w fun e w' => e = .returned (.agg #[.int .u64 z0, .int .u64 z1, .int .u64 z2, .int .u64 z3]) ∧ Below w.heap.size w w')) (w1 : IntKind.i64.wrap (l + rs) = m) (w1x : wrap64 (l + rs) = m) (w : World) (nop : FitIn w fv bk) :
    Calls Try.prog 31 #[.agg #[.int .i64 ea, .int .u64 x0, .int .u64 x1, .int .u64 x2, .int .u64 x3], .agg #[.int .i64 eb, .int .u64 y0, .int .u64 y1, .int .u64 y2, .int .u64 y3], .int .i64 rs, .func (.func 50) #[] #[.pointer (some ⟨bk, 0, none⟩)]] w fun e w' => e = .returned (.tuple #[.agg #[.int .i64 m, .int .u64 z0, .int .u64 z1, .int .u64 z2, .int .u64 z3], .bool t]) ∧ Below w.heap.size w w' := by
  go_enter Try.func31, Try.ntmps31
  go_wp2_with fail
  (with_reducible refine (h0.out _).mono ?_); rintro e w1 ⟨rfl, hb⟩
  have hz := bC (bA (bA (bA (Below.refl _ _) _) _) _) hb
  replace nop := nop.later hz
  have gX2 : w.heap.size ≤ w.heap.size + 1 + 1 := by omega
  have cX2_0 := cell_later hb (a := ⟨w.heap.size + 1 + 1, 0, none⟩) (v := .int .i64 0) (by go_simp)
  have cX2_1 := cell_later hb (a := ⟨w.heap.size + 1 + 1, 1, none⟩) (v := .int .u64 0) (by go_simp)
  have cX2_2 := cell_later hb (a := ⟨w.heap.size + 1 + 1, 2, none⟩) (v := .int .u64 0) (by go_simp)
  have cX2_3 := cell_later hb (a := ⟨w.heap.size + 1 + 1, 3, none⟩) (v := .int .u64 0) (by go_simp)
  have cX2_4 := cell_later hb (a := ⟨w.heap.size + 1 + 1, 4, none⟩) (v := .int .u64 0) (by go_simp)
  have sX2 : w.heap.size + 1 + 1 < w1.heap.size ∧ w.heap.size + 1 < w1.heap.size := by have h : w.heap.size + 1 + 1 < w1.heap.size := World.block_lt_of_cell? _ _ cX2_0; exact ⟨h, by omega⟩
  have fX2_0 := frozen_later hb (a := ⟨w.heap.size + 1 + 1, 0, none⟩) (v := .int .i64 0) (by go_simp) (by go_simp)
  have fX2_1 := frozen_later hb (a := ⟨w.heap.size + 1 + 1, 1, none⟩) (v := .int .u64 0) (by go_simp) (by go_simp)
  have fX2_2 := frozen_later hb (a := ⟨w.heap.size + 1 + 1, 2, none⟩) (v := .int .u64 0) (by go_simp) (by go_simp)
  have fX2_3 := frozen_later hb (a := ⟨w.heap.size + 1 + 1, 3, none⟩) (v := .int .u64 0) (by go_simp) (by go_simp)
  have fX2_4 := frozen_later hb (a := ⟨w.heap.size + 1 + 1, 4, none⟩) (v := .int .u64 0) (by go_simp) (by go_simp)
  have kk := hz
  clear hb hz
  go_wp2_with fail
  (with_reducible refine (h1.out _).mono ?_); rintro e w2 ⟨rfl, hb⟩
  have hz := bC (bA (Below.refl _ _) _) hb
  replace nop := nop.later hz
  have nX2_X3 : w.heap.size + 1 + 1 < w1.heap.size := by omega
  replace fX2_0 := frozen_later hz cX2_0 fX2_0; replace fX2_1 := frozen_later hz cX2_1 fX2_1; replace fX2_2 := frozen_later hz cX2_2 fX2_2; replace fX2_3 := frozen_later hz cX2_3 fX2_3; replace fX2_4 := frozen_later hz cX2_4 fX2_4
  replace cX2_0 := cell_later hz cX2_0; replace cX2_1 := cell_later hz cX2_1; replace cX2_2 := cell_later hz cX2_2; replace cX2_3 := cell_later hz cX2_3; replace cX2_4 := cell_later hz cX2_4
  replace sX2 : w.heap.size + 1 + 1 < w2.heap.size ∧ w.heap.size + 1 < w2.heap.size := by have h : w.heap.size + 1 + 1 < w2.heap.size := World.block_lt_of_cell? _ _ cX2_0; exact ⟨h, by omega⟩
  have cX3_0 := cell_later hb (a := ⟨w1.heap.size, 0, none⟩) (v := .int .i64 ep) (by go_simp)
  have cX3_1 := cell_later hb (a := ⟨w1.heap.size, 1, none⟩) (v := .int .u64 p0) (by go_simp)
  have cX3_2 := cell_later hb (a := ⟨w1.heap.size, 2, none⟩) (v := .int .u64 p1) (by go_simp)
  have cX3_3 := cell_later hb (a := ⟨w1.heap.size, 3, none⟩) (v := .int .u64 p2) (by go_simp)
  have cX3_4 := cell_later hb (a := ⟨w1.heap.size, 4, none⟩) (v := .int .u64 p3) (by go_simp)
  have cX3_5 := cell_later hb (a := ⟨w1.heap.size, 5, none⟩) (v := .int .i64 eq_) (by go_simp)
  have cX3_6 := cell_later hb (a := ⟨w1.heap.size, 6, none⟩) (v := .int .u64 q0) (by go_simp)
  have cX3_7 := cell_later hb (a := ⟨w1.heap.size, 7, none⟩) (v := .int .u64 q1) (by go_simp)
  have cX3_8 := cell_later hb (a := ⟨w1.heap.size, 8, none⟩) (v := .int .u64 q2) (by go_simp)
  have cX3_9 := cell_later hb (a := ⟨w1.heap.size, 9, none⟩) (v := .int .u64 q3) (by go_simp)
  have sX3 : w1.heap.size < w2.heap.size := World.block_lt_of_cell? _ _ cX3_0
  replace kk := bC kk hz
  clear hb hz
  go_wp2_with fail
  refine wp_region_noPanic ?_
  refine wp_region_held_drew (S := fun w' => w'.cell? ⟨w1.heap.size, 0, none⟩ = some (.int .i64 ep) ∧ w'.cell? ⟨w1.heap.size, 1, none⟩ = some (.int .u64 p0) ∧ w'.cell? ⟨w1.heap.size, 2, none⟩ = some (.int .u64 p1) ∧ w'.cell? ⟨w1.heap.size, 3, none⟩ = some (.int .u64 p2) ∧ w'.cell? ⟨w1.heap.size, 4, none⟩ = some (.int .u64 p3) ∧ w'.cell? ⟨w1.heap.size, 5, none⟩ = some (.int .i64 eq_) ∧ w'.cell? ⟨w1.heap.size, 6, none⟩ = some (.int .u64 q0) ∧ w'.cell? ⟨w1.heap.size, 7, none⟩ = some (.int .u64 q1) ∧ w'.cell? ⟨w1.heap.size, 8, none⟩ = some (.int .u64 q2) ∧ w'.cell? ⟨w1.heap.size, 9, none⟩ = some (.int .u64 q3) ∧ True) (by kernel_rfl) ⟨cell_later (Below.refl _ _).drew cX3_0, cell_later (Below.refl _ _).drew cX3_1, cell_later (Below.refl _ _).drew cX3_2, cell_later (Below.refl _ _).drew cX3_3, cell_later (Below.refl _ _).drew cX3_4, cell_later (Below.refl _ _).drew cX3_5, cell_later (Below.refl _ _).drew cX3_6, cell_later (Below.refl _ _).drew cX3_7, cell_later (Below.refl _ _).drew cX3_8, cell_later (Below.refl _ _).drew cX3_9, trivial⟩ (fun hHeld => ?_)
  replace nop := nop.later (Below.refl _ _).drew
  replace fX2_0 := frozen_later (Below.refl _ _).drew cX2_0 fX2_0; replace fX2_1 := frozen_later (Below.refl _ _).drew cX2_1 fX2_1; replace fX2_2 := frozen_later (Below.refl _ _).drew cX2_2 fX2_2; replace fX2_3 := frozen_later (Below.refl _ _).drew cX2_3 fX2_3; replace fX2_4 := frozen_later (Below.refl _ _).drew cX2_4 fX2_4
  replace cX2_0 := cell_later (Below.refl _ _).drew cX2_0; replace cX2_1 := cell_later (Below.refl _ _).drew cX2_1; replace cX2_2 := cell_later (Below.refl _ _).drew cX2_2; replace cX2_3 := cell_later (Below.refl _ _).drew cX2_3; replace cX2_4 := cell_later (Below.refl _ _).drew cX2_4
  replace cX3_0 := cell_later (Below.refl _ _).drew cX3_0; replace cX3_1 := cell_later (Below.refl _ _).drew cX3_1; replace cX3_2 := cell_later (Below.refl _ _).drew cX3_2; replace cX3_3 := cell_later (Below.refl _ _).drew cX3_3; replace cX3_4 := cell_later (Below.refl _ _).drew cX3_4; replace cX3_5 := cell_later (Below.refl _ _).drew cX3_5; replace cX3_6 := cell_later (Below.refl _ _).drew cX3_6; replace cX3_7 := cell_later (Below.refl _ _).drew cX3_7; replace cX3_8 := cell_later (Below.refl _ _).drew cX3_8; replace cX3_9 := cell_later (Below.refl _ _).drew cX3_9
  replace kk := bC kk (Below.refl _ _).drew
  refine wpAnyH_take (i := 0) (v := ?vq76) rfl (by kernel_rfl) (by kernel_rfl) (by kernel_rfl) (fun _ _ _ h => h) (Or.inl ⟨by rfl, ?yq76⟩) hHeld ?rq76
  case yq76 => (intro wq hb; obtain ⟨lq0, lq1, lq2, lq3, lq4, lq5, lq6, lq7, lq8, lq9, _⟩ := hb; go_simp; try (with_reducible rfl))
  try simp only [List.getElem_toArray, List.getElem_cons_zero, List.getElem_cons_succ, Act.put, List.setIfInBounds_toArray, List.set_cons_zero, List.set_cons_succ]
  refine wpAnyH_take (i := 1) (v := ?vq77) rfl (by kernel_rfl) (by kernel_rfl) (by kernel_rfl) (fun _ _ _ h => h) (Or.inl ⟨by rfl, ?yq77⟩) hHeld ?rq77
  case yq77 => (intro wq hb; obtain ⟨lq0, lq1, lq2, lq3, lq4, lq5, lq6, lq7, lq8, lq9, _⟩ := hb; go_simp; try (with_reducible rfl))
  try simp only [List.getElem_toArray, List.getElem_cons_zero, List.getElem_cons_succ, Act.put, List.setIfInBounds_toArray, List.set_cons_zero, List.set_cons_succ]
  refine wpAnyH_take (i := 2) (v := ?vq78) rfl (by kernel_rfl) (by kernel_rfl) (by kernel_rfl) (fun _ _ _ h => h) (Or.inl ⟨by rfl, ?yq78⟩) hHeld ?rq78
  case yq78 => (intro wq hb; obtain ⟨lq0, lq1, lq2, lq3, lq4, lq5, lq6, lq7, lq8, lq9, _⟩ := hb; go_simp; try (with_reducible rfl))
  try simp only [List.getElem_toArray, List.getElem_cons_zero, List.getElem_cons_succ, Act.put, List.setIfInBounds_toArray, List.set_cons_zero, List.set_cons_succ]
  refine wpAnyH_take (i := 3) (v := ?vq79) rfl (by kernel_rfl) (by kernel_rfl) (by kernel_rfl) (fun _ _ _ h => h) (Or.inl ⟨by rfl, ?yq79⟩) hHeld ?rq79
  case yq79 => (intro wq hb; obtain ⟨lq0, lq1, lq2, lq3, lq4, lq5, lq6, lq7, lq8, lq9, _⟩ := hb; go_simp; try (with_reducible rfl))
  try simp only [List.getElem_toArray, List.getElem_cons_zero, List.getElem_cons_succ, Act.put, List.setIfInBounds_toArray, List.set_cons_zero, List.set_cons_succ]
  refine wpAnyH_take (i := 4) (v := ?vq80) rfl (by kernel_rfl) (by kernel_rfl) (by kernel_rfl) (fun _ _ _ h => h) (Or.inl ⟨by rfl, ?yq80⟩) hHeld ?rq80
  case yq80 => (intro wq hb; obtain ⟨lq0, lq1, lq2, lq3, lq4, lq5, lq6, lq7, lq8, lq9, _⟩ := hb; go_simp; try (with_reducible rfl))
  try simp only [List.getElem_toArray, List.getElem_cons_zero, List.getElem_cons_succ, Act.put, List.setIfInBounds_toArray, List.set_cons_zero, List.set_cons_succ]
  refine wpAnyH_take (i := 6) (v := ?vq81) rfl (by kernel_rfl) (by kernel_rfl) (by kernel_rfl) (fun _ _ _ h => h) (Or.inl ⟨by rfl, ?yq81⟩) hHeld ?rq81
  case yq81 => (intro wq hb; obtain ⟨lq0, lq1, lq2, lq3, lq4, lq5, lq6, lq7, lq8, lq9, _⟩ := hb; go_simp; try (with_reducible rfl))
  try simp only [List.getElem_toArray, List.getElem_cons_zero, List.getElem_cons_succ, Act.put, List.setIfInBounds_toArray, List.set_cons_zero, List.set_cons_succ]
  refine wpAnyH_take (i := 7) (v := ?vq82) rfl (by kernel_rfl) (by kernel_rfl) (by kernel_rfl) (fun _ _ _ h => h) (Or.inl ⟨by rfl, ?yq82⟩) hHeld ?rq82
  case yq82 => (intro wq hb; obtain ⟨lq0, lq1, lq2, lq3, lq4, lq5, lq6, lq7, lq8, lq9, _⟩ := hb; go_simp; try (with_reducible rfl))
  try simp only [List.getElem_toArray, List.getElem_cons_zero, List.getElem_cons_succ, Act.put, List.setIfInBounds_toArray, List.set_cons_zero, List.set_cons_succ]
  refine wpAnyH_take (i := 8) (v := ?vq83) rfl (by kernel_rfl) (by kernel_rfl) (by kernel_rfl) (fun _ _ _ h => h) (Or.inl ⟨by rfl, ?yq83⟩) hHeld ?rq83
  case yq83 => (intro wq hb; obtain ⟨lq0, lq1, lq2, lq3, lq4, lq5, lq6, lq7, lq8, lq9, _⟩ := hb; go_simp; try (with_reducible rfl))
  try simp only [List.getElem_toArray, List.getElem_cons_zero, List.getElem_cons_succ, Act.put, List.setIfInBounds_toArray, List.set_cons_zero, List.set_cons_succ]
  refine wpAnyH_take (i := 12) (v := ?vq84) rfl (by kernel_rfl) (by kernel_rfl) (by kernel_rfl) (fun _ _ _ h => h) (Or.inl ⟨by rfl, ?yq84⟩) hHeld ?rq84
  case yq84 => (intro wq hb; obtain ⟨lq0, lq1, lq2, lq3, lq4, lq5, lq6, lq7, lq8, lq9, _⟩ := hb; go_simp; try (with_reducible rfl))
  try simp only [List.getElem_toArray, List.getElem_cons_zero, List.getElem_cons_succ, Act.put, List.setIfInBounds_toArray, List.set_cons_zero, List.set_cons_succ]
  clear hHeld
  refine wpAnyH_ready (rs := [5]) (by kernel_rfl) (by simp) ?_
  refine AllReadyH.cons rfl (fun K hK => ?_) AllReadyH.nil
  go_simp
  (with_reducible refine (h2.out _).mono ?_); rintro e w4 ⟨rfl, hb⟩
  replace nop := nop.later hb
  replace fX2_0 := frozen_later hb cX2_0 fX2_0; replace fX2_1 := frozen_later hb cX2_1 fX2_1; replace fX2_2 := frozen_later hb cX2_2 fX2_2; replace fX2_3 := frozen_later hb cX2_3 fX2_3; replace fX2_4 := frozen_later hb cX2_4 fX2_4
  replace cX2_0 := cell_later hb cX2_0; replace cX2_1 := cell_later hb cX2_1; replace cX2_2 := cell_later hb cX2_2; replace cX2_3 := cell_later hb cX2_3; replace cX2_4 := cell_later hb cX2_4
  replace cX3_0 := cell_later hb cX3_0; replace cX3_1 := cell_later hb cX3_1; replace cX3_2 := cell_later hb cX3_2; replace cX3_3 := cell_later hb cX3_3; replace cX3_4 := cell_later hb cX3_4; replace cX3_5 := cell_later hb cX3_5; replace cX3_6 := cell_later hb cX3_6; replace cX3_7 := cell_later hb cX3_7; replace cX3_8 := cell_later hb cX3_8; replace cX3_9 := cell_later hb cX3_9
  replace kk := bC kk hb
  clear hb
  refine hK.out _ _ ⟨cX3_0, cX3_1, cX3_2, cX3_3, cX3_4, cX3_5, cX3_6, cX3_7, cX3_8, cX3_9, trivial⟩ (fun hHeld => ?_)
  clear hK K
  try simp only [List.getElem_toArray, List.getElem_cons_zero, List.getElem_cons_succ, Act.put, List.setIfInBounds_toArray, List.set_cons_zero, List.set_cons_succ]
  clear hHeld
  refine wpAnyH_ready (rs := [9]) (by kernel_rfl) (by simp) ?_
  refine AllReadyH.cons rfl (fun K hK => ?_) AllReadyH.nil
  go_simp
  (with_reducible refine (h3.out _).mono ?_); rintro e w5 ⟨rfl, hb⟩
  replace nop := nop.later hb
  replace fX2_0 := frozen_later hb cX2_0 fX2_0; replace fX2_1 := frozen_later hb cX2_1 fX2_1; replace fX2_2 := frozen_later hb cX2_2 fX2_2; replace fX2_3 := frozen_later hb cX2_3 fX2_3; replace fX2_4 := frozen_later hb cX2_4 fX2_4
  replace cX2_0 := cell_later hb cX2_0; replace cX2_1 := cell_later hb cX2_1; replace cX2_2 := cell_later hb cX2_2; replace cX2_3 := cell_later hb cX2_3; replace cX2_4 := cell_later hb cX2_4
  replace cX3_0 := cell_later hb cX3_0; replace cX3_1 := cell_later hb cX3_1; replace cX3_2 := cell_later hb cX3_2; replace cX3_3 := cell_later hb cX3_3; replace cX3_4 := cell_later hb cX3_4; replace cX3_5 := cell_later hb cX3_5; replace cX3_6 := cell_later hb cX3_6; replace cX3_7 := cell_later hb cX3_7; replace cX3_8 := cell_later hb cX3_8; replace cX3_9 := cell_later hb cX3_9
  replace kk := bC kk hb
  clear hb
  refine hK.out _ _ ⟨cX3_0, cX3_1, cX3_2, cX3_3, cX3_4, cX3_5, cX3_6, cX3_7, cX3_8, cX3_9, trivial⟩ (fun hHeld => ?_)
  clear hK K
  try simp only [List.getElem_toArray, List.getElem_cons_zero, List.getElem_cons_succ, Act.put, List.setIfInBounds_toArray, List.set_cons_zero, List.set_cons_succ]
  clear hHeld
  refine wpAnyH_ready (rs := [10]) (by kernel_rfl) (by simp) ?_
  refine AllReadyH.cons rfl (fun K hK => ?_) AllReadyH.nil
  go_simp
  (with_reducible refine (OP.out _ nop).mono ?_); rintro e w6 ⟨rfl, hb⟩
  replace nop := nop.later hb
  replace fX2_0 := frozen_later hb cX2_0 fX2_0; replace fX2_1 := frozen_later hb cX2_1 fX2_1; replace fX2_2 := frozen_later hb cX2_2 fX2_2; replace fX2_3 := frozen_later hb cX2_3 fX2_3; replace fX2_4 := frozen_later hb cX2_4 fX2_4
  replace cX2_0 := cell_later hb cX2_0; replace cX2_1 := cell_later hb cX2_1; replace cX2_2 := cell_later hb cX2_2; replace cX2_3 := cell_later hb cX2_3; replace cX2_4 := cell_later hb cX2_4
  replace cX3_0 := cell_later hb cX3_0; replace cX3_1 := cell_later hb cX3_1; replace cX3_2 := cell_later hb cX3_2; replace cX3_3 := cell_later hb cX3_3; replace cX3_4 := cell_later hb cX3_4; replace cX3_5 := cell_later hb cX3_5; replace cX3_6 := cell_later hb cX3_6; replace cX3_7 := cell_later hb cX3_7; replace cX3_8 := cell_later hb cX3_8; replace cX3_9 := cell_later hb cX3_9
  replace kk := bC kk hb
  clear hb
  clear nop
  refine hK.out _ _ ⟨cX3_0, cX3_1, cX3_2, cX3_3, cX3_4, cX3_5, cX3_6, cX3_7, cX3_8, cX3_9, trivial⟩ (fun hHeld => ?_)
  clear hK K
  try simp only [List.getElem_toArray, List.getElem_cons_zero, List.getElem_cons_succ, Act.put, List.setIfInBounds_toArray, List.set_cons_zero, List.set_cons_succ]
  refine wpAnyH_take (i := 11) (v := ?vq85) rfl (by kernel_rfl) (by kernel_rfl) (by kernel_rfl) (fun _ _ _ h => h) (Or.inl ⟨by rfl, ?yq85⟩) hHeld ?rq85
  case yq85 => (intro wq hb; obtain ⟨lq0, lq1, lq2, lq3, lq4, lq5, lq6, lq7, lq8, lq9, _⟩ := hb; go_simp; try (with_reducible rfl))
  try simp only [List.getElem_toArray, List.getElem_cons_zero, List.getElem_cons_succ, Act.put, List.setIfInBounds_toArray, List.set_cons_zero, List.set_cons_succ]
  clear hHeld
  refine wpAnyH_ready (rs := [13]) (by kernel_rfl) (by simp) ?_
  refine AllReadyH.cons rfl (fun K hK => ?_) AllReadyH.nil
  go_simp
  have neX3 : ¬ (w.heap.size + 1 + 1 = w1.heap.size) := by omega
  have nfX3 : ¬ (w1.heap.size = w.heap.size + 1 + 1) := by omega
  have KEY := Lib.hid (show (fun W => W.cell? ⟨w.heap.size + 1 + 1, 0, none⟩ = some (.int .i64 m) ∧ W.cell? ⟨w.heap.size + 1 + 1, 1, none⟩ = some (.int .u64 z0) ∧ W.cell? ⟨w.heap.size + 1 + 1, 2, none⟩ = some (.int .u64 z1) ∧ W.cell? ⟨w.heap.size + 1 + 1, 3, none⟩ = some (.int .u64 z2) ∧ W.cell? ⟨w.heap.size + 1 + 1, 4, none⟩ = some (.int .u64 z3) ∧ W.frozen? ⟨w.heap.size + 1 + 1, 0, none⟩ = false ∧ W.frozen? ⟨w.heap.size + 1 + 1, 1, none⟩ = false ∧ W.frozen? ⟨w.heap.size + 1 + 1, 2, none⟩ = false ∧ W.frozen? ⟨w.heap.size + 1 + 1, 3, none⟩ = false ∧ W.frozen? ⟨w.heap.size + 1 + 1, 4, none⟩ = false ∧ W.cell? ⟨w1.heap.size, 0, none⟩ = some (.int .i64 ep) ∧ W.cell? ⟨w1.heap.size, 1, none⟩ = some (.int .u64 p0) ∧ W.cell? ⟨w1.heap.size, 2, none⟩ = some (.int .u64 p1) ∧ W.cell? ⟨w1.heap.size, 3, none⟩ = some (.int .u64 p2) ∧ W.cell? ⟨w1.heap.size, 4, none⟩ = some (.int .u64 p3) ∧ W.cell? ⟨w1.heap.size, 5, none⟩ = some (.int .i64 eq_) ∧ W.cell? ⟨w1.heap.size, 6, none⟩ = some (.int .u64 q0) ∧ W.cell? ⟨w1.heap.size, 7, none⟩ = some (.int .u64 q1) ∧ W.cell? ⟨w1.heap.size, 8, none⟩ = some (.int .u64 q2) ∧ W.cell? ⟨w1.heap.size, 9, none⟩ = some (.int .u64 q3) ∧ Below w.heap.size w W) (((((w6.setCell ⟨w.heap.size + 1 + 1, 0, none⟩ (.int .i64 m)).setCell ⟨w.heap.size + 1 + 1, 1, none⟩ (.int .u64 z0)).setCell ⟨w.heap.size + 1 + 1, 2, none⟩ (.int .u64 z1)).setCell ⟨w.heap.size + 1 + 1, 3, none⟩ (.int .u64 z2)).setCell ⟨w.heap.size + 1 + 1, 4, none⟩ (.int .u64 z3)) from ⟨by go_simp, by go_simp, by go_simp, by go_simp, by go_simp, by go_simp, by go_simp, by go_simp, by go_simp, by go_simp, by go_simp, by go_simp, by go_simp, by go_simp, by go_simp, by go_simp, by go_simp, by go_simp, by go_simp, by go_simp, (((((kk.setCell (p := ⟨w.heap.size + 1 + 1, 0, none⟩) gX2 _).setCell (p := ⟨w.heap.size + 1 + 1, 1, none⟩) gX2 _).setCell (p := ⟨w.heap.size + 1 + 1, 2, none⟩) gX2 _).setCell (p := ⟨w.heap.size + 1 + 1, 3, none⟩) gX2 _).setCell (p := ⟨w.heap.size + 1 + 1, 4, none⟩) gX2 _)⟩)
  clear cX2_0 cX2_1 cX2_2 cX2_3 cX2_4 fX2_0 fX2_1 fX2_2 fX2_3 fX2_4 cX3_0 cX3_1 cX3_2 cX3_3 cX3_4 cX3_5 cX3_6 cX3_7 cX3_8 cX3_9 neX3 nfX3 kk
  refine forget_at (fun W => W.cell? ⟨w.heap.size + 1 + 1, 0, none⟩ = some (.int .i64 m) ∧ W.cell? ⟨w.heap.size + 1 + 1, 1, none⟩ = some (.int .u64 z0) ∧ W.cell? ⟨w.heap.size + 1 + 1, 2, none⟩ = some (.int .u64 z1) ∧ W.cell? ⟨w.heap.size + 1 + 1, 3, none⟩ = some (.int .u64 z2) ∧ W.cell? ⟨w.heap.size + 1 + 1, 4, none⟩ = some (.int .u64 z3) ∧ W.frozen? ⟨w.heap.size + 1 + 1, 0, none⟩ = false ∧ W.frozen? ⟨w.heap.size + 1 + 1, 1, none⟩ = false ∧ W.frozen? ⟨w.heap.size + 1 + 1, 2, none⟩ = false ∧ W.frozen? ⟨w.heap.size + 1 + 1, 3, none⟩ = false ∧ W.frozen? ⟨w.heap.size + 1 + 1, 4, none⟩ = false ∧ W.cell? ⟨w1.heap.size, 0, none⟩ = some (.int .i64 ep) ∧ W.cell? ⟨w1.heap.size, 1, none⟩ = some (.int .u64 p0) ∧ W.cell? ⟨w1.heap.size, 2, none⟩ = some (.int .u64 p1) ∧ W.cell? ⟨w1.heap.size, 3, none⟩ = some (.int .u64 p2) ∧ W.cell? ⟨w1.heap.size, 4, none⟩ = some (.int .u64 p3) ∧ W.cell? ⟨w1.heap.size, 5, none⟩ = some (.int .i64 eq_) ∧ W.cell? ⟨w1.heap.size, 6, none⟩ = some (.int .u64 q0) ∧ W.cell? ⟨w1.heap.size, 7, none⟩ = some (.int .u64 q1) ∧ W.cell? ⟨w1.heap.size, 8, none⟩ = some (.int .u64 q2) ∧ W.cell? ⟨w1.heap.size, 9, none⟩ = some (.int .u64 q3) ∧ Below w.heap.size w W) KEY.out (fun w7 hz => ?_)
  obtain ⟨cX2_0, cX2_1, cX2_2, cX2_3, cX2_4, fX2_0, fX2_1, fX2_2, fX2_3, fX2_4, cX3_0, cX3_1, cX3_2, cX3_3, cX3_4, cX3_5, cX3_6, cX3_7, cX3_8, cX3_9, kk⟩ := hz
  clear KEY
  refine hK.out _ _ ⟨cX3_0, cX3_1, cX3_2, cX3_3, cX3_4, cX3_5, cX3_6, cX3_7, cX3_8, cX3_9, trivial⟩ (fun hHeld => ?_)
  clear hK K
  try simp only [List.getElem_toArray, List.getElem_cons_zero, List.getElem_cons_succ, Act.put, List.setIfInBounds_toArray, List.set_cons_zero, List.set_cons_succ]
  refine wpAnyH_take (i := 14) (v := ?vq86) rfl (by kernel_rfl) (by kernel_rfl) (by kernel_rfl) (fun _ _ _ h => h) (Or.inl ⟨by rfl, ?yq86⟩) hHeld ?rq86
  case yq86 => (intro wq hb; obtain ⟨lq0, lq1, lq2, lq3, lq4, lq5, lq6, lq7, lq8, lq9, _⟩ := hb; go_simp; try (with_reducible rfl))
  try simp only [List.getElem_toArray, List.getElem_cons_zero, List.getElem_cons_succ, Act.put, List.setIfInBounds_toArray, List.set_cons_zero, List.set_cons_succ]
  clear hHeld
  refine wpAnyH_done (by kernel_rfl) ?_ _
  refine NoPanic.normal ?_
  replace sX2 : w.heap.size + 1 + 1 < w7.heap.size ∧ w.heap.size + 1 < w7.heap.size := by have h : w.heap.size + 1 + 1 < w7.heap.size := World.block_lt_of_cell? _ _ cX2_0; exact ⟨h, by omega⟩
  clear cX3_0 cX3_1 cX3_2 cX3_3 cX3_4 cX3_5 cX3_6 cX3_7 cX3_8 cX3_9 sX3
  go_wp2_with fail
  refine bodyPost_ret (v := .tuple #[.agg #[.int .i64 m, .int .u64 z0, .int .u64 z1, .int .u64 z2, .int .u64 z3], .bool t]) ?_ rfl ⟨rfl, kk⟩
  simp [results, Try.results31, go_sem, cX2_0, cX2_1, cX2_2, cX2_3, cX2_4]

set_option maxHeartbeats 4000000 in
set_option maxRecDepth 100000 in
theorem mag_sum_core (ea eb m x0 x1 x2 x3 y0 y1 y2 y3 z0 z1 z2 z3 : Int) (t : Bool)
     (FT : Hid (∀ w, Calls Try.prog 32 #[.func (.func 34) #[] #[]] w fun e w' => ∃ bk, e = .returned (.func (.func 50) #[] #[.pointer (some ⟨bk, 0, none⟩)]) ∧ FitIn w' (.func (.func 34) #[] #[]) bk ∧ Below w.heap.size w w')) (CB : Hid (∀ bk w, FitIn w (.func (.func 34) #[] #[]) bk → Calls Try.prog 31 #[.agg #[.int .i64 ea, .int .u64 x0, .int .u64 x1, .int .u64 x2, .int .u64 x3], .agg #[.int .i64 eb, .int .u64 y0, .int .u64 y1, .int .u64 y2, .int .u64 y3], .int .i64 1, .func (.func 50) #[] #[.pointer (some ⟨bk, 0, none⟩)]] w fun e w' => e = .returned (.tuple #[.agg #[.int .i64 m, .int .u64 z0, .int .u64 z1, .int .u64 z2, .int .u64 z3], .bool t]) ∧ Below w.heap.size w w')) (w : World) :
    Calls Try.prog 12 #[.agg #[.int .i64 ea, .int .u64 x0, .int .u64 x1, .int .u64 x2, .int .u64 x3], .agg #[.int .i64 eb, .int .u64 y0, .int .u64 y1, .int .u64 y2, .int .u64 y3]] w fun e w' => e = .returned (.agg #[.int .i64 m, .int .u64 z0, .int .u64 z1, .int .u64 z2, .int .u64 z3]) ∧ Below w.heap.size w w' := by
  go_enter Try.func12, Try.ntmps12
  go_wp2_with fail
  have gX2 : w.heap.size ≤ w.heap.size + 1 + 1 := by omega
  refine wp_forget (fun W => W.cell? ⟨w.heap.size, 0, none⟩ = some (.int .i64 ea) ∧ W.cell? ⟨w.heap.size, 1, none⟩ = some (.int .u64 x0) ∧ W.cell? ⟨w.heap.size, 2, none⟩ = some (.int .u64 x1) ∧ W.cell? ⟨w.heap.size, 3, none⟩ = some (.int .u64 x2) ∧ W.cell? ⟨w.heap.size, 4, none⟩ = some (.int .u64 x3) ∧ W.cell? ⟨w.heap.size + 1, 0, none⟩ = some (.int .i64 eb) ∧ W.cell? ⟨w.heap.size + 1, 1, none⟩ = some (.int .u64 y0) ∧ W.cell? ⟨w.heap.size + 1, 2, none⟩ = some (.int .u64 y1) ∧ W.cell? ⟨w.heap.size + 1, 3, none⟩ = some (.int .u64 y2) ∧ W.cell? ⟨w.heap.size + 1, 4, none⟩ = some (.int .u64 y3) ∧ W.cell? ⟨w.heap.size + 1 + 1, 0, none⟩ = some (.int .i64 0) ∧ W.cell? ⟨w.heap.size + 1 + 1, 1, none⟩ = some (.int .u64 0) ∧ W.cell? ⟨w.heap.size + 1 + 1, 2, none⟩ = some (.int .u64 0) ∧ W.cell? ⟨w.heap.size + 1 + 1, 3, none⟩ = some (.int .u64 0) ∧ W.cell? ⟨w.heap.size + 1 + 1, 4, none⟩ = some (.int .u64 0) ∧ W.frozen? ⟨w.heap.size + 1 + 1, 0, none⟩ = false ∧ W.frozen? ⟨w.heap.size + 1 + 1, 1, none⟩ = false ∧ W.frozen? ⟨w.heap.size + 1 + 1, 2, none⟩ = false ∧ W.frozen? ⟨w.heap.size + 1 + 1, 3, none⟩ = false ∧ W.frozen? ⟨w.heap.size + 1 + 1, 4, none⟩ = false ∧ Below w.heap.size w W) ⟨by go_simp, by go_simp, by go_simp, by go_simp, by go_simp, by go_simp, by go_simp, by go_simp, by go_simp, by go_simp, by go_simp, by go_simp, by go_simp, by go_simp, by go_simp, by go_simp, by go_simp, by go_simp, by go_simp, by go_simp, (bA (bA (bA (Below.refl _ _) _) _) _)⟩ (fun w1 hst => ?_)
  obtain ⟨cX0_0, cX0_1, cX0_2, cX0_3, cX0_4, cX1_0, cX1_1, cX1_2, cX1_3, cX1_4, cX2_0, cX2_1, cX2_2, cX2_3, cX2_4, fX2_0, fX2_1, fX2_2, fX2_3, fX2_4, kk⟩ := hst
  have sX0 : w.heap.size < w1.heap.size := World.block_lt_of_cell? _ _ cX0_0
  have sX1 : w.heap.size + 1 < w1.heap.size ∧ w.heap.size < w1.heap.size := by have h : w.heap.size + 1 < w1.heap.size := World.block_lt_of_cell? _ _ cX1_0; exact ⟨h, by omega⟩
  have sX2 : w.heap.size + 1 + 1 < w1.heap.size ∧ w.heap.size + 1 < w1.heap.size := by have h : w.heap.size + 1 + 1 < w1.heap.size := World.block_lt_of_cell? _ _ cX2_0; exact ⟨h, by omega⟩
  clear sX0
  clear sX1
  clear sX2
  refine wp_region_noPanic ?_
  refine wp_region_held_drew (S := fun w' => w'.cell? ⟨w.heap.size, 0, none⟩ = some (.int .i64 ea) ∧ w'.cell? ⟨w.heap.size, 1, none⟩ = some (.int .u64 x0) ∧ w'.cell? ⟨w.heap.size, 2, none⟩ = some (.int .u64 x1) ∧ w'.cell? ⟨w.heap.size, 3, none⟩ = some (.int .u64 x2) ∧ w'.cell? ⟨w.heap.size, 4, none⟩ = some (.int .u64 x3) ∧ w'.cell? ⟨w.heap.size + 1, 0, none⟩ = some (.int .i64 eb) ∧ w'.cell? ⟨w.heap.size + 1, 1, none⟩ = some (.int .u64 y0) ∧ w'.cell? ⟨w.heap.size + 1, 2, none⟩ = some (.int .u64 y1) ∧ w'.cell? ⟨w.heap.size + 1, 3, none⟩ = some (.int .u64 y2) ∧ w'.cell? ⟨w.heap.size + 1, 4, none⟩ = some (.int .u64 y3) ∧ True) (by kernel_rfl) ⟨cell_later (Below.refl _ _).drew cX0_0, cell_later (Below.refl _ _).drew cX0_1, cell_later (Below.refl _ _).drew cX0_2, cell_later (Below.refl _ _).drew cX0_3, cell_later (Below.refl _ _).drew cX0_4, cell_later (Below.refl _ _).drew cX1_0, cell_later (Below.refl _ _).drew cX1_1, cell_later (Below.refl _ _).drew cX1_2, cell_later (Below.refl _ _).drew cX1_3, cell_later (Below.refl _ _).drew cX1_4, trivial⟩ (fun hHeld => ?_)
  replace cX0_0 := cell_later (Below.refl _ _).drew cX0_0; replace cX0_1 := cell_later (Below.refl _ _).drew cX0_1; replace cX0_2 := cell_later (Below.refl _ _).drew cX0_2; replace cX0_3 := cell_later (Below.refl _ _).drew cX0_3; replace cX0_4 := cell_later (Below.refl _ _).drew cX0_4
  replace cX1_0 := cell_later (Below.refl _ _).drew cX1_0; replace cX1_1 := cell_later (Below.refl _ _).drew cX1_1; replace cX1_2 := cell_later (Below.refl _ _).drew cX1_2; replace cX1_3 := cell_later (Below.refl _ _).drew cX1_3; replace cX1_4 := cell_later (Below.refl _ _).drew cX1_4
  replace fX2_0 := frozen_later (Below.refl _ _).drew cX2_0 fX2_0; replace fX2_1 := frozen_later (Below.refl _ _).drew cX2_1 fX2_1; replace fX2_2 := frozen_later (Below.refl _ _).drew cX2_2 fX2_2; replace fX2_3 := frozen_later (Below.refl _ _).drew cX2_3 fX2_3; replace fX2_4 := frozen_later (Below.refl _ _).drew cX2_4 fX2_4
  replace cX2_0 := cell_later (Below.refl _ _).drew cX2_0; replace cX2_1 := cell_later (Below.refl _ _).drew cX2_1; replace cX2_2 := cell_later (Below.refl _ _).drew cX2_2; replace cX2_3 := cell_later (Below.refl _ _).drew cX2_3; replace cX2_4 := cell_later (Below.refl _ _).drew cX2_4
  replace kk := bC kk (Below.refl _ _).drew
  generalize World.drew _ = w2 at *
  refine wpAnyH_take (i := 0) (v := ?vq87) rfl (by kernel_rfl) (by kernel_rfl) (by kernel_rfl) (fun _ _ _ h => h) (Or.inl ⟨by rfl, ?yq87⟩) hHeld ?rq87
  case yq87 => (intro wq hb; obtain ⟨lq0, lq1, lq2, lq3, lq4, lq5, lq6, lq7, lq8, lq9, _⟩ := hb; go_simp; try (with_reducible rfl))
  try simp only [List.getElem_toArray, List.getElem_cons_zero, List.getElem_cons_succ, Act.put, List.setIfInBounds_toArray, List.set_cons_zero, List.set_cons_succ]
  refine wpAnyH_take (i := 1) (v := ?vq88) rfl (by kernel_rfl) (by kernel_rfl) (by kernel_rfl) (fun _ _ _ h => h) (Or.inl ⟨by rfl, ?yq88⟩) hHeld ?rq88
  case yq88 => (intro wq hb; obtain ⟨lq0, lq1, lq2, lq3, lq4, lq5, lq6, lq7, lq8, lq9, _⟩ := hb; go_simp; try (with_reducible rfl))
  try simp only [List.getElem_toArray, List.getElem_cons_zero, List.getElem_cons_succ, Act.put, List.setIfInBounds_toArray, List.set_cons_zero, List.set_cons_succ]
  clear hHeld
  refine wpAnyH_ready (rs := [2, 7]) (by kernel_rfl) (by simp) ?_
  refine AllReadyH.cons rfl (fun K hK => ?_) (AllReadyH.cons rfl (fun K hK => ?_) AllReadyH.nil)
  go_simp
  (with_reducible refine (FT.out _).mono ?_); rintro e w3 ⟨bk1, rfl, nbk1, hb⟩
  replace cX0_0 := cell_later hb cX0_0; replace cX0_1 := cell_later hb cX0_1; replace cX0_2 := cell_later hb cX0_2; replace cX0_3 := cell_later hb cX0_3; replace cX0_4 := cell_later hb cX0_4
  replace cX1_0 := cell_later hb cX1_0; replace cX1_1 := cell_later hb cX1_1; replace cX1_2 := cell_later hb cX1_2; replace cX1_3 := cell_later hb cX1_3; replace cX1_4 := cell_later hb cX1_4
  replace fX2_0 := frozen_later hb cX2_0 fX2_0; replace fX2_1 := frozen_later hb cX2_1 fX2_1; replace fX2_2 := frozen_later hb cX2_2 fX2_2; replace fX2_3 := frozen_later hb cX2_3 fX2_3; replace fX2_4 := frozen_later hb cX2_4 fX2_4
  replace cX2_0 := cell_later hb cX2_0; replace cX2_1 := cell_later hb cX2_1; replace cX2_2 := cell_later hb cX2_2; replace cX2_3 := cell_later hb cX2_3; replace cX2_4 := cell_later hb cX2_4
  replace kk := bC kk hb
  clear hb
  refine hK.out _ _ ⟨cX0_0, cX0_1, cX0_2, cX0_3, cX0_4, cX1_0, cX1_1, cX1_2, cX1_3, cX1_4, trivial⟩ (fun hHeld => ?_)
  clear hK K
  try simp only [List.getElem_toArray, List.getElem_cons_zero, List.getElem_cons_succ, Act.put, List.setIfInBounds_toArray, List.set_cons_zero, List.set_cons_succ]
  clear w2
  clear hHeld
  refine wpAnyH_ready (rs := [3, 7]) (by kernel_rfl) (by simp) ?_
  refine AllReadyH.cons rfl (fun K hK => ?_) (AllReadyH.cons rfl (fun K hK => ?_) AllReadyH.nil)
  go_simp
  (with_reducible refine (CB.out _ _ nbk1).mono ?_); rintro e w4 ⟨rfl, hb⟩
  replace nbk1 := nbk1.later hb
  replace cX0_0 := cell_later hb cX0_0; replace cX0_1 := cell_later hb cX0_1; replace cX0_2 := cell_later hb cX0_2; replace cX0_3 := cell_later hb cX0_3; replace cX0_4 := cell_later hb cX0_4
  replace cX1_0 := cell_later hb cX1_0; replace cX1_1 := cell_later hb cX1_1; replace cX1_2 := cell_later hb cX1_2; replace cX1_3 := cell_later hb cX1_3; replace cX1_4 := cell_later hb cX1_4
  replace fX2_0 := frozen_later hb cX2_0 fX2_0; replace fX2_1 := frozen_later hb cX2_1 fX2_1; replace fX2_2 := frozen_later hb cX2_2 fX2_2; replace fX2_3 := frozen_later hb cX2_3 fX2_3; replace fX2_4 := frozen_later hb cX2_4 fX2_4
  replace cX2_0 := cell_later hb cX2_0; replace cX2_1 := cell_later hb cX2_1; replace cX2_2 := cell_later hb cX2_2; replace cX2_3 := cell_later hb cX2_3; replace cX2_4 := cell_later hb cX2_4
  replace kk := bC kk hb
  clear hb
  clear nbk1
  refine hK.out _ _ ⟨cX0_0, cX0_1, cX0_2, cX0_3, cX0_4, cX1_0, cX1_1, cX1_2, cX1_3, cX1_4, trivial⟩ (fun hHeld => ?_)
  clear hK K
  try simp only [List.getElem_toArray, List.getElem_cons_zero, List.getElem_cons_succ, Act.put, List.setIfInBounds_toArray, List.set_cons_zero, List.set_cons_succ]
  clear w3
  refine wpAnyH_take (i := 4) (v := ?vq89) rfl (by kernel_rfl) (by kernel_rfl) (by kernel_rfl) (fun _ _ _ h => h) (Or.inl ⟨by rfl, ?yq89⟩) hHeld ?rq89
  case yq89 => (intro wq hb; obtain ⟨lq0, lq1, lq2, lq3, lq4, lq5, lq6, lq7, lq8, lq9, _⟩ := hb; go_simp; try (with_reducible rfl))
  try simp only [List.getElem_toArray, List.getElem_cons_zero, List.getElem_cons_succ, Act.put, List.setIfInBounds_toArray, List.set_cons_zero, List.set_cons_succ]
  refine wpAnyH_take (i := 5) (v := ?vq90) rfl (by kernel_rfl) (by kernel_rfl) (by kernel_rfl) (fun _ _ _ h => h) (Or.inl ⟨by rfl, ?yq90⟩) hHeld ?rq90
  case yq90 => (intro wq hb; obtain ⟨lq0, lq1, lq2, lq3, lq4, lq5, lq6, lq7, lq8, lq9, _⟩ := hb; go_simp; try (with_reducible rfl))
  try simp only [List.getElem_toArray, List.getElem_cons_zero, List.getElem_cons_succ, Act.put, List.setIfInBounds_toArray, List.set_cons_zero, List.set_cons_succ]
  refine wpAnyH_take (i := 6) (v := ?vq91) rfl (by kernel_rfl) (by kernel_rfl) (by kernel_rfl) (fun _ _ _ h => h) (Or.inl ⟨by rfl, ?yq91⟩) hHeld ?rq91
  case yq91 => (intro wq hb; obtain ⟨lq0, lq1, lq2, lq3, lq4, lq5, lq6, lq7, lq8, lq9, _⟩ := hb; go_simp; try (with_reducible rfl))
  try simp only [List.getElem_toArray, List.getElem_cons_zero, List.getElem_cons_succ, Act.put, List.setIfInBounds_toArray, List.set_cons_zero, List.set_cons_succ]
  clear hHeld
  refine wpAnyH_ready (rs := [7]) (by kernel_rfl) (by simp) ?_
  refine AllReadyH.cons rfl (fun K hK => ?_) AllReadyH.nil
  go_simp
  have nX0_X3 : w.heap.size < w4.heap.size := World.block_lt_of_cell? _ _ cX0_0
  have nX1_X3 : w.heap.size + 1 < w4.heap.size := World.block_lt_of_cell? _ _ cX1_0
  have nX2_X3 : w.heap.size + 1 + 1 < w4.heap.size := World.block_lt_of_cell? _ _ cX2_0
  have gX3 : w.heap.size ≤ w4.heap.size := kk.size
  have ha := bA (Below.refl _ w4) (.cells #[.int .i64 0, .int .u64 0, .int .u64 0, .int .u64 0, .int .u64 0] 26)
  have hx := HB.new w4 26 #[.int .i64 0, .int .u64 0, .int .u64 0, .int .u64 0, .int .u64 0]
  replace cX0_0 := cell_later ha cX0_0; replace cX0_1 := cell_later ha cX0_1; replace cX0_2 := cell_later ha cX0_2; replace cX0_3 := cell_later ha cX0_3; replace cX0_4 := cell_later ha cX0_4
  replace cX1_0 := cell_later ha cX1_0; replace cX1_1 := cell_later ha cX1_1; replace cX1_2 := cell_later ha cX1_2; replace cX1_3 := cell_later ha cX1_3; replace cX1_4 := cell_later ha cX1_4
  replace fX2_0 := frozen_later ha cX2_0 fX2_0; replace fX2_1 := frozen_later ha cX2_1 fX2_1; replace fX2_2 := frozen_later ha cX2_2 fX2_2; replace fX2_3 := frozen_later ha cX2_3 fX2_3; replace fX2_4 := frozen_later ha cX2_4 fX2_4
  replace cX2_0 := cell_later ha cX2_0; replace cX2_1 := cell_later ha cX2_1; replace cX2_2 := cell_later ha cX2_2; replace cX2_3 := cell_later ha cX2_3; replace cX2_4 := cell_later ha cX2_4
  replace kk := bC kk ha
  have cX3_0 := hx.cell 0; have fX3_0 := hx.frozen 0; have cX3_1 := hx.cell 1; have fX3_1 := hx.frozen 1; have cX3_2 := hx.cell 2; have fX3_2 := hx.frozen 2; have cX3_3 := hx.cell 3; have fX3_3 := hx.frozen 3; have cX3_4 := hx.cell 4; have fX3_4 := hx.frozen 4; dsimp at cX3_0 cX3_1 cX3_2 cX3_3 cX3_4
  clear ha hx
  refine hK.out _ _ ⟨cX0_0, cX0_1, cX0_2, cX0_3, cX0_4, cX1_0, cX1_1, cX1_2, cX1_3, cX1_4, trivial⟩ (fun hHeld => ?_)
  clear hK K
  generalize w4.alloc (.cells #[.int .i64 0, .int .u64 0, .int .u64 0, .int .u64 0, .int .u64 0] 26) = w5 at *
  generalize w4.heap.size = pp1 at *
  try simp only [List.getElem_toArray, List.getElem_cons_zero, List.getElem_cons_succ, Act.put, List.setIfInBounds_toArray, List.set_cons_zero, List.set_cons_succ]
  clear w4
  clear hHeld
  refine wpAnyH_ready (rs := [8]) (by kernel_rfl) (by simp) ?_
  refine AllReadyH.cons rfl (fun K hK => ?_) AllReadyH.nil
  go_simp
  have neX0 : ¬ (pp1 = w.heap.size) := by omega
  have nfX0 : ¬ (w.heap.size = pp1) := by omega
  have neX1 : ¬ (pp1 = w.heap.size + 1) := by omega
  have nfX1 : ¬ (w.heap.size + 1 = pp1) := by omega
  have neX2 : ¬ (pp1 = w.heap.size + 1 + 1) := by omega
  have nfX2 : ¬ (w.heap.size + 1 + 1 = pp1) := by omega
  have KEY := Lib.hid (show (fun W => W.cell? ⟨w.heap.size, 0, none⟩ = some (.int .i64 ea) ∧ W.cell? ⟨w.heap.size, 1, none⟩ = some (.int .u64 x0) ∧ W.cell? ⟨w.heap.size, 2, none⟩ = some (.int .u64 x1) ∧ W.cell? ⟨w.heap.size, 3, none⟩ = some (.int .u64 x2) ∧ W.cell? ⟨w.heap.size, 4, none⟩ = some (.int .u64 x3) ∧ W.cell? ⟨w.heap.size + 1, 0, none⟩ = some (.int .i64 eb) ∧ W.cell? ⟨w.heap.size + 1, 1, none⟩ = some (.int .u64 y0) ∧ W.cell? ⟨w.heap.size + 1, 2, none⟩ = some (.int .u64 y1) ∧ W.cell? ⟨w.heap.size + 1, 3, none⟩ = some (.int .u64 y2) ∧ W.cell? ⟨w.heap.size + 1, 4, none⟩ = some (.int .u64 y3) ∧ W.cell? ⟨w.heap.size + 1 + 1, 0, none⟩ = some (.int .i64 0) ∧ W.cell? ⟨w.heap.size + 1 + 1, 1, none⟩ = some (.int .u64 0) ∧ W.cell? ⟨w.heap.size + 1 + 1, 2, none⟩ = some (.int .u64 0) ∧ W.cell? ⟨w.heap.size + 1 + 1, 3, none⟩ = some (.int .u64 0) ∧ W.cell? ⟨w.heap.size + 1 + 1, 4, none⟩ = some (.int .u64 0) ∧ W.frozen? ⟨w.heap.size + 1 + 1, 0, none⟩ = false ∧ W.frozen? ⟨w.heap.size + 1 + 1, 1, none⟩ = false ∧ W.frozen? ⟨w.heap.size + 1 + 1, 2, none⟩ = false ∧ W.frozen? ⟨w.heap.size + 1 + 1, 3, none⟩ = false ∧ W.frozen? ⟨w.heap.size + 1 + 1, 4, none⟩ = false ∧ W.cell? ⟨pp1, 0, none⟩ = some (.int .i64 m) ∧ W.cell? ⟨pp1, 1, none⟩ = some (.int .u64 z0) ∧ W.cell? ⟨pp1, 2, none⟩ = some (.int .u64 z1) ∧ W.cell? ⟨pp1, 3, none⟩ = some (.int .u64 z2) ∧ W.cell? ⟨pp1, 4, none⟩ = some (.int .u64 z3) ∧ W.frozen? ⟨pp1, 0, none⟩ = false ∧ W.frozen? ⟨pp1, 1, none⟩ = false ∧ W.frozen? ⟨pp1, 2, none⟩ = false ∧ W.frozen? ⟨pp1, 3, none⟩ = false ∧ W.frozen? ⟨pp1, 4, none⟩ = false ∧ Below w.heap.size w W) (((((w5.setCell ⟨pp1, 0, none⟩ (.int .i64 m)).setCell ⟨pp1, 1, none⟩ (.int .u64 z0)).setCell ⟨pp1, 2, none⟩ (.int .u64 z1)).setCell ⟨pp1, 3, none⟩ (.int .u64 z2)).setCell ⟨pp1, 4, none⟩ (.int .u64 z3)) from ⟨by go_simp, by go_simp, by go_simp, by go_simp, by go_simp, by go_simp, by go_simp, by go_simp, by go_simp, by go_simp, by go_simp, by go_simp, by go_simp, by go_simp, by go_simp, by go_simp, by go_simp, by go_simp, by go_simp, by go_simp, by go_simp, by go_simp, by go_simp, by go_simp, by go_simp, by go_simp, by go_simp, by go_simp, by go_simp, by go_simp, (((((kk.setCell (p := ⟨pp1, 0, none⟩) gX3 _).setCell (p := ⟨pp1, 1, none⟩) gX3 _).setCell (p := ⟨pp1, 2, none⟩) gX3 _).setCell (p := ⟨pp1, 3, none⟩) gX3 _).setCell (p := ⟨pp1, 4, none⟩) gX3 _)⟩)
  clear cX0_0 cX0_1 cX0_2 cX0_3 cX0_4 cX1_0 cX1_1 cX1_2 cX1_3 cX1_4 cX2_0 cX2_1 cX2_2 cX2_3 cX2_4 fX2_0 fX2_1 fX2_2 fX2_3 fX2_4 cX3_0 cX3_1 cX3_2 cX3_3 cX3_4 fX3_0 fX3_1 fX3_2 fX3_3 fX3_4 neX0 nfX0 neX1 nfX1 neX2 nfX2 kk
  refine forget_at (fun W => W.cell? ⟨w.heap.size, 0, none⟩ = some (.int .i64 ea) ∧ W.cell? ⟨w.heap.size, 1, none⟩ = some (.int .u64 x0) ∧ W.cell? ⟨w.heap.size, 2, none⟩ = some (.int .u64 x1) ∧ W.cell? ⟨w.heap.size, 3, none⟩ = some (.int .u64 x2) ∧ W.cell? ⟨w.heap.size, 4, none⟩ = some (.int .u64 x3) ∧ W.cell? ⟨w.heap.size + 1, 0, none⟩ = some (.int .i64 eb) ∧ W.cell? ⟨w.heap.size + 1, 1, none⟩ = some (.int .u64 y0) ∧ W.cell? ⟨w.heap.size + 1, 2, none⟩ = some (.int .u64 y1) ∧ W.cell? ⟨w.heap.size + 1, 3, none⟩ = some (.int .u64 y2) ∧ W.cell? ⟨w.heap.size + 1, 4, none⟩ = some (.int .u64 y3) ∧ W.cell? ⟨w.heap.size + 1 + 1, 0, none⟩ = some (.int .i64 0) ∧ W.cell? ⟨w.heap.size + 1 + 1, 1, none⟩ = some (.int .u64 0) ∧ W.cell? ⟨w.heap.size + 1 + 1, 2, none⟩ = some (.int .u64 0) ∧ W.cell? ⟨w.heap.size + 1 + 1, 3, none⟩ = some (.int .u64 0) ∧ W.cell? ⟨w.heap.size + 1 + 1, 4, none⟩ = some (.int .u64 0) ∧ W.frozen? ⟨w.heap.size + 1 + 1, 0, none⟩ = false ∧ W.frozen? ⟨w.heap.size + 1 + 1, 1, none⟩ = false ∧ W.frozen? ⟨w.heap.size + 1 + 1, 2, none⟩ = false ∧ W.frozen? ⟨w.heap.size + 1 + 1, 3, none⟩ = false ∧ W.frozen? ⟨w.heap.size + 1 + 1, 4, none⟩ = false ∧ W.cell? ⟨pp1, 0, none⟩ = some (.int .i64 m) ∧ W.cell? ⟨pp1, 1, none⟩ = some (.int .u64 z0) ∧ W.cell? ⟨pp1, 2, none⟩ = some (.int .u64 z1) ∧ W.cell? ⟨pp1, 3, none⟩ = some (.int .u64 z2) ∧ W.cell? ⟨pp1, 4, none⟩ = some (.int .u64 z3) ∧ W.frozen? ⟨pp1, 0, none⟩ = false ∧ W.frozen? ⟨pp1, 1, none⟩ = false ∧ W.frozen? ⟨pp1, 2, none⟩ = false ∧ W.frozen? ⟨pp1, 3, none⟩ = false ∧ W.frozen? ⟨pp1, 4, none⟩ = false ∧ Below w.heap.size w W) KEY.out (fun w6 hz => ?_)
  obtain ⟨cX0_0, cX0_1, cX0_2, cX0_3, cX0_4, cX1_0, cX1_1, cX1_2, cX1_3, cX1_4, cX2_0, cX2_1, cX2_2, cX2_3, cX2_4, fX2_0, fX2_1, fX2_2, fX2_3, fX2_4, cX3_0, cX3_1, cX3_2, cX3_3, cX3_4, fX3_0, fX3_1, fX3_2, fX3_3, fX3_4, kk⟩ := hz
  clear KEY
  refine hK.out _ _ ⟨cX0_0, cX0_1, cX0_2, cX0_3, cX0_4, cX1_0, cX1_1, cX1_2, cX1_3, cX1_4, trivial⟩ (fun hHeld => ?_)
  clear hK K
  try simp only [List.getElem_toArray, List.getElem_cons_zero, List.getElem_cons_succ, Act.put, List.setIfInBounds_toArray, List.set_cons_zero, List.set_cons_succ]
  clear w5
  refine wpAnyH_take (i := 9) (v := ?vq92) rfl (by kernel_rfl) (by kernel_rfl) (by kernel_rfl) (fun _ _ _ h => h) (Or.inl ⟨by rfl, ?yq92⟩) hHeld ?rq92
  case yq92 => (intro wq hb; obtain ⟨lq0, lq1, lq2, lq3, lq4, lq5, lq6, lq7, lq8, lq9, _⟩ := hb; go_simp; try (with_reducible rfl))
  try simp only [List.getElem_toArray, List.getElem_cons_zero, List.getElem_cons_succ, Act.put, List.setIfInBounds_toArray, List.set_cons_zero, List.set_cons_succ]
  clear hHeld
  refine wpAnyH_done (by kernel_rfl) ?_ _
  refine NoPanic.normal ?_
  revert kk; revert nX2_X3; revert nX1_X3; revert nX0_X3; revert gX3; revert fX3_4; revert fX3_3; revert fX3_2; revert fX3_1; revert fX3_0; revert cX3_4; revert cX3_3; revert cX3_2; revert cX3_1; revert cX3_0; revert fX2_4; revert fX2_3; revert fX2_2; revert fX2_1; revert fX2_0; revert cX2_4; revert cX2_3; revert cX2_2; revert cX2_1; revert cX2_0; revert cX1_4; revert cX1_3; revert cX1_2; revert cX1_1; revert cX1_0; revert cX0_4; revert cX0_3; revert cX0_2; revert cX0_1; revert cX0_0; revert bk1; revert pp1; revert w6
  refine ?restw2
  rotate_left
  go_simp
  have nX0_X3 : w.heap.size < w3.heap.size := World.block_lt_of_cell? _ _ cX0_0
  have nX1_X3 : w.heap.size + 1 < w3.heap.size := World.block_lt_of_cell? _ _ cX1_0
  have nX2_X3 : w.heap.size + 1 + 1 < w3.heap.size := World.block_lt_of_cell? _ _ cX2_0
  have gX3 : w.heap.size ≤ w3.heap.size := kk.size
  have ha := bA (Below.refl _ w3) (.cells #[.int .i64 0, .int .u64 0, .int .u64 0, .int .u64 0, .int .u64 0] 26)
  have hx := HB.new w3 26 #[.int .i64 0, .int .u64 0, .int .u64 0, .int .u64 0, .int .u64 0]
  replace nbk1 := nbk1.later ha
  replace cX0_0 := cell_later ha cX0_0; replace cX0_1 := cell_later ha cX0_1; replace cX0_2 := cell_later ha cX0_2; replace cX0_3 := cell_later ha cX0_3; replace cX0_4 := cell_later ha cX0_4
  replace cX1_0 := cell_later ha cX1_0; replace cX1_1 := cell_later ha cX1_1; replace cX1_2 := cell_later ha cX1_2; replace cX1_3 := cell_later ha cX1_3; replace cX1_4 := cell_later ha cX1_4
  replace fX2_0 := frozen_later ha cX2_0 fX2_0; replace fX2_1 := frozen_later ha cX2_1 fX2_1; replace fX2_2 := frozen_later ha cX2_2 fX2_2; replace fX2_3 := frozen_later ha cX2_3 fX2_3; replace fX2_4 := frozen_later ha cX2_4 fX2_4
  replace cX2_0 := cell_later ha cX2_0; replace cX2_1 := cell_later ha cX2_1; replace cX2_2 := cell_later ha cX2_2; replace cX2_3 := cell_later ha cX2_3; replace cX2_4 := cell_later ha cX2_4
  replace kk := bC kk ha
  have cX3_0 := hx.cell 0; have fX3_0 := hx.frozen 0; have cX3_1 := hx.cell 1; have fX3_1 := hx.frozen 1; have cX3_2 := hx.cell 2; have fX3_2 := hx.frozen 2; have cX3_3 := hx.cell 3; have fX3_3 := hx.frozen 3; have cX3_4 := hx.cell 4; have fX3_4 := hx.frozen 4; dsimp at cX3_0 cX3_1 cX3_2 cX3_3 cX3_4
  clear ha hx
  refine hK.out _ _ ⟨cX0_0, cX0_1, cX0_2, cX0_3, cX0_4, cX1_0, cX1_1, cX1_2, cX1_3, cX1_4, trivial⟩ (fun hHeld => ?_)
  clear hK K
  generalize w3.alloc (.cells #[.int .i64 0, .int .u64 0, .int .u64 0, .int .u64 0, .int .u64 0] 26) = w7 at *
  generalize w3.heap.size = pp1 at *
  try simp only [List.getElem_toArray, List.getElem_cons_zero, List.getElem_cons_succ, Act.put, List.setIfInBounds_toArray, List.set_cons_zero, List.set_cons_succ]
  clear w3
  clear hHeld
  refine wpAnyH_ready (rs := [3]) (by kernel_rfl) (by simp) ?_
  refine AllReadyH.cons rfl (fun K hK => ?_) AllReadyH.nil
  go_simp
  (with_reducible refine (CB.out _ _ nbk1).mono ?_); rintro e w8 ⟨rfl, hb⟩
  replace nbk1 := nbk1.later hb
  replace cX0_0 := cell_later hb cX0_0; replace cX0_1 := cell_later hb cX0_1; replace cX0_2 := cell_later hb cX0_2; replace cX0_3 := cell_later hb cX0_3; replace cX0_4 := cell_later hb cX0_4
  replace cX1_0 := cell_later hb cX1_0; replace cX1_1 := cell_later hb cX1_1; replace cX1_2 := cell_later hb cX1_2; replace cX1_3 := cell_later hb cX1_3; replace cX1_4 := cell_later hb cX1_4
  replace fX2_0 := frozen_later hb cX2_0 fX2_0; replace fX2_1 := frozen_later hb cX2_1 fX2_1; replace fX2_2 := frozen_later hb cX2_2 fX2_2; replace fX2_3 := frozen_later hb cX2_3 fX2_3; replace fX2_4 := frozen_later hb cX2_4 fX2_4
  replace cX2_0 := cell_later hb cX2_0; replace cX2_1 := cell_later hb cX2_1; replace cX2_2 := cell_later hb cX2_2; replace cX2_3 := cell_later hb cX2_3; replace cX2_4 := cell_later hb cX2_4
  replace fX3_0 := frozen_later hb cX3_0 fX3_0; replace fX3_1 := frozen_later hb cX3_1 fX3_1; replace fX3_2 := frozen_later hb cX3_2 fX3_2; replace fX3_3 := frozen_later hb cX3_3 fX3_3; replace fX3_4 := frozen_later hb cX3_4 fX3_4
  replace cX3_0 := cell_later hb cX3_0; replace cX3_1 := cell_later hb cX3_1; replace cX3_2 := cell_later hb cX3_2; replace cX3_3 := cell_later hb cX3_3; replace cX3_4 := cell_later hb cX3_4
  replace kk := bC kk hb
  clear hb
  clear nbk1
  refine hK.out _ _ ⟨cX0_0, cX0_1, cX0_2, cX0_3, cX0_4, cX1_0, cX1_1, cX1_2, cX1_3, cX1_4, trivial⟩ (fun hHeld => ?_)
  clear hK K
  try simp only [List.getElem_toArray, List.getElem_cons_zero, List.getElem_cons_succ, Act.put, List.setIfInBounds_toArray, List.set_cons_zero, List.set_cons_succ]
  clear w7
  refine wpAnyH_take (i := 4) (v := ?vq93) rfl (by kernel_rfl) (by kernel_rfl) (by kernel_rfl) (fun _ _ _ h => h) (Or.inl ⟨by rfl, ?yq93⟩) hHeld ?rq93
  case yq93 => (intro wq hb; obtain ⟨lq0, lq1, lq2, lq3, lq4, lq5, lq6, lq7, lq8, lq9, _⟩ := hb; go_simp; try (with_reducible rfl))
  try simp only [List.getElem_toArray, List.getElem_cons_zero, List.getElem_cons_succ, Act.put, List.setIfInBounds_toArray, List.set_cons_zero, List.set_cons_succ]
  refine wpAnyH_take (i := 5) (v := ?vq94) rfl (by kernel_rfl) (by kernel_rfl) (by kernel_rfl) (fun _ _ _ h => h) (Or.inl ⟨by rfl, ?yq94⟩) hHeld ?rq94
  case yq94 => (intro wq hb; obtain ⟨lq0, lq1, lq2, lq3, lq4, lq5, lq6, lq7, lq8, lq9, _⟩ := hb; go_simp; try (with_reducible rfl))
  try simp only [List.getElem_toArray, List.getElem_cons_zero, List.getElem_cons_succ, Act.put, List.setIfInBounds_toArray, List.set_cons_zero, List.set_cons_succ]
  refine wpAnyH_take (i := 6) (v := ?vq95) rfl (by kernel_rfl) (by kernel_rfl) (by kernel_rfl) (fun _ _ _ h => h) (Or.inl ⟨by rfl, ?yq95⟩) hHeld ?rq95
  case yq95 => (intro wq hb; obtain ⟨lq0, lq1, lq2, lq3, lq4, lq5, lq6, lq7, lq8, lq9, _⟩ := hb; go_simp; try (with_reducible rfl))
  try simp only [List.getElem_toArray, List.getElem_cons_zero, List.getElem_cons_succ, Act.put, List.setIfInBounds_toArray, List.set_cons_zero, List.set_cons_succ]
  clear hHeld
  refine wpAnyH_ready (rs := [8]) (by kernel_rfl) (by simp) ?_
  refine AllReadyH.cons rfl (fun K hK => ?_) AllReadyH.nil
  go_simp
  have neX0 : ¬ (pp1 = w.heap.size) := by omega
  have nfX0 : ¬ (w.heap.size = pp1) := by omega
  have neX1 : ¬ (pp1 = w.heap.size + 1) := by omega
  have nfX1 : ¬ (w.heap.size + 1 = pp1) := by omega
  have neX2 : ¬ (pp1 = w.heap.size + 1 + 1) := by omega
  have nfX2 : ¬ (w.heap.size + 1 + 1 = pp1) := by omega
  have KEY := Lib.hid (show (fun W => W.cell? ⟨w.heap.size, 0, none⟩ = some (.int .i64 ea) ∧ W.cell? ⟨w.heap.size, 1, none⟩ = some (.int .u64 x0) ∧ W.cell? ⟨w.heap.size, 2, none⟩ = some (.int .u64 x1) ∧ W.cell? ⟨w.heap.size, 3, none⟩ = some (.int .u64 x2) ∧ W.cell? ⟨w.heap.size, 4, none⟩ = some (.int .u64 x3) ∧ W.cell? ⟨w.heap.size + 1, 0, none⟩ = some (.int .i64 eb) ∧ W.cell? ⟨w.heap.size + 1, 1, none⟩ = some (.int .u64 y0) ∧ W.cell? ⟨w.heap.size + 1, 2, none⟩ = some (.int .u64 y1) ∧ W.cell? ⟨w.heap.size + 1, 3, none⟩ = some (.int .u64 y2) ∧ W.cell? ⟨w.heap.size + 1, 4, none⟩ = some (.int .u64 y3) ∧ W.cell? ⟨w.heap.size + 1 + 1, 0, none⟩ = some (.int .i64 0) ∧ W.cell? ⟨w.heap.size + 1 + 1, 1, none⟩ = some (.int .u64 0) ∧ W.cell? ⟨w.heap.size + 1 + 1, 2, none⟩ = some (.int .u64 0) ∧ W.cell? ⟨w.heap.size + 1 + 1, 3, none⟩ = some (.int .u64 0) ∧ W.cell? ⟨w.heap.size + 1 + 1, 4, none⟩ = some (.int .u64 0) ∧ W.frozen? ⟨w.heap.size + 1 + 1, 0, none⟩ = false ∧ W.frozen? ⟨w.heap.size + 1 + 1, 1, none⟩ = false ∧ W.frozen? ⟨w.heap.size + 1 + 1, 2, none⟩ = false ∧ W.frozen? ⟨w.heap.size + 1 + 1, 3, none⟩ = false ∧ W.frozen? ⟨w.heap.size + 1 + 1, 4, none⟩ = false ∧ W.cell? ⟨pp1, 0, none⟩ = some (.int .i64 m) ∧ W.cell? ⟨pp1, 1, none⟩ = some (.int .u64 z0) ∧ W.cell? ⟨pp1, 2, none⟩ = some (.int .u64 z1) ∧ W.cell? ⟨pp1, 3, none⟩ = some (.int .u64 z2) ∧ W.cell? ⟨pp1, 4, none⟩ = some (.int .u64 z3) ∧ W.frozen? ⟨pp1, 0, none⟩ = false ∧ W.frozen? ⟨pp1, 1, none⟩ = false ∧ W.frozen? ⟨pp1, 2, none⟩ = false ∧ W.frozen? ⟨pp1, 3, none⟩ = false ∧ W.frozen? ⟨pp1, 4, none⟩ = false ∧ Below w.heap.size w W) (((((w8.setCell ⟨pp1, 0, none⟩ (.int .i64 m)).setCell ⟨pp1, 1, none⟩ (.int .u64 z0)).setCell ⟨pp1, 2, none⟩ (.int .u64 z1)).setCell ⟨pp1, 3, none⟩ (.int .u64 z2)).setCell ⟨pp1, 4, none⟩ (.int .u64 z3)) from ⟨by go_simp, by go_simp, by go_simp, by go_simp, by go_simp, by go_simp, by go_simp, by go_simp, by go_simp, by go_simp, by go_simp, by go_simp, by go_simp, by go_simp, by go_simp, by go_simp, by go_simp, by go_simp, by go_simp, by go_simp, by go_simp, by go_simp, by go_simp, by go_simp, by go_simp, by go_simp, by go_simp, by go_simp, by go_simp, by go_simp, (((((kk.setCell (p := ⟨pp1, 0, none⟩) gX3 _).setCell (p := ⟨pp1, 1, none⟩) gX3 _).setCell (p := ⟨pp1, 2, none⟩) gX3 _).setCell (p := ⟨pp1, 3, none⟩) gX3 _).setCell (p := ⟨pp1, 4, none⟩) gX3 _)⟩)
  clear cX0_0 cX0_1 cX0_2 cX0_3 cX0_4 cX1_0 cX1_1 cX1_2 cX1_3 cX1_4 cX2_0 cX2_1 cX2_2 cX2_3 cX2_4 fX2_0 fX2_1 fX2_2 fX2_3 fX2_4 cX3_0 cX3_1 cX3_2 cX3_3 cX3_4 fX3_0 fX3_1 fX3_2 fX3_3 fX3_4 neX0 nfX0 neX1 nfX1 neX2 nfX2 kk
  refine forget_at (fun W => W.cell? ⟨w.heap.size, 0, none⟩ = some (.int .i64 ea) ∧ W.cell? ⟨w.heap.size, 1, none⟩ = some (.int .u64 x0) ∧ W.cell? ⟨w.heap.size, 2, none⟩ = some (.int .u64 x1) ∧ W.cell? ⟨w.heap.size, 3, none⟩ = some (.int .u64 x2) ∧ W.cell? ⟨w.heap.size, 4, none⟩ = some (.int .u64 x3) ∧ W.cell? ⟨w.heap.size + 1, 0, none⟩ = some (.int .i64 eb) ∧ W.cell? ⟨w.heap.size + 1, 1, none⟩ = some (.int .u64 y0) ∧ W.cell? ⟨w.heap.size + 1, 2, none⟩ = some (.int .u64 y1) ∧ W.cell? ⟨w.heap.size + 1, 3, none⟩ = some (.int .u64 y2) ∧ W.cell? ⟨w.heap.size + 1, 4, none⟩ = some (.int .u64 y3) ∧ W.cell? ⟨w.heap.size + 1 + 1, 0, none⟩ = some (.int .i64 0) ∧ W.cell? ⟨w.heap.size + 1 + 1, 1, none⟩ = some (.int .u64 0) ∧ W.cell? ⟨w.heap.size + 1 + 1, 2, none⟩ = some (.int .u64 0) ∧ W.cell? ⟨w.heap.size + 1 + 1, 3, none⟩ = some (.int .u64 0) ∧ W.cell? ⟨w.heap.size + 1 + 1, 4, none⟩ = some (.int .u64 0) ∧ W.frozen? ⟨w.heap.size + 1 + 1, 0, none⟩ = false ∧ W.frozen? ⟨w.heap.size + 1 + 1, 1, none⟩ = false ∧ W.frozen? ⟨w.heap.size + 1 + 1, 2, none⟩ = false ∧ W.frozen? ⟨w.heap.size + 1 + 1, 3, none⟩ = false ∧ W.frozen? ⟨w.heap.size + 1 + 1, 4, none⟩ = false ∧ W.cell? ⟨pp1, 0, none⟩ = some (.int .i64 m) ∧ W.cell? ⟨pp1, 1, none⟩ = some (.int .u64 z0) ∧ W.cell? ⟨pp1, 2, none⟩ = some (.int .u64 z1) ∧ W.cell? ⟨pp1, 3, none⟩ = some (.int .u64 z2) ∧ W.cell? ⟨pp1, 4, none⟩ = some (.int .u64 z3) ∧ W.frozen? ⟨pp1, 0, none⟩ = false ∧ W.frozen? ⟨pp1, 1, none⟩ = false ∧ W.frozen? ⟨pp1, 2, none⟩ = false ∧ W.frozen? ⟨pp1, 3, none⟩ = false ∧ W.frozen? ⟨pp1, 4, none⟩ = false ∧ Below w.heap.size w W) KEY.out (fun w9 hz => ?_)
  obtain ⟨cX0_0, cX0_1, cX0_2, cX0_3, cX0_4, cX1_0, cX1_1, cX1_2, cX1_3, cX1_4, cX2_0, cX2_1, cX2_2, cX2_3, cX2_4, fX2_0, fX2_1, fX2_2, fX2_3, fX2_4, cX3_0, cX3_1, cX3_2, cX3_3, cX3_4, fX3_0, fX3_1, fX3_2, fX3_3, fX3_4, kk⟩ := hz
  clear KEY
  refine hK.out _ _ ⟨cX0_0, cX0_1, cX0_2, cX0_3, cX0_4, cX1_0, cX1_1, cX1_2, cX1_3, cX1_4, trivial⟩ (fun hHeld => ?_)
  clear hK K
  try simp only [List.getElem_toArray, List.getElem_cons_zero, List.getElem_cons_succ, Act.put, List.setIfInBounds_toArray, List.set_cons_zero, List.set_cons_succ]
  clear w8
  refine wpAnyH_take (i := 9) (v := ?vq96) rfl (by kernel_rfl) (by kernel_rfl) (by kernel_rfl) (fun _ _ _ h => h) (Or.inl ⟨by rfl, ?yq96⟩) hHeld ?rq96
  case yq96 => (intro wq hb; obtain ⟨lq0, lq1, lq2, lq3, lq4, lq5, lq6, lq7, lq8, lq9, _⟩ := hb; go_simp; try (with_reducible rfl))
  try simp only [List.getElem_toArray, List.getElem_cons_zero, List.getElem_cons_succ, Act.put, List.setIfInBounds_toArray, List.set_cons_zero, List.set_cons_succ]
  clear hHeld
  refine wpAnyH_done (by kernel_rfl) ?_ _
  refine NoPanic.normal ?_
  revert kk; revert nX2_X3; revert nX1_X3; revert nX0_X3; revert gX3; revert fX3_4; revert fX3_3; revert fX3_2; revert fX3_1; revert fX3_0; revert cX3_4; revert cX3_3; revert cX3_2; revert cX3_1; revert cX3_0; revert fX2_4; revert fX2_3; revert fX2_2; revert fX2_1; revert fX2_0; revert cX2_4; revert cX2_3; revert cX2_2; revert cX2_1; revert cX2_0; revert cX1_4; revert cX1_3; revert cX1_2; revert cX1_1; revert cX1_0; revert cX0_4; revert cX0_3; revert cX0_2; revert cX0_1; revert cX0_0; revert bk1; revert pp1; revert w9
  exact ?restw2
  go_simp
  have nX0_X3 : w.heap.size < w2.heap.size := World.block_lt_of_cell? _ _ cX0_0
  have nX1_X3 : w.heap.size + 1 < w2.heap.size := World.block_lt_of_cell? _ _ cX1_0
  have nX2_X3 : w.heap.size + 1 + 1 < w2.heap.size := World.block_lt_of_cell? _ _ cX2_0
  have gX3 : w.heap.size ≤ w2.heap.size := kk.size
  have ha := bA (Below.refl _ w2) (.cells #[.int .i64 0, .int .u64 0, .int .u64 0, .int .u64 0, .int .u64 0] 26)
  have hx := HB.new w2 26 #[.int .i64 0, .int .u64 0, .int .u64 0, .int .u64 0, .int .u64 0]
  replace cX0_0 := cell_later ha cX0_0; replace cX0_1 := cell_later ha cX0_1; replace cX0_2 := cell_later ha cX0_2; replace cX0_3 := cell_later ha cX0_3; replace cX0_4 := cell_later ha cX0_4
  replace cX1_0 := cell_later ha cX1_0; replace cX1_1 := cell_later ha cX1_1; replace cX1_2 := cell_later ha cX1_2; replace cX1_3 := cell_later ha cX1_3; replace cX1_4 := cell_later ha cX1_4
  replace fX2_0 := frozen_later ha cX2_0 fX2_0; replace fX2_1 := frozen_later ha cX2_1 fX2_1; replace fX2_2 := frozen_later ha cX2_2 fX2_2; replace fX2_3 := frozen_later ha cX2_3 fX2_3; replace fX2_4 := frozen_later ha cX2_4 fX2_4
  replace cX2_0 := cell_later ha cX2_0; replace cX2_1 := cell_later ha cX2_1; replace cX2_2 := cell_later ha cX2_2; replace cX2_3 := cell_later ha cX2_3; replace cX2_4 := cell_later ha cX2_4
  replace kk := bC kk ha
  have cX3_0 := hx.cell 0; have fX3_0 := hx.frozen 0; have cX3_1 := hx.cell 1; have fX3_1 := hx.frozen 1; have cX3_2 := hx.cell 2; have fX3_2 := hx.frozen 2; have cX3_3 := hx.cell 3; have fX3_3 := hx.frozen 3; have cX3_4 := hx.cell 4; have fX3_4 := hx.frozen 4; dsimp at cX3_0 cX3_1 cX3_2 cX3_3 cX3_4
  clear ha hx
  refine hK.out _ _ ⟨cX0_0, cX0_1, cX0_2, cX0_3, cX0_4, cX1_0, cX1_1, cX1_2, cX1_3, cX1_4, trivial⟩ (fun hHeld => ?_)
  clear hK K
  generalize w2.alloc (.cells #[.int .i64 0, .int .u64 0, .int .u64 0, .int .u64 0, .int .u64 0] 26) = w10 at *
  generalize w2.heap.size = pp1 at *
  try simp only [List.getElem_toArray, List.getElem_cons_zero, List.getElem_cons_succ, Act.put, List.setIfInBounds_toArray, List.set_cons_zero, List.set_cons_succ]
  clear w2
  clear hHeld
  refine wpAnyH_ready (rs := [2]) (by kernel_rfl) (by simp) ?_
  refine AllReadyH.cons rfl (fun K hK => ?_) AllReadyH.nil
  go_simp
  (with_reducible refine (FT.out _).mono ?_); rintro e w11 ⟨bk1, rfl, nbk1, hb⟩
  replace cX0_0 := cell_later hb cX0_0; replace cX0_1 := cell_later hb cX0_1; replace cX0_2 := cell_later hb cX0_2; replace cX0_3 := cell_later hb cX0_3; replace cX0_4 := cell_later hb cX0_4
  replace cX1_0 := cell_later hb cX1_0; replace cX1_1 := cell_later hb cX1_1; replace cX1_2 := cell_later hb cX1_2; replace cX1_3 := cell_later hb cX1_3; replace cX1_4 := cell_later hb cX1_4
  replace fX2_0 := frozen_later hb cX2_0 fX2_0; replace fX2_1 := frozen_later hb cX2_1 fX2_1; replace fX2_2 := frozen_later hb cX2_2 fX2_2; replace fX2_3 := frozen_later hb cX2_3 fX2_3; replace fX2_4 := frozen_later hb cX2_4 fX2_4
  replace cX2_0 := cell_later hb cX2_0; replace cX2_1 := cell_later hb cX2_1; replace cX2_2 := cell_later hb cX2_2; replace cX2_3 := cell_later hb cX2_3; replace cX2_4 := cell_later hb cX2_4
  replace fX3_0 := frozen_later hb cX3_0 fX3_0; replace fX3_1 := frozen_later hb cX3_1 fX3_1; replace fX3_2 := frozen_later hb cX3_2 fX3_2; replace fX3_3 := frozen_later hb cX3_3 fX3_3; replace fX3_4 := frozen_later hb cX3_4 fX3_4
  replace cX3_0 := cell_later hb cX3_0; replace cX3_1 := cell_later hb cX3_1; replace cX3_2 := cell_later hb cX3_2; replace cX3_3 := cell_later hb cX3_3; replace cX3_4 := cell_later hb cX3_4
  replace kk := bC kk hb
  clear hb
  refine hK.out _ _ ⟨cX0_0, cX0_1, cX0_2, cX0_3, cX0_4, cX1_0, cX1_1, cX1_2, cX1_3, cX1_4, trivial⟩ (fun hHeld => ?_)
  clear hK K
  try simp only [List.getElem_toArray, List.getElem_cons_zero, List.getElem_cons_succ, Act.put, List.setIfInBounds_toArray, List.set_cons_zero, List.set_cons_succ]
  clear w10
  clear hHeld
  refine wpAnyH_ready (rs := [3]) (by kernel_rfl) (by simp) ?_
  refine AllReadyH.cons rfl (fun K hK => ?_) AllReadyH.nil
  go_simp
  (with_reducible refine (CB.out _ _ nbk1).mono ?_); rintro e w12 ⟨rfl, hb⟩
  replace nbk1 := nbk1.later hb
  replace cX0_0 := cell_later hb cX0_0; replace cX0_1 := cell_later hb cX0_1; replace cX0_2 := cell_later hb cX0_2; replace cX0_3 := cell_later hb cX0_3; replace cX0_4 := cell_later hb cX0_4
  replace cX1_0 := cell_later hb cX1_0; replace cX1_1 := cell_later hb cX1_1; replace cX1_2 := cell_later hb cX1_2; replace cX1_3 := cell_later hb cX1_3; replace cX1_4 := cell_later hb cX1_4
  replace fX2_0 := frozen_later hb cX2_0 fX2_0; replace fX2_1 := frozen_later hb cX2_1 fX2_1; replace fX2_2 := frozen_later hb cX2_2 fX2_2; replace fX2_3 := frozen_later hb cX2_3 fX2_3; replace fX2_4 := frozen_later hb cX2_4 fX2_4
  replace cX2_0 := cell_later hb cX2_0; replace cX2_1 := cell_later hb cX2_1; replace cX2_2 := cell_later hb cX2_2; replace cX2_3 := cell_later hb cX2_3; replace cX2_4 := cell_later hb cX2_4
  replace fX3_0 := frozen_later hb cX3_0 fX3_0; replace fX3_1 := frozen_later hb cX3_1 fX3_1; replace fX3_2 := frozen_later hb cX3_2 fX3_2; replace fX3_3 := frozen_later hb cX3_3 fX3_3; replace fX3_4 := frozen_later hb cX3_4 fX3_4
  replace cX3_0 := cell_later hb cX3_0; replace cX3_1 := cell_later hb cX3_1; replace cX3_2 := cell_later hb cX3_2; replace cX3_3 := cell_later hb cX3_3; replace cX3_4 := cell_later hb cX3_4
  replace kk := bC kk hb
  clear hb
  clear nbk1
  refine hK.out _ _ ⟨cX0_0, cX0_1, cX0_2, cX0_3, cX0_4, cX1_0, cX1_1, cX1_2, cX1_3, cX1_4, trivial⟩ (fun hHeld => ?_)
  clear hK K
  try simp only [List.getElem_toArray, List.getElem_cons_zero, List.getElem_cons_succ, Act.put, List.setIfInBounds_toArray, List.set_cons_zero, List.set_cons_succ]
  clear w11
  refine wpAnyH_take (i := 4) (v := ?vq97) rfl (by kernel_rfl) (by kernel_rfl) (by kernel_rfl) (fun _ _ _ h => h) (Or.inl ⟨by rfl, ?yq97⟩) hHeld ?rq97
  case yq97 => (intro wq hb; obtain ⟨lq0, lq1, lq2, lq3, lq4, lq5, lq6, lq7, lq8, lq9, _⟩ := hb; go_simp; try (with_reducible rfl))
  try simp only [List.getElem_toArray, List.getElem_cons_zero, List.getElem_cons_succ, Act.put, List.setIfInBounds_toArray, List.set_cons_zero, List.set_cons_succ]
  refine wpAnyH_take (i := 5) (v := ?vq98) rfl (by kernel_rfl) (by kernel_rfl) (by kernel_rfl) (fun _ _ _ h => h) (Or.inl ⟨by rfl, ?yq98⟩) hHeld ?rq98
  case yq98 => (intro wq hb; obtain ⟨lq0, lq1, lq2, lq3, lq4, lq5, lq6, lq7, lq8, lq9, _⟩ := hb; go_simp; try (with_reducible rfl))
  try simp only [List.getElem_toArray, List.getElem_cons_zero, List.getElem_cons_succ, Act.put, List.setIfInBounds_toArray, List.set_cons_zero, List.set_cons_succ]
  refine wpAnyH_take (i := 6) (v := ?vq99) rfl (by kernel_rfl) (by kernel_rfl) (by kernel_rfl) (fun _ _ _ h => h) (Or.inl ⟨by rfl, ?yq99⟩) hHeld ?rq99
  case yq99 => (intro wq hb; obtain ⟨lq0, lq1, lq2, lq3, lq4, lq5, lq6, lq7, lq8, lq9, _⟩ := hb; go_simp; try (with_reducible rfl))
  try simp only [List.getElem_toArray, List.getElem_cons_zero, List.getElem_cons_succ, Act.put, List.setIfInBounds_toArray, List.set_cons_zero, List.set_cons_succ]
  clear hHeld
  refine wpAnyH_ready (rs := [8]) (by kernel_rfl) (by simp) ?_
  refine AllReadyH.cons rfl (fun K hK => ?_) AllReadyH.nil
  go_simp
  have neX0 : ¬ (pp1 = w.heap.size) := by omega
  have nfX0 : ¬ (w.heap.size = pp1) := by omega
  have neX1 : ¬ (pp1 = w.heap.size + 1) := by omega
  have nfX1 : ¬ (w.heap.size + 1 = pp1) := by omega
  have neX2 : ¬ (pp1 = w.heap.size + 1 + 1) := by omega
  have nfX2 : ¬ (w.heap.size + 1 + 1 = pp1) := by omega
  have KEY := Lib.hid (show (fun W => W.cell? ⟨w.heap.size, 0, none⟩ = some (.int .i64 ea) ∧ W.cell? ⟨w.heap.size, 1, none⟩ = some (.int .u64 x0) ∧ W.cell? ⟨w.heap.size, 2, none⟩ = some (.int .u64 x1) ∧ W.cell? ⟨w.heap.size, 3, none⟩ = some (.int .u64 x2) ∧ W.cell? ⟨w.heap.size, 4, none⟩ = some (.int .u64 x3) ∧ W.cell? ⟨w.heap.size + 1, 0, none⟩ = some (.int .i64 eb) ∧ W.cell? ⟨w.heap.size + 1, 1, none⟩ = some (.int .u64 y0) ∧ W.cell? ⟨w.heap.size + 1, 2, none⟩ = some (.int .u64 y1) ∧ W.cell? ⟨w.heap.size + 1, 3, none⟩ = some (.int .u64 y2) ∧ W.cell? ⟨w.heap.size + 1, 4, none⟩ = some (.int .u64 y3) ∧ W.cell? ⟨w.heap.size + 1 + 1, 0, none⟩ = some (.int .i64 0) ∧ W.cell? ⟨w.heap.size + 1 + 1, 1, none⟩ = some (.int .u64 0) ∧ W.cell? ⟨w.heap.size + 1 + 1, 2, none⟩ = some (.int .u64 0) ∧ W.cell? ⟨w.heap.size + 1 + 1, 3, none⟩ = some (.int .u64 0) ∧ W.cell? ⟨w.heap.size + 1 + 1, 4, none⟩ = some (.int .u64 0) ∧ W.frozen? ⟨w.heap.size + 1 + 1, 0, none⟩ = false ∧ W.frozen? ⟨w.heap.size + 1 + 1, 1, none⟩ = false ∧ W.frozen? ⟨w.heap.size + 1 + 1, 2, none⟩ = false ∧ W.frozen? ⟨w.heap.size + 1 + 1, 3, none⟩ = false ∧ W.frozen? ⟨w.heap.size + 1 + 1, 4, none⟩ = false ∧ W.cell? ⟨pp1, 0, none⟩ = some (.int .i64 m) ∧ W.cell? ⟨pp1, 1, none⟩ = some (.int .u64 z0) ∧ W.cell? ⟨pp1, 2, none⟩ = some (.int .u64 z1) ∧ W.cell? ⟨pp1, 3, none⟩ = some (.int .u64 z2) ∧ W.cell? ⟨pp1, 4, none⟩ = some (.int .u64 z3) ∧ W.frozen? ⟨pp1, 0, none⟩ = false ∧ W.frozen? ⟨pp1, 1, none⟩ = false ∧ W.frozen? ⟨pp1, 2, none⟩ = false ∧ W.frozen? ⟨pp1, 3, none⟩ = false ∧ W.frozen? ⟨pp1, 4, none⟩ = false ∧ Below w.heap.size w W) (((((w12.setCell ⟨pp1, 0, none⟩ (.int .i64 m)).setCell ⟨pp1, 1, none⟩ (.int .u64 z0)).setCell ⟨pp1, 2, none⟩ (.int .u64 z1)).setCell ⟨pp1, 3, none⟩ (.int .u64 z2)).setCell ⟨pp1, 4, none⟩ (.int .u64 z3)) from ⟨by go_simp, by go_simp, by go_simp, by go_simp, by go_simp, by go_simp, by go_simp, by go_simp, by go_simp, by go_simp, by go_simp, by go_simp, by go_simp, by go_simp, by go_simp, by go_simp, by go_simp, by go_simp, by go_simp, by go_simp, by go_simp, by go_simp, by go_simp, by go_simp, by go_simp, by go_simp, by go_simp, by go_simp, by go_simp, by go_simp, (((((kk.setCell (p := ⟨pp1, 0, none⟩) gX3 _).setCell (p := ⟨pp1, 1, none⟩) gX3 _).setCell (p := ⟨pp1, 2, none⟩) gX3 _).setCell (p := ⟨pp1, 3, none⟩) gX3 _).setCell (p := ⟨pp1, 4, none⟩) gX3 _)⟩)
  clear cX0_0 cX0_1 cX0_2 cX0_3 cX0_4 cX1_0 cX1_1 cX1_2 cX1_3 cX1_4 cX2_0 cX2_1 cX2_2 cX2_3 cX2_4 fX2_0 fX2_1 fX2_2 fX2_3 fX2_4 cX3_0 cX3_1 cX3_2 cX3_3 cX3_4 fX3_0 fX3_1 fX3_2 fX3_3 fX3_4 neX0 nfX0 neX1 nfX1 neX2 nfX2 kk
  refine forget_at (fun W => W.cell? ⟨w.heap.size, 0, none⟩ = some (.int .i64 ea) ∧ W.cell? ⟨w.heap.size, 1, none⟩ = some (.int .u64 x0) ∧ W.cell? ⟨w.heap.size, 2, none⟩ = some (.int .u64 x1) ∧ W.cell? ⟨w.heap.size, 3, none⟩ = some (.int .u64 x2) ∧ W.cell? ⟨w.heap.size, 4, none⟩ = some (.int .u64 x3) ∧ W.cell? ⟨w.heap.size + 1, 0, none⟩ = some (.int .i64 eb) ∧ W.cell? ⟨w.heap.size + 1, 1, none⟩ = some (.int .u64 y0) ∧ W.cell? ⟨w.heap.size + 1, 2, none⟩ = some (.int .u64 y1) ∧ W.cell? ⟨w.heap.size + 1, 3, none⟩ = some (.int .u64 y2) ∧ W.cell? ⟨w.heap.size + 1, 4, none⟩ = some (.int .u64 y3) ∧ W.cell? ⟨w.heap.size + 1 + 1, 0, none⟩ = some (.int .i64 0) ∧ W.cell? ⟨w.heap.size + 1 + 1, 1, none⟩ = some (.int .u64 0) ∧ W.cell? ⟨w.heap.size + 1 + 1, 2, none⟩ = some (.int .u64 0) ∧ W.cell? ⟨w.heap.size + 1 + 1, 3, none⟩ = some (.int .u64 0) ∧ W.cell? ⟨w.heap.size + 1 + 1, 4, none⟩ = some (.int .u64 0) ∧ W.frozen? ⟨w.heap.size + 1 + 1, 0, none⟩ = false ∧ W.frozen? ⟨w.heap.size + 1 + 1, 1, none⟩ = false ∧ W.frozen? ⟨w.heap.size + 1 + 1, 2, none⟩ = false ∧ W.frozen? ⟨w.heap.size + 1 + 1, 3, none⟩ = false ∧ W.frozen? ⟨w.heap.size + 1 + 1, 4, none⟩ = false ∧ W.cell? ⟨pp1, 0, none⟩ = some (.int .i64 m) ∧ W.cell? ⟨pp1, 1, none⟩ = some (.int .u64 z0) ∧ W.cell? ⟨pp1, 2, none⟩ = some (.int .u64 z1) ∧ W.cell? ⟨pp1, 3, none⟩ = some (.int .u64 z2) ∧ W.cell? ⟨pp1, 4, none⟩ = some (.int .u64 z3) ∧ W.frozen? ⟨pp1, 0, none⟩ = false ∧ W.frozen? ⟨pp1, 1, none⟩ = false ∧ W.frozen? ⟨pp1, 2, none⟩ = false ∧ W.frozen? ⟨pp1, 3, none⟩ = false ∧ W.frozen? ⟨pp1, 4, none⟩ = false ∧ Below w.heap.size w W) KEY.out (fun w13 hz => ?_)
  obtain ⟨cX0_0, cX0_1, cX0_2, cX0_3, cX0_4, cX1_0, cX1_1, cX1_2, cX1_3, cX1_4, cX2_0, cX2_1, cX2_2, cX2_3, cX2_4, fX2_0, fX2_1, fX2_2, fX2_3, fX2_4, cX3_0, cX3_1, cX3_2, cX3_3, cX3_4, fX3_0, fX3_1, fX3_2, fX3_3, fX3_4, kk⟩ := hz
  clear KEY
  refine hK.out _ _ ⟨cX0_0, cX0_1, cX0_2, cX0_3, cX0_4, cX1_0, cX1_1, cX1_2, cX1_3, cX1_4, trivial⟩ (fun hHeld => ?_)
  clear hK K
  try simp only [List.getElem_toArray, List.getElem_cons_zero, List.getElem_cons_succ, Act.put, List.setIfInBounds_toArray, List.set_cons_zero, List.set_cons_succ]
  clear w12
  refine wpAnyH_take (i := 9) (v := ?vq100) rfl (by kernel_rfl) (by kernel_rfl) (by kernel_rfl) (fun _ _ _ h => h) (Or.inl ⟨by rfl, ?yq100⟩) hHeld ?rq100
  case yq100 => (intro wq hb; obtain ⟨lq0, lq1, lq2, lq3, lq4, lq5, lq6, lq7, lq8, lq9, _⟩ := hb; go_simp; try (with_reducible rfl))
  try simp only [List.getElem_toArray, List.getElem_cons_zero, List.getElem_cons_succ, Act.put, List.setIfInBounds_toArray, List.set_cons_zero, List.set_cons_succ]
  clear hHeld
  refine wpAnyH_done (by kernel_rfl) ?_ _
  refine NoPanic.normal ?_
  revert kk; revert nX2_X3; revert nX1_X3; revert nX0_X3; revert gX3; revert fX3_4; revert fX3_3; revert fX3_2; revert fX3_1; revert fX3_0; revert cX3_4; revert cX3_3; revert cX3_2; revert cX3_1; revert cX3_0; revert fX2_4; revert fX2_3; revert fX2_2; revert fX2_1; revert fX2_0; revert cX2_4; revert cX2_3; revert cX2_2; revert cX2_1; revert cX2_0; revert cX1_4; revert cX1_3; revert cX1_2; revert cX1_1; revert cX1_0; revert cX0_4; revert cX0_3; revert cX0_2; revert cX0_1; revert cX0_0; revert bk1; revert pp1; revert w13
  exact ?restw2
  intro w14 pp1 bk1 cX0_0 cX0_1 cX0_2 cX0_3 cX0_4 cX1_0 cX1_1 cX1_2 cX1_3 cX1_4 cX2_0 cX2_1 cX2_2 cX2_3 cX2_4 fX2_0 fX2_1 fX2_2 fX2_3 fX2_4 cX3_0 cX3_1 cX3_2 cX3_3 cX3_4 fX3_0 fX3_1 fX3_2 fX3_3 fX3_4 gX3 nX0_X3 nX1_X3 nX2_X3 kk
  clear cX0_0 cX0_1 cX0_2 cX0_3 cX0_4
  clear cX1_0 cX1_1 cX1_2 cX1_3 cX1_4
  have sX2 : w.heap.size + 1 + 1 < w14.heap.size ∧ w.heap.size + 1 < w14.heap.size := by have h : w.heap.size + 1 + 1 < w14.heap.size := World.block_lt_of_cell? _ _ cX2_0; exact ⟨h, by omega⟩
  have sX3 : pp1 < w14.heap.size := World.block_lt_of_cell? _ _ cX3_0
  clear fX3_0 fX3_1 fX3_2 fX3_3 fX3_4
  have KEY : Hid ((fun W : World => W.cell? ⟨w.heap.size + 1 + 1, 0, none⟩ = some (.int .i64 m) ∧ W.cell? ⟨w.heap.size + 1 + 1, 1, none⟩ = some (.int .u64 z0) ∧ W.cell? ⟨w.heap.size + 1 + 1, 2, none⟩ = some (.int .u64 z1) ∧ W.cell? ⟨w.heap.size + 1 + 1, 3, none⟩ = some (.int .u64 z2) ∧ W.cell? ⟨w.heap.size + 1 + 1, 4, none⟩ = some (.int .u64 z3) ∧ Below w.heap.size w W) (((((w14.setCell ⟨w.heap.size + 1 + 1, 0, none⟩ (.int .i64 m)).setCell ⟨w.heap.size + 1 + 1, 1, none⟩ (.int .u64 z0)).setCell ⟨w.heap.size + 1 + 1, 2, none⟩ (.int .u64 z1)).setCell ⟨w.heap.size + 1 + 1, 3, none⟩ (.int .u64 z2)).setCell ⟨w.heap.size + 1 + 1, 4, none⟩ (.int .u64 z3))) := Lib.hid ⟨by go_simp, by go_simp, by go_simp, by go_simp, by go_simp, (((((kk.setCell (p := ⟨w.heap.size + 1 + 1, 0, none⟩) gX2 _).setCell (p := ⟨w.heap.size + 1 + 1, 1, none⟩) gX2 _).setCell (p := ⟨w.heap.size + 1 + 1, 2, none⟩) gX2 _).setCell (p := ⟨w.heap.size + 1 + 1, 3, none⟩) gX2 _).setCell (p := ⟨w.heap.size + 1 + 1, 4, none⟩) gX2 _)⟩
  go_wp2_with fail
  obtain ⟨e0, e1, e2, e3, e4, kb⟩ := KEY.out
  clear KEY cX2_0 cX2_1 cX2_2 cX2_3 cX2_4 fX2_0 fX2_1 fX2_2 fX2_3 fX2_4
  refine bodyPost_ret (v := .agg #[.int .i64 m, .int .u64 z0, .int .u64 z1, .int .u64 z2, .int .u64 z3]) ?_ rfl ⟨rfl, kb⟩
  simp [results, Try.results12, go_sem, e0, e1, e2, e3, e4]

set_option maxHeartbeats 4000000 in
set_option maxRecDepth 100000 in
theorem mag_diff_core (ea eb m x0 x1 x2 x3 y0 y1 y2 y3 z0 z1 z2 z3 : Int) (t : Bool)
     (FT : Hid (∀ w, Calls Try.prog 32 #[.func (.func 33) #[] #[]] w fun e w' => ∃ bk, e = .returned (.func (.func 50) #[] #[.pointer (some ⟨bk, 0, none⟩)]) ∧ FitIn w' (.func (.func 33) #[] #[]) bk ∧ Below w.heap.size w w')) (CB : Hid (∀ bk w, FitIn w (.func (.func 33) #[] #[]) bk → Calls Try.prog 31 #[.agg #[.int .i64 ea, .int .u64 x0, .int .u64 x1, .int .u64 x2, .int .u64 x3], .agg #[.int .i64 eb, .int .u64 y0, .int .u64 y1, .int .u64 y2, .int .u64 y3], .int .i64 0, .func (.func 50) #[] #[.pointer (some ⟨bk, 0, none⟩)]] w fun e w' => e = .returned (.tuple #[.agg #[.int .i64 m, .int .u64 z0, .int .u64 z1, .int .u64 z2, .int .u64 z3], .bool t]) ∧ Below w.heap.size w w')) (w : World) :
    Calls Try.prog 11 #[.agg #[.int .i64 ea, .int .u64 x0, .int .u64 x1, .int .u64 x2, .int .u64 x3], .agg #[.int .i64 eb, .int .u64 y0, .int .u64 y1, .int .u64 y2, .int .u64 y3]] w fun e w' => e = .returned (.tuple #[.agg #[.int .i64 m, .int .u64 z0, .int .u64 z1, .int .u64 z2, .int .u64 z3], .bool t]) ∧ Below w.heap.size w w' := by
  go_enter Try.func11, Try.ntmps11
  go_wp2_with fail
  have gX2 : w.heap.size ≤ w.heap.size + 1 + 1 := by omega
  refine wp_forget (fun W => W.cell? ⟨w.heap.size, 0, none⟩ = some (.int .i64 ea) ∧ W.cell? ⟨w.heap.size, 1, none⟩ = some (.int .u64 x0) ∧ W.cell? ⟨w.heap.size, 2, none⟩ = some (.int .u64 x1) ∧ W.cell? ⟨w.heap.size, 3, none⟩ = some (.int .u64 x2) ∧ W.cell? ⟨w.heap.size, 4, none⟩ = some (.int .u64 x3) ∧ W.cell? ⟨w.heap.size + 1, 0, none⟩ = some (.int .i64 eb) ∧ W.cell? ⟨w.heap.size + 1, 1, none⟩ = some (.int .u64 y0) ∧ W.cell? ⟨w.heap.size + 1, 2, none⟩ = some (.int .u64 y1) ∧ W.cell? ⟨w.heap.size + 1, 3, none⟩ = some (.int .u64 y2) ∧ W.cell? ⟨w.heap.size + 1, 4, none⟩ = some (.int .u64 y3) ∧ W.cell? ⟨w.heap.size + 1 + 1, 0, none⟩ = some (.int .i64 0) ∧ W.cell? ⟨w.heap.size + 1 + 1, 1, none⟩ = some (.int .u64 0) ∧ W.cell? ⟨w.heap.size + 1 + 1, 2, none⟩ = some (.int .u64 0) ∧ W.cell? ⟨w.heap.size + 1 + 1, 3, none⟩ = some (.int .u64 0) ∧ W.cell? ⟨w.heap.size + 1 + 1, 4, none⟩ = some (.int .u64 0) ∧ W.frozen? ⟨w.heap.size + 1 + 1, 0, none⟩ = false ∧ W.frozen? ⟨w.heap.size + 1 + 1, 1, none⟩ = false ∧ W.frozen? ⟨w.heap.size + 1 + 1, 2, none⟩ = false ∧ W.frozen? ⟨w.heap.size + 1 + 1, 3, none⟩ = false ∧ W.frozen? ⟨w.heap.size + 1 + 1, 4, none⟩ = false ∧ Below w.heap.size w W) ⟨by go_simp, by go_simp, by go_simp, by go_simp, by go_simp, by go_simp, by go_simp, by go_simp, by go_simp, by go_simp, by go_simp, by go_simp, by go_simp, by go_simp, by go_simp, by go_simp, by go_simp, by go_simp, by go_simp, by go_simp, (bA (bA (bA (Below.refl _ _) _) _) _)⟩ (fun w1 hst => ?_)
  obtain ⟨cX0_0, cX0_1, cX0_2, cX0_3, cX0_4, cX1_0, cX1_1, cX1_2, cX1_3, cX1_4, cX2_0, cX2_1, cX2_2, cX2_3, cX2_4, fX2_0, fX2_1, fX2_2, fX2_3, fX2_4, kk⟩ := hst
  have sX0 : w.heap.size < w1.heap.size := World.block_lt_of_cell? _ _ cX0_0
  have sX1 : w.heap.size + 1 < w1.heap.size ∧ w.heap.size < w1.heap.size := by have h : w.heap.size + 1 < w1.heap.size := World.block_lt_of_cell? _ _ cX1_0; exact ⟨h, by omega⟩
  have sX2 : w.heap.size + 1 + 1 < w1.heap.size ∧ w.heap.size + 1 < w1.heap.size := by have h : w.heap.size + 1 + 1 < w1.heap.size := World.block_lt_of_cell? _ _ cX2_0; exact ⟨h, by omega⟩
  refine wp_region_noPanic ?_
  refine wp_region_held_drew (S := fun w' => w'.cell? ⟨w.heap.size, 0, none⟩ = some (.int .i64 ea) ∧ w'.cell? ⟨w.heap.size, 1, none⟩ = some (.int .u64 x0) ∧ w'.cell? ⟨w.heap.size, 2, none⟩ = some (.int .u64 x1) ∧ w'.cell? ⟨w.heap.size, 3, none⟩ = some (.int .u64 x2) ∧ w'.cell? ⟨w.heap.size, 4, none⟩ = some (.int .u64 x3) ∧ w'.cell? ⟨w.heap.size + 1, 0, none⟩ = some (.int .i64 eb) ∧ w'.cell? ⟨w.heap.size + 1, 1, none⟩ = some (.int .u64 y0) ∧ w'.cell? ⟨w.heap.size + 1, 2, none⟩ = some (.int .u64 y1) ∧ w'.cell? ⟨w.heap.size + 1, 3, none⟩ = some (.int .u64 y2) ∧ w'.cell? ⟨w.heap.size + 1, 4, none⟩ = some (.int .u64 y3) ∧ True) (by kernel_rfl) ⟨cell_later (Below.refl _ _).drew cX0_0, cell_later (Below.refl _ _).drew cX0_1, cell_later (Below.refl _ _).drew cX0_2, cell_later (Below.refl _ _).drew cX0_3, cell_later (Below.refl _ _).drew cX0_4, cell_later (Below.refl _ _).drew cX1_0, cell_later (Below.refl _ _).drew cX1_1, cell_later (Below.refl _ _).drew cX1_2, cell_later (Below.refl _ _).drew cX1_3, cell_later (Below.refl _ _).drew cX1_4, trivial⟩ (fun hHeld => ?_)
  replace cX0_0 := cell_later (Below.refl _ _).drew cX0_0; replace cX0_1 := cell_later (Below.refl _ _).drew cX0_1; replace cX0_2 := cell_later (Below.refl _ _).drew cX0_2; replace cX0_3 := cell_later (Below.refl _ _).drew cX0_3; replace cX0_4 := cell_later (Below.refl _ _).drew cX0_4
  replace cX1_0 := cell_later (Below.refl _ _).drew cX1_0; replace cX1_1 := cell_later (Below.refl _ _).drew cX1_1; replace cX1_2 := cell_later (Below.refl _ _).drew cX1_2; replace cX1_3 := cell_later (Below.refl _ _).drew cX1_3; replace cX1_4 := cell_later (Below.refl _ _).drew cX1_4
  replace fX2_0 := frozen_later (Below.refl _ _).drew cX2_0 fX2_0; replace fX2_1 := frozen_later (Below.refl _ _).drew cX2_1 fX2_1; replace fX2_2 := frozen_later (Below.refl _ _).drew cX2_2 fX2_2; replace fX2_3 := frozen_later (Below.refl _ _).drew cX2_3 fX2_3; replace fX2_4 := frozen_later (Below.refl _ _).drew cX2_4 fX2_4
  replace cX2_0 := cell_later (Below.refl _ _).drew cX2_0; replace cX2_1 := cell_later (Below.refl _ _).drew cX2_1; replace cX2_2 := cell_later (Below.refl _ _).drew cX2_2; replace cX2_3 := cell_later (Below.refl _ _).drew cX2_3; replace cX2_4 := cell_later (Below.refl _ _).drew cX2_4
  replace kk := bC kk (Below.refl _ _).drew
  refine wpAnyH_take (i := 0) (v := ?vq101) rfl (by kernel_rfl) (by kernel_rfl) (by kernel_rfl) (fun _ _ _ h => h) (Or.inl ⟨by rfl, ?yq101⟩) hHeld ?rq101
  case yq101 => (intro wq hb; obtain ⟨lq0, lq1, lq2, lq3, lq4, lq5, lq6, lq7, lq8, lq9, _⟩ := hb; go_simp; try (with_reducible rfl))
  try simp only [List.getElem_toArray, List.getElem_cons_zero, List.getElem_cons_succ, Act.put, List.setIfInBounds_toArray, List.set_cons_zero, List.set_cons_succ]
  refine wpAnyH_take (i := 1) (v := ?vq102) rfl (by kernel_rfl) (by kernel_rfl) (by kernel_rfl) (fun _ _ _ h => h) (Or.inl ⟨by rfl, ?yq102⟩) hHeld ?rq102
  case yq102 => (intro wq hb; obtain ⟨lq0, lq1, lq2, lq3, lq4, lq5, lq6, lq7, lq8, lq9, _⟩ := hb; go_simp; try (with_reducible rfl))
  try simp only [List.getElem_toArray, List.getElem_cons_zero, List.getElem_cons_succ, Act.put, List.setIfInBounds_toArray, List.set_cons_zero, List.set_cons_succ]
  clear hHeld
  refine wpAnyH_ready (rs := [2]) (by kernel_rfl) (by simp) ?_
  refine AllReadyH.cons rfl (fun K hK => ?_) AllReadyH.nil
  go_simp
  (with_reducible refine (FT.out _).mono ?_); rintro e w2 ⟨bk1, rfl, nbk1, hb⟩
  replace cX0_0 := cell_later hb cX0_0; replace cX0_1 := cell_later hb cX0_1; replace cX0_2 := cell_later hb cX0_2; replace cX0_3 := cell_later hb cX0_3; replace cX0_4 := cell_later hb cX0_4
  replace cX1_0 := cell_later hb cX1_0; replace cX1_1 := cell_later hb cX1_1; replace cX1_2 := cell_later hb cX1_2; replace cX1_3 := cell_later hb cX1_3; replace cX1_4 := cell_later hb cX1_4
  replace fX2_0 := frozen_later hb cX2_0 fX2_0; replace fX2_1 := frozen_later hb cX2_1 fX2_1; replace fX2_2 := frozen_later hb cX2_2 fX2_2; replace fX2_3 := frozen_later hb cX2_3 fX2_3; replace fX2_4 := frozen_later hb cX2_4 fX2_4
  replace cX2_0 := cell_later hb cX2_0; replace cX2_1 := cell_later hb cX2_1; replace cX2_2 := cell_later hb cX2_2; replace cX2_3 := cell_later hb cX2_3; replace cX2_4 := cell_later hb cX2_4
  replace kk := bC kk hb
  clear hb
  refine hK.out _ _ ⟨cX0_0, cX0_1, cX0_2, cX0_3, cX0_4, cX1_0, cX1_1, cX1_2, cX1_3, cX1_4, trivial⟩ (fun hHeld => ?_)
  clear hK K
  try simp only [List.getElem_toArray, List.getElem_cons_zero, List.getElem_cons_succ, Act.put, List.setIfInBounds_toArray, List.set_cons_zero, List.set_cons_succ]
  clear hHeld
  refine wpAnyH_ready (rs := [3]) (by kernel_rfl) (by simp) ?_
  refine AllReadyH.cons rfl (fun K hK => ?_) AllReadyH.nil
  go_simp
  (with_reducible refine (CB.out _ _ nbk1).mono ?_); rintro e w3 ⟨rfl, hb⟩
  replace nbk1 := nbk1.later hb
  replace cX0_0 := cell_later hb cX0_0; replace cX0_1 := cell_later hb cX0_1; replace cX0_2 := cell_later hb cX0_2; replace cX0_3 := cell_later hb cX0_3; replace cX0_4 := cell_later hb cX0_4
  replace cX1_0 := cell_later hb cX1_0; replace cX1_1 := cell_later hb cX1_1; replace cX1_2 := cell_later hb cX1_2; replace cX1_3 := cell_later hb cX1_3; replace cX1_4 := cell_later hb cX1_4
  replace fX2_0 := frozen_later hb cX2_0 fX2_0; replace fX2_1 := frozen_later hb cX2_1 fX2_1; replace fX2_2 := frozen_later hb cX2_2 fX2_2; replace fX2_3 := frozen_later hb cX2_3 fX2_3; replace fX2_4 := frozen_later hb cX2_4 fX2_4
  replace cX2_0 := cell_later hb cX2_0; replace cX2_1 := cell_later hb cX2_1; replace cX2_2 := cell_later hb cX2_2; replace cX2_3 := cell_later hb cX2_3; replace cX2_4 := cell_later hb cX2_4
  replace kk := bC kk hb
  clear hb
  clear nbk1
  refine hK.out _ _ ⟨cX0_0, cX0_1, cX0_2, cX0_3, cX0_4, cX1_0, cX1_1, cX1_2, cX1_3, cX1_4, trivial⟩ (fun hHeld => ?_)
  clear hK K
  try simp only [List.getElem_toArray, List.getElem_cons_zero, List.getElem_cons_succ, Act.put, List.setIfInBounds_toArray, List.set_cons_zero, List.set_cons_succ]
  refine wpAnyH_take (i := 4) (v := ?vq103) rfl (by kernel_rfl) (by kernel_rfl) (by kernel_rfl) (fun _ _ _ h => h) (Or.inl ⟨by rfl, ?yq103⟩) hHeld ?rq103
  case yq103 => (intro wq hb; obtain ⟨lq0, lq1, lq2, lq3, lq4, lq5, lq6, lq7, lq8, lq9, _⟩ := hb; go_simp; try (with_reducible rfl))
  try simp only [List.getElem_toArray, List.getElem_cons_zero, List.getElem_cons_succ, Act.put, List.setIfInBounds_toArray, List.set_cons_zero, List.set_cons_succ]
  refine wpAnyH_take (i := 5) (v := ?vq104) rfl (by kernel_rfl) (by kernel_rfl) (by kernel_rfl) (fun _ _ _ h => h) (Or.inl ⟨by rfl, ?yq104⟩) hHeld ?rq104
  case yq104 => (intro wq hb; obtain ⟨lq0, lq1, lq2, lq3, lq4, lq5, lq6, lq7, lq8, lq9, _⟩ := hb; go_simp; try (with_reducible rfl))
  try simp only [List.getElem_toArray, List.getElem_cons_zero, List.getElem_cons_succ, Act.put, List.setIfInBounds_toArray, List.set_cons_zero, List.set_cons_succ]
  clear hHeld
  refine wpAnyH_ready (rs := [6]) (by kernel_rfl) (by simp) ?_
  refine AllReadyH.cons rfl (fun K hK => ?_) AllReadyH.nil
  go_simp
  have neX0 : ¬ (w.heap.size + 1 + 1 = w.heap.size) := by omega
  have nfX0 : ¬ (w.heap.size = w.heap.size + 1 + 1) := by omega
  have neX1 : ¬ (w.heap.size + 1 + 1 = w.heap.size + 1) := by omega
  have nfX1 : ¬ (w.heap.size + 1 = w.heap.size + 1 + 1) := by omega
  have KEY := Lib.hid (show (fun W => W.cell? ⟨w.heap.size, 0, none⟩ = some (.int .i64 ea) ∧ W.cell? ⟨w.heap.size, 1, none⟩ = some (.int .u64 x0) ∧ W.cell? ⟨w.heap.size, 2, none⟩ = some (.int .u64 x1) ∧ W.cell? ⟨w.heap.size, 3, none⟩ = some (.int .u64 x2) ∧ W.cell? ⟨w.heap.size, 4, none⟩ = some (.int .u64 x3) ∧ W.cell? ⟨w.heap.size + 1, 0, none⟩ = some (.int .i64 eb) ∧ W.cell? ⟨w.heap.size + 1, 1, none⟩ = some (.int .u64 y0) ∧ W.cell? ⟨w.heap.size + 1, 2, none⟩ = some (.int .u64 y1) ∧ W.cell? ⟨w.heap.size + 1, 3, none⟩ = some (.int .u64 y2) ∧ W.cell? ⟨w.heap.size + 1, 4, none⟩ = some (.int .u64 y3) ∧ W.cell? ⟨w.heap.size + 1 + 1, 0, none⟩ = some (.int .i64 m) ∧ W.cell? ⟨w.heap.size + 1 + 1, 1, none⟩ = some (.int .u64 z0) ∧ W.cell? ⟨w.heap.size + 1 + 1, 2, none⟩ = some (.int .u64 z1) ∧ W.cell? ⟨w.heap.size + 1 + 1, 3, none⟩ = some (.int .u64 z2) ∧ W.cell? ⟨w.heap.size + 1 + 1, 4, none⟩ = some (.int .u64 z3) ∧ W.frozen? ⟨w.heap.size + 1 + 1, 0, none⟩ = false ∧ W.frozen? ⟨w.heap.size + 1 + 1, 1, none⟩ = false ∧ W.frozen? ⟨w.heap.size + 1 + 1, 2, none⟩ = false ∧ W.frozen? ⟨w.heap.size + 1 + 1, 3, none⟩ = false ∧ W.frozen? ⟨w.heap.size + 1 + 1, 4, none⟩ = false ∧ Below w.heap.size w W) (((((w3.setCell ⟨w.heap.size + 1 + 1, 0, none⟩ (.int .i64 m)).setCell ⟨w.heap.size + 1 + 1, 1, none⟩ (.int .u64 z0)).setCell ⟨w.heap.size + 1 + 1, 2, none⟩ (.int .u64 z1)).setCell ⟨w.heap.size + 1 + 1, 3, none⟩ (.int .u64 z2)).setCell ⟨w.heap.size + 1 + 1, 4, none⟩ (.int .u64 z3)) from ⟨by go_simp, by go_simp, by go_simp, by go_simp, by go_simp, by go_simp, by go_simp, by go_simp, by go_simp, by go_simp, by go_simp, by go_simp, by go_simp, by go_simp, by go_simp, by go_simp, by go_simp, by go_simp, by go_simp, by go_simp, (((((kk.setCell (p := ⟨w.heap.size + 1 + 1, 0, none⟩) gX2 _).setCell (p := ⟨w.heap.size + 1 + 1, 1, none⟩) gX2 _).setCell (p := ⟨w.heap.size + 1 + 1, 2, none⟩) gX2 _).setCell (p := ⟨w.heap.size + 1 + 1, 3, none⟩) gX2 _).setCell (p := ⟨w.heap.size + 1 + 1, 4, none⟩) gX2 _)⟩)
  clear cX0_0 cX0_1 cX0_2 cX0_3 cX0_4 cX1_0 cX1_1 cX1_2 cX1_3 cX1_4 cX2_0 cX2_1 cX2_2 cX2_3 cX2_4 fX2_0 fX2_1 fX2_2 fX2_3 fX2_4 neX0 nfX0 neX1 nfX1 kk
  refine forget_at (fun W => W.cell? ⟨w.heap.size, 0, none⟩ = some (.int .i64 ea) ∧ W.cell? ⟨w.heap.size, 1, none⟩ = some (.int .u64 x0) ∧ W.cell? ⟨w.heap.size, 2, none⟩ = some (.int .u64 x1) ∧ W.cell? ⟨w.heap.size, 3, none⟩ = some (.int .u64 x2) ∧ W.cell? ⟨w.heap.size, 4, none⟩ = some (.int .u64 x3) ∧ W.cell? ⟨w.heap.size + 1, 0, none⟩ = some (.int .i64 eb) ∧ W.cell? ⟨w.heap.size + 1, 1, none⟩ = some (.int .u64 y0) ∧ W.cell? ⟨w.heap.size + 1, 2, none⟩ = some (.int .u64 y1) ∧ W.cell? ⟨w.heap.size + 1, 3, none⟩ = some (.int .u64 y2) ∧ W.cell? ⟨w.heap.size + 1, 4, none⟩ = some (.int .u64 y3) ∧ W.cell? ⟨w.heap.size + 1 + 1, 0, none⟩ = some (.int .i64 m) ∧ W.cell? ⟨w.heap.size + 1 + 1, 1, none⟩ = some (.int .u64 z0) ∧ W.cell? ⟨w.heap.size + 1 + 1, 2, none⟩ = some (.int .u64 z1) ∧ W.cell? ⟨w.heap.size + 1 + 1, 3, none⟩ = some (.int .u64 z2) ∧ W.cell? ⟨w.heap.size + 1 + 1, 4, none⟩ = some (.int .u64 z3) ∧ W.frozen? ⟨w.heap.size + 1 + 1, 0, none⟩ = false ∧ W.frozen? ⟨w.heap.size + 1 + 1, 1, none⟩ = false ∧ W.frozen? ⟨w.heap.size + 1 + 1, 2, none⟩ = false ∧ W.frozen? ⟨w.heap.size + 1 + 1, 3, none⟩ = false ∧ W.frozen? ⟨w.heap.size + 1 + 1, 4, none⟩ = false ∧ Below w.heap.size w W) KEY.out (fun w4 hz => ?_)
  obtain ⟨cX0_0, cX0_1, cX0_2, cX0_3, cX0_4, cX1_0, cX1_1, cX1_2, cX1_3, cX1_4, cX2_0, cX2_1, cX2_2, cX2_3, cX2_4, fX2_0, fX2_1, fX2_2, fX2_3, fX2_4, kk⟩ := hz
  clear KEY
  refine hK.out _ _ ⟨cX0_0, cX0_1, cX0_2, cX0_3, cX0_4, cX1_0, cX1_1, cX1_2, cX1_3, cX1_4, trivial⟩ (fun hHeld => ?_)
  clear hK K
  try simp only [List.getElem_toArray, List.getElem_cons_zero, List.getElem_cons_succ, Act.put, List.setIfInBounds_toArray, List.set_cons_zero, List.set_cons_succ]
  refine wpAnyH_take (i := 7) (v := ?vq105) rfl (by kernel_rfl) (by kernel_rfl) (by kernel_rfl) (fun _ _ _ h => h) (Or.inl ⟨by rfl, ?yq105⟩) hHeld ?rq105
  case yq105 => (intro wq hb; obtain ⟨lq0, lq1, lq2, lq3, lq4, lq5, lq6, lq7, lq8, lq9, _⟩ := hb; go_simp; try (with_reducible rfl))
  try simp only [List.getElem_toArray, List.getElem_cons_zero, List.getElem_cons_succ, Act.put, List.setIfInBounds_toArray, List.set_cons_zero, List.set_cons_succ]
  clear hHeld
  refine wpAnyH_done (by kernel_rfl) ?_ _
  refine NoPanic.normal ?_
  clear cX0_0 cX0_1 cX0_2 cX0_3 cX0_4 sX0
  clear cX1_0 cX1_1 cX1_2 cX1_3 cX1_4 sX1
  replace sX2 : w.heap.size + 1 + 1 < w4.heap.size ∧ w.heap.size + 1 < w4.heap.size := by have h : w.heap.size + 1 + 1 < w4.heap.size := World.block_lt_of_cell? _ _ cX2_0; exact ⟨h, by omega⟩
  go_wp2_with fail
  refine bodyPost_ret (v := .tuple #[.agg #[.int .i64 m, .int .u64 z0, .int .u64 z1, .int .u64 z2, .int .u64 z3], .bool t]) ?_ rfl ⟨rfl, kk⟩
  simp [results, Try.results11, go_sem, cX2_0, cX2_1, cX2_2, cX2_3, cX2_4]



end Go.Proofs.Ytamigjdankkmjaa
