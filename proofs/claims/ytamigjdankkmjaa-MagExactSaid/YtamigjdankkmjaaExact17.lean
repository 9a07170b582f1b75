/-
  The walk of the statement MagExact.
-/
import Derived.Test.YtamigjdankkmjaaMag17M
import Derived.Test.YtamigjdankkmjaaGaB
import Derived.Test.YtamigjdankkmjaaGhA
import Derived.Test.YtamigjdankkmjaaGaA
import Derived.Test.YtamigjdankkmjaaGoes17
set_option linter.unusedVariables false
set_option linter.unusedSimpArgs false
set_option maxRecDepth 100000
namespace Go.Proofs.Ytamigjdankkmjaa
open Go.RowKit
attribute [local go_sem ↓] Go.wp_at_zero Go.wp_at_succ

set_option maxHeartbeats 4000000 in
set_option maxRecDepth 100000 in
theorem room17 (y0 y3 x0 x1 x2 x3 : Int)
     (b1 : bits .andNot .u64 x0 3 = y0) (b2 : bits .or .u64 x3 9223372036854775808 = y3) (w : World) :
    Calls Try.prog 18 #[.agg #[.int .u64 x0, .int .u64 x1, .int .u64 x2, .int .u64 x3]] w fun e w' => e = .returned (.agg #[.int .u64 y0, .int .u64 x1, .int .u64 x2, .int .u64 y3]) ∧ Below w.heap.size w w' := by
  go_enter Try.func18, Try.ntmps18
  go_wp2_with fail
  refine bodyPost_ret (v := .agg #[.int .u64 y0, .int .u64 x1, .int .u64 x2, .int .u64 y3]) (by simp [results, Try.results18, go_sem]) rfl ⟨rfl, (bA (bA (Below.refl _ _) _) _)⟩

set_option maxHeartbeats 4000000 in
set_option maxRecDepth 100000 in
theorem exact17_1 (b k k1 r P Q BG SU S J1 D DF J2 x0 x1 x2 x3 y0 y1 y2 y3 p0 p1 p2 p3 q0 q1 q2 q3 s0 s1 s2 s3 d0 d1 d2 d3 : Int)
    (h0 : Hid (∀ w, Calls Try.prog 18 #[.agg #[.int .u64 x0, .int .u64 x1, .int .u64 x2, .int .u64 x3]] w fun e w' => e = .returned (.agg #[.int .u64 p0, .int .u64 p1, .int .u64 p2, .int .u64 p3]) ∧ Below w.heap.size w w'))
    (h1 : Hid (∀ w, Calls Try.prog 18 #[.agg #[.int .u64 y0, .int .u64 y1, .int .u64 y2, .int .u64 y3]] w fun e w' => e = .returned (.agg #[.int .u64 q0, .int .u64 q1, .int .u64 q2, .int .u64 q3]) ∧ Below w.heap.size w w'))
    (h6 : Hid (∀ w, Calls Try.prog 12 #[.agg #[.int .i64 k, .int .u64 p0, .int .u64 p1, .int .u64 p2, .int .u64 p3], .agg #[.int .i64 0, .int .u64 q0, .int .u64 q1, .int .u64 q2, .int .u64 q3]] w fun e w' => e = .returned (.agg #[.int .i64 k1, .int .u64 s0, .int .u64 s1, .int .u64 s2, .int .u64 s3]) ∧ Below w.heap.size w w'))
    (h10 : Hid (∀ w, Calls Try.prog 11 #[.agg #[.int .i64 k, .int .u64 p0, .int .u64 p1, .int .u64 p2, .int .u64 p3], .agg #[.int .i64 0, .int .u64 q0, .int .u64 q1, .int .u64 q2, .int .u64 q3]] w fun e w' => e = .returned (.tuple #[.agg #[.int .i64 k, .int .u64 d0, .int .u64 d1, .int .u64 d2, .int .u64 d3], .bool true]) ∧ Below w.heap.size w w'))
    (h17 : Hid (∀ w, Calls Try.prog 17 #[] w fun e w' => e = .returned (.bool true) ∧ Below w.heap.size w w')) (k2 : IntKind.i64.wrap b = b) (k3 : b % 300 = k) (k4 : b.tmod 300 = k) (w1 : IntKind.i64.wrap (k + 1) = k1) (w1x : wrap64 (k + 1) = k1) (g1 : decide (r < 0) = true) (WP : Hid (∀ w, Calls Try.prog 20 #[.agg #[.int .u64 p0, .int .u64 p1, .int .u64 p2, .int .u64 p3]] w (RetNum w P))) (SH : Hid (∀ w v, IsNum w v P → Calls Try.prog 19 #[v, .int .i64 k] w (RetNum w BG))) (WQ : Hid (∀ w, Calls Try.prog 20 #[.agg #[.int .u64 q0, .int .u64 q1, .int .u64 q2, .int .u64 q3]] w (RetNum w Q))) (AD : Hid (∀ w u v, IsNum w u BG → IsNum w v Q → Calls Try.prog 21 #[u, v] w (RetNum w SU))) (WS : Hid (∀ w, Calls Try.prog 20 #[.agg #[.int .u64 s0, .int .u64 s1, .int .u64 s2, .int .u64 s3]] w (RetNum w S))) (JS : Hid (∀ w v, IsNum w v SU → Calls Try.prog 23 #[v, .int .i64 k1] w (RetNum w J1))) (C1 : Hid (∀ w u v, IsNum w u S → IsNum w v J1 → Calls Try.prog 22 #[u, v] w fun e w' => e = .returned (.int .i64 0) ∧ Below w.heap.size w w')) (C2 : Hid (∀ w u v, IsNum w u BG → IsNum w v Q → Calls Try.prog 22 #[u, v] w fun e w' => e = .returned (.int .i64 r) ∧ Below w.heap.size w w')) (WD : Hid (∀ w, Calls Try.prog 20 #[.agg #[.int .u64 d0, .int .u64 d1, .int .u64 d2, .int .u64 d3]] w (RetNum w D))) (SB : Hid (∀ w u v, IsNum w u Q → IsNum w v BG → Calls Try.prog 24 #[u, v] w (RetNum w DF))) (JD : Hid (∀ w v, IsNum w v DF → Calls Try.prog 23 #[v, .int .i64 k] w (RetNum w J2))) (C3 : Hid (∀ w u v, IsNum w u D → IsNum w v J2 → Calls Try.prog 22 #[u, v] w fun e w' => e = .returned (.int .i64 0) ∧ Below w.heap.size w w')) (w : World) :
    Calls Try.prog 4 #[.agg #[.int .u64 x0, .int .u64 x1, .int .u64 x2, .int .u64 x3], .agg #[.int .u64 y0, .int .u64 y1, .int .u64 y2, .int .u64 y3], .int .u16 b] w fun e w' => e = .returned (.bool true) ∧ Below w.heap.size w w' := by
  go_enter Try.func4, Try.ntmps4
  go_wp2_with fail
  have gX0 : w.heap.size ≤ w.heap.size := by omega
  have gX1 : w.heap.size ≤ w.heap.size + 1 := by omega
  refine wp_forget (fun W => W.cell? ⟨w.heap.size, 0, none⟩ = some (.int .u64 x0) ∧ W.cell? ⟨w.heap.size, 1, none⟩ = some (.int .u64 x1) ∧ W.cell? ⟨w.heap.size, 2, none⟩ = some (.int .u64 x2) ∧ W.cell? ⟨w.heap.size, 3, none⟩ = some (.int .u64 x3) ∧ W.cell? ⟨w.heap.size + 1, 0, none⟩ = some (.int .u64 y0) ∧ W.cell? ⟨w.heap.size + 1, 1, none⟩ = some (.int .u64 y1) ∧ W.cell? ⟨w.heap.size + 1, 2, none⟩ = some (.int .u64 y2) ∧ W.cell? ⟨w.heap.size + 1, 3, none⟩ = some (.int .u64 y3) ∧ W.frozen? ⟨w.heap.size, 0, none⟩ = false ∧ W.frozen? ⟨w.heap.size, 1, none⟩ = false ∧ W.frozen? ⟨w.heap.size, 2, none⟩ = false ∧ W.frozen? ⟨w.heap.size, 3, none⟩ = false ∧ W.frozen? ⟨w.heap.size + 1, 0, none⟩ = false ∧ W.frozen? ⟨w.heap.size + 1, 1, none⟩ = false ∧ W.frozen? ⟨w.heap.size + 1, 2, none⟩ = false ∧ W.frozen? ⟨w.heap.size + 1, 3, none⟩ = false ∧ Below w.heap.size w W) ⟨by go_simp, by go_simp, by go_simp, by go_simp, by go_simp, by go_simp, by go_simp, by go_simp, by go_simp, by go_simp, by go_simp, by go_simp, by go_simp, by go_simp, by go_simp, by go_simp, (bA (bA (Below.refl _ _) _) _)⟩ (fun w1 hst => ?_)
  obtain ⟨cX0_0, cX0_1, cX0_2, cX0_3, cX1_0, cX1_1, cX1_2, cX1_3, fX0_0, fX0_1, fX0_2, fX0_3, fX1_0, fX1_1, fX1_2, fX1_3, kk⟩ := hst
  have sX0 : w.heap.size < w1.heap.size := World.block_lt_of_cell? _ _ cX0_0
  have sX1 : w.heap.size + 1 < w1.heap.size ∧ w.heap.size < w1.heap.size := by have h : w.heap.size + 1 < w1.heap.size := World.block_lt_of_cell? _ _ cX1_0; exact ⟨h, by omega⟩
  refine wp_region_noPanic ?_
  refine wp_region_F [4, 5] [] (LS w1 (fun _ _ => True) (fun bs _ wx => (bs = [true, false] → wx.cell? ⟨w.heap.size, 0, none⟩ = some (.int .u64 p0) ∧ wx.cell? ⟨w.heap.size, 1, none⟩ = some (.int .u64 p1) ∧ wx.cell? ⟨w.heap.size, 2, none⟩ = some (.int .u64 p2) ∧ wx.cell? ⟨w.heap.size, 3, none⟩ = some (.int .u64 p3) ∧ wx.frozen? ⟨w.heap.size, 0, none⟩ = false ∧ wx.frozen? ⟨w.heap.size, 1, none⟩ = false ∧ wx.frozen? ⟨w.heap.size, 2, none⟩ = false ∧ wx.frozen? ⟨w.heap.size, 3, none⟩ = false ∧ wx.cell? ⟨w.heap.size + 1, 0, none⟩ = some (.int .u64 y0) ∧ wx.cell? ⟨w.heap.size + 1, 1, none⟩ = some (.int .u64 y1) ∧ wx.cell? ⟨w.heap.size + 1, 2, none⟩ = some (.int .u64 y2) ∧ wx.cell? ⟨w.heap.size + 1, 3, none⟩ = some (.int .u64 y3) ∧ wx.frozen? ⟨w.heap.size + 1, 0, none⟩ = false ∧ wx.frozen? ⟨w.heap.size + 1, 1, none⟩ = false ∧ wx.frozen? ⟨w.heap.size + 1, 2, none⟩ = false ∧ wx.frozen? ⟨w.heap.size + 1, 3, none⟩ = false ∧ Below w.heap.size w wx) ∧ (bs = [true, true] → wx.cell? ⟨w.heap.size, 0, none⟩ = some (.int .u64 p0) ∧ wx.cell? ⟨w.heap.size, 1, none⟩ = some (.int .u64 p1) ∧ wx.cell? ⟨w.heap.size, 2, none⟩ = some (.int .u64 p2) ∧ wx.cell? ⟨w.heap.size, 3, none⟩ = some (.int .u64 p3) ∧ wx.frozen? ⟨w.heap.size, 0, none⟩ = false ∧ wx.frozen? ⟨w.heap.size, 1, none⟩ = false ∧ wx.frozen? ⟨w.heap.size, 2, none⟩ = false ∧ wx.frozen? ⟨w.heap.size, 3, none⟩ = false ∧ wx.cell? ⟨w.heap.size + 1, 0, none⟩ = some (.int .u64 q0) ∧ wx.cell? ⟨w.heap.size + 1, 1, none⟩ = some (.int .u64 q1) ∧ wx.cell? ⟨w.heap.size + 1, 2, none⟩ = some (.int .u64 q2) ∧ wx.cell? ⟨w.heap.size + 1, 3, none⟩ = some (.int .u64 q3) ∧ wx.frozen? ⟨w.heap.size + 1, 0, none⟩ = false ∧ wx.frozen? ⟨w.heap.size + 1, 1, none⟩ = false ∧ wx.frozen? ⟨w.heap.size + 1, 2, none⟩ = false ∧ wx.frozen? ⟨w.heap.size + 1, 3, none⟩ = false ∧ Below w.heap.size w wx))) (by kernel_rfl) (bs := [false, false]) (vs := []) (by kernel_rfl) rfl (LS.before noBits_ff (Below.refl _ _).drew trivial) ?_
  refine wpF_take3 (i := 0) (v := ?vq1) rfl (by kernel_rfl) (by kernel_rfl) (fun _ _ _ h => h) (LS.load (by rfl) ?yq1) ?rq1
  case yq1 => (intro wq hb; have lcX0_0 := cell_later hb cX0_0; have lcX0_1 := cell_later hb cX0_1; have lcX0_2 := cell_later hb cX0_2; have lcX0_3 := cell_later hb cX0_3; go_simp; try (with_reducible rfl))
  try simp only [List.getElem_toArray, List.getElem_cons_zero, List.getElem_cons_succ, Act.put, List.setIfInBounds_toArray, List.set_cons_zero, List.set_cons_succ]
  refine wpF_take3 (i := 1) (v := _) rfl (by kernel_rfl) (by kernel_rfl) (fun _ _ _ h => h) (LS.call lasts_true (by rfl) _ _ ?yq2 (h0.out)) ?rq2
  case yq2 => (intro wq; go_simp; try (with_reducible rfl))
  try simp only [List.getElem_toArray, List.getElem_cons_zero, List.getElem_cons_succ, Act.put, List.setIfInBounds_toArray, List.set_cons_zero, List.set_cons_succ]
  refine wpF_take3 (i := 2) (v := ?vq3) rfl (by kernel_rfl) (by kernel_rfl) (fun _ _ _ h => h) (LS.load (by rfl) ?yq3) ?rq3
  case yq3 => (intro wq hb; have lcX1_0 := cell_later hb cX1_0; have lcX1_1 := cell_later hb cX1_1; have lcX1_2 := cell_later hb cX1_2; have lcX1_3 := cell_later hb cX1_3; go_simp; try (with_reducible rfl))
  try simp only [List.getElem_toArray, List.getElem_cons_zero, List.getElem_cons_succ, Act.put, List.setIfInBounds_toArray, List.set_cons_zero, List.set_cons_succ]
  refine wpF_take3 (i := 3) (v := _) rfl (by kernel_rfl) (by kernel_rfl) (fun _ _ _ h => h) (LS.call lasts_true (by rfl) _ _ ?yq4 (h1.out)) ?rq4
  case yq4 => (intro wq; go_simp; try (with_reducible rfl))
  try simp only [List.getElem_toArray, List.getElem_cons_zero, List.getElem_cons_succ, Act.put, List.setIfInBounds_toArray, List.set_cons_zero, List.set_cons_succ]
  refine wpF_step (i := 4) (bs := [false, false]) (bs' := [true, false]) (vs := []) (by kernel_rfl) rfl (by kernel_rfl) rfl (by kernel_rfl) (fun wq hS K hK => ?_)
  obtain ⟨hb, _⟩ := hS.1 noBits_ff
  have zX0_0 := cell_later hb cX0_0; have zfX0_0 := frozen_later hb cX0_0 fX0_0
  have zX0_1 := cell_later hb cX0_1; have zfX0_1 := frozen_later hb cX0_1 fX0_1
  have zX0_2 := cell_later hb cX0_2; have zfX0_2 := frozen_later hb cX0_2 fX0_2
  have zX0_3 := cell_later hb cX0_3; have zfX0_3 := frozen_later hb cX0_3 fX0_3
  have zX1_0 := cell_later hb cX1_0; have zfX1_0 := frozen_later hb cX1_0 fX1_0
  have zX1_1 := cell_later hb cX1_1; have zfX1_1 := frozen_later hb cX1_1 fX1_1
  have zX1_2 := cell_later hb cX1_2; have zfX1_2 := frozen_later hb cX1_2 fX1_2
  have zX1_3 := cell_later hb cX1_3; have zfX1_3 := frozen_later hb cX1_3 fX1_3
  have kz := bC kk hb
  have neX1 : ¬ (w.heap.size = w.heap.size + 1) := by omega
  have nfX1 : ¬ (w.heap.size + 1 = w.heap.size) := by omega
  have ZZ := Lib.hid (show (fun wx => wx.cell? ⟨w.heap.size, 0, none⟩ = some (.int .u64 p0) ∧ wx.cell? ⟨w.heap.size, 1, none⟩ = some (.int .u64 p1) ∧ wx.cell? ⟨w.heap.size, 2, none⟩ = some (.int .u64 p2) ∧ wx.cell? ⟨w.heap.size, 3, none⟩ = some (.int .u64 p3) ∧ wx.frozen? ⟨w.heap.size, 0, none⟩ = false ∧ wx.frozen? ⟨w.heap.size, 1, none⟩ = false ∧ wx.frozen? ⟨w.heap.size, 2, none⟩ = false ∧ wx.frozen? ⟨w.heap.size, 3, none⟩ = false ∧ wx.cell? ⟨w.heap.size + 1, 0, none⟩ = some (.int .u64 y0) ∧ wx.cell? ⟨w.heap.size + 1, 1, none⟩ = some (.int .u64 y1) ∧ wx.cell? ⟨w.heap.size + 1, 2, none⟩ = some (.int .u64 y2) ∧ wx.cell? ⟨w.heap.size + 1, 3, none⟩ = some (.int .u64 y3) ∧ wx.frozen? ⟨w.heap.size + 1, 0, none⟩ = false ∧ wx.frozen? ⟨w.heap.size + 1, 1, none⟩ = false ∧ wx.frozen? ⟨w.heap.size + 1, 2, none⟩ = false ∧ wx.frozen? ⟨w.heap.size + 1, 3, none⟩ = false ∧ Below w.heap.size w wx) ((((wq.setCell ⟨w.heap.size, 0, none⟩ (.int .u64 p0)).setCell ⟨w.heap.size, 1, none⟩ (.int .u64 p1)).setCell ⟨w.heap.size, 2, none⟩ (.int .u64 p2)).setCell ⟨w.heap.size, 3, none⟩ (.int .u64 p3)) from ⟨by go_simp, by go_simp, by go_simp, by go_simp, by go_simp, by go_simp, by go_simp, by go_simp, by go_simp, by go_simp, by go_simp, by go_simp, by go_simp, by go_simp, by go_simp, by go_simp, ((((kz.setCell (p := ⟨w.heap.size, 0, none⟩) gX0 _).setCell (p := ⟨w.heap.size, 1, none⟩) gX0 _).setCell (p := ⟨w.heap.size, 2, none⟩) gX0 _).setCell (p := ⟨w.heap.size, 3, none⟩) gX0 _)⟩)
  go_simp
  refine hK.out _ _ (LS.behind bits_tf' ⟨fun _ => ZZ.out, fun h => absurd h (by decide)⟩) ?_
  clear hK hS ZZ kz zX0_0 zX0_1 zX0_2 zX0_3 zfX0_0 zfX0_1 zfX0_2 zfX0_3 zX1_0 zX1_1 zX1_2 zX1_3 zfX1_0 zfX1_1 zfX1_2 zfX1_3 neX1 nfX1 hb
  try simp only [List.getElem_toArray, List.getElem_cons_zero, List.getElem_cons_succ, Act.put, List.setIfInBounds_toArray, List.set_cons_zero, List.set_cons_succ]
  refine wpF_step (i := 5) (bs := [true, false]) (bs' := [true, true]) (vs := []) (by kernel_rfl) rfl (by kernel_rfl) rfl (by kernel_rfl) (fun wq hS K hK => ?_)
  obtain ⟨zX0_0, zX0_1, zX0_2, zX0_3, zfX0_0, zfX0_1, zfX0_2, zfX0_3, zX1_0, zX1_1, zX1_2, zX1_3, zfX1_0, zfX1_1, zfX1_2, zfX1_3, kz⟩ := (hS.2 bits_tf').1 rfl
  have neX0 : ¬ (w.heap.size + 1 = w.heap.size) := by omega
  have nfX0 : ¬ (w.heap.size = w.heap.size + 1) := by omega
  have ZZ := Lib.hid (show (fun wx => wx.cell? ⟨w.heap.size, 0, none⟩ = some (.int .u64 p0) ∧ wx.cell? ⟨w.heap.size, 1, none⟩ = some (.int .u64 p1) ∧ wx.cell? ⟨w.heap.size, 2, none⟩ = some (.int .u64 p2) ∧ wx.cell? ⟨w.heap.size, 3, none⟩ = some (.int .u64 p3) ∧ wx.frozen? ⟨w.heap.size, 0, none⟩ = false ∧ wx.frozen? ⟨w.heap.size, 1, none⟩ = false ∧ wx.frozen? ⟨w.heap.size, 2, none⟩ = false ∧ wx.frozen? ⟨w.heap.size, 3, none⟩ = false ∧ wx.cell? ⟨w.heap.size + 1, 0, none⟩ = some (.int .u64 q0) ∧ wx.cell? ⟨w.heap.size + 1, 1, none⟩ = some (.int .u64 q1) ∧ wx.cell? ⟨w.heap.size + 1, 2, none⟩ = some (.int .u64 q2) ∧ wx.cell? ⟨w.heap.size + 1, 3, none⟩ = some (.int .u64 q3) ∧ wx.frozen? ⟨w.heap.size + 1, 0, none⟩ = false ∧ wx.frozen? ⟨w.heap.size + 1, 1, none⟩ = false ∧ wx.frozen? ⟨w.heap.size + 1, 2, none⟩ = false ∧ wx.frozen? ⟨w.heap.size + 1, 3, none⟩ = false ∧ Below w.heap.size w wx) ((((wq.setCell ⟨w.heap.size + 1, 0, none⟩ (.int .u64 q0)).setCell ⟨w.heap.size + 1, 1, none⟩ (.int .u64 q1)).setCell ⟨w.heap.size + 1, 2, none⟩ (.int .u64 q2)).setCell ⟨w.heap.size + 1, 3, none⟩ (.int .u64 q3)) from ⟨by go_simp, by go_simp, by go_simp, by go_simp, by go_simp, by go_simp, by go_simp, by go_simp, by go_simp, by go_simp, by go_simp, by go_simp, by go_simp, by go_simp, by go_simp, by go_simp, ((((kz.setCell (p := ⟨w.heap.size + 1, 0, none⟩) gX1 _).setCell (p := ⟨w.heap.size + 1, 1, none⟩) gX1 _).setCell (p := ⟨w.heap.size + 1, 2, none⟩) gX1 _).setCell (p := ⟨w.heap.size + 1, 3, none⟩) gX1 _)⟩)
  go_simp
  refine hK.out _ _ (LS.behind bits_tt' ⟨fun h => absurd h (by decide), fun _ => ZZ.out⟩) ?_
  clear hK hS ZZ kz zX0_0 zX0_1 zX0_2 zX0_3 zfX0_0 zfX0_1 zfX0_2 zfX0_3 zX1_0 zX1_1 zX1_2 zX1_3 zfX1_0 zfX1_1 zfX1_2 zfX1_3 neX0 nfX0
  try simp only [List.getElem_toArray, List.getElem_cons_zero, List.getElem_cons_succ, Act.put, List.setIfInBounds_toArray, List.set_cons_zero, List.set_cons_succ]
  refine wpF_done (bs := [true, true]) (vs := []) (by kernel_rfl) (by kernel_rfl) rfl (fun w2 hS => ?_) _
  refine NoPanic.normal ?_
  clear cX0_0 cX0_1 cX0_2 cX0_3 sX0 fX0_0 fX0_1 fX0_2 fX0_3 cX1_0 cX1_1 cX1_2 cX1_3 sX1 fX1_0 fX1_1 fX1_2 fX1_3 kk
  obtain ⟨cX0_0, cX0_1, cX0_2, cX0_3, fX0_0, fX0_1, fX0_2, fX0_3, cX1_0, cX1_1, cX1_2, cX1_3, fX1_0, fX1_1, fX1_2, fX1_3, kk⟩ := (hS.2 bits_tt').2 rfl
  clear hS
  have sX0 : w.heap.size < w2.heap.size := World.block_lt_of_cell? _ _ cX0_0
  have sX1 : w.heap.size + 1 < w2.heap.size ∧ w.heap.size < w2.heap.size := by have h : w.heap.size + 1 < w2.heap.size := World.block_lt_of_cell? _ _ cX1_0; exact ⟨h, by omega⟩
  go_wp2_with fail
  refine wp_region_noPanic ?_
  refine wp_region_F [7, 8] [8, 9] (LS w2 (ANN w2 26 #[.int .i64 0, .int .u64 0, .int .u64 0, .int .u64 0, .int .u64 0]) (ZNN w2 26 #[.int .i64 0, .int .u64 0, .int .u64 0, .int .u64 0, .int .u64 0] (.int .i64 k) (.int .u64 p0) (.int .u64 p1) (.int .u64 p2) (.int .u64 p3) (.int .i64 0) (.int .u64 q0) (.int .u64 q1) (.int .u64 q2) (.int .u64 q3))) (by kernel_rfl) (bs := [false, false]) (vs := [undef, undef]) (by kernel_rfl) rfl (LS.before noBits_ff (Below.refl _ _).drew (ANN.start _ _ _ _)) ?_
  refine wpF_yield (i := 0) (v := ?vq5) rfl (by kernel_rfl) (by kernel_rfl) (fun _ _ _ h => h) (Or.inl ⟨by rfl, ?yq5⟩) ?rq5
  case yq5 => (intro wq; go_simp; try (with_reducible rfl))
  try simp only [List.getElem_toArray, List.getElem_cons_zero, List.getElem_cons_succ, Act.put, List.setIfInBounds_toArray, List.set_cons_zero, List.set_cons_succ]
  refine wpF_takeAny (i := 1) (v := ?vq6) rfl (by kernel_rfl) (by kernel_rfl) (fun _ _ _ h => h) (LS.loadAny ZNN.below (by rfl) ?yq6) ?rq6
  case yq6 => (intro wq hb; have lcX0_0 := cell_later hb cX0_0; have lcX0_1 := cell_later hb cX0_1; have lcX0_2 := cell_later hb cX0_2; have lcX0_3 := cell_later hb cX0_3; go_simp; try (with_reducible rfl))
  try simp only [List.getElem_toArray, List.getElem_cons_zero, List.getElem_cons_succ, Act.put, List.setIfInBounds_toArray, List.set_cons_zero, List.set_cons_succ]
  refine wpF_yield (i := 2) (v := ?vq7) rfl (by kernel_rfl) (by kernel_rfl) (fun _ _ _ h => h) (Or.inl ⟨by rfl, ?yq7⟩) ?rq7
  case yq7 => (intro wq; go_simp; try (with_reducible rfl))
  try simp only [List.getElem_toArray, List.getElem_cons_zero, List.getElem_cons_succ, Act.put, List.setIfInBounds_toArray, List.set_cons_zero, List.set_cons_succ]
  refine wpF_takeAny (i := 3) (v := ?vq8) rfl (by kernel_rfl) (by kernel_rfl) (fun _ _ _ h => h) (LS.loadAny ZNN.below (by rfl) ?yq8) ?rq8
  case yq8 => (intro wq hb; have lcX1_0 := cell_later hb cX1_0; have lcX1_1 := cell_later hb cX1_1; have lcX1_2 := cell_later hb cX1_2; have lcX1_3 := cell_later hb cX1_3; go_simp; try (with_reducible rfl))
  try simp only [List.getElem_toArray, List.getElem_cons_zero, List.getElem_cons_succ, Act.put, List.setIfInBounds_toArray, List.set_cons_zero, List.set_cons_succ]
  refine wpF_yield (i := 4) (v := ?vq9) rfl (by kernel_rfl) (by kernel_rfl) (fun _ _ _ h => h) (Or.inl ⟨by rfl, ?yq9⟩) ?rq9
  case yq9 => (intro wq; go_simp; try (with_reducible rfl))
  try simp only [List.getElem_toArray, List.getElem_cons_zero, List.getElem_cons_succ, Act.put, List.setIfInBounds_toArray, List.set_cons_zero, List.set_cons_succ]
  refine wpF_two (i := 5) (j := 6) (bs := [false, false]) (bi := [false, false]) (bj := [false, false]) (vs := [undef, undef]) (by kernel_rfl) rfl rfl (by kernel_rfl) rfl (by kernel_rfl) (by kernel_rfl) (fun wq hS K hK => ?_) (fun wq hS K hK => ?_)
  obtain ⟨hb, hA⟩ := hS.1 noBits_ff
  go_simp
  refine hK.out _ _ (LS.before noBits_ff (bA hb _) (ANN.first hb rfl)) ?_
  clear hK hA hb hS
  generalize wq.heap.size = pp3 at *
  try simp only [List.getElem_toArray, List.getElem_cons_zero, List.getElem_cons_succ, Act.put, List.setIfInBounds_toArray, List.set_cons_zero, List.set_cons_succ]
  clear K wq
  refine wpF_step (i := 6) (bs := [false, false]) (bs' := [false, false]) (vs := [.pointer (some ⟨pp3, 0, none⟩), undef]) (by kernel_rfl) rfl (by kernel_rfl) rfl (by kernel_rfl) (fun wq hS K hK => ?_)
  obtain ⟨hb, hA⟩ := hS.1 noBits_ff
  go_simp
  refine hK.out _ _ (LS.before noBits_ff (bA hb _) (ANN.second hb hA rfl)) ?_
  clear hK hA hb hS
  generalize wq.heap.size = qq3 at *
  try simp only [List.getElem_toArray, List.getElem_cons_zero, List.getElem_cons_succ, Act.put, List.setIfInBounds_toArray, List.set_cons_zero, List.set_cons_succ]
  clear K wq
  revert pp3 qq3
  refine ?rest
  rotate_left
  obtain ⟨hb, hA⟩ := hS.1 noBits_ff
  go_simp
  refine hK.out _ _ (LS.before noBits_ff (bA hb _) (ANN.first' hb rfl)) ?_
  clear hK hA hb hS
  generalize wq.heap.size = qq3 at *
  try simp only [List.getElem_toArray, List.getElem_cons_zero, List.getElem_cons_succ, Act.put, List.setIfInBounds_toArray, List.set_cons_zero, List.set_cons_succ]
  clear K wq
  refine wpF_step (i := 5) (bs := [false, false]) (bs' := [false, false]) (vs := [undef, .pointer (some ⟨qq3, 0, none⟩)]) (by kernel_rfl) rfl (by kernel_rfl) rfl (by kernel_rfl) (fun wq hS K hK => ?_)
  obtain ⟨hb, hA⟩ := hS.1 noBits_ff
  go_simp
  refine hK.out _ _ (LS.before noBits_ff (bA hb _) (ANN.second' hb hA rfl)) ?_
  clear hK hA hb hS
  generalize wq.heap.size = pp3 at *
  try simp only [List.getElem_toArray, List.getElem_cons_zero, List.getElem_cons_succ, Act.put, List.setIfInBounds_toArray, List.set_cons_zero, List.set_cons_succ]
  clear K wq
  rw [Array.setIfInBounds_comm true true (i := 6) (j := 5) (by decide)]
  exact ?rest pp3 qq3
  intro pp3 qq3
  refine wpF_step (i := 7) (bs := [false, false]) (bs' := [true, false]) (vs := [.pointer (some ⟨pp3, 0, none⟩), .pointer (some ⟨qq3, 0, none⟩)]) (by kernel_rfl) rfl (by kernel_rfl) rfl (by kernel_rfl) (fun wq hS K hK => ?_)
  obtain ⟨hb, hA⟩ := hS.1 noBits_ff
  have ZZ := Lib.hid (ZNN.one hb hA (.int .i64 k) (.int .u64 p0) (.int .u64 p1) (.int .u64 p2) (.int .u64 p3) (.int .i64 0) (.int .u64 q0) (.int .u64 q1) (.int .u64 q2) (.int .u64 q3))
  obtain ⟨⟨hp, x⟩, _, _⟩ := hA.both
  obtain ⟨z0, z1, z2, z3, z4⟩ := x.five
  have f0 := x.frozen 0; have f1 := x.frozen 1; have f2 := x.frozen 2; have f3 := x.frozen 3; have f4 := x.frozen 4
  go_simp
  refine hK.out _ _ (LS.behind bits_tf' ZZ.out) ?_
  clear hK hA hb ZZ hS hp x z0 z1 z2 z3 z4 f0 f1 f2 f3 f4
  try simp only [List.getElem_toArray, List.getElem_cons_zero, List.getElem_cons_succ, Act.put, List.setIfInBounds_toArray, List.set_cons_zero, List.set_cons_succ]
  refine wpF_step (i := 8) (bs := [true, false]) (bs' := [true, true]) (vs := [.pointer (some ⟨pp3, 0, none⟩), .pointer (some ⟨qq3, 0, none⟩)]) (by kernel_rfl) rfl (by kernel_rfl) rfl (by kernel_rfl) (fun wq hS K hK => ?_)
  have hZ := hS.2 bits_tf'
  have ZZ := Lib.hid hZ.two
  have x := hZ.cells
  obtain ⟨z0, z1, z2, z3, z4⟩ := x.five
  have f0 := x.frozen 0; have f1 := x.frozen 1; have f2 := x.frozen 2; have f3 := x.frozen 3; have f4 := x.frozen 4
  go_simp
  refine hK.out _ _ (LS.behind bits_tt' ZZ.out) ?_
  clear hK hZ ZZ hS x z0 z1 z2 z3 z4 f0 f1 f2 f3 f4
  try simp only [List.getElem_toArray, List.getElem_cons_zero, List.getElem_cons_succ, Act.put, List.setIfInBounds_toArray, List.set_cons_zero, List.set_cons_succ]
  refine wpF_done (bs := [true, true]) (vs := [.pointer (some ⟨pp3, 0, none⟩), .pointer (some ⟨qq3, 0, none⟩)]) (by kernel_rfl) (by kernel_rfl) rfl (fun w4 hS => ?_) _
  refine NoPanic.normal ?_
  obtain ⟨hge, hge2, hne, hbox, hbox2, hb⟩ := (hS.2 bits_tt').done
  have nX0_X2 : w.heap.size < pp3 := by omega
  have nX1_X2 : w.heap.size + 1 < pp3 := by omega
  have nX0_X3 : w.heap.size < qq3 := by omega
  have nX1_X3 : w.heap.size + 1 < qq3 := by omega
  obtain ⟨cX2_0, cX2_1, cX2_2, cX2_3, cX2_4⟩ := hbox.five
  obtain ⟨cX3_0, cX3_1, cX3_2, cX3_3, cX3_4⟩ := hbox2.five
  clear hge hge2 hne hbox hbox2
  clear hS
  replace fX0_0 := frozen_later hb cX0_0 fX0_0; replace fX0_1 := frozen_later hb cX0_1 fX0_1; replace fX0_2 := frozen_later hb cX0_2 fX0_2; replace fX0_3 := frozen_later hb cX0_3 fX0_3
  replace cX0_0 := cell_later hb cX0_0; replace cX0_1 := cell_later hb cX0_1; replace cX0_2 := cell_later hb cX0_2; replace cX0_3 := cell_later hb cX0_3
  replace sX0 : w.heap.size < w4.heap.size := World.block_lt_of_cell? _ _ cX0_0
  replace fX1_0 := frozen_later hb cX1_0 fX1_0; replace fX1_1 := frozen_later hb cX1_1 fX1_1; replace fX1_2 := frozen_later hb cX1_2 fX1_2; replace fX1_3 := frozen_later hb cX1_3 fX1_3
  replace cX1_0 := cell_later hb cX1_0; replace cX1_1 := cell_later hb cX1_1; replace cX1_2 := cell_later hb cX1_2; replace cX1_3 := cell_later hb cX1_3
  replace sX1 : w.heap.size + 1 < w4.heap.size ∧ w.heap.size < w4.heap.size := by have h : w.heap.size + 1 < w4.heap.size := World.block_lt_of_cell? _ _ cX1_0; exact ⟨h, by omega⟩
  have sX2 : pp3 < w4.heap.size := World.block_lt_of_cell? _ _ cX2_0
  have sX3 : qq3 < w4.heap.size := World.block_lt_of_cell? _ _ cX3_0
  replace kk := bC kk hb
  clear hb
  go_wp2_with fail
  (with_reducible refine (WP.out _).mono ?_); rintro e w5 ⟨v0, rfl, nv0, hb⟩
  clear cX0_0 cX0_1 cX0_2 cX0_3 sX0
  replace fX1_0 := frozen_later hb cX1_0 fX1_0; replace fX1_1 := frozen_later hb cX1_1 fX1_1; replace fX1_2 := frozen_later hb cX1_2 fX1_2; replace fX1_3 := frozen_later hb cX1_3 fX1_3
  replace cX1_0 := cell_later hb cX1_0; replace cX1_1 := cell_later hb cX1_1; replace cX1_2 := cell_later hb cX1_2; replace cX1_3 := cell_later hb cX1_3
  replace sX1 : w.heap.size + 1 < w5.heap.size ∧ w.heap.size < w5.heap.size := by have h : w.heap.size + 1 < w5.heap.size := World.block_lt_of_cell? _ _ cX1_0; exact ⟨h, by omega⟩
  replace cX2_0 := cell_later hb cX2_0; replace cX2_1 := cell_later hb cX2_1; replace cX2_2 := cell_later hb cX2_2; replace cX2_3 := cell_later hb cX2_3; replace cX2_4 := cell_later hb cX2_4
  replace sX2 : pp3 < w5.heap.size := World.block_lt_of_cell? _ _ cX2_0
  replace cX3_0 := cell_later hb cX3_0; replace cX3_1 := cell_later hb cX3_1; replace cX3_2 := cell_later hb cX3_2; replace cX3_3 := cell_later hb cX3_3; replace cX3_4 := cell_later hb cX3_4
  replace sX3 : qq3 < w5.heap.size := World.block_lt_of_cell? _ _ cX3_0
  replace kk := bC kk hb
  clear hb
  go_wp2_with fail
  (with_reducible refine (SH.out _ _ nv0).mono ?_); rintro e w6 ⟨v1, rfl, nv1, hb⟩
  replace nv0 := nv0.later hb
  replace fX1_0 := frozen_later hb cX1_0 fX1_0; replace fX1_1 := frozen_later hb cX1_1 fX1_1; replace fX1_2 := frozen_later hb cX1_2 fX1_2; replace fX1_3 := frozen_later hb cX1_3 fX1_3
  replace cX1_0 := cell_later hb cX1_0; replace cX1_1 := cell_later hb cX1_1; replace cX1_2 := cell_later hb cX1_2; replace cX1_3 := cell_later hb cX1_3
  replace sX1 : w.heap.size + 1 < w6.heap.size ∧ w.heap.size < w6.heap.size := by have h : w.heap.size + 1 < w6.heap.size := World.block_lt_of_cell? _ _ cX1_0; exact ⟨h, by omega⟩
  replace cX2_0 := cell_later hb cX2_0; replace cX2_1 := cell_later hb cX2_1; replace cX2_2 := cell_later hb cX2_2; replace cX2_3 := cell_later hb cX2_3; replace cX2_4 := cell_later hb cX2_4
  replace sX2 : pp3 < w6.heap.size := World.block_lt_of_cell? _ _ cX2_0
  replace cX3_0 := cell_later hb cX3_0; replace cX3_1 := cell_later hb cX3_1; replace cX3_2 := cell_later hb cX3_2; replace cX3_3 := cell_later hb cX3_3; replace cX3_4 := cell_later hb cX3_4
  replace sX3 : qq3 < w6.heap.size := World.block_lt_of_cell? _ _ cX3_0
  replace kk := bC kk hb
  clear hb
  clear nv0
  go_wp2_with fail
  (with_reducible refine (WQ.out _).mono ?_); rintro e w7 ⟨v2, rfl, nv2, hb⟩
  replace nv1 := nv1.later hb
  replace fX1_0 := frozen_later hb cX1_0 fX1_0; replace fX1_1 := frozen_later hb cX1_1 fX1_1; replace fX1_2 := frozen_later hb cX1_2 fX1_2; replace fX1_3 := frozen_later hb cX1_3 fX1_3
  replace cX1_0 := cell_later hb cX1_0; replace cX1_1 := cell_later hb cX1_1; replace cX1_2 := cell_later hb cX1_2; replace cX1_3 := cell_later hb cX1_3
  replace sX1 : w.heap.size + 1 < w7.heap.size ∧ w.heap.size < w7.heap.size := by have h : w.heap.size + 1 < w7.heap.size := World.block_lt_of_cell? _ _ cX1_0; exact ⟨h, by omega⟩
  replace cX2_0 := cell_later hb cX2_0; replace cX2_1 := cell_later hb cX2_1; replace cX2_2 := cell_later hb cX2_2; replace cX2_3 := cell_later hb cX2_3; replace cX2_4 := cell_later hb cX2_4
  replace sX2 : pp3 < w7.heap.size := World.block_lt_of_cell? _ _ cX2_0
  replace cX3_0 := cell_later hb cX3_0; replace cX3_1 := cell_later hb cX3_1; replace cX3_2 := cell_later hb cX3_2; replace cX3_3 := cell_later hb cX3_3; replace cX3_4 := cell_later hb cX3_4
  replace sX3 : qq3 < w7.heap.size := World.block_lt_of_cell? _ _ cX3_0
  replace kk := bC kk hb
  clear hb
  go_wp2_with fail
  (with_reducible refine (AD.out _ _ _ nv1 nv2).mono ?_); rintro e w8 ⟨v3, rfl, nv3, hb⟩
  replace nv1 := nv1.later hb
  replace nv2 := nv2.later hb
  replace fX1_0 := frozen_later hb cX1_0 fX1_0; replace fX1_1 := frozen_later hb cX1_1 fX1_1; replace fX1_2 := frozen_later hb cX1_2 fX1_2; replace fX1_3 := frozen_later hb cX1_3 fX1_3
  replace cX1_0 := cell_later hb cX1_0; replace cX1_1 := cell_later hb cX1_1; replace cX1_2 := cell_later hb cX1_2; replace cX1_3 := cell_later hb cX1_3
  replace sX1 : w.heap.size + 1 < w8.heap.size ∧ w.heap.size < w8.heap.size := by have h : w.heap.size + 1 < w8.heap.size := World.block_lt_of_cell? _ _ cX1_0; exact ⟨h, by omega⟩
  replace cX2_0 := cell_later hb cX2_0; replace cX2_1 := cell_later hb cX2_1; replace cX2_2 := cell_later hb cX2_2; replace cX2_3 := cell_later hb cX2_3; replace cX2_4 := cell_later hb cX2_4
  replace sX2 : pp3 < w8.heap.size := World.block_lt_of_cell? _ _ cX2_0
  replace cX3_0 := cell_later hb cX3_0; replace cX3_1 := cell_later hb cX3_1; replace cX3_2 := cell_later hb cX3_2; replace cX3_3 := cell_later hb cX3_3; replace cX3_4 := cell_later hb cX3_4
  replace sX3 : qq3 < w8.heap.size := World.block_lt_of_cell? _ _ cX3_0
  replace kk := bC kk hb
  clear hb
  clear nv2
  go_wp2_with fail
  (with_reducible refine (h6.out _).mono ?_); rintro e w9 ⟨rfl, hb⟩
  replace nv1 := nv1.later hb
  replace nv3 := nv3.later hb
  replace fX1_0 := frozen_later hb cX1_0 fX1_0; replace fX1_1 := frozen_later hb cX1_1 fX1_1; replace fX1_2 := frozen_later hb cX1_2 fX1_2; replace fX1_3 := frozen_later hb cX1_3 fX1_3
  replace cX1_0 := cell_later hb cX1_0; replace cX1_1 := cell_later hb cX1_1; replace cX1_2 := cell_later hb cX1_2; replace cX1_3 := cell_later hb cX1_3
  replace sX1 : w.heap.size + 1 < w9.heap.size ∧ w.heap.size < w9.heap.size := by have h : w.heap.size + 1 < w9.heap.size := World.block_lt_of_cell? _ _ cX1_0; exact ⟨h, by omega⟩
  replace cX2_0 := cell_later hb cX2_0; replace cX2_1 := cell_later hb cX2_1; replace cX2_2 := cell_later hb cX2_2; replace cX2_3 := cell_later hb cX2_3; replace cX2_4 := cell_later hb cX2_4
  replace sX2 : pp3 < w9.heap.size := World.block_lt_of_cell? _ _ cX2_0
  replace cX3_0 := cell_later hb cX3_0; replace cX3_1 := cell_later hb cX3_1; replace cX3_2 := cell_later hb cX3_2; replace cX3_3 := cell_later hb cX3_3; replace cX3_4 := cell_later hb cX3_4
  replace sX3 : qq3 < w9.heap.size := World.block_lt_of_cell? _ _ cX3_0
  replace kk := bC kk hb
  clear hb
  go_wp2_with fail
  replace nv1 := nv1.later (bA (Below.refl _ _) (.cells #[.int .i64 k1, .int .u64 s0, .int .u64 s1, .int .u64 s2, .int .u64 s3] 26))
  replace nv3 := nv3.later (bA (Below.refl _ _) (.cells #[.int .i64 k1, .int .u64 s0, .int .u64 s1, .int .u64 s2, .int .u64 s3] 26))
  (with_reducible refine (WS.out _).mono ?_); rintro e w10 ⟨v4, rfl, nv4, hb⟩
  have hz := bC (bA (Below.refl _ _) _) hb
  replace nv1 := nv1.later hb
  replace nv3 := nv3.later hb
  replace fX1_0 := frozen_later hz cX1_0 fX1_0; replace fX1_1 := frozen_later hz cX1_1 fX1_1; replace fX1_2 := frozen_later hz cX1_2 fX1_2; replace fX1_3 := frozen_later hz cX1_3 fX1_3
  replace cX1_0 := cell_later hz cX1_0; replace cX1_1 := cell_later hz cX1_1; replace cX1_2 := cell_later hz cX1_2; replace cX1_3 := cell_later hz cX1_3
  replace sX1 : w.heap.size + 1 < w10.heap.size ∧ w.heap.size < w10.heap.size := by have h : w.heap.size + 1 < w10.heap.size := World.block_lt_of_cell? _ _ cX1_0; exact ⟨h, by omega⟩
  replace cX2_0 := cell_later hz cX2_0; replace cX2_1 := cell_later hz cX2_1; replace cX2_2 := cell_later hz cX2_2; replace cX2_3 := cell_later hz cX2_3; replace cX2_4 := cell_later hz cX2_4
  replace sX2 : pp3 < w10.heap.size := World.block_lt_of_cell? _ _ cX2_0
  replace cX3_0 := cell_later hz cX3_0; replace cX3_1 := cell_later hz cX3_1; replace cX3_2 := cell_later hz cX3_2; replace cX3_3 := cell_later hz cX3_3; replace cX3_4 := cell_later hz cX3_4
  replace sX3 : qq3 < w10.heap.size := World.block_lt_of_cell? _ _ cX3_0
  replace kk := bC kk hz
  clear hb hz
  go_wp2_with fail
  (with_reducible refine (JS.out _ _ nv3).mono ?_); rintro e w11 ⟨v6, rfl, nv6, hb⟩
  replace nv1 := nv1.later hb
  replace nv3 := nv3.later hb
  replace nv4 := nv4.later hb
  replace fX1_0 := frozen_later hb cX1_0 fX1_0; replace fX1_1 := frozen_later hb cX1_1 fX1_1; replace fX1_2 := frozen_later hb cX1_2 fX1_2; replace fX1_3 := frozen_later hb cX1_3 fX1_3
  replace cX1_0 := cell_later hb cX1_0; replace cX1_1 := cell_later hb cX1_1; replace cX1_2 := cell_later hb cX1_2; replace cX1_3 := cell_later hb cX1_3
  replace sX1 : w.heap.size + 1 < w11.heap.size ∧ w.heap.size < w11.heap.size := by have h : w.heap.size + 1 < w11.heap.size := World.block_lt_of_cell? _ _ cX1_0; exact ⟨h, by omega⟩
  replace cX2_0 := cell_later hb cX2_0; replace cX2_1 := cell_later hb cX2_1; replace cX2_2 := cell_later hb cX2_2; replace cX2_3 := cell_later hb cX2_3; replace cX2_4 := cell_later hb cX2_4
  replace sX2 : pp3 < w11.heap.size := World.block_lt_of_cell? _ _ cX2_0
  replace cX3_0 := cell_later hb cX3_0; replace cX3_1 := cell_later hb cX3_1; replace cX3_2 := cell_later hb cX3_2; replace cX3_3 := cell_later hb cX3_3; replace cX3_4 := cell_later hb cX3_4
  replace sX3 : qq3 < w11.heap.size := World.block_lt_of_cell? _ _ cX3_0
  replace kk := bC kk hb
  clear hb
  clear nv3
  go_wp2_with fail
  (with_reducible refine (C1.out _ _ _ nv4 nv6).mono ?_); rintro e w12 ⟨rfl, hb⟩
  replace nv1 := nv1.later hb
  replace nv4 := nv4.later hb
  replace nv6 := nv6.later hb
  replace fX1_0 := frozen_later hb cX1_0 fX1_0; replace fX1_1 := frozen_later hb cX1_1 fX1_1; replace fX1_2 := frozen_later hb cX1_2 fX1_2; replace fX1_3 := frozen_later hb cX1_3 fX1_3
  replace cX1_0 := cell_later hb cX1_0; replace cX1_1 := cell_later hb cX1_1; replace cX1_2 := cell_later hb cX1_2; replace cX1_3 := cell_later hb cX1_3
  replace sX1 : w.heap.size + 1 < w12.heap.size ∧ w.heap.size < w12.heap.size := by have h : w.heap.size + 1 < w12.heap.size := World.block_lt_of_cell? _ _ cX1_0; exact ⟨h, by omega⟩
  replace cX2_0 := cell_later hb cX2_0; replace cX2_1 := cell_later hb cX2_1; replace cX2_2 := cell_later hb cX2_2; replace cX2_3 := cell_later hb cX2_3; replace cX2_4 := cell_later hb cX2_4
  replace sX2 : pp3 < w12.heap.size := World.block_lt_of_cell? _ _ cX2_0
  replace cX3_0 := cell_later hb cX3_0; replace cX3_1 := cell_later hb cX3_1; replace cX3_2 := cell_later hb cX3_2; replace cX3_3 := cell_later hb cX3_3; replace cX3_4 := cell_later hb cX3_4
  replace sX3 : qq3 < w12.heap.size := World.block_lt_of_cell? _ _ cX3_0
  replace kk := bC kk hb
  clear hb
  clear nv4
  clear nv6
  go_wp2_with fail
  (with_reducible refine (h10.out _).mono ?_); rintro e w13 ⟨rfl, hb⟩
  replace nv1 := nv1.later hb
  replace fX1_0 := frozen_later hb cX1_0 fX1_0; replace fX1_1 := frozen_later hb cX1_1 fX1_1; replace fX1_2 := frozen_later hb cX1_2 fX1_2; replace fX1_3 := frozen_later hb cX1_3 fX1_3
  replace cX1_0 := cell_later hb cX1_0; replace cX1_1 := cell_later hb cX1_1; replace cX1_2 := cell_later hb cX1_2; replace cX1_3 := cell_later hb cX1_3
  replace sX1 : w.heap.size + 1 < w13.heap.size ∧ w.heap.size < w13.heap.size := by have h : w.heap.size + 1 < w13.heap.size := World.block_lt_of_cell? _ _ cX1_0; exact ⟨h, by omega⟩
  clear cX2_0 cX2_1 cX2_2 cX2_3 cX2_4 sX2
  clear cX3_0 cX3_1 cX3_2 cX3_3 cX3_4 sX3
  replace kk := bC kk hb
  clear hb
  go_wp2_with fail
  replace nv1 := nv1.later (bA (Below.refl _ _) (.cells #[.int .i64 k, .int .u64 d0, .int .u64 d1, .int .u64 d2, .int .u64 d3] 26))
  (with_reducible refine (WQ.out _).mono ?_); rintro e w14 ⟨v5, rfl, nv5, hb⟩
  have hz := bC (bA (Below.refl _ _) _) hb
  replace nv1 := nv1.later hb
  clear cX1_0 cX1_1 cX1_2 cX1_3 sX1
  have cX5_0 := cell_later hb (a := ⟨w13.heap.size, 0, none⟩) (v := .int .i64 k) (by go_simp)
  have cX5_1 := cell_later hb (a := ⟨w13.heap.size, 1, none⟩) (v := .int .u64 d0) (by go_simp)
  have cX5_2 := cell_later hb (a := ⟨w13.heap.size, 2, none⟩) (v := .int .u64 d1) (by go_simp)
  have cX5_3 := cell_later hb (a := ⟨w13.heap.size, 3, none⟩) (v := .int .u64 d2) (by go_simp)
  have cX5_4 := cell_later hb (a := ⟨w13.heap.size, 4, none⟩) (v := .int .u64 d3) (by go_simp)
  have sX5 : w13.heap.size < w14.heap.size := World.block_lt_of_cell? _ _ cX5_0
  replace kk := bC kk hz
  clear hb hz
  go_wp2_with fail
  (with_reducible refine (C2.out _ _ _ nv1 nv5).mono ?_); rintro e w15 ⟨rfl, hb⟩
  replace nv1 := nv1.later hb
  replace nv5 := nv5.later hb
  replace cX5_0 := cell_later hb cX5_0; replace cX5_1 := cell_later hb cX5_1; replace cX5_2 := cell_later hb cX5_2; replace cX5_3 := cell_later hb cX5_3; replace cX5_4 := cell_later hb cX5_4
  replace sX5 : w13.heap.size < w15.heap.size := World.block_lt_of_cell? _ _ cX5_0
  replace kk := bC kk hb
  clear hb
  go_wp2_with fail
  (with_reducible refine (WD.out _).mono ?_); rintro e w16 ⟨v7, rfl, nv7, hb⟩
  replace nv1 := nv1.later hb
  replace nv5 := nv5.later hb
  clear cX5_0 cX5_1 cX5_2 cX5_3 cX5_4 sX5
  replace kk := bC kk hb
  clear hb
  go_wp2_with fail
  (with_reducible refine (SB.out _ _ _ nv5 nv1).mono ?_); rintro e w17 ⟨v8, rfl, nv8, hb⟩
  replace nv1 := nv1.later hb
  replace nv5 := nv5.later hb
  replace nv7 := nv7.later hb
  replace kk := bC kk hb
  clear hb
  clear nv1
  clear nv5
  go_wp2_with fail
  (with_reducible refine (JD.out _ _ nv8).mono ?_); rintro e w18 ⟨v9, rfl, nv9, hb⟩
  replace nv7 := nv7.later hb
  replace nv8 := nv8.later hb
  replace kk := bC kk hb
  clear hb
  clear nv8
  go_wp2_with fail
  (with_reducible refine (C3.out _ _ _ nv7 nv9).mono ?_); rintro e w19 ⟨rfl, hb⟩
  replace nv7 := nv7.later hb
  replace nv9 := nv9.later hb
  replace kk := bC kk hb
  clear hb
  clear nv7
  clear nv9
  go_wp2_with fail
  (with_reducible refine (h17.out _).mono ?_); rintro e w20 ⟨rfl, hb⟩
  replace kk := bC kk hb
  clear hb
  go_wp2_with fail
  go_ret
  exact ⟨rfl, kk⟩

set_option maxHeartbeats 4000000 in
set_option maxRecDepth 100000 in
theorem exact17_0 (b k k1 r P Q BG SU S J1 D DF J2 x0 x1 x2 x3 y0 y1 y2 y3 p0 p1 p2 p3 q0 q1 q2 q3 s0 s1 s2 s3 d0 d1 d2 d3 : Int)
    (h0 : Hid (∀ w, Calls Try.prog 18 #[.agg #[.int .u64 x0, .int .u64 x1, .int .u64 x2, .int .u64 x3]] w fun e w' => e = .returned (.agg #[.int .u64 p0, .int .u64 p1, .int .u64 p2, .int .u64 p3]) ∧ Below w.heap.size w w'))
    (h1 : Hid (∀ w, Calls Try.prog 18 #[.agg #[.int .u64 y0, .int .u64 y1, .int .u64 y2, .int .u64 y3]] w fun e w' => e = .returned (.agg #[.int .u64 q0, .int .u64 q1, .int .u64 q2, .int .u64 q3]) ∧ Below w.heap.size w w'))
    (h6 : Hid (∀ w, Calls Try.prog 12 #[.agg #[.int .i64 k, .int .u64 p0, .int .u64 p1, .int .u64 p2, .int .u64 p3], .agg #[.int .i64 0, .int .u64 q0, .int .u64 q1, .int .u64 q2, .int .u64 q3]] w fun e w' => e = .returned (.agg #[.int .i64 k1, .int .u64 s0, .int .u64 s1, .int .u64 s2, .int .u64 s3]) ∧ Below w.heap.size w w'))
    (h10 : Hid (∀ w, Calls Try.prog 11 #[.agg #[.int .i64 k, .int .u64 p0, .int .u64 p1, .int .u64 p2, .int .u64 p3], .agg #[.int .i64 0, .int .u64 q0, .int .u64 q1, .int .u64 q2, .int .u64 q3]] w fun e w' => e = .returned (.tuple #[.agg #[.int .i64 k, .int .u64 d0, .int .u64 d1, .int .u64 d2, .int .u64 d3], .bool false]) ∧ Below w.heap.size w w'))
    (h17 : Hid (∀ w, Calls Try.prog 17 #[] w fun e w' => e = .returned (.bool true) ∧ Below w.heap.size w w')) (k2 : IntKind.i64.wrap b = b) (k3 : b % 300 = k) (k4 : b.tmod 300 = k) (w1 : IntKind.i64.wrap (k + 1) = k1) (w1x : wrap64 (k + 1) = k1) (g1 : decide (r < 0) = false) (WP : Hid (∀ w, Calls Try.prog 20 #[.agg #[.int .u64 p0, .int .u64 p1, .int .u64 p2, .int .u64 p3]] w (RetNum w P))) (SH : Hid (∀ w v, IsNum w v P → Calls Try.prog 19 #[v, .int .i64 k] w (RetNum w BG))) (WQ : Hid (∀ w, Calls Try.prog 20 #[.agg #[.int .u64 q0, .int .u64 q1, .int .u64 q2, .int .u64 q3]] w (RetNum w Q))) (AD : Hid (∀ w u v, IsNum w u BG → IsNum w v Q → Calls Try.prog 21 #[u, v] w (RetNum w SU))) (WS : Hid (∀ w, Calls Try.prog 20 #[.agg #[.int .u64 s0, .int .u64 s1, .int .u64 s2, .int .u64 s3]] w (RetNum w S))) (JS : Hid (∀ w v, IsNum w v SU → Calls Try.prog 23 #[v, .int .i64 k1] w (RetNum w J1))) (C1 : Hid (∀ w u v, IsNum w u S → IsNum w v J1 → Calls Try.prog 22 #[u, v] w fun e w' => e = .returned (.int .i64 0) ∧ Below w.heap.size w w')) (C2 : Hid (∀ w u v, IsNum w u BG → IsNum w v Q → Calls Try.prog 22 #[u, v] w fun e w' => e = .returned (.int .i64 r) ∧ Below w.heap.size w w')) (WD : Hid (∀ w, Calls Try.prog 20 #[.agg #[.int .u64 d0, .int .u64 d1, .int .u64 d2, .int .u64 d3]] w (RetNum w D))) (SB : Hid (∀ w u v, IsNum w u BG → IsNum w v Q → Calls Try.prog 24 #[u, v] w (RetNum w DF))) (JD : Hid (∀ w v, IsNum w v DF → Calls Try.prog 23 #[v, .int .i64 k] w (RetNum w J2))) (C3 : Hid (∀ w u v, IsNum w u D → IsNum w v J2 → Calls Try.prog 22 #[u, v] w fun e w' => e = .returned (.int .i64 0) ∧ Below w.heap.size w w')) (w : World) :
    Calls Try.prog 4 #[.agg #[.int .u64 x0, .int .u64 x1, .int .u64 x2, .int .u64 x3], .agg #[.int .u64 y0, .int .u64 y1, .int .u64 y2, .int .u64 y3], .int .u16 b] w fun e w' => e = .returned (.bool true) ∧ Below w.heap.size w w' := by
  go_enter Try.func4, Try.ntmps4
  go_wp2_with fail
  have gX0 : w.heap.size ≤ w.heap.size := by omega
  have gX1 : w.heap.size ≤ w.heap.size + 1 := by omega
  refine wp_forget (fun W => W.cell? ⟨w.heap.size, 0, none⟩ = some (.int .u64 x0) ∧ W.cell? ⟨w.heap.size, 1, none⟩ = some (.int .u64 x1) ∧ W.cell? ⟨w.heap.size, 2, none⟩ = some (.int .u64 x2) ∧ W.cell? ⟨w.heap.size, 3, none⟩ = some (.int .u64 x3) ∧ W.cell? ⟨w.heap.size + 1, 0, none⟩ = some (.int .u64 y0) ∧ W.cell? ⟨w.heap.size + 1, 1, none⟩ = some (.int .u64 y1) ∧ W.cell? ⟨w.heap.size + 1, 2, none⟩ = some (.int .u64 y2) ∧ W.cell? ⟨w.heap.size + 1, 3, none⟩ = some (.int .u64 y3) ∧ W.frozen? ⟨w.heap.size, 0, none⟩ = false ∧ W.frozen? ⟨w.heap.size, 1, none⟩ = false ∧ W.frozen? ⟨w.heap.size, 2, none⟩ = false ∧ W.frozen? ⟨w.heap.size, 3, none⟩ = false ∧ W.frozen? ⟨w.heap.size + 1, 0, none⟩ = false ∧ W.frozen? ⟨w.heap.size + 1, 1, none⟩ = false ∧ W.frozen? ⟨w.heap.size + 1, 2, none⟩ = false ∧ W.frozen? ⟨w.heap.size + 1, 3, none⟩ = false ∧ Below w.heap.size w W) ⟨by go_simp, by go_simp, by go_simp, by go_simp, by go_simp, by go_simp, by go_simp, by go_simp, by go_simp, by go_simp, by go_simp, by go_simp, by go_simp, by go_simp, by go_simp, by go_simp, (bA (bA (Below.refl _ _) _) _)⟩ (fun w1 hst => ?_)
  obtain ⟨cX0_0, cX0_1, cX0_2, cX0_3, cX1_0, cX1_1, cX1_2, cX1_3, fX0_0, fX0_1, fX0_2, fX0_3, fX1_0, fX1_1, fX1_2, fX1_3, kk⟩ := hst
  have sX0 : w.heap.size < w1.heap.size := World.block_lt_of_cell? _ _ cX0_0
  have sX1 : w.heap.size + 1 < w1.heap.size ∧ w.heap.size < w1.heap.size := by have h : w.heap.size + 1 < w1.heap.size := World.block_lt_of_cell? _ _ cX1_0; exact ⟨h, by omega⟩
  refine wp_region_noPanic ?_
  refine wp_region_F [4, 5] [] (LS w1 (fun _ _ => True) (fun bs _ wx => (bs = [true, false] → wx.cell? ⟨w.heap.size, 0, none⟩ = some (.int .u64 p0) ∧ wx.cell? ⟨w.heap.size, 1, none⟩ = some (.int .u64 p1) ∧ wx.cell? ⟨w.heap.size, 2, none⟩ = some (.int .u64 p2) ∧ wx.cell? ⟨w.heap.size, 3, none⟩ = some (.int .u64 p3) ∧ wx.frozen? ⟨w.heap.size, 0, none⟩ = false ∧ wx.frozen? ⟨w.heap.size, 1, none⟩ = false ∧ wx.frozen? ⟨w.heap.size, 2, none⟩ = false ∧ wx.frozen? ⟨w.heap.size, 3, none⟩ = false ∧ wx.cell? ⟨w.heap.size + 1, 0, none⟩ = some (.int .u64 y0) ∧ wx.cell? ⟨w.heap.size + 1, 1, none⟩ = some (.int .u64 y1) ∧ wx.cell? ⟨w.heap.size + 1, 2, none⟩ = some (.int .u64 y2) ∧ wx.cell? ⟨w.heap.size + 1, 3, none⟩ = some (.int .u64 y3) ∧ wx.frozen? ⟨w.heap.size + 1, 0, none⟩ = false ∧ wx.frozen? ⟨w.heap.size + 1, 1, none⟩ = false ∧ wx.frozen? ⟨w.heap.size + 1, 2, none⟩ = false ∧ wx.frozen? ⟨w.heap.size + 1, 3, none⟩ = false ∧ Below w.heap.size w wx) ∧ (bs = [true, true] → wx.cell? ⟨w.heap.size, 0, none⟩ = some (.int .u64 p0) ∧ wx.cell? ⟨w.heap.size, 1, none⟩ = some (.int .u64 p1) ∧ wx.cell? ⟨w.heap.size, 2, none⟩ = some (.int .u64 p2) ∧ wx.cell? ⟨w.heap.size, 3, none⟩ = some (.int .u64 p3) ∧ wx.frozen? ⟨w.heap.size, 0, none⟩ = false ∧ wx.frozen? ⟨w.heap.size, 1, none⟩ = false ∧ wx.frozen? ⟨w.heap.size, 2, none⟩ = false ∧ wx.frozen? ⟨w.heap.size, 3, none⟩ = false ∧ wx.cell? ⟨w.heap.size + 1, 0, none⟩ = some (.int .u64 q0) ∧ wx.cell? ⟨w.heap.size + 1, 1, none⟩ = some (.int .u64 q1) ∧ wx.cell? ⟨w.heap.size + 1, 2, none⟩ = some (.int .u64 q2) ∧ wx.cell? ⟨w.heap.size + 1, 3, none⟩ = some (.int .u64 q3) ∧ wx.frozen? ⟨w.heap.size + 1, 0, none⟩ = false ∧ wx.frozen? ⟨w.heap.size + 1, 1, none⟩ = false ∧ wx.frozen? ⟨w.heap.size + 1, 2, none⟩ = false ∧ wx.frozen? ⟨w.heap.size + 1, 3, none⟩ = false ∧ Below w.heap.size w wx))) (by kernel_rfl) (bs := [false, false]) (vs := []) (by kernel_rfl) rfl (LS.before noBits_ff (Below.refl _ _).drew trivial) ?_
  refine wpF_take3 (i := 0) (v := ?vq10) rfl (by kernel_rfl) (by kernel_rfl) (fun _ _ _ h => h) (LS.load (by rfl) ?yq10) ?rq10
  case yq10 => (intro wq hb; have lcX0_0 := cell_later hb cX0_0; have lcX0_1 := cell_later hb cX0_1; have lcX0_2 := cell_later hb cX0_2; have lcX0_3 := cell_later hb cX0_3; go_simp; try (with_reducible rfl))
  try simp only [List.getElem_toArray, List.getElem_cons_zero, List.getElem_cons_succ, Act.put, List.setIfInBounds_toArray, List.set_cons_zero, List.set_cons_succ]
  refine wpF_take3 (i := 1) (v := _) rfl (by kernel_rfl) (by kernel_rfl) (fun _ _ _ h => h) (LS.call lasts_true (by rfl) _ _ ?yq11 (h0.out)) ?rq11
  case yq11 => (intro wq; go_simp; try (with_reducible rfl))
  try simp only [List.getElem_toArray, List.getElem_cons_zero, List.getElem_cons_succ, Act.put, List.setIfInBounds_toArray, List.set_cons_zero, List.set_cons_succ]
  refine wpF_take3 (i := 2) (v := ?vq12) rfl (by kernel_rfl) (by kernel_rfl) (fun _ _ _ h => h) (LS.load (by rfl) ?yq12) ?rq12
  case yq12 => (intro wq hb; have lcX1_0 := cell_later hb cX1_0; have lcX1_1 := cell_later hb cX1_1; have lcX1_2 := cell_later hb cX1_2; have lcX1_3 := cell_later hb cX1_3; go_simp; try (with_reducible rfl))
  try simp only [List.getElem_toArray, List.getElem_cons_zero, List.getElem_cons_succ, Act.put, List.setIfInBounds_toArray, List.set_cons_zero, List.set_cons_succ]
  refine wpF_take3 (i := 3) (v := _) rfl (by kernel_rfl) (by kernel_rfl) (fun _ _ _ h => h) (LS.call lasts_true (by rfl) _ _ ?yq13 (h1.out)) ?rq13
  case yq13 => (intro wq; go_simp; try (with_reducible rfl))
  try simp only [List.getElem_toArray, List.getElem_cons_zero, List.getElem_cons_succ, Act.put, List.setIfInBounds_toArray, List.set_cons_zero, List.set_cons_succ]
  refine wpF_step (i := 4) (bs := [false, false]) (bs' := [true, false]) (vs := []) (by kernel_rfl) rfl (by kernel_rfl) rfl (by kernel_rfl) (fun wq hS K hK => ?_)
  obtain ⟨hb, _⟩ := hS.1 noBits_ff
  have zX0_0 := cell_later hb cX0_0; have zfX0_0 := frozen_later hb cX0_0 fX0_0
  have zX0_1 := cell_later hb cX0_1; have zfX0_1 := frozen_later hb cX0_1 fX0_1
  have zX0_2 := cell_later hb cX0_2; have zfX0_2 := frozen_later hb cX0_2 fX0_2
  have zX0_3 := cell_later hb cX0_3; have zfX0_3 := frozen_later hb cX0_3 fX0_3
  have zX1_0 := cell_later hb cX1_0; have zfX1_0 := frozen_later hb cX1_0 fX1_0
  have zX1_1 := cell_later hb cX1_1; have zfX1_1 := frozen_later hb cX1_1 fX1_1
  have zX1_2 := cell_later hb cX1_2; have zfX1_2 := frozen_later hb cX1_2 fX1_2
  have zX1_3 := cell_later hb cX1_3; have zfX1_3 := frozen_later hb cX1_3 fX1_3
  have kz := bC kk hb
  have neX1 : ¬ (w.heap.size = w.heap.size + 1) := by omega
  have nfX1 : ¬ (w.heap.size + 1 = w.heap.size) := by omega
  have ZZ := Lib.hid (show (fun wx => wx.cell? ⟨w.heap.size, 0, none⟩ = some (.int .u64 p0) ∧ wx.cell? ⟨w.heap.size, 1, none⟩ = some (.int .u64 p1) ∧ wx.cell? ⟨w.heap.size, 2, none⟩ = some (.int .u64 p2) ∧ wx.cell? ⟨w.heap.size, 3, none⟩ = some (.int .u64 p3) ∧ wx.frozen? ⟨w.heap.size, 0, none⟩ = false ∧ wx.frozen? ⟨w.heap.size, 1, none⟩ = false ∧ wx.frozen? ⟨w.heap.size, 2, none⟩ = false ∧ wx.frozen? ⟨w.heap.size, 3, none⟩ = false ∧ wx.cell? ⟨w.heap.size + 1, 0, none⟩ = some (.int .u64 y0) ∧ wx.cell? ⟨w.heap.size + 1, 1, none⟩ = some (.int .u64 y1) ∧ wx.cell? ⟨w.heap.size + 1, 2, none⟩ = some (.int .u64 y2) ∧ wx.cell? ⟨w.heap.size + 1, 3, none⟩ = some (.int .u64 y3) ∧ wx.frozen? ⟨w.heap.size + 1, 0, none⟩ = false ∧ wx.frozen? ⟨w.heap.size + 1, 1, none⟩ = false ∧ wx.frozen? ⟨w.heap.size + 1, 2, none⟩ = false ∧ wx.frozen? ⟨w.heap.size + 1, 3, none⟩ = false ∧ Below w.heap.size w wx) ((((wq.setCell ⟨w.heap.size, 0, none⟩ (.int .u64 p0)).setCell ⟨w.heap.size, 1, none⟩ (.int .u64 p1)).setCell ⟨w.heap.size, 2, none⟩ (.int .u64 p2)).setCell ⟨w.heap.size, 3, none⟩ (.int .u64 p3)) from ⟨by go_simp, by go_simp, by go_simp, by go_simp, by go_simp, by go_simp, by go_simp, by go_simp, by go_simp, by go_simp, by go_simp, by go_simp, by go_simp, by go_simp, by go_simp, by go_simp, ((((kz.setCell (p := ⟨w.heap.size, 0, none⟩) gX0 _).setCell (p := ⟨w.heap.size, 1, none⟩) gX0 _).setCell (p := ⟨w.heap.size, 2, none⟩) gX0 _).setCell (p := ⟨w.heap.size, 3, none⟩) gX0 _)⟩)
  go_simp
  refine hK.out _ _ (LS.behind bits_tf' ⟨fun _ => ZZ.out, fun h => absurd h (by decide)⟩) ?_
  clear hK hS ZZ kz zX0_0 zX0_1 zX0_2 zX0_3 zfX0_0 zfX0_1 zfX0_2 zfX0_3 zX1_0 zX1_1 zX1_2 zX1_3 zfX1_0 zfX1_1 zfX1_2 zfX1_3 neX1 nfX1 hb
  try simp only [List.getElem_toArray, List.getElem_cons_zero, List.getElem_cons_succ, Act.put, List.setIfInBounds_toArray, List.set_cons_zero, List.set_cons_succ]
  refine wpF_step (i := 5) (bs := [true, false]) (bs' := [true, true]) (vs := []) (by kernel_rfl) rfl (by kernel_rfl) rfl (by kernel_rfl) (fun wq hS K hK => ?_)
  obtain ⟨zX0_0, zX0_1, zX0_2, zX0_3, zfX0_0, zfX0_1, zfX0_2, zfX0_3, zX1_0, zX1_1, zX1_2, zX1_3, zfX1_0, zfX1_1, zfX1_2, zfX1_3, kz⟩ := (hS.2 bits_tf').1 rfl
  have neX0 : ¬ (w.heap.size + 1 = w.heap.size) := by omega
  have nfX0 : ¬ (w.heap.size = w.heap.size + 1) := by omega
  have ZZ := Lib.hid (show (fun wx => wx.cell? ⟨w.heap.size, 0, none⟩ = some (.int .u64 p0) ∧ wx.cell? ⟨w.heap.size, 1, none⟩ = some (.int .u64 p1) ∧ wx.cell? ⟨w.heap.size, 2, none⟩ = some (.int .u64 p2) ∧ wx.cell? ⟨w.heap.size, 3, none⟩ = some (.int .u64 p3) ∧ wx.frozen? ⟨w.heap.size, 0, none⟩ = false ∧ wx.frozen? ⟨w.heap.size, 1, none⟩ = false ∧ wx.frozen? ⟨w.heap.size, 2, none⟩ = false ∧ wx.frozen? ⟨w.heap.size, 3, none⟩ = false ∧ wx.cell? ⟨w.heap.size + 1, 0, none⟩ = some (.int .u64 q0) ∧ wx.cell? ⟨w.heap.size + 1, 1, none⟩ = some (.int .u64 q1) ∧ wx.cell? ⟨w.heap.size + 1, 2, none⟩ = some (.int .u64 q2) ∧ wx.cell? ⟨w.heap.size + 1, 3, none⟩ = some (.int .u64 q3) ∧ wx.frozen? ⟨w.heap.size + 1, 0, none⟩ = false ∧ wx.frozen? ⟨w.heap.size + 1, 1, none⟩ = false ∧ wx.frozen? ⟨w.heap.size + 1, 2, none⟩ = false ∧ wx.frozen? ⟨w.heap.size + 1, 3, none⟩ = false ∧ Below w.heap.size w wx) ((((wq.setCell ⟨w.heap.size + 1, 0, none⟩ (.int .u64 q0)).setCell ⟨w.heap.size + 1, 1, none⟩ (.int .u64 q1)).setCell ⟨w.heap.size + 1, 2, none⟩ (.int .u64 q2)).setCell ⟨w.heap.size + 1, 3, none⟩ (.int .u64 q3)) from ⟨by go_simp, by go_simp, by go_simp, by go_simp, by go_simp, by go_simp, by go_simp, by go_simp, by go_simp, by go_simp, by go_simp, by go_simp, by go_simp, by go_simp, by go_simp, by go_simp, ((((kz.setCell (p := ⟨w.heap.size + 1, 0, none⟩) gX1 _).setCell (p := ⟨w.heap.size + 1, 1, none⟩) gX1 _).setCell (p := ⟨w.heap.size + 1, 2, none⟩) gX1 _).setCell (p := ⟨w.heap.size + 1, 3, none⟩) gX1 _)⟩)
  go_simp
  refine hK.out _ _ (LS.behind bits_tt' ⟨fun h => absurd h (by decide), fun _ => ZZ.out⟩) ?_
  clear hK hS ZZ kz zX0_0 zX0_1 zX0_2 zX0_3 zfX0_0 zfX0_1 zfX0_2 zfX0_3 zX1_0 zX1_1 zX1_2 zX1_3 zfX1_0 zfX1_1 zfX1_2 zfX1_3 neX0 nfX0
  try simp only [List.getElem_toArray, List.getElem_cons_zero, List.getElem_cons_succ, Act.put, List.setIfInBounds_toArray, List.set_cons_zero, List.set_cons_succ]
  refine wpF_done (bs := [true, true]) (vs := []) (by kernel_rfl) (by kernel_rfl) rfl (fun w2 hS => ?_) _
  refine NoPanic.normal ?_
  clear cX0_0 cX0_1 cX0_2 cX0_3 sX0 fX0_0 fX0_1 fX0_2 fX0_3 cX1_0 cX1_1 cX1_2 cX1_3 sX1 fX1_0 fX1_1 fX1_2 fX1_3 kk
  obtain ⟨cX0_0, cX0_1, cX0_2, cX0_3, fX0_0, fX0_1, fX0_2, fX0_3, cX1_0, cX1_1, cX1_2, cX1_3, fX1_0, fX1_1, fX1_2, fX1_3, kk⟩ := (hS.2 bits_tt').2 rfl
  clear hS
  have sX0 : w.heap.size < w2.heap.size := World.block_lt_of_cell? _ _ cX0_0
  have sX1 : w.heap.size + 1 < w2.heap.size ∧ w.heap.size < w2.heap.size := by have h : w.heap.size + 1 < w2.heap.size := World.block_lt_of_cell? _ _ cX1_0; exact ⟨h, by omega⟩
  go_wp2_with fail
  refine wp_region_noPanic ?_
  refine wp_region_F [7, 8] [8, 9] (LS w2 (ANN w2 26 #[.int .i64 0, .int .u64 0, .int .u64 0, .int .u64 0, .int .u64 0]) (ZNN w2 26 #[.int .i64 0, .int .u64 0, .int .u64 0, .int .u64 0, .int .u64 0] (.int .i64 k) (.int .u64 p0) (.int .u64 p1) (.int .u64 p2) (.int .u64 p3) (.int .i64 0) (.int .u64 q0) (.int .u64 q1) (.int .u64 q2) (.int .u64 q3))) (by kernel_rfl) (bs := [false, false]) (vs := [undef, undef]) (by kernel_rfl) rfl (LS.before noBits_ff (Below.refl _ _).drew (ANN.start _ _ _ _)) ?_
  refine wpF_yield (i := 0) (v := ?vq14) rfl (by kernel_rfl) (by kernel_rfl) (fun _ _ _ h => h) (Or.inl ⟨by rfl, ?yq14⟩) ?rq14
  case yq14 => (intro wq; go_simp; try (with_reducible rfl))
  try simp only [List.getElem_toArray, List.getElem_cons_zero, List.getElem_cons_succ, Act.put, List.setIfInBounds_toArray, List.set_cons_zero, List.set_cons_succ]
  refine wpF_takeAny (i := 1) (v := ?vq15) rfl (by kernel_rfl) (by kernel_rfl) (fun _ _ _ h => h) (LS.loadAny ZNN.below (by rfl) ?yq15) ?rq15
  case yq15 => (intro wq hb; have lcX0_0 := cell_later hb cX0_0; have lcX0_1 := cell_later hb cX0_1; have lcX0_2 := cell_later hb cX0_2; have lcX0_3 := cell_later hb cX0_3; go_simp; try (with_reducible rfl))
  try simp only [List.getElem_toArray, List.getElem_cons_zero, List.getElem_cons_succ, Act.put, List.setIfInBounds_toArray, List.set_cons_zero, List.set_cons_succ]
  refine wpF_yield (i := 2) (v := ?vq16) rfl (by kernel_rfl) (by kernel_rfl) (fun _ _ _ h => h) (Or.inl ⟨by rfl, ?yq16⟩) ?rq16
  case yq16 => (intro wq; go_simp; try (with_reducible rfl))
  try simp only [List.getElem_toArray, List.getElem_cons_zero, List.getElem_cons_succ, Act.put, List.setIfInBounds_toArray, List.set_cons_zero, List.set_cons_succ]
  refine wpF_takeAny (i := 3) (v := ?vq17) rfl (by kernel_rfl) (by kernel_rfl) (fun _ _ _ h => h) (LS.loadAny ZNN.below (by rfl) ?yq17) ?rq17
  case yq17 => (intro wq hb; have lcX1_0 := cell_later hb cX1_0; have lcX1_1 := cell_later hb cX1_1; have lcX1_2 := cell_later hb cX1_2; have lcX1_3 := cell_later hb cX1_3; go_simp; try (with_reducible rfl))
  try simp only [List.getElem_toArray, List.getElem_cons_zero, List.getElem_cons_succ, Act.put, List.setIfInBounds_toArray, List.set_cons_zero, List.set_cons_succ]
  refine wpF_yield (i := 4) (v := ?vq18) rfl (by kernel_rfl) (by kernel_rfl) (fun _ _ _ h => h) (Or.inl ⟨by rfl, ?yq18⟩) ?rq18
  case yq18 => (intro wq; go_simp; try (with_reducible rfl))
  try simp only [List.getElem_toArray, List.getElem_cons_zero, List.getElem_cons_succ, Act.put, List.setIfInBounds_toArray, List.set_cons_zero, List.set_cons_succ]
  refine wpF_two (i := 5) (j := 6) (bs := [false, false]) (bi := [false, false]) (bj := [false, false]) (vs := [undef, undef]) (by kernel_rfl) rfl rfl (by kernel_rfl) rfl (by kernel_rfl) (by kernel_rfl) (fun wq hS K hK => ?_) (fun wq hS K hK => ?_)
  obtain ⟨hb, hA⟩ := hS.1 noBits_ff
  go_simp
  refine hK.out _ _ (LS.before noBits_ff (bA hb _) (ANN.first hb rfl)) ?_
  clear hK hA hb hS
  generalize wq.heap.size = pp3 at *
  try simp only [List.getElem_toArray, List.getElem_cons_zero, List.getElem_cons_succ, Act.put, List.setIfInBounds_toArray, List.set_cons_zero, List.set_cons_succ]
  clear K wq
  refine wpF_step (i := 6) (bs := [false, false]) (bs' := [false, false]) (vs := [.pointer (some ⟨pp3, 0, none⟩), undef]) (by kernel_rfl) rfl (by kernel_rfl) rfl (by kernel_rfl) (fun wq hS K hK => ?_)
  obtain ⟨hb, hA⟩ := hS.1 noBits_ff
  go_simp
  refine hK.out _ _ (LS.before noBits_ff (bA hb _) (ANN.second hb hA rfl)) ?_
  clear hK hA hb hS
  generalize wq.heap.size = qq3 at *
  try simp only [List.getElem_toArray, List.getElem_cons_zero, List.getElem_cons_succ, Act.put, List.setIfInBounds_toArray, List.set_cons_zero, List.set_cons_succ]
  clear K wq
  revert pp3 qq3
  refine ?rest
  rotate_left
  obtain ⟨hb, hA⟩ := hS.1 noBits_ff
  go_simp
  refine hK.out _ _ (LS.before noBits_ff (bA hb _) (ANN.first' hb rfl)) ?_
  clear hK hA hb hS
  generalize wq.heap.size = qq3 at *
  try simp only [List.getElem_toArray, List.getElem_cons_zero, List.getElem_cons_succ, Act.put, List.setIfInBounds_toArray, List.set_cons_zero, List.set_cons_succ]
  clear K wq
  refine wpF_step (i := 5) (bs := [false, false]) (bs' := [false, false]) (vs := [undef, .pointer (some ⟨qq3, 0, none⟩)]) (by kernel_rfl) rfl (by kernel_rfl) rfl (by kernel_rfl) (fun wq hS K hK => ?_)
  obtain ⟨hb, hA⟩ := hS.1 noBits_ff
  go_simp
  refine hK.out _ _ (LS.before noBits_ff (bA hb _) (ANN.second' hb hA rfl)) ?_
  clear hK hA hb hS
  generalize wq.heap.size = pp3 at *
  try simp only [List.getElem_toArray, List.getElem_cons_zero, List.getElem_cons_succ, Act.put, List.setIfInBounds_toArray, List.set_cons_zero, List.set_cons_succ]
  clear K wq
  rw [Array.setIfInBounds_comm true true (i := 6) (j := 5) (by decide)]
  exact ?rest pp3 qq3
  intro pp3 qq3
  refine wpF_step (i := 7) (bs := [false, false]) (bs' := [true, false]) (vs := [.pointer (some ⟨pp3, 0, none⟩), .pointer (some ⟨qq3, 0, none⟩)]) (by kernel_rfl) rfl (by kernel_rfl) rfl (by kernel_rfl) (fun wq hS K hK => ?_)
  obtain ⟨hb, hA⟩ := hS.1 noBits_ff
  have ZZ := Lib.hid (ZNN.one hb hA (.int .i64 k) (.int .u64 p0) (.int .u64 p1) (.int .u64 p2) (.int .u64 p3) (.int .i64 0) (.int .u64 q0) (.int .u64 q1) (.int .u64 q2) (.int .u64 q3))
  obtain ⟨⟨hp, x⟩, _, _⟩ := hA.both
  obtain ⟨z0, z1, z2, z3, z4⟩ := x.five
  have f0 := x.frozen 0; have f1 := x.frozen 1; have f2 := x.frozen 2; have f3 := x.frozen 3; have f4 := x.frozen 4
  go_simp
  refine hK.out _ _ (LS.behind bits_tf' ZZ.out) ?_
  clear hK hA hb ZZ hS hp x z0 z1 z2 z3 z4 f0 f1 f2 f3 f4
  try simp only [List.getElem_toArray, List.getElem_cons_zero, List.getElem_cons_succ, Act.put, List.setIfInBounds_toArray, List.set_cons_zero, List.set_cons_succ]
  refine wpF_step (i := 8) (bs := [true, false]) (bs' := [true, true]) (vs := [.pointer (some ⟨pp3, 0, none⟩), .pointer (some ⟨qq3, 0, none⟩)]) (by kernel_rfl) rfl (by kernel_rfl) rfl (by kernel_rfl) (fun wq hS K hK => ?_)
  have hZ := hS.2 bits_tf'
  have ZZ := Lib.hid hZ.two
  have x := hZ.cells
  obtain ⟨z0, z1, z2, z3, z4⟩ := x.five
  have f0 := x.frozen 0; have f1 := x.frozen 1; have f2 := x.frozen 2; have f3 := x.frozen 3; have f4 := x.frozen 4
  go_simp
  refine hK.out _ _ (LS.behind bits_tt' ZZ.out) ?_
  clear hK hZ ZZ hS x z0 z1 z2 z3 z4 f0 f1 f2 f3 f4
  try simp only [List.getElem_toArray, List.getElem_cons_zero, List.getElem_cons_succ, Act.put, List.setIfInBounds_toArray, List.set_cons_zero, List.set_cons_succ]
  refine wpF_done (bs := [true, true]) (vs := [.pointer (some ⟨pp3, 0, none⟩), .pointer (some ⟨qq3, 0, none⟩)]) (by kernel_rfl) (by kernel_rfl) rfl (fun w4 hS => ?_) _
  refine NoPanic.normal ?_
  obtain ⟨hge, hge2, hne, hbox, hbox2, hb⟩ := (hS.2 bits_tt').done
  have nX0_X2 : w.heap.size < pp3 := by omega
  have nX1_X2 : w.heap.size + 1 < pp3 := by omega
  have nX0_X3 : w.heap.size < qq3 := by omega
  have nX1_X3 : w.heap.size + 1 < qq3 := by omega
  obtain ⟨cX2_0, cX2_1, cX2_2, cX2_3, cX2_4⟩ := hbox.five
  obtain ⟨cX3_0, cX3_1, cX3_2, cX3_3, cX3_4⟩ := hbox2.five
  clear hge hge2 hne hbox hbox2
  clear hS
  replace fX0_0 := frozen_later hb cX0_0 fX0_0; replace fX0_1 := frozen_later hb cX0_1 fX0_1; replace fX0_2 := frozen_later hb cX0_2 fX0_2; replace fX0_3 := frozen_later hb cX0_3 fX0_3
  replace cX0_0 := cell_later hb cX0_0; replace cX0_1 := cell_later hb cX0_1; replace cX0_2 := cell_later hb cX0_2; replace cX0_3 := cell_later hb cX0_3
  replace sX0 : w.heap.size < w4.heap.size := World.block_lt_of_cell? _ _ cX0_0
  replace fX1_0 := frozen_later hb cX1_0 fX1_0; replace fX1_1 := frozen_later hb cX1_1 fX1_1; replace fX1_2 := frozen_later hb cX1_2 fX1_2; replace fX1_3 := frozen_later hb cX1_3 fX1_3
  replace cX1_0 := cell_later hb cX1_0; replace cX1_1 := cell_later hb cX1_1; replace cX1_2 := cell_later hb cX1_2; replace cX1_3 := cell_later hb cX1_3
  replace sX1 : w.heap.size + 1 < w4.heap.size ∧ w.heap.size < w4.heap.size := by have h : w.heap.size + 1 < w4.heap.size := World.block_lt_of_cell? _ _ cX1_0; exact ⟨h, by omega⟩
  have sX2 : pp3 < w4.heap.size := World.block_lt_of_cell? _ _ cX2_0
  have sX3 : qq3 < w4.heap.size := World.block_lt_of_cell? _ _ cX3_0
  replace kk := bC kk hb
  clear hb
  go_wp2_with fail
  (with_reducible refine (WP.out _).mono ?_); rintro e w5 ⟨v0, rfl, nv0, hb⟩
  clear cX0_0 cX0_1 cX0_2 cX0_3 sX0
  replace fX1_0 := frozen_later hb cX1_0 fX1_0; replace fX1_1 := frozen_later hb cX1_1 fX1_1; replace fX1_2 := frozen_later hb cX1_2 fX1_2; replace fX1_3 := frozen_later hb cX1_3 fX1_3
  replace cX1_0 := cell_later hb cX1_0; replace cX1_1 := cell_later hb cX1_1; replace cX1_2 := cell_later hb cX1_2; replace cX1_3 := cell_later hb cX1_3
  replace sX1 : w.heap.size + 1 < w5.heap.size ∧ w.heap.size < w5.heap.size := by have h : w.heap.size + 1 < w5.heap.size := World.block_lt_of_cell? _ _ cX1_0; exact ⟨h, by omega⟩
  replace cX2_0 := cell_later hb cX2_0; replace cX2_1 := cell_later hb cX2_1; replace cX2_2 := cell_later hb cX2_2; replace cX2_3 := cell_later hb cX2_3; replace cX2_4 := cell_later hb cX2_4
  replace sX2 : pp3 < w5.heap.size := World.block_lt_of_cell? _ _ cX2_0
  replace cX3_0 := cell_later hb cX3_0; replace cX3_1 := cell_later hb cX3_1; replace cX3_2 := cell_later hb cX3_2; replace cX3_3 := cell_later hb cX3_3; replace cX3_4 := cell_later hb cX3_4
  replace sX3 : qq3 < w5.heap.size := World.block_lt_of_cell? _ _ cX3_0
  replace kk := bC kk hb
  clear hb
  go_wp2_with fail
  (with_reducible refine (SH.out _ _ nv0).mono ?_); rintro e w6 ⟨v1, rfl, nv1, hb⟩
  replace nv0 := nv0.later hb
  replace fX1_0 := frozen_later hb cX1_0 fX1_0; replace fX1_1 := frozen_later hb cX1_1 fX1_1; replace fX1_2 := frozen_later hb cX1_2 fX1_2; replace fX1_3 := frozen_later hb cX1_3 fX1_3
  replace cX1_0 := cell_later hb cX1_0; replace cX1_1 := cell_later hb cX1_1; replace cX1_2 := cell_later hb cX1_2; replace cX1_3 := cell_later hb cX1_3
  replace sX1 : w.heap.size + 1 < w6.heap.size ∧ w.heap.size < w6.heap.size := by have h : w.heap.size + 1 < w6.heap.size := World.block_lt_of_cell? _ _ cX1_0; exact ⟨h, by omega⟩
  replace cX2_0 := cell_later hb cX2_0; replace cX2_1 := cell_later hb cX2_1; replace cX2_2 := cell_later hb cX2_2; replace cX2_3 := cell_later hb cX2_3; replace cX2_4 := cell_later hb cX2_4
  replace sX2 : pp3 < w6.heap.size := World.block_lt_of_cell? _ _ cX2_0
  replace cX3_0 := cell_later hb cX3_0; replace cX3_1 := cell_later hb cX3_1; replace cX3_2 := cell_later hb cX3_2; replace cX3_3 := cell_later hb cX3_3; replace cX3_4 := cell_later hb cX3_4
  replace sX3 : qq3 < w6.heap.size := World.block_lt_of_cell? _ _ cX3_0
  replace kk := bC kk hb
  clear hb
  clear nv0
  go_wp2_with fail
  (with_reducible refine (WQ.out _).mono ?_); rintro e w7 ⟨v2, rfl, nv2, hb⟩
  replace nv1 := nv1.later hb
  replace fX1_0 := frozen_later hb cX1_0 fX1_0; replace fX1_1 := frozen_later hb cX1_1 fX1_1; replace fX1_2 := frozen_later hb cX1_2 fX1_2; replace fX1_3 := frozen_later hb cX1_3 fX1_3
  replace cX1_0 := cell_later hb cX1_0; replace cX1_1 := cell_later hb cX1_1; replace cX1_2 := cell_later hb cX1_2; replace cX1_3 := cell_later hb cX1_3
  replace sX1 : w.heap.size + 1 < w7.heap.size ∧ w.heap.size < w7.heap.size := by have h : w.heap.size + 1 < w7.heap.size := World.block_lt_of_cell? _ _ cX1_0; exact ⟨h, by omega⟩
  replace cX2_0 := cell_later hb cX2_0; replace cX2_1 := cell_later hb cX2_1; replace cX2_2 := cell_later hb cX2_2; replace cX2_3 := cell_later hb cX2_3; replace cX2_4 := cell_later hb cX2_4
  replace sX2 : pp3 < w7.heap.size := World.block_lt_of_cell? _ _ cX2_0
  replace cX3_0 := cell_later hb cX3_0; replace cX3_1 := cell_later hb cX3_1; replace cX3_2 := cell_later hb cX3_2; replace cX3_3 := cell_later hb cX3_3; replace cX3_4 := cell_later hb cX3_4
  replace sX3 : qq3 < w7.heap.size := World.block_lt_of_cell? _ _ cX3_0
  replace kk := bC kk hb
  clear hb
  go_wp2_with fail
  (with_reducible refine (AD.out _ _ _ nv1 nv2).mono ?_); rintro e w8 ⟨v3, rfl, nv3, hb⟩
  replace nv1 := nv1.later hb
  replace nv2 := nv2.later hb
  replace fX1_0 := frozen_later hb cX1_0 fX1_0; replace fX1_1 := frozen_later hb cX1_1 fX1_1; replace fX1_2 := frozen_later hb cX1_2 fX1_2; replace fX1_3 := frozen_later hb cX1_3 fX1_3
  replace cX1_0 := cell_later hb cX1_0; replace cX1_1 := cell_later hb cX1_1; replace cX1_2 := cell_later hb cX1_2; replace cX1_3 := cell_later hb cX1_3
  replace sX1 : w.heap.size + 1 < w8.heap.size ∧ w.heap.size < w8.heap.size := by have h : w.heap.size + 1 < w8.heap.size := World.block_lt_of_cell? _ _ cX1_0; exact ⟨h, by omega⟩
  replace cX2_0 := cell_later hb cX2_0; replace cX2_1 := cell_later hb cX2_1; replace cX2_2 := cell_later hb cX2_2; replace cX2_3 := cell_later hb cX2_3; replace cX2_4 := cell_later hb cX2_4
  replace sX2 : pp3 < w8.heap.size := World.block_lt_of_cell? _ _ cX2_0
  replace cX3_0 := cell_later hb cX3_0; replace cX3_1 := cell_later hb cX3_1; replace cX3_2 := cell_later hb cX3_2; replace cX3_3 := cell_later hb cX3_3; replace cX3_4 := cell_later hb cX3_4
  replace sX3 : qq3 < w8.heap.size := World.block_lt_of_cell? _ _ cX3_0
  replace kk := bC kk hb
  clear hb
  clear nv2
  go_wp2_with fail
  (with_reducible refine (h6.out _).mono ?_); rintro e w9 ⟨rfl, hb⟩
  replace nv1 := nv1.later hb
  replace nv3 := nv3.later hb
  replace fX1_0 := frozen_later hb cX1_0 fX1_0; replace fX1_1 := frozen_later hb cX1_1 fX1_1; replace fX1_2 := frozen_later hb cX1_2 fX1_2; replace fX1_3 := frozen_later hb cX1_3 fX1_3
  replace cX1_0 := cell_later hb cX1_0; replace cX1_1 := cell_later hb cX1_1; replace cX1_2 := cell_later hb cX1_2; replace cX1_3 := cell_later hb cX1_3
  replace sX1 : w.heap.size + 1 < w9.heap.size ∧ w.heap.size < w9.heap.size := by have h : w.heap.size + 1 < w9.heap.size := World.block_lt_of_cell? _ _ cX1_0; exact ⟨h, by omega⟩
  replace cX2_0 := cell_later hb cX2_0; replace cX2_1 := cell_later hb cX2_1; replace cX2_2 := cell_later hb cX2_2; replace cX2_3 := cell_later hb cX2_3; replace cX2_4 := cell_later hb cX2_4
  replace sX2 : pp3 < w9.heap.size := World.block_lt_of_cell? _ _ cX2_0
  replace cX3_0 := cell_later hb cX3_0; replace cX3_1 := cell_later hb cX3_1; replace cX3_2 := cell_later hb cX3_2; replace cX3_3 := cell_later hb cX3_3; replace cX3_4 := cell_later hb cX3_4
  replace sX3 : qq3 < w9.heap.size := World.block_lt_of_cell? _ _ cX3_0
  replace kk := bC kk hb
  clear hb
  go_wp2_with fail
  replace nv1 := nv1.later (bA (Below.refl _ _) (.cells #[.int .i64 k1, .int .u64 s0, .int .u64 s1, .int .u64 s2, .int .u64 s3] 26))
  replace nv3 := nv3.later (bA (Below.refl _ _) (.cells #[.int .i64 k1, .int .u64 s0, .int .u64 s1, .int .u64 s2, .int .u64 s3] 26))
  (with_reducible refine (WS.out _).mono ?_); rintro e w10 ⟨v4, rfl, nv4, hb⟩
  have hz := bC (bA (Below.refl _ _) _) hb
  replace nv1 := nv1.later hb
  replace nv3 := nv3.later hb
  replace fX1_0 := frozen_later hz cX1_0 fX1_0; replace fX1_1 := frozen_later hz cX1_1 fX1_1; replace fX1_2 := frozen_later hz cX1_2 fX1_2; replace fX1_3 := frozen_later hz cX1_3 fX1_3
  replace cX1_0 := cell_later hz cX1_0; replace cX1_1 := cell_later hz cX1_1; replace cX1_2 := cell_later hz cX1_2; replace cX1_3 := cell_later hz cX1_3
  replace sX1 : w.heap.size + 1 < w10.heap.size ∧ w.heap.size < w10.heap.size := by have h : w.heap.size + 1 < w10.heap.size := World.block_lt_of_cell? _ _ cX1_0; exact ⟨h, by omega⟩
  replace cX2_0 := cell_later hz cX2_0; replace cX2_1 := cell_later hz cX2_1; replace cX2_2 := cell_later hz cX2_2; replace cX2_3 := cell_later hz cX2_3; replace cX2_4 := cell_later hz cX2_4
  replace sX2 : pp3 < w10.heap.size := World.block_lt_of_cell? _ _ cX2_0
  replace cX3_0 := cell_later hz cX3_0; replace cX3_1 := cell_later hz cX3_1; replace cX3_2 := cell_later hz cX3_2; replace cX3_3 := cell_later hz cX3_3; replace cX3_4 := cell_later hz cX3_4
  replace sX3 : qq3 < w10.heap.size := World.block_lt_of_cell? _ _ cX3_0
  replace kk := bC kk hz
  clear hb hz
  go_wp2_with fail
  (with_reducible refine (JS.out _ _ nv3).mono ?_); rintro e w11 ⟨v6, rfl, nv6, hb⟩
  replace nv1 := nv1.later hb
  replace nv3 := nv3.later hb
  replace nv4 := nv4.later hb
  replace fX1_0 := frozen_later hb cX1_0 fX1_0; replace fX1_1 := frozen_later hb cX1_1 fX1_1; replace fX1_2 := frozen_later hb cX1_2 fX1_2; replace fX1_3 := frozen_later hb cX1_3 fX1_3
  replace cX1_0 := cell_later hb cX1_0; replace cX1_1 := cell_later hb cX1_1; replace cX1_2 := cell_later hb cX1_2; replace cX1_3 := cell_later hb cX1_3
  replace sX1 : w.heap.size + 1 < w11.heap.size ∧ w.heap.size < w11.heap.size := by have h : w.heap.size + 1 < w11.heap.size := World.block_lt_of_cell? _ _ cX1_0; exact ⟨h, by omega⟩
  replace cX2_0 := cell_later hb cX2_0; replace cX2_1 := cell_later hb cX2_1; replace cX2_2 := cell_later hb cX2_2; replace cX2_3 := cell_later hb cX2_3; replace cX2_4 := cell_later hb cX2_4
  replace sX2 : pp3 < w11.heap.size := World.block_lt_of_cell? _ _ cX2_0
  replace cX3_0 := cell_later hb cX3_0; replace cX3_1 := cell_later hb cX3_1; replace cX3_2 := cell_later hb cX3_2; replace cX3_3 := cell_later hb cX3_3; replace cX3_4 := cell_later hb cX3_4
  replace sX3 : qq3 < w11.heap.size := World.block_lt_of_cell? _ _ cX3_0
  replace kk := bC kk hb
  clear hb
  clear nv3
  go_wp2_with fail
  (with_reducible refine (C1.out _ _ _ nv4 nv6).mono ?_); rintro e w12 ⟨rfl, hb⟩
  replace nv1 := nv1.later hb
  replace nv4 := nv4.later hb
  replace nv6 := nv6.later hb
  replace fX1_0 := frozen_later hb cX1_0 fX1_0; replace fX1_1 := frozen_later hb cX1_1 fX1_1; replace fX1_2 := frozen_later hb cX1_2 fX1_2; replace fX1_3 := frozen_later hb cX1_3 fX1_3
  replace cX1_0 := cell_later hb cX1_0; replace cX1_1 := cell_later hb cX1_1; replace cX1_2 := cell_later hb cX1_2; replace cX1_3 := cell_later hb cX1_3
  replace sX1 : w.heap.size + 1 < w12.heap.size ∧ w.heap.size < w12.heap.size := by have h : w.heap.size + 1 < w12.heap.size := World.block_lt_of_cell? _ _ cX1_0; exact ⟨h, by omega⟩
  replace cX2_0 := cell_later hb cX2_0; replace cX2_1 := cell_later hb cX2_1; replace cX2_2 := cell_later hb cX2_2; replace cX2_3 := cell_later hb cX2_3; replace cX2_4 := cell_later hb cX2_4
  replace sX2 : pp3 < w12.heap.size := World.block_lt_of_cell? _ _ cX2_0
  replace cX3_0 := cell_later hb cX3_0; replace cX3_1 := cell_later hb cX3_1; replace cX3_2 := cell_later hb cX3_2; replace cX3_3 := cell_later hb cX3_3; replace cX3_4 := cell_later hb cX3_4
  replace sX3 : qq3 < w12.heap.size := World.block_lt_of_cell? _ _ cX3_0
  replace kk := bC kk hb
  clear hb
  clear nv4
  clear nv6
  go_wp2_with fail
  (with_reducible refine (h10.out _).mono ?_); rintro e w13 ⟨rfl, hb⟩
  replace nv1 := nv1.later hb
  replace fX1_0 := frozen_later hb cX1_0 fX1_0; replace fX1_1 := frozen_later hb cX1_1 fX1_1; replace fX1_2 := frozen_later hb cX1_2 fX1_2; replace fX1_3 := frozen_later hb cX1_3 fX1_3
  replace cX1_0 := cell_later hb cX1_0; replace cX1_1 := cell_later hb cX1_1; replace cX1_2 := cell_later hb cX1_2; replace cX1_3 := cell_later hb cX1_3
  replace sX1 : w.heap.size + 1 < w13.heap.size ∧ w.heap.size < w13.heap.size := by have h : w.heap.size + 1 < w13.heap.size := World.block_lt_of_cell? _ _ cX1_0; exact ⟨h, by omega⟩
  clear cX2_0 cX2_1 cX2_2 cX2_3 cX2_4 sX2
  clear cX3_0 cX3_1 cX3_2 cX3_3 cX3_4 sX3
  replace kk := bC kk hb
  clear hb
  go_wp2_with fail
  replace nv1 := nv1.later (bA (Below.refl _ _) (.cells #[.int .i64 k, .int .u64 d0, .int .u64 d1, .int .u64 d2, .int .u64 d3] 26))
  (with_reducible refine (WQ.out _).mono ?_); rintro e w14 ⟨v5, rfl, nv5, hb⟩
  have hz := bC (bA (Below.refl _ _) _) hb
  replace nv1 := nv1.later hb
  clear cX1_0 cX1_1 cX1_2 cX1_3 sX1
  have cX5_0 := cell_later hb (a := ⟨w13.heap.size, 0, none⟩) (v := .int .i64 k) (by go_simp)
  have cX5_1 := cell_later hb (a := ⟨w13.heap.size, 1, none⟩) (v := .int .u64 d0) (by go_simp)
  have cX5_2 := cell_later hb (a := ⟨w13.heap.size, 2, none⟩) (v := .int .u64 d1) (by go_simp)
  have cX5_3 := cell_later hb (a := ⟨w13.heap.size, 3, none⟩) (v := .int .u64 d2) (by go_simp)
  have cX5_4 := cell_later hb (a := ⟨w13.heap.size, 4, none⟩) (v := .int .u64 d3) (by go_simp)
  have sX5 : w13.heap.size < w14.heap.size := World.block_lt_of_cell? _ _ cX5_0
  replace kk := bC kk hz
  clear hb hz
  go_wp2_with fail
  (with_reducible refine (C2.out _ _ _ nv1 nv5).mono ?_); rintro e w15 ⟨rfl, hb⟩
  replace nv1 := nv1.later hb
  replace nv5 := nv5.later hb
  replace cX5_0 := cell_later hb cX5_0; replace cX5_1 := cell_later hb cX5_1; replace cX5_2 := cell_later hb cX5_2; replace cX5_3 := cell_later hb cX5_3; replace cX5_4 := cell_later hb cX5_4
  replace sX5 : w13.heap.size < w15.heap.size := World.block_lt_of_cell? _ _ cX5_0
  replace kk := bC kk hb
  clear hb
  go_wp2_with fail
  (with_reducible refine (WD.out _).mono ?_); rintro e w16 ⟨v7, rfl, nv7, hb⟩
  replace nv1 := nv1.later hb
  replace nv5 := nv5.later hb
  clear cX5_0 cX5_1 cX5_2 cX5_3 cX5_4 sX5
  replace kk := bC kk hb
  clear hb
  go_wp2_with fail
  (with_reducible refine (SB.out _ _ _ nv1 nv5).mono ?_); rintro e w17 ⟨v8, rfl, nv8, hb⟩
  replace nv1 := nv1.later hb
  replace nv5 := nv5.later hb
  replace nv7 := nv7.later hb
  replace kk := bC kk hb
  clear hb
  clear nv1
  clear nv5
  go_wp2_with fail
  (with_reducible refine (JD.out _ _ nv8).mono ?_); rintro e w18 ⟨v9, rfl, nv9, hb⟩
  replace nv7 := nv7.later hb
  replace nv8 := nv8.later hb
  replace kk := bC kk hb
  clear hb
  clear nv8
  go_wp2_with fail
  (with_reducible refine (C3.out _ _ _ nv7 nv9).mono ?_); rintro e w19 ⟨rfl, hb⟩
  replace nv7 := nv7.later hb
  replace nv9 := nv9.later hb
  replace kk := bC kk hb
  clear hb
  clear nv7
  clear nv9
  go_wp2_with fail
  (with_reducible refine (h17.out _).mono ?_); rintro e w20 ⟨rfl, hb⟩
  replace kk := bC kk hb
  clear hb
  go_wp2_with fail
  go_ret
  exact ⟨rfl, kk⟩



end Go.Proofs.Ytamigjdankkmjaa
