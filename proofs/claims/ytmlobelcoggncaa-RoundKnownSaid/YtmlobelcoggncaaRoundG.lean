/-
  Package round: a closure reads one bit of the number.
-/
import Derived.Test.YtmlobelcoggncaaRound15M
import Derived.Test.YtmlobelcoggncaaGmA
import Derived.Test.YtmlobelcoggncaaGsB
import Derived.Test.YtmlobelcoggncaaGaB
import Derived.Test.YtmlobelcoggncaaGaA
set_option linter.unusedVariables false
set_option linter.unusedSimpArgs false
set_option maxRecDepth 100000
namespace Go.Proofs.Ytmlobelcoggncaa
open Go.RowKit
attribute [local go_sem ↓] Go.wp_at_zero Go.wp_at_succ

set_option maxHeartbeats 4000000 in
set_option maxRecDepth 100000 in
theorem round_within_lo (k : Int)
     (g1 : decide (0 ≤ k) = false) (w : World) :
    Calls Try.prog 26 #[.int .i64 k] w fun e w' => e = .returned (.bool false) ∧ Below w.heap.size w w' := by
  go_enter Try.func26, Try.ntmps26
  go_wp2_with fail
  go_ret
  exact ⟨rfl, (Below.refl _ _)⟩

set_option maxHeartbeats 4000000 in
set_option maxRecDepth 100000 in
theorem round_within_hi (k : Int) (p : Bool)
     (g1 : decide (0 ≤ k) = true) (g2 : decide (k ≤ 127) = p) (w : World) :
    Calls Try.prog 26 #[.int .i64 k] w fun e w' => e = .returned (.bool p) ∧ Below w.heap.size w w' := by
  go_enter Try.func26, Try.ntmps26
  go_wp2_with fail
  go_ret
  exact ⟨rfl, (Below.refl _ _)⟩

theorem round_reader (x0 x1 x2 x3 : Int) (w : World) : Calls Try.prog 28 #[.agg #[.int .u64 x0, .int .u64 x1, .int .u64 x2, .int .u64 x3]] w fun e w' => ∃ bk, e = .returned (.func (.func 51) #[] #[.pointer (some ⟨bk, 0, none⟩)]) ∧ HB w' bk 24 #[.int .u64 x0, .int .u64 x1, .int .u64 x2, .int .u64 x3] ∧ Below w.heap.size w w' := by
  go_enter Try.func28, Try.ntmps28
  have hmf : ∀ (fn : Fn) (first cap : Array Value) (w : World), (Instr.makeFunc fn first cap).run Try.prog w = .ok (.func fn first cap) w := fun _ _ _ _ => rfl
  go_wp2_with fail
  go_ret
  exact ⟨_, rfl, HB.new _ _ _, bA (Below.refl _ _) _⟩

set_option maxHeartbeats 4000000 in
set_option maxRecDepth 100000 in
theorem round_bit_core (bk : Nat) (i x0 x1 x2 x3 y0 y1 y2 y3 zh zl : Int) (b : Bool)
    (h0 : Hid (∀ w, Calls Try.prog 16 #[.agg #[.int .u64 x0, .int .u64 x1, .int .u64 x2, .int .u64 x3], .int .i64 i] w fun e w' => e = .returned (.agg #[.int .u64 y0, .int .u64 y1, .int .u64 y2, .int .u64 y3]) ∧ Below w.heap.size w w'))
    (h1 : Hid (∀ w, Calls Try.prog 15 #[.agg #[.int .u64 y0, .int .u64 y1, .int .u64 y2, .int .u64 y3]] w fun e w' => e = .returned (.agg #[.int .u64 zh, .int .u64 zl]) ∧ Below w.heap.size w w'))
    (h2 : Hid (∀ w, Calls Try.prog 52 #[.agg #[.int .u64 zh, .int .u64 zl], .int .i64 0] w fun e w' => e = .returned (.bool b) ∧ Below w.heap.size w w')) (w : World) (cX0_0 : w.cell? ⟨bk, 0, none⟩ = some (.int .u64 x0)) (cX0_1 : w.cell? ⟨bk, 1, none⟩ = some (.int .u64 x1)) (cX0_2 : w.cell? ⟨bk, 2, none⟩ = some (.int .u64 x2)) (cX0_3 : w.cell? ⟨bk, 3, none⟩ = some (.int .u64 x3)) :
    Calls Try.prog 51 #[.int .i64 i, .pointer (some ⟨bk, 0, none⟩)] w fun e w' => e = .returned (.bool b) ∧ Below w.heap.size w w' := by
  go_enter Try.func51, Try.ntmps51
  have sX0 : bk < w.heap.size := World.block_lt_of_cell? _ _ cX0_0
  go_wp2_with fail
  (with_reducible refine (h0.out _).mono ?_); rintro e w1 ⟨rfl, hb⟩
  clear cX0_0 cX0_1 cX0_2 cX0_3 sX0
  have kk := hb
  clear hb
  go_wp2_with fail
  (with_reducible refine (h1.out _).mono ?_); rintro e w2 ⟨rfl, hb⟩
  replace kk := bC kk hb
  clear hb
  go_wp2_with fail
  (with_reducible refine (h2.out _).mono ?_); rintro e w3 ⟨rfl, hb⟩
  replace kk := bC kk hb
  clear hb
  go_wp2_with fail
  go_ret
  exact ⟨rfl, kk⟩

set_option maxHeartbeats 4000000 in
set_option maxRecDepth 100000 in
theorem round_rest_no (k x0 x1 x2 x3 : Int)
    (h0 : Hid (∀ w, Calls Try.prog 26 #[.int .i64 k] w fun e w' => e = .returned (.bool false) ∧ Below w.heap.size w w')) (w : World) :
    Calls Try.prog 10 #[.agg #[.int .u64 x0, .int .u64 x1, .int .u64 x2, .int .u64 x3], .int .i64 k] w fun e w' => e = .returned (.int .u8 0) ∧ Below w.heap.size w w' := by
  go_enter Try.func10, Try.ntmps10
  go_wp2_with fail
  (with_reducible refine (h0.out _).mono ?_); rintro e w1 ⟨rfl, hb⟩
  have hz := bC (bA (Below.refl _ _) _) hb
  have kk := hz
  clear hb hz
  go_wp2_with fail
  go_ret
  exact ⟨rfl, kk⟩

set_option maxHeartbeats 4000000 in
set_option maxRecDepth 100000 in
theorem round_rest_yes (k h1 h c x0 x1 x2 x3 : Int) (b l : Bool)
    (h0 : Hid (∀ w, Calls Try.prog 26 #[.int .i64 k] w fun e w' => e = .returned (.bool true) ∧ Below w.heap.size w w'))
    (h3 : Hid (∀ w, Calls Try.prog 18 #[.agg #[.int .u64 x0, .int .u64 x1, .int .u64 x2, .int .u64 x3], .int .i64 h] w fun e w' => e = .returned (.bool l) ∧ Below w.heap.size w w'))
    (h4 : Hid (∀ w, Calls Try.prog 30 #[.bool b, .bool l] w fun e w' => e = .returned (.int .u8 c) ∧ Below w.heap.size w w')) (RD : Hid (∀ w, Calls Try.prog 28 #[.agg #[.int .u64 x0, .int .u64 x1, .int .u64 x2, .int .u64 x3]] w fun e w' => ∃ bk, e = .returned (.func (.func 51) #[] #[.pointer (some ⟨bk, 0, none⟩)]) ∧ HB w' bk 24 #[.int .u64 x0, .int .u64 x1, .int .u64 x2, .int .u64 x3] ∧ Below w.heap.size w w')) (BT : Hid (∀ bk w, HB w bk 24 #[.int .u64 x0, .int .u64 x1, .int .u64 x2, .int .u64 x3] → Calls Try.prog 51 #[.int .i64 h, .pointer (some ⟨bk, 0, none⟩)] w fun e w' => e = .returned (.bool b) ∧ Below w.heap.size w w')) (w1 : IntKind.i64.wrap (256 - k) = h1) (w1x : wrap64 (256 - k) = h1) (w2 : IntKind.i64.wrap (h1 - 1) = h) (w2x : wrap64 (h1 - 1) = h) (w : World) :
    Calls Try.prog 10 #[.agg #[.int .u64 x0, .int .u64 x1, .int .u64 x2, .int .u64 x3], .int .i64 k] w fun e w' => e = .returned (.int .u8 c) ∧ Below w.heap.size w w' := by
  go_enter Try.func10, Try.ntmps10
  go_wp2_with fail
  (with_reducible refine (h0.out _).mono ?_); rintro e w1 ⟨rfl, hb⟩
  have hz := bC (bA (Below.refl _ _) _) hb
  have cX0_0 := cell_later hb (a := ⟨w.heap.size, 0, none⟩) (v := .int .u64 x0) (by go_simp)
  have cX0_1 := cell_later hb (a := ⟨w.heap.size, 1, none⟩) (v := .int .u64 x1) (by go_simp)
  have cX0_2 := cell_later hb (a := ⟨w.heap.size, 2, none⟩) (v := .int .u64 x2) (by go_simp)
  have cX0_3 := cell_later hb (a := ⟨w.heap.size, 3, none⟩) (v := .int .u64 x3) (by go_simp)
  have sX0 : w.heap.size < w1.heap.size := World.block_lt_of_cell? _ _ cX0_0
  have kk := hz
  clear hb hz
  go_wp2_with fail
  (with_reducible refine (RD.out _).mono ?_); rintro e w2 ⟨bk, rfl, nbk, hb⟩
  replace cX0_0 := cell_later hb cX0_0; replace cX0_1 := cell_later hb cX0_1; replace cX0_2 := cell_later hb cX0_2; replace cX0_3 := cell_later hb cX0_3
  replace sX0 : w.heap.size < w2.heap.size := World.block_lt_of_cell? _ _ cX0_0
  replace kk := bC kk hb
  clear hb
  go_wp2_with fail
  refine wp_region_noPanic ?_
  refine wp_region_held_drew (S := fun w' => w'.cell? ⟨w.heap.size, 0, none⟩ = some (.int .u64 x0) ∧ w'.cell? ⟨w.heap.size, 1, none⟩ = some (.int .u64 x1) ∧ w'.cell? ⟨w.heap.size, 2, none⟩ = some (.int .u64 x2) ∧ w'.cell? ⟨w.heap.size, 3, none⟩ = some (.int .u64 x3) ∧ True) (by kernel_rfl) ⟨cell_later (Below.refl _ _).drew cX0_0, cell_later (Below.refl _ _).drew cX0_1, cell_later (Below.refl _ _).drew cX0_2, cell_later (Below.refl _ _).drew cX0_3, trivial⟩ (fun hHeld => ?_)
  replace nbk := nbk.later (Below.refl _ _).drew
  replace cX0_0 := cell_later (Below.refl _ _).drew cX0_0; replace cX0_1 := cell_later (Below.refl _ _).drew cX0_1; replace cX0_2 := cell_later (Below.refl _ _).drew cX0_2; replace cX0_3 := cell_later (Below.refl _ _).drew cX0_3
  replace kk := bC kk (Below.refl _ _).drew
  refine wpAnyH_take (i := 0) (v := ?vq1) rfl (by kernel_rfl) (by kernel_rfl) (by kernel_rfl) (fun _ _ _ h => h) (Or.inl ⟨by rfl, ?yq1⟩) hHeld ?rq1
  case yq1 => (intro wq hb; obtain ⟨lq0, lq1, lq2, lq3, _⟩ := hb; go_simp; try (with_reducible rfl))
  try simp only [List.getElem_toArray, List.getElem_cons_zero, List.getElem_cons_succ, Act.put, List.setIfInBounds_toArray, List.set_cons_zero, List.set_cons_succ]
  refine wpAnyH_take (i := 1) (v := ?vq2) rfl (by kernel_rfl) (by kernel_rfl) (by kernel_rfl) (fun _ _ _ h => h) (Or.inl ⟨by rfl, ?yq2⟩) hHeld ?rq2
  case yq2 => (intro wq hb; obtain ⟨lq0, lq1, lq2, lq3, _⟩ := hb; go_simp; try (with_reducible rfl))
  try simp only [List.getElem_toArray, List.getElem_cons_zero, List.getElem_cons_succ, Act.put, List.setIfInBounds_toArray, List.set_cons_zero, List.set_cons_succ]
  refine wpAnyH_take (i := 3) (v := ?vq3) rfl (by kernel_rfl) (by kernel_rfl) (by kernel_rfl) (fun _ _ _ h => h) (Or.inl ⟨by rfl, ?yq3⟩) hHeld ?rq3
  case yq3 => (intro wq hb; obtain ⟨lq0, lq1, lq2, lq3, _⟩ := hb; go_simp; try (with_reducible rfl))
  try simp only [List.getElem_toArray, List.getElem_cons_zero, List.getElem_cons_succ, Act.put, List.setIfInBounds_toArray, List.set_cons_zero, List.set_cons_succ]
  refine wpAnyH_take (i := 4) (v := ?vq4) rfl (by kernel_rfl) (by kernel_rfl) (by kernel_rfl) (fun _ _ _ h => h) (Or.inl ⟨by rfl, ?yq4⟩) hHeld ?rq4
  case yq4 => (intro wq hb; obtain ⟨lq0, lq1, lq2, lq3, _⟩ := hb; go_simp; try (with_reducible rfl))
  try simp only [List.getElem_toArray, List.getElem_cons_zero, List.getElem_cons_succ, Act.put, List.setIfInBounds_toArray, List.set_cons_zero, List.set_cons_succ]
  clear hHeld
  refine wpAnyH_ready (rs := [2]) (by kernel_rfl) (by simp) ?_
  refine AllReadyH.cons rfl (fun K hK => ?_) AllReadyH.nil
  go_simp
  (with_reducible refine (BT.out _ _ nbk).mono ?_); rintro e w4 ⟨rfl, hb⟩
  replace nbk := nbk.later hb
  replace cX0_0 := cell_later hb cX0_0; replace cX0_1 := cell_later hb cX0_1; replace cX0_2 := cell_later hb cX0_2; replace cX0_3 := cell_later hb cX0_3
  replace kk := bC kk hb
  clear hb
  refine hK.out _ _ ⟨cX0_0, cX0_1, cX0_2, cX0_3, trivial⟩ (fun hHeld => ?_)
  clear hK K
  try simp only [List.getElem_toArray, List.getElem_cons_zero, List.getElem_cons_succ, Act.put, List.setIfInBounds_toArray, List.set_cons_zero, List.set_cons_succ]
  clear hHeld
  refine wpAnyH_ready (rs := [5]) (by kernel_rfl) (by simp) ?_
  refine AllReadyH.cons rfl (fun K hK => ?_) AllReadyH.nil
  go_simp
  (with_reducible refine (h3.out _).mono ?_); rintro e w5 ⟨rfl, hb⟩
  replace nbk := nbk.later hb
  replace cX0_0 := cell_later hb cX0_0; replace cX0_1 := cell_later hb cX0_1; replace cX0_2 := cell_later hb cX0_2; replace cX0_3 := cell_later hb cX0_3
  replace kk := bC kk hb
  clear hb
  refine hK.out _ _ ⟨cX0_0, cX0_1, cX0_2, cX0_3, trivial⟩ (fun hHeld => ?_)
  clear hK K
  try simp only [List.getElem_toArray, List.getElem_cons_zero, List.getElem_cons_succ, Act.put, List.setIfInBounds_toArray, List.set_cons_zero, List.set_cons_succ]
  clear hHeld
  refine wpAnyH_ready (rs := [6]) (by kernel_rfl) (by simp) ?_
  refine AllReadyH.cons rfl (fun K hK => ?_) AllReadyH.nil
  go_simp
  (with_reducible refine (h4.out _).mono ?_); rintro e w6 ⟨rfl, hb⟩
  replace nbk := nbk.later hb
  replace cX0_0 := cell_later hb cX0_0; replace cX0_1 := cell_later hb cX0_1; replace cX0_2 := cell_later hb cX0_2; replace cX0_3 := cell_later hb cX0_3
  replace kk := bC kk hb
  clear hb
  refine hK.out _ _ ⟨cX0_0, cX0_1, cX0_2, cX0_3, trivial⟩ (fun hHeld => ?_)
  clear hK K
  try simp only [List.getElem_toArray, List.getElem_cons_zero, List.getElem_cons_succ, Act.put, List.setIfInBounds_toArray, List.set_cons_zero, List.set_cons_succ]
  refine wpAnyH_take (i := 7) (v := ?vq5) rfl (by kernel_rfl) (by kernel_rfl) (by kernel_rfl) (fun _ _ _ h => h) (Or.inl ⟨by rfl, ?yq5⟩) hHeld ?rq5
  case yq5 => (intro wq hb; obtain ⟨lq0, lq1, lq2, lq3, _⟩ := hb; go_simp; try (with_reducible rfl))
  try simp only [List.getElem_toArray, List.getElem_cons_zero, List.getElem_cons_succ, Act.put, List.setIfInBounds_toArray, List.set_cons_zero, List.set_cons_succ]
  clear hHeld
  refine wpAnyH_done (by kernel_rfl) ?_ _
  refine NoPanic.normal ?_
  clear cX0_0 cX0_1 cX0_2 cX0_3 sX0
  go_wp2_with fail
  go_ret
  exact ⟨rfl, kk⟩

set_option maxHeartbeats 4000000 in
set_option maxRecDepth 100000 in
theorem round_cut_no1 (k m x0 x1 x2 x3 : Int) (ng : Bool)
    (h0 : Hid (∀ w, Calls Try.prog 26 #[.int .i64 k] w fun e w' => e = .returned (.bool false) ∧ Below w.heap.size w w')) (w : World) :
    Calls Try.prog 9 #[.agg #[.int .u64 x0, .int .u64 x1, .int .u64 x2, .int .u64 x3], .int .i64 k, .int .u8 m, .bool ng] w fun e w' => e = .returned (.tuple #[.agg #[.int .u64 0, .int .u64 0], .bool false]) ∧ Below w.heap.size w w' := by
  go_enter Try.func9, Try.ntmps9
  go_wp2_with fail
  (with_reducible refine (h0.out _).mono ?_); rintro e w1 ⟨rfl, hb⟩
  have hz := bC (bA (bA (Below.refl _ _) _) _) hb
  have gX1 : w.heap.size ≤ w.heap.size + 1 := by omega
  have cX1_0 := cell_later hb (a := ⟨w.heap.size + 1, 0, none⟩) (v := .int .u64 0) (by go_simp)
  have cX1_1 := cell_later hb (a := ⟨w.heap.size + 1, 1, none⟩) (v := .int .u64 0) (by go_simp)
  have sX1 : w.heap.size + 1 < w1.heap.size ∧ w.heap.size < w1.heap.size := by have h : w.heap.size + 1 < w1.heap.size := World.block_lt_of_cell? _ _ cX1_0; exact ⟨h, by omega⟩
  have fX1_0 := frozen_later hb (a := ⟨w.heap.size + 1, 0, none⟩) (v := .int .u64 0) (by go_simp) (by go_simp)
  have fX1_1 := frozen_later hb (a := ⟨w.heap.size + 1, 1, none⟩) (v := .int .u64 0) (by go_simp) (by go_simp)
  have kk := hz
  clear hb hz
  have NW := BoxF.set (⟨Box.of cX1_0 cX1_1, fX1_0, fX1_1⟩ : BoxF w1 (w.heap.size + 1) _ _) 0 0
  have KEY : Hid (((w1.setCell ⟨w.heap.size + 1, 0, none⟩ (.int .u64 0)).setCell ⟨w.heap.size + 1, 1, none⟩ (.int .u64 0)).cell? ⟨w.heap.size + 1, 0, none⟩ = some (.int .u64 0) ∧ ((w1.setCell ⟨w.heap.size + 1, 0, none⟩ (.int .u64 0)).setCell ⟨w.heap.size + 1, 1, none⟩ (.int .u64 0)).cell? ⟨w.heap.size + 1, 1, none⟩ = some (.int .u64 0) ∧ Below w.heap.size w ((w1.setCell ⟨w.heap.size + 1, 0, none⟩ (.int .u64 0)).setCell ⟨w.heap.size + 1, 1, none⟩ (.int .u64 0))) := Lib.hid ⟨NW.1.2.1, NW.1.2.2, (bS kk gX1 _ _)⟩
  clear NW
  go_wp2_with fail
  obtain ⟨e0, e1, kb⟩ := KEY.out
  clear KEY
  refine bodyPost_ret (v := .tuple #[.agg #[.int .u64 0, .int .u64 0], .bool false]) ?_ rfl ⟨rfl, kb⟩
  simp [results, Try.results9, go_sem, e0, e1]

set_option maxHeartbeats 4000000 in
set_option maxRecDepth 100000 in
theorem round_cut_no2 (k m x0 x1 x2 x3 : Int) (ng : Bool)
    (h0 : Hid (∀ w, Calls Try.prog 26 #[.int .i64 k] w fun e w' => e = .returned (.bool true) ∧ Below w.heap.size w w'))
    (h1 : Hid (∀ w, Calls Try.prog 27 #[.int .u8 m] w fun e w' => e = .returned (.bool false) ∧ Below w.heap.size w w')) (w : World) :
    Calls Try.prog 9 #[.agg #[.int .u64 x0, .int .u64 x1, .int .u64 x2, .int .u64 x3], .int .i64 k, .int .u8 m, .bool ng] w fun e w' => e = .returned (.tuple #[.agg #[.int .u64 0, .int .u64 0], .bool false]) ∧ Below w.heap.size w w' := by
  go_enter Try.func9, Try.ntmps9
  go_wp2_with fail
  (with_reducible refine (h0.out _).mono ?_); rintro e w1 ⟨rfl, hb⟩
  have hz := bC (bA (bA (Below.refl _ _) _) _) hb
  have gX1 : w.heap.size ≤ w.heap.size + 1 := by omega
  have cX1_0 := cell_later hb (a := ⟨w.heap.size + 1, 0, none⟩) (v := .int .u64 0) (by go_simp)
  have cX1_1 := cell_later hb (a := ⟨w.heap.size + 1, 1, none⟩) (v := .int .u64 0) (by go_simp)
  have sX1 : w.heap.size + 1 < w1.heap.size ∧ w.heap.size < w1.heap.size := by have h : w.heap.size + 1 < w1.heap.size := World.block_lt_of_cell? _ _ cX1_0; exact ⟨h, by omega⟩
  have fX1_0 := frozen_later hb (a := ⟨w.heap.size + 1, 0, none⟩) (v := .int .u64 0) (by go_simp) (by go_simp)
  have fX1_1 := frozen_later hb (a := ⟨w.heap.size + 1, 1, none⟩) (v := .int .u64 0) (by go_simp) (by go_simp)
  have kk := hz
  clear hb hz
  go_wp2_with fail
  (with_reducible refine (h1.out _).mono ?_); rintro e w2 ⟨rfl, hb⟩
  replace fX1_0 := frozen_later hb cX1_0 fX1_0; replace fX1_1 := frozen_later hb cX1_1 fX1_1
  replace cX1_0 := cell_later hb cX1_0; replace cX1_1 := cell_later hb cX1_1
  replace sX1 : w.heap.size + 1 < w2.heap.size ∧ w.heap.size < w2.heap.size := by have h : w.heap.size + 1 < w2.heap.size := World.block_lt_of_cell? _ _ cX1_0; exact ⟨h, by omega⟩
  replace kk := bC kk hb
  clear hb
  have NW := BoxF.set (⟨Box.of cX1_0 cX1_1, fX1_0, fX1_1⟩ : BoxF w2 (w.heap.size + 1) _ _) 0 0
  have KEY : Hid (((w2.setCell ⟨w.heap.size + 1, 0, none⟩ (.int .u64 0)).setCell ⟨w.heap.size + 1, 1, none⟩ (.int .u64 0)).cell? ⟨w.heap.size + 1, 0, none⟩ = some (.int .u64 0) ∧ ((w2.setCell ⟨w.heap.size + 1, 0, none⟩ (.int .u64 0)).setCell ⟨w.heap.size + 1, 1, none⟩ (.int .u64 0)).cell? ⟨w.heap.size + 1, 1, none⟩ = some (.int .u64 0) ∧ Below w.heap.size w ((w2.setCell ⟨w.heap.size + 1, 0, none⟩ (.int .u64 0)).setCell ⟨w.heap.size + 1, 1, none⟩ (.int .u64 0))) := Lib.hid ⟨NW.1.2.1, NW.1.2.2, (bS kk gX1 _ _)⟩
  clear NW
  go_wp2_with fail
  obtain ⟨e0, e1, kb⟩ := KEY.out
  clear KEY
  refine bodyPost_ret (v := .tuple #[.agg #[.int .u64 0, .int .u64 0], .bool false]) ?_ rfl ⟨rfl, kb⟩
  simp [results, Try.results9, go_sem, e0, e1]

set_option maxHeartbeats 4000000 in
set_option maxRecDepth 100000 in
theorem round_cut_up (k m c r x0 x1 x2 x3 y0 y1 y2 y3 ah al sh sl : Int) (ng b i o : Bool)
    (h0 : Hid (∀ w, Calls Try.prog 26 #[.int .i64 k] w fun e w' => e = .returned (.bool true) ∧ Below w.heap.size w w'))
    (h1 : Hid (∀ w, Calls Try.prog 27 #[.int .u8 m] w fun e w' => e = .returned (.bool true) ∧ Below w.heap.size w w'))
    (h3 : Hid (∀ w, Calls Try.prog 10 #[.agg #[.int .u64 x0, .int .u64 x1, .int .u64 x2, .int .u64 x3], .int .i64 k] w fun e w' => e = .returned (.int .u8 r) ∧ Below w.heap.size w w'))
    (h4 : Hid (∀ w, Calls Try.prog 16 #[.agg #[.int .u64 x0, .int .u64 x1, .int .u64 x2, .int .u64 x3], .int .i64 c] w fun e w' => e = .returned (.agg #[.int .u64 y0, .int .u64 y1, .int .u64 y2, .int .u64 y3]) ∧ Below w.heap.size w w'))
    (h5 : Hid (∀ w, Calls Try.prog 15 #[.agg #[.int .u64 y0, .int .u64 y1, .int .u64 y2, .int .u64 y3]] w fun e w' => e = .returned (.agg #[.int .u64 ah, .int .u64 al]) ∧ Below w.heap.size w w'))
    (h7 : Hid (∀ w, Calls Try.prog 29 #[.int .u8 m, .bool ng, .bool b, .int .u8 r] w fun e w' => e = .returned (.bool true) ∧ Below w.heap.size w w'))
    (h8 : Hid (∀ w, Calls Try.prog 24 #[.agg #[.int .u64 ah, .int .u64 al], .agg #[.int .u64 0, .int .u64 1]] w fun e w' => e = .returned (.tuple #[.agg #[.int .u64 sh, .int .u64 sl], .bool o]) ∧ Below w.heap.size w w')) (RD : Hid (∀ w, Calls Try.prog 28 #[.agg #[.int .u64 x0, .int .u64 x1, .int .u64 x2, .int .u64 x3]] w fun e w' => ∃ bk, e = .returned (.func (.func 51) #[] #[.pointer (some ⟨bk, 0, none⟩)]) ∧ HB w' bk 24 #[.int .u64 x0, .int .u64 x1, .int .u64 x2, .int .u64 x3] ∧ Below w.heap.size w w')) (BT : Hid (∀ bk w, HB w bk 24 #[.int .u64 x0, .int .u64 x1, .int .u64 x2, .int .u64 x3] → Calls Try.prog 51 #[.int .i64 c, .pointer (some ⟨bk, 0, none⟩)] w fun e w' => e = .returned (.bool b) ∧ Below w.heap.size w w')) (w1 : IntKind.i64.wrap (256 - k) = c) (w1x : wrap64 (256 - k) = c) (e1 : (r != 0) = i) (w : World) :
    Calls Try.prog 9 #[.agg #[.int .u64 x0, .int .u64 x1, .int .u64 x2, .int .u64 x3], .int .i64 k, .int .u8 m, .bool ng] w fun e w' => e = .returned (.tuple #[.agg #[.int .u64 sh, .int .u64 sl], .bool i]) ∧ Below w.heap.size w w' := by
  go_enter Try.func9, Try.ntmps9
  go_wp2_with fail
  (with_reducible refine (h0.out _).mono ?_); rintro e w1 ⟨rfl, hb⟩
  have hz := bC (bA (bA (Below.refl _ _) _) _) hb
  have gX1 : w.heap.size ≤ w.heap.size + 1 := by omega
  have cX0_0 := cell_later hb (a := ⟨w.heap.size, 0, none⟩) (v := .int .u64 x0) (by go_simp)
  have cX0_1 := cell_later hb (a := ⟨w.heap.size, 1, none⟩) (v := .int .u64 x1) (by go_simp)
  have cX0_2 := cell_later hb (a := ⟨w.heap.size, 2, none⟩) (v := .int .u64 x2) (by go_simp)
  have cX0_3 := cell_later hb (a := ⟨w.heap.size, 3, none⟩) (v := .int .u64 x3) (by go_simp)
  have sX0 : w.heap.size < w1.heap.size := World.block_lt_of_cell? _ _ cX0_0
  have cX1_0 := cell_later hb (a := ⟨w.heap.size + 1, 0, none⟩) (v := .int .u64 0) (by go_simp)
  have cX1_1 := cell_later hb (a := ⟨w.heap.size + 1, 1, none⟩) (v := .int .u64 0) (by go_simp)
  have sX1 : w.heap.size + 1 < w1.heap.size ∧ w.heap.size < w1.heap.size := by have h : w.heap.size + 1 < w1.heap.size := World.block_lt_of_cell? _ _ cX1_0; exact ⟨h, by omega⟩
  have fX1_0 := frozen_later hb (a := ⟨w.heap.size + 1, 0, none⟩) (v := .int .u64 0) (by go_simp) (by go_simp)
  have fX1_1 := frozen_later hb (a := ⟨w.heap.size + 1, 1, none⟩) (v := .int .u64 0) (by go_simp) (by go_simp)
  have kk := hz
  clear hb hz
  go_wp2_with fail
  (with_reducible refine (h1.out _).mono ?_); rintro e w2 ⟨rfl, hb⟩
  replace cX0_0 := cell_later hb cX0_0; replace cX0_1 := cell_later hb cX0_1; replace cX0_2 := cell_later hb cX0_2; replace cX0_3 := cell_later hb cX0_3
  replace sX0 : w.heap.size < w2.heap.size := World.block_lt_of_cell? _ _ cX0_0
  replace fX1_0 := frozen_later hb cX1_0 fX1_0; replace fX1_1 := frozen_later hb cX1_1 fX1_1
  replace cX1_0 := cell_later hb cX1_0; replace cX1_1 := cell_later hb cX1_1
  replace sX1 : w.heap.size + 1 < w2.heap.size ∧ w.heap.size < w2.heap.size := by have h : w.heap.size + 1 < w2.heap.size := World.block_lt_of_cell? _ _ cX1_0; exact ⟨h, by omega⟩
  replace kk := bC kk hb
  clear hb
  go_wp2_with fail
  (with_reducible refine (RD.out _).mono ?_); rintro e w3 ⟨bk, rfl, nbk, hb⟩
  replace cX0_0 := cell_later hb cX0_0; replace cX0_1 := cell_later hb cX0_1; replace cX0_2 := cell_later hb cX0_2; replace cX0_3 := cell_later hb cX0_3
  replace sX0 : w.heap.size < w3.heap.size := World.block_lt_of_cell? _ _ cX0_0
  replace fX1_0 := frozen_later hb cX1_0 fX1_0; replace fX1_1 := frozen_later hb cX1_1 fX1_1
  replace cX1_0 := cell_later hb cX1_0; replace cX1_1 := cell_later hb cX1_1
  replace sX1 : w.heap.size + 1 < w3.heap.size ∧ w.heap.size < w3.heap.size := by have h : w.heap.size + 1 < w3.heap.size := World.block_lt_of_cell? _ _ cX1_0; exact ⟨h, by omega⟩
  replace kk := bC kk hb
  clear hb
  go_wp2_with fail
  (with_reducible refine (h3.out _).mono ?_); rintro e w4 ⟨rfl, hb⟩
  replace nbk := nbk.later hb
  replace cX0_0 := cell_later hb cX0_0; replace cX0_1 := cell_later hb cX0_1; replace cX0_2 := cell_later hb cX0_2; replace cX0_3 := cell_later hb cX0_3
  replace sX0 : w.heap.size < w4.heap.size := World.block_lt_of_cell? _ _ cX0_0
  replace fX1_0 := frozen_later hb cX1_0 fX1_0; replace fX1_1 := frozen_later hb cX1_1 fX1_1
  replace cX1_0 := cell_later hb cX1_0; replace cX1_1 := cell_later hb cX1_1
  replace sX1 : w.heap.size + 1 < w4.heap.size ∧ w.heap.size < w4.heap.size := by have h : w.heap.size + 1 < w4.heap.size := World.block_lt_of_cell? _ _ cX1_0; exact ⟨h, by omega⟩
  replace kk := bC kk hb
  clear hb
  go_wp2_with fail
  (with_reducible refine (h4.out _).mono ?_); rintro e w5 ⟨rfl, hb⟩
  replace nbk := nbk.later hb
  clear cX0_0 cX0_1 cX0_2 cX0_3 sX0
  replace fX1_0 := frozen_later hb cX1_0 fX1_0; replace fX1_1 := frozen_later hb cX1_1 fX1_1
  replace cX1_0 := cell_later hb cX1_0; replace cX1_1 := cell_later hb cX1_1
  replace sX1 : w.heap.size + 1 < w5.heap.size ∧ w.heap.size < w5.heap.size := by have h : w.heap.size + 1 < w5.heap.size := World.block_lt_of_cell? _ _ cX1_0; exact ⟨h, by omega⟩
  replace kk := bC kk hb
  clear hb
  go_wp2_with fail
  (with_reducible refine (h5.out _).mono ?_); rintro e w6 ⟨rfl, hb⟩
  replace nbk := nbk.later hb
  replace fX1_0 := frozen_later hb cX1_0 fX1_0; replace fX1_1 := frozen_later hb cX1_1 fX1_1
  replace cX1_0 := cell_later hb cX1_0; replace cX1_1 := cell_later hb cX1_1
  replace sX1 : w.heap.size + 1 < w6.heap.size ∧ w.heap.size < w6.heap.size := by have h : w.heap.size + 1 < w6.heap.size := World.block_lt_of_cell? _ _ cX1_0; exact ⟨h, by omega⟩
  replace kk := bC kk hb
  clear hb
  go_wp2_with fail
  replace nbk := nbk.later (bA (Below.refl _ _) (.cells #[.int .u64 ah, .int .u64 al] 27))
  (with_reducible refine (BT.out _ _ nbk).mono ?_); rintro e w7 ⟨rfl, hb⟩
  have hz := bC (bA (Below.refl _ _) _) hb
  replace nbk := nbk.later hb
  have nX1_X2 : w.heap.size + 1 < w6.heap.size := by omega
  have gX2 : w.heap.size ≤ w6.heap.size := by have := kk.size; omega
  replace fX1_0 := frozen_later hz cX1_0 fX1_0; replace fX1_1 := frozen_later hz cX1_1 fX1_1
  replace cX1_0 := cell_later hz cX1_0; replace cX1_1 := cell_later hz cX1_1
  replace sX1 : w.heap.size + 1 < w7.heap.size ∧ w.heap.size < w7.heap.size := by have h : w.heap.size + 1 < w7.heap.size := World.block_lt_of_cell? _ _ cX1_0; exact ⟨h, by omega⟩
  have cX2_0 := cell_later hb (a := ⟨w6.heap.size, 0, none⟩) (v := .int .u64 ah) (by go_simp)
  have cX2_1 := cell_later hb (a := ⟨w6.heap.size, 1, none⟩) (v := .int .u64 al) (by go_simp)
  have sX2 : w6.heap.size < w7.heap.size := World.block_lt_of_cell? _ _ cX2_0
  have fX2_0 := frozen_later hb (a := ⟨w6.heap.size, 0, none⟩) (v := .int .u64 ah) (by go_simp) (by go_simp)
  have fX2_1 := frozen_later hb (a := ⟨w6.heap.size, 1, none⟩) (v := .int .u64 al) (by go_simp) (by go_simp)
  replace kk := bC kk hz
  clear hb hz
  clear nbk
  go_wp2_with fail
  (with_reducible refine (h7.out _).mono ?_); rintro e w8 ⟨rfl, hb⟩
  replace fX1_0 := frozen_later hb cX1_0 fX1_0; replace fX1_1 := frozen_later hb cX1_1 fX1_1
  replace cX1_0 := cell_later hb cX1_0; replace cX1_1 := cell_later hb cX1_1
  replace sX1 : w.heap.size + 1 < w8.heap.size ∧ w.heap.size < w8.heap.size := by have h : w.heap.size + 1 < w8.heap.size := World.block_lt_of_cell? _ _ cX1_0; exact ⟨h, by omega⟩
  replace fX2_0 := frozen_later hb cX2_0 fX2_0; replace fX2_1 := frozen_later hb cX2_1 fX2_1
  replace cX2_0 := cell_later hb cX2_0; replace cX2_1 := cell_later hb cX2_1
  replace sX2 : w6.heap.size < w8.heap.size := World.block_lt_of_cell? _ _ cX2_0
  replace kk := bC kk hb
  clear hb
  go_wp2_with fail
  (with_reducible refine (h8.out _).mono ?_); rintro e w9 ⟨rfl, hb⟩
  replace fX1_0 := frozen_later hb cX1_0 fX1_0; replace fX1_1 := frozen_later hb cX1_1 fX1_1
  replace cX1_0 := cell_later hb cX1_0; replace cX1_1 := cell_later hb cX1_1
  replace sX1 : w.heap.size + 1 < w9.heap.size ∧ w.heap.size < w9.heap.size := by have h : w.heap.size + 1 < w9.heap.size := World.block_lt_of_cell? _ _ cX1_0; exact ⟨h, by omega⟩
  replace fX2_0 := frozen_later hb cX2_0 fX2_0; replace fX2_1 := frozen_later hb cX2_1 fX2_1
  replace cX2_0 := cell_later hb cX2_0; replace cX2_1 := cell_later hb cX2_1
  replace sX2 : w6.heap.size < w9.heap.size := World.block_lt_of_cell? _ _ cX2_0
  replace kk := bC kk hb
  clear hb
  have KEY : Hid (((((w9.setCell ⟨w6.heap.size, 0, none⟩ (.int .u64 sh)).setCell ⟨w6.heap.size, 1, none⟩ (.int .u64 sl)).setCell ⟨w.heap.size + 1, 0, none⟩ (.int .u64 sh)).setCell ⟨w.heap.size + 1, 1, none⟩ (.int .u64 sl)).cell? ⟨w.heap.size + 1, 0, none⟩ = some (.int .u64 sh) ∧ ((((w9.setCell ⟨w6.heap.size, 0, none⟩ (.int .u64 sh)).setCell ⟨w6.heap.size, 1, none⟩ (.int .u64 sl)).setCell ⟨w.heap.size + 1, 0, none⟩ (.int .u64 sh)).setCell ⟨w.heap.size + 1, 1, none⟩ (.int .u64 sl)).cell? ⟨w.heap.size + 1, 1, none⟩ = some (.int .u64 sl) ∧ Below w.heap.size w ((((w9.setCell ⟨w6.heap.size, 0, none⟩ (.int .u64 sh)).setCell ⟨w6.heap.size, 1, none⟩ (.int .u64 sl)).setCell ⟨w.heap.size + 1, 0, none⟩ (.int .u64 sh)).setCell ⟨w.heap.size + 1, 1, none⟩ (.int .u64 sl))) := Lib.hid ⟨by go_simp, by go_simp, ((((kk.setCell (p := ⟨w6.heap.size, 0, none⟩) gX2 _).setCell (p := ⟨w6.heap.size, 1, none⟩) gX2 _).setCell (p := ⟨w.heap.size + 1, 0, none⟩) gX1 _).setCell (p := ⟨w.heap.size + 1, 1, none⟩) gX1 _)⟩
  go_wp2_with fail
  obtain ⟨e0, e1, kb⟩ := KEY.out
  clear KEY cX1_0 cX1_1 fX1_0 fX1_1
  refine bodyPost_ret (v := .tuple #[.agg #[.int .u64 sh, .int .u64 sl], .bool i]) ?_ rfl ⟨rfl, kb⟩
  simp [results, Try.results9, go_sem, e0, e1]

set_option maxHeartbeats 4000000 in
set_option maxRecDepth 100000 in
theorem round_cut_no (k m c r x0 x1 x2 x3 y0 y1 y2 y3 ah al : Int) (ng b i : Bool)
    (h0 : Hid (∀ w, Calls Try.prog 26 #[.int .i64 k] w fun e w' => e = .returned (.bool true) ∧ Below w.heap.size w w'))
    (h1 : Hid (∀ w, Calls Try.prog 27 #[.int .u8 m] w fun e w' => e = .returned (.bool true) ∧ Below w.heap.size w w'))
    (h3 : Hid (∀ w, Calls Try.prog 10 #[.agg #[.int .u64 x0, .int .u64 x1, .int .u64 x2, .int .u64 x3], .int .i64 k] w fun e w' => e = .returned (.int .u8 r) ∧ Below w.heap.size w w'))
    (h4 : Hid (∀ w, Calls Try.prog 16 #[.agg #[.int .u64 x0, .int .u64 x1, .int .u64 x2, .int .u64 x3], .int .i64 c] w fun e w' => e = .returned (.agg #[.int .u64 y0, .int .u64 y1, .int .u64 y2, .int .u64 y3]) ∧ Below w.heap.size w w'))
    (h5 : Hid (∀ w, Calls Try.prog 15 #[.agg #[.int .u64 y0, .int .u64 y1, .int .u64 y2, .int .u64 y3]] w fun e w' => e = .returned (.agg #[.int .u64 ah, .int .u64 al]) ∧ Below w.heap.size w w'))
    (h7 : Hid (∀ w, Calls Try.prog 29 #[.int .u8 m, .bool ng, .bool b, .int .u8 r] w fun e w' => e = .returned (.bool false) ∧ Below w.heap.size w w')) (RD : Hid (∀ w, Calls Try.prog 28 #[.agg #[.int .u64 x0, .int .u64 x1, .int .u64 x2, .int .u64 x3]] w fun e w' => ∃ bk, e = .returned (.func (.func 51) #[] #[.pointer (some ⟨bk, 0, none⟩)]) ∧ HB w' bk 24 #[.int .u64 x0, .int .u64 x1, .int .u64 x2, .int .u64 x3] ∧ Below w.heap.size w w')) (BT : Hid (∀ bk w, HB w bk 24 #[.int .u64 x0, .int .u64 x1, .int .u64 x2, .int .u64 x3] → Calls Try.prog 51 #[.int .i64 c, .pointer (some ⟨bk, 0, none⟩)] w fun e w' => e = .returned (.bool b) ∧ Below w.heap.size w w')) (w1 : IntKind.i64.wrap (256 - k) = c) (w1x : wrap64 (256 - k) = c) (e1 : (r != 0) = i) (w : World) :
    Calls Try.prog 9 #[.agg #[.int .u64 x0, .int .u64 x1, .int .u64 x2, .int .u64 x3], .int .i64 k, .int .u8 m, .bool ng] w fun e w' => e = .returned (.tuple #[.agg #[.int .u64 ah, .int .u64 al], .bool i]) ∧ Below w.heap.size w w' := by
  go_enter Try.func9, Try.ntmps9
  go_wp2_with fail
  (with_reducible refine (h0.out _).mono ?_); rintro e w1 ⟨rfl, hb⟩
  have hz := bC (bA (bA (Below.refl _ _) _) _) hb
  have gX1 : w.heap.size ≤ w.heap.size + 1 := by omega
  have cX0_0 := cell_later hb (a := ⟨w.heap.size, 0, none⟩) (v := .int .u64 x0) (by go_simp)
  have cX0_1 := cell_later hb (a := ⟨w.heap.size, 1, none⟩) (v := .int .u64 x1) (by go_simp)
  have cX0_2 := cell_later hb (a := ⟨w.heap.size, 2, none⟩) (v := .int .u64 x2) (by go_simp)
  have cX0_3 := cell_later hb (a := ⟨w.heap.size, 3, none⟩) (v := .int .u64 x3) (by go_simp)
  have sX0 : w.heap.size < w1.heap.size := World.block_lt_of_cell? _ _ cX0_0
  have cX1_0 := cell_later hb (a := ⟨w.heap.size + 1, 0, none⟩) (v := .int .u64 0) (by go_simp)
  have cX1_1 := cell_later hb (a := ⟨w.heap.size + 1, 1, none⟩) (v := .int .u64 0) (by go_simp)
  have sX1 : w.heap.size + 1 < w1.heap.size ∧ w.heap.size < w1.heap.size := by have h : w.heap.size + 1 < w1.heap.size := World.block_lt_of_cell? _ _ cX1_0; exact ⟨h, by omega⟩
  have fX1_0 := frozen_later hb (a := ⟨w.heap.size + 1, 0, none⟩) (v := .int .u64 0) (by go_simp) (by go_simp)
  have fX1_1 := frozen_later hb (a := ⟨w.heap.size + 1, 1, none⟩) (v := .int .u64 0) (by go_simp) (by go_simp)
  have kk := hz
  clear hb hz
  go_wp2_with fail
  (with_reducible refine (h1.out _).mono ?_); rintro e w2 ⟨rfl, hb⟩
  replace cX0_0 := cell_later hb cX0_0; replace cX0_1 := cell_later hb cX0_1; replace cX0_2 := cell_later hb cX0_2; replace cX0_3 := cell_later hb cX0_3
  replace sX0 : w.heap.size < w2.heap.size := World.block_lt_of_cell? _ _ cX0_0
  replace fX1_0 := frozen_later hb cX1_0 fX1_0; replace fX1_1 := frozen_later hb cX1_1 fX1_1
  replace cX1_0 := cell_later hb cX1_0; replace cX1_1 := cell_later hb cX1_1
  replace sX1 : w.heap.size + 1 < w2.heap.size ∧ w.heap.size < w2.heap.size := by have h : w.heap.size + 1 < w2.heap.size := World.block_lt_of_cell? _ _ cX1_0; exact ⟨h, by omega⟩
  replace kk := bC kk hb
  clear hb
  go_wp2_with fail
  (with_reducible refine (RD.out _).mono ?_); rintro e w3 ⟨bk, rfl, nbk, hb⟩
  replace cX0_0 := cell_later hb cX0_0; replace cX0_1 := cell_later hb cX0_1; replace cX0_2 := cell_later hb cX0_2; replace cX0_3 := cell_later hb cX0_3
  replace sX0 : w.heap.size < w3.heap.size := World.block_lt_of_cell? _ _ cX0_0
  replace fX1_0 := frozen_later hb cX1_0 fX1_0; replace fX1_1 := frozen_later hb cX1_1 fX1_1
  replace cX1_0 := cell_later hb cX1_0; replace cX1_1 := cell_later hb cX1_1
  replace sX1 : w.heap.size + 1 < w3.heap.size ∧ w.heap.size < w3.heap.size := by have h : w.heap.size + 1 < w3.heap.size := World.block_lt_of_cell? _ _ cX1_0; exact ⟨h, by omega⟩
  replace kk := bC kk hb
  clear hb
  go_wp2_with fail
  (with_reducible refine (h3.out _).mono ?_); rintro e w4 ⟨rfl, hb⟩
  replace nbk := nbk.later hb
  replace cX0_0 := cell_later hb cX0_0; replace cX0_1 := cell_later hb cX0_1; replace cX0_2 := cell_later hb cX0_2; replace cX0_3 := cell_later hb cX0_3
  replace sX0 : w.heap.size < w4.heap.size := World.block_lt_of_cell? _ _ cX0_0
  replace fX1_0 := frozen_later hb cX1_0 fX1_0; replace fX1_1 := frozen_later hb cX1_1 fX1_1
  replace cX1_0 := cell_later hb cX1_0; replace cX1_1 := cell_later hb cX1_1
  replace sX1 : w.heap.size + 1 < w4.heap.size ∧ w.heap.size < w4.heap.size := by have h : w.heap.size + 1 < w4.heap.size := World.block_lt_of_cell? _ _ cX1_0; exact ⟨h, by omega⟩
  replace kk := bC kk hb
  clear hb
  go_wp2_with fail
  (with_reducible refine (h4.out _).mono ?_); rintro e w5 ⟨rfl, hb⟩
  replace nbk := nbk.later hb
  clear cX0_0 cX0_1 cX0_2 cX0_3 sX0
  replace fX1_0 := frozen_later hb cX1_0 fX1_0; replace fX1_1 := frozen_later hb cX1_1 fX1_1
  replace cX1_0 := cell_later hb cX1_0; replace cX1_1 := cell_later hb cX1_1
  replace sX1 : w.heap.size + 1 < w5.heap.size ∧ w.heap.size < w5.heap.size := by have h : w.heap.size + 1 < w5.heap.size := World.block_lt_of_cell? _ _ cX1_0; exact ⟨h, by omega⟩
  replace kk := bC kk hb
  clear hb
  go_wp2_with fail
  (with_reducible refine (h5.out _).mono ?_); rintro e w6 ⟨rfl, hb⟩
  replace nbk := nbk.later hb
  replace fX1_0 := frozen_later hb cX1_0 fX1_0; replace fX1_1 := frozen_later hb cX1_1 fX1_1
  replace cX1_0 := cell_later hb cX1_0; replace cX1_1 := cell_later hb cX1_1
  replace sX1 : w.heap.size + 1 < w6.heap.size ∧ w.heap.size < w6.heap.size := by have h : w.heap.size + 1 < w6.heap.size := World.block_lt_of_cell? _ _ cX1_0; exact ⟨h, by omega⟩
  replace kk := bC kk hb
  clear hb
  go_wp2_with fail
  replace nbk := nbk.later (bA (Below.refl _ _) (.cells #[.int .u64 ah, .int .u64 al] 27))
  (with_reducible refine (BT.out _ _ nbk).mono ?_); rintro e w7 ⟨rfl, hb⟩
  have hz := bC (bA (Below.refl _ _) _) hb
  replace nbk := nbk.later hb
  have nX1_X2 : w.heap.size + 1 < w6.heap.size := by omega
  replace fX1_0 := frozen_later hz cX1_0 fX1_0; replace fX1_1 := frozen_later hz cX1_1 fX1_1
  replace cX1_0 := cell_later hz cX1_0; replace cX1_1 := cell_later hz cX1_1
  replace sX1 : w.heap.size + 1 < w7.heap.size ∧ w.heap.size < w7.heap.size := by have h : w.heap.size + 1 < w7.heap.size := World.block_lt_of_cell? _ _ cX1_0; exact ⟨h, by omega⟩
  have cX2_0 := cell_later hb (a := ⟨w6.heap.size, 0, none⟩) (v := .int .u64 ah) (by go_simp)
  have cX2_1 := cell_later hb (a := ⟨w6.heap.size, 1, none⟩) (v := .int .u64 al) (by go_simp)
  have sX2 : w6.heap.size < w7.heap.size := World.block_lt_of_cell? _ _ cX2_0
  replace kk := bC kk hz
  clear hb hz
  clear nbk
  go_wp2_with fail
  (with_reducible refine (h7.out _).mono ?_); rintro e w8 ⟨rfl, hb⟩
  replace fX1_0 := frozen_later hb cX1_0 fX1_0; replace fX1_1 := frozen_later hb cX1_1 fX1_1
  replace cX1_0 := cell_later hb cX1_0; replace cX1_1 := cell_later hb cX1_1
  replace sX1 : w.heap.size + 1 < w8.heap.size ∧ w.heap.size < w8.heap.size := by have h : w.heap.size + 1 < w8.heap.size := World.block_lt_of_cell? _ _ cX1_0; exact ⟨h, by omega⟩
  replace cX2_0 := cell_later hb cX2_0; replace cX2_1 := cell_later hb cX2_1
  replace sX2 : w6.heap.size < w8.heap.size := World.block_lt_of_cell? _ _ cX2_0
  replace kk := bC kk hb
  clear hb
  have NW := BoxF.set (⟨Box.of cX1_0 cX1_1, fX1_0, fX1_1⟩ : BoxF w8 (w.heap.size + 1) _ _) ah al
  have KEY : Hid (((w8.setCell ⟨w.heap.size + 1, 0, none⟩ (.int .u64 ah)).setCell ⟨w.heap.size + 1, 1, none⟩ (.int .u64 al)).cell? ⟨w.heap.size + 1, 0, none⟩ = some (.int .u64 ah) ∧ ((w8.setCell ⟨w.heap.size + 1, 0, none⟩ (.int .u64 ah)).setCell ⟨w.heap.size + 1, 1, none⟩ (.int .u64 al)).cell? ⟨w.heap.size + 1, 1, none⟩ = some (.int .u64 al) ∧ Below w.heap.size w ((w8.setCell ⟨w.heap.size + 1, 0, none⟩ (.int .u64 ah)).setCell ⟨w.heap.size + 1, 1, none⟩ (.int .u64 al))) := Lib.hid ⟨NW.1.2.1, NW.1.2.2, (bS kk gX1 _ _)⟩
  clear NW
  go_wp2_with fail
  obtain ⟨e0, e1, kb⟩ := KEY.out
  clear KEY
  refine bodyPost_ret (v := .tuple #[.agg #[.int .u64 ah, .int .u64 al], .bool i]) ?_ rfl ⟨rfl, kb⟩
  simp [results, Try.results9, go_sem, e0, e1]

theorem round_within (k : Int) (w : World) : Calls Try.prog 26 #[.int .i64 k] w fun e w' => e = .returned (.bool (decide (0 ≤ k ∧ k ≤ 127))) ∧ Below w.heap.size w w' := by
  by_cases h : 0 ≤ k
  · rw [show decide (0 ≤ k ∧ k ≤ 127) = decide (k ≤ 127) by simp [h]]
    exact round_within_hi k _ (by simp [h]) rfl w
  · rw [show decide (0 ≤ k ∧ k ≤ 127) = false by simp [h]]
    exact round_within_lo k (by simp; omega) w
theorem bitI_zero (n : Int) : bitI (n % full) 0 = decide (n % 2 = 1) := by
  unfold bitI; rw [Bool.eq_iff_iff]; simp
  unfold full; omega
theorem round_bit (x i : Int) (h0 : 0 ≤ x) (h1 : x < wfull) (i0 : 0 ≤ i) (i1 : i ≤ 256) (bk : Nat) (w : World) (hb : HB w bk 24 #[.int .u64 (wd0 x), .int .u64 (wd1 x), .int .u64 (wd2 x), .int .u64 (wd3 x)]) : Calls Try.prog 51 #[.int .i64 i, .pointer (some ⟨bk, 0, none⟩)] w fun e w' => e = .returned (.bool (decide (x / 2 ^ i.toNat % 2 = 1))) ∧ Below w.heap.size w w' := by
  have h2 := wrightW x i (by omega) (by omega)
  rw [Int.emod_eq_of_lt h0 h1] at h2
  have h4 := bit_any (hiOf (x / 2 ^ i.toNat)) (loOf (x / 2 ^ i.toNat)) 0 (hiOf_u _) (loOf_u _)
  rw [val_hiLo_mod, bitI_zero] at h4
  exact round_bit_core bk i _ _ _ _ _ _ _ _ _ _ _ (Lib.hid h2) (Lib.hid (lowW (x / 2 ^ i.toNat))) (Lib.hid h4) w (hb.cell 0) (hb.cell 1) (hb.cell 2) (hb.cell 3)
theorem round_rest (x k : Int) (h0 : 0 ≤ x) (h1 : x < wfull) (k0 : -9223372036854775808 ≤ k) (k1 : k ≤ 9223372036854775807) (w : World) : Calls Try.prog 10 #[.agg #[.int .u64 (wd0 (x)), .int .u64 (wd1 (x)), .int .u64 (wd2 (x)), .int .u64 (wd3 (x))], .int .i64 k] w fun e w' => e = .returned (.int .u8 (restB x k)) ∧ Below w.heap.size w w' := by
  have WN := round_within k
  by_cases h : 0 ≤ k ∧ k ≤ 127
  · rw [show decide (0 ≤ k ∧ k ≤ 127) = true by simp [h]] at WN
    obtain ⟨j, hj⟩ : ∃ j : Nat, 255 - k = j := ⟨(255 - k).toNat, by omega⟩
    have LS := lostW x (j : Int) (by omega) (by omega)
    rw [Int.emod_eq_of_lt h0 h1, Int.toNat_natCast] at LS
    have BT := Lib.hid fun bk w hb => round_bit x (j : Int) h0 h1 (by omega) (by omega) bk w hb
    rw [Int.toNat_natCast] at BT
    rw [rest_yes h, show 256 - k = (j : Int) + 1 by omega, rest_of]
    exact round_rest_yes k (256 - k) (j : Int) _ _ _ _ _ _ _ (Lib.hid WN) (Lib.hid LS) (Lib.hid (modeOK.of _ _)) (Lib.hid (round_reader _ _ _ _)) BT (IntWalk.i64_in _ (by omega)) (by unfold wrap64; omega) (by rw [IntWalk.i64_in _ (by omega)]; omega) (by unfold wrap64; omega) w
  · rw [show decide (0 ≤ k ∧ k ≤ 127) = false by simp [h]] at WN
    rw [rest_no h]
    exact round_rest_no k _ _ _ _ (Lib.hid WN) w
theorem round_cut (x k m : Int) (ng : Bool) (h0 : 0 ≤ x) (h1 : x < wfull) (k0 : -9223372036854775808 ≤ k) (k1 : k ≤ 9223372036854775807) (m0 : 0 ≤ m) (m1 : m ≤ 255) (w : World) : Calls Try.prog 9 #[.agg #[.int .u64 (wd0 (x)), .int .u64 (wd1 (x)), .int .u64 (wd2 (x)), .int .u64 (wd3 (x))], .int .i64 k, .int .u8 m, .bool ng] w fun e w' => e = .returned (.tuple #[.agg #[.int .u64 (hiOf (cutB x k m ng)), .int .u64 (loOf (cutB x k m ng))], .bool (cutX x k m)]) ∧ Below w.heap.size w w' := by
  have WN := round_within k
  have MK := modeOK.known m m0 m1
  by_cases h : 0 ≤ k ∧ k ≤ 127
  · rw [show decide (0 ≤ k ∧ k ≤ 127) = true by simp [h]] at WN
    by_cases hm : m < 5
    · rw [show decide (m < 5) = true by simp [hm]] at MK
      rw [(cut_yes ⟨h, hm⟩ x ng).1, (cut_yes ⟨h, hm⟩ x ng).2]
      obtain ⟨r0, r1⟩ := rest_range x (256 - k) false
      have RS := round_rest x k h0 h1 k0 k1
      rw [rest_yes h] at RS
      have WR := wrightW x (256 - k) (by omega) (by omega)
      rw [Int.emod_eq_of_lt h0 h1, ← floor_pos (by omega)] at WR
      have BT := Lib.hid fun bk w hb => round_bit x (256 - k) h0 h1 (by omega) (by omega) bk w hb
      rw [← floor_pos (by omega)] at BT
      have NX := modeOK.next m ng (decide (floorQ x (256 - k) % 2 = 1)) (restQ x (256 - k) false) m0 m1 r0 (by omega)
      unfold cutQ
      by_cases c : nextM m ng (decide (floorQ x (256 - k) % 2 = 1)) (restQ x (256 - k) false) = true
      · rw [if_pos c]; rw [c] at NX
        exact round_cut_up k m (256 - k) _ _ _ _ _ _ _ _ _ _ _ _ _ ng _ _ _ (Lib.hid WN) (Lib.hid MK) (Lib.hid RS) (Lib.hid WR) (Lib.hid (lowW _)) (Lib.hid NX) (Lib.hid (addB (floorQ x (256 - k)) 1)) (Lib.hid (round_reader _ _ _ _)) BT (IntWalk.i64_in _ (by omega)) (by unfold wrap64; omega) rfl w
      · rw [if_neg c]; rw [Bool.eq_false_iff.2 c] at NX
        exact round_cut_no k m (256 - k) _ _ _ _ _ _ _ _ _ _ _ ng _ _ (Lib.hid WN) (Lib.hid MK) (Lib.hid RS) (Lib.hid WR) (Lib.hid (lowW _)) (Lib.hid NX) (Lib.hid (round_reader _ _ _ _)) BT (IntWalk.i64_in _ (by omega)) (by unfold wrap64; omega) rfl w
    · rw [show decide (m < 5) = false by simp [hm]] at MK
      rw [(cut_no (fun z => hm z.2) x ng).1, (cut_no (fun z => hm z.2) x ng).2]
      exact round_cut_no2 k m _ _ _ _ ng (Lib.hid WN) (Lib.hid MK) w
  · rw [show decide (0 ≤ k ∧ k ≤ 127) = false by simp [h]] at WN
    rw [(cut_no (fun z => h z.1) x ng).1, (cut_no (fun z => h z.1) x ng).2]
    exact round_cut_no1 k m _ _ _ _ ng (Lib.hid WN) w
theorem roundOK : RoundOK where
  cut := fun x k m ng h0 h1 k0 k1 m0 m1 w => round_cut x k m ng h0 h1 k0 k1 m0 m1 w
  rest := fun x k h0 h1 k0 k1 w => round_rest x k h0 h1 k0 k1 w


end Go.Proofs.Ytmlobelcoggncaa
