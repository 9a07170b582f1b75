/-
  The document's answer of stage 16, over variables: what is no number; what overflows.
-/
import Derived.Test.YtbcjboaihahemaaGreatDoorPack16D
import Derived.Test.YtbcjboaihahemaaGreatDoorSlim
import Derived.Test.YtbcjboaihahemaaGreatDoorGnB
import Derived.Test.YtbcjboaihahemaaGreatDoorGdA
import Derived.Test.YtbcjboaihahemaaGreatDoorGaA
set_option linter.unusedVariables false
set_option linter.unusedSimpArgs false
set_option maxRecDepth 100000
namespace Go.Proofs.YtbcjboaihahemaaGreatDoor
open Go.RowKit
attribute [local go_sem ↓] Go.wp_at_zero Go.wp_at_succ

theorem setCell_twice (w : World) (b o : Nat) (v v2 : Value) : (w.setCell ⟨b, o, none⟩ v).setCell ⟨b, o, none⟩ v2 = w.setCell ⟨b, o, none⟩ v2 := by
  simp only [World.setCell]
  congr 1
  apply Array.ext_getElem?
  intro i
  simp only [Array.getElem?_modify]
  by_cases h : b = i
  · subst h
    simp only [if_true]
    cases hh : w.heap[b]? with
    | none => rfl
    | some o => cases o <;> simp
  · simp [h]

set_option maxHeartbeats 4000000 in
set_option maxRecDepth 100000 in
theorem ref16_no1 (ao : Option Addr) (kl cap : Nat) (f m E X : Int) (t ng more : Bool)
     (g1 : decide (3 < f) = true) (w : World) (nv : IsNum w (.slice ao kl cap) (X)) :
    Calls Tryz.prog 7 #[.int .u8 f, .agg #[.int .u8 m, .bool t], .agg #[.bool ng, .slice ao kl cap, .int .i64 E, .bool more]] w fun e w' => e = .returned (.agg #[.int .u64 0, .int .u64 0, .int .u8 0]) ∧ Below w.heap.size w w' := by
  go_enter Tryz.func7, Tryz.ntmps7
  go_wp2_with fail
  refine bodyPost_ret (v := .agg #[.int .u64 0, .int .u64 0, .int .u8 0]) (by simp [results, Tryz.results7, go_sem]) rfl ⟨rfl, (bA (bA (bA (Below.refl _ _) _) _) _)⟩

set_option maxHeartbeats 4000000 in
set_option maxRecDepth 100000 in
theorem ref16_no2 (ao : Option Addr) (kl cap : Nat) (f m E X : Int) (t ng more : Bool)
     (g1 : decide (3 < f) = false) (g2 : decide (4 < m) = true) (w : World) (nv : IsNum w (.slice ao kl cap) (X)) :
    Calls Tryz.prog 7 #[.int .u8 f, .agg #[.int .u8 m, .bool t], .agg #[.bool ng, .slice ao kl cap, .int .i64 E, .bool more]] w fun e w' => e = .returned (.agg #[.int .u64 0, .int .u64 0, .int .u8 0]) ∧ Below w.heap.size w w' := by
  go_enter Tryz.func7, Tryz.ntmps7
  go_wp2_with fail
  refine bodyPost_ret (v := .agg #[.int .u64 0, .int .u64 0, .int .u8 0]) (by simp [results, Tryz.results7, go_sem]) rfl ⟨rfl, (bA (bA (bA (Below.refl _ _) _) _) _)⟩

set_option maxHeartbeats 4000000 in
set_option maxRecDepth 100000 in
theorem ref16_zero (ao : Option Addr) (kl cap : Nat) (f m E X rh rl : Int) (t ng : Bool)
    (h0 : Hid (∀ w, Calls Tryz.prog 21 #[.int .u8 f, .bool ng, .int .i64 0, .slice none 0 0] w fun e w' => e = .returned (.agg #[.int .u64 rh, .int .u64 rl]) ∧ Below w.heap.size w w')) (g1 : decide (3 < f) = false) (g2 : decide (4 < m) = false) (hz : ((kl : Int) == 0) = true) (w : World) (nv : IsNum w (.slice ao kl cap) (X)) :
    Calls Tryz.prog 7 #[.int .u8 f, .agg #[.int .u8 m, .bool t], .agg #[.bool ng, .slice ao kl cap, .int .i64 E, .bool false]] w fun e w' => e = .returned (.agg #[.int .u64 rh, .int .u64 rl, .int .u8 0]) ∧ Below w.heap.size w w' := by
  go_enter Tryz.func7, Tryz.ntmps7
  go_wp2_with fail
  (with_reducible refine (h0.out _).mono ?_); rintro e w1 ⟨rfl, hb⟩
  have hz := bC (bA (bA (bA (Below.refl _ _) _) _) _) hb
  replace nv := nv.later hz
  have gX2 : w.heap.size ≤ w.heap.size + 1 + 1 := by omega
  have cX2_0 := cL hb (a := ⟨w.heap.size + 1 + 1, 0, none⟩) (v := .int .u64 0) (by go_simp)
  have cX2_1 := cL hb (a := ⟨w.heap.size + 1 + 1, 1, none⟩) (v := .int .u64 0) (by go_simp)
  have cX2_2 := cL hb (a := ⟨w.heap.size + 1 + 1, 2, none⟩) (v := .int .u8 0) (by go_simp)
  have sX2 : w.heap.size + 1 + 1 < w1.heap.size ∧ w.heap.size + 1 < w1.heap.size := by have h : w.heap.size + 1 + 1 < w1.heap.size := bL cX2_0; exact ⟨h, by omega⟩
  have fX2_0 := fL hb (a := ⟨w.heap.size + 1 + 1, 0, none⟩) (v := .int .u64 0) (by go_simp) (by go_simp)
  have fX2_1 := fL hb (a := ⟨w.heap.size + 1 + 1, 1, none⟩) (v := .int .u64 0) (by go_simp) (by go_simp)
  have fX2_2 := fL hb (a := ⟨w.heap.size + 1 + 1, 2, none⟩) (v := .int .u8 0) (by go_simp) (by go_simp)
  have kk := hz
  clear hb hz
  have KEY : Hid ((fun W : World => W.cell? ⟨w.heap.size + 1 + 1, 0, none⟩ = some (.int .u64 rh) ∧ W.cell? ⟨w.heap.size + 1 + 1, 1, none⟩ = some (.int .u64 rl) ∧ W.cell? ⟨w.heap.size + 1 + 1, 2, none⟩ = some (.int .u8 0) ∧ Below w.heap.size w W) (((w1.setCell ⟨w.heap.size + 1 + 1, 0, none⟩ (.int .u64 rh)).setCell ⟨w.heap.size + 1 + 1, 1, none⟩ (.int .u64 rl)).setCell ⟨w.heap.size + 1 + 1, 2, none⟩ (.int .u8 0))) := Lib.hid ⟨by go_simp, by go_simp, by go_simp, (((kk.setCell (p := ⟨w.heap.size + 1 + 1, 0, none⟩) gX2 _).setCell (p := ⟨w.heap.size + 1 + 1, 1, none⟩) gX2 _).setCell (p := ⟨w.heap.size + 1 + 1, 2, none⟩) gX2 _)⟩
  go_wp2_with fail
  obtain ⟨e0, e1, e2, kb⟩ := KEY.out
  clear KEY cX2_0 cX2_1 cX2_2 fX2_0 fX2_1 fX2_2
  refine bodyPost_ret (v := .agg #[.int .u64 rh, .int .u64 rl, .int .u8 0]) ?_ rfl ⟨rfl, kb⟩
  simp [results, Tryz.results7, go_sem, e0, e1, e2]

set_option maxHeartbeats 4000000 in
set_option maxRecDepth 100000 in
theorem ref16_over (ao : Option Addr) (kl cap : Nat) (f m E X p em ls L1 a1 e1 p1 a2 n1 Y1 r1 L2 a3 a4 ow rh rl fl : Int) (t ng more : Bool)
    (h0 : Hid (∀ w, Calls Tryz.prog 22 #[.int .u8 f] w fun e w' => e = .returned (.int .i64 p) ∧ Below w.heap.size w w'))
    (h1 : Hid (∀ w, Calls Tryz.prog 23 #[.int .u8 f] w fun e w' => e = .returned (.int .i64 em) ∧ Below w.heap.size w w'))
    (h6 : Hid (∀ w, Calls Tryz.prog 26 #[.int .u8 f, .int .u8 m, .bool ng] w fun e w' => e = .returned (.agg #[.int .u64 rh, .int .u64 rl, .int .u8 fl]) ∧ Below w.heap.size w w')) (g1 : decide (3 < f) = false) (g2 : decide (4 < m) = false) (hz : ((kl : Int) == 0) = false) (w1 : IntKind.i64.wrap (1 - em) = ls) (w1x : wrap64 (1 - em) = ls) (w2 : IntKind.i64.wrap (L1 - 1) = a1) (w2x : wrap64 (L1 - 1) = a1) (w3 : IntKind.i64.wrap (a1 + E) = e1) (w3x : wrap64 (a1 + E) = e1) (w4 : IntKind.i64.wrap (p - 1) = p1) (w4x : wrap64 (p - 1) = p1) (w5 : IntKind.i64.wrap (e1 - p1) = a2) (w5x : wrap64 (e1 - p1) = a2) (w6 : IntKind.i64.wrap (a2 - E) = n1) (w6x : wrap64 (a2 - E) = n1) (w7 : IntKind.i64.wrap (L2 - 1) = a3) (w7x : wrap64 (L2 - 1) = a3) (w8 : IntKind.i64.wrap (a3 + e1) = a4) (w8x : wrap64 (a3 + e1) = a4) (w9 : IntKind.i64.wrap (a4 - p1) = ow) (w9x : wrap64 (a4 - p1) = ow) (LX : Hid (∀ w v, IsNum w v X → Calls Tryz.prog 24 #[v] w fun e w' => e = .returned (.int .i64 L1) ∧ Below w.heap.size w w')) (C1 : Hid (∀ w v, IsNum w v X → Calls Tryz.prog 25 #[v, .int .i64 n1, .bool more, .int .u8 m, .bool ng] w fun e w' => ∃ u, e = .returned (.tuple #[u, .int .i64 r1]) ∧ IsNum w' u Y1 ∧ Below w.heap.size w w')) (LY : Hid (∀ w v, IsNum w v Y1 → Calls Tryz.prog 24 #[v] w fun e w' => e = .returned (.int .i64 L2) ∧ Below w.heap.size w w')) (g3 : decide (em < ow) = true) (w : World) (nv : IsNum w (.slice ao kl cap) (X)) :
    Calls Tryz.prog 7 #[.int .u8 f, .agg #[.int .u8 m, .bool t], .agg #[.bool ng, .slice ao kl cap, .int .i64 E, .bool more]] w fun e w' => e = .returned (.agg #[.int .u64 rh, .int .u64 rl, .int .u8 fl]) ∧ Below w.heap.size w w' := by
  go_enter Tryz.func7, Tryz.ntmps7
  go_wp2_with fail
  (with_reducible refine (h0.out _).mono ?_); rintro e w1 ⟨rfl, hb⟩
  have hz := bC (bA (bA (bA (Below.refl _ _) _) _) _) hb
  replace nv := nv.later hz
  have gX2 : w.heap.size ≤ w.heap.size + 1 + 1 := by omega
  have cX0_0 := cL hb (a := ⟨w.heap.size, 0, none⟩) (v := .int .u8 m) (by go_simp)
  have cX0_1 := cL hb (a := ⟨w.heap.size, 1, none⟩) (v := .bool t) (by go_simp)
  have sX0 : w.heap.size < w1.heap.size := bL cX0_0
  have cX1_0 := cL hb (a := ⟨w.heap.size + 1, 0, none⟩) (v := .bool ng) (by go_simp)
  have cX1_1 := cL hb (a := ⟨w.heap.size + 1, 1, none⟩) (v := .slice ao kl cap) (by go_simp)
  have cX1_2 := cL hb (a := ⟨w.heap.size + 1, 2, none⟩) (v := .int .i64 E) (by go_simp)
  have cX1_3 := cL hb (a := ⟨w.heap.size + 1, 3, none⟩) (v := .bool more) (by go_simp)
  have sX1 : w.heap.size + 1 < w1.heap.size ∧ w.heap.size < w1.heap.size := by have h : w.heap.size + 1 < w1.heap.size := bL cX1_0; exact ⟨h, by omega⟩
  have cX2_0 := cL hb (a := ⟨w.heap.size + 1 + 1, 0, none⟩) (v := .int .u64 0) (by go_simp)
  have cX2_1 := cL hb (a := ⟨w.heap.size + 1 + 1, 1, none⟩) (v := .int .u64 0) (by go_simp)
  have cX2_2 := cL hb (a := ⟨w.heap.size + 1 + 1, 2, none⟩) (v := .int .u8 0) (by go_simp)
  have sX2 : w.heap.size + 1 + 1 < w1.heap.size ∧ w.heap.size + 1 < w1.heap.size := by have h : w.heap.size + 1 + 1 < w1.heap.size := bL cX2_0; exact ⟨h, by omega⟩
  have fX2_0 := fL hb (a := ⟨w.heap.size + 1 + 1, 0, none⟩) (v := .int .u64 0) (by go_simp) (by go_simp)
  have fX2_1 := fL hb (a := ⟨w.heap.size + 1 + 1, 1, none⟩) (v := .int .u64 0) (by go_simp) (by go_simp)
  have fX2_2 := fL hb (a := ⟨w.heap.size + 1 + 1, 2, none⟩) (v := .int .u8 0) (by go_simp) (by go_simp)
  have kk := hz
  clear hb hz
  go_wp2_with fail
  (with_reducible refine (h1.out _).mono ?_); rintro e w2 ⟨rfl, hb⟩
  replace nv := nv.later hb
  replace cX0_0 := cL hb cX0_0; replace cX0_1 := cL hb cX0_1
  replace sX0 : w.heap.size < w2.heap.size := bL cX0_0
  replace cX1_0 := cL hb cX1_0; replace cX1_1 := cL hb cX1_1; replace cX1_2 := cL hb cX1_2; replace cX1_3 := cL hb cX1_3
  replace sX1 : w.heap.size + 1 < w2.heap.size ∧ w.heap.size < w2.heap.size := by have h : w.heap.size + 1 < w2.heap.size := bL cX1_0; exact ⟨h, by omega⟩
  replace fX2_0 := fL hb cX2_0 fX2_0; replace fX2_1 := fL hb cX2_1 fX2_1; replace fX2_2 := fL hb cX2_2 fX2_2
  replace cX2_0 := cL hb cX2_0; replace cX2_1 := cL hb cX2_1; replace cX2_2 := cL hb cX2_2
  replace sX2 : w.heap.size + 1 + 1 < w2.heap.size ∧ w.heap.size + 1 < w2.heap.size := by have h : w.heap.size + 1 + 1 < w2.heap.size := bL cX2_0; exact ⟨h, by omega⟩
  replace kk := bC kk hb
  clear hb
  go_wp2_with fail
  refine wp_region_noPanic ?_
  refine wp_region_held_drew (S := fun w' => w'.cell? ⟨w.heap.size + 1, 1, none⟩ = some (.slice ao kl cap) ∧ w'.cell? ⟨w.heap.size + 1, 2, none⟩ = some (.int .i64 E) ∧ True) (by kernel_rfl) ⟨cL (Below.refl _ _).drew cX1_1, cL (Below.refl _ _).drew cX1_2, trivial⟩ (fun hHeld => ?_)
  replace nv := nv.later (Below.refl _ _).drew
  replace cX0_0 := cL (Below.refl _ _).drew cX0_0; replace cX0_1 := cL (Below.refl _ _).drew cX0_1
  replace cX1_0 := cL (Below.refl _ _).drew cX1_0; replace cX1_1 := cL (Below.refl _ _).drew cX1_1; replace cX1_2 := cL (Below.refl _ _).drew cX1_2; replace cX1_3 := cL (Below.refl _ _).drew cX1_3
  replace fX2_0 := fL (Below.refl _ _).drew cX2_0 fX2_0; replace fX2_1 := fL (Below.refl _ _).drew cX2_1 fX2_1; replace fX2_2 := fL (Below.refl _ _).drew cX2_2 fX2_2
  replace cX2_0 := cL (Below.refl _ _).drew cX2_0; replace cX2_1 := cL (Below.refl _ _).drew cX2_1; replace cX2_2 := cL (Below.refl _ _).drew cX2_2
  replace kk := bC kk (Below.refl _ _).drew
  refine wpAnyH_take (i := 0) (v := ?vq124) rfl (by kernel_rfl) (by kernel_rfl) (by kernel_rfl) (fun _ _ _ h => h) (Or.inl ⟨by rfl, ?yq124⟩) hHeld ?rq124
  case yq124 => (intro wq hb; obtain ⟨lq0, lq1, _⟩ := hb; go_simp; try (with_reducible rfl))
  try simp only [zA, zB, zC, Act.put, zD, zE, zF]
  refine wpAnyH_take (i := 1) (v := ?vq125) rfl (by kernel_rfl) (by kernel_rfl) (by kernel_rfl) (fun _ _ _ h => h) (Or.inl ⟨by rfl, ?yq125⟩) hHeld ?rq125
  case yq125 => (intro wq hb; obtain ⟨lq0, lq1, _⟩ := hb; go_simp; try (with_reducible rfl))
  try simp only [zA, zB, zC, Act.put, zD, zE, zF]
  refine wpAnyH_take (i := 4) (v := ?vq126) rfl (by kernel_rfl) (by kernel_rfl) (by kernel_rfl) (fun _ _ _ h => h) (Or.inl ⟨by rfl, ?yq126⟩) hHeld ?rq126
  case yq126 => (intro wq hb; obtain ⟨lq0, lq1, _⟩ := hb; go_simp; try (with_reducible rfl))
  try simp only [zA, zB, zC, Act.put, zD, zE, zF]
  refine wpAnyH_take (i := 5) (v := ?vq127) rfl (by kernel_rfl) (by kernel_rfl) (by kernel_rfl) (fun _ _ _ h => h) (Or.inl ⟨by rfl, ?yq127⟩) hHeld ?rq127
  case yq127 => (intro wq hb; obtain ⟨lq0, lq1, _⟩ := hb; go_simp; try (with_reducible rfl))
  try simp only [zA, zB, zC, Act.put, zD, zE, zF]
  clear hHeld
  refine wpAnyH_ready (rs := [2]) (by kernel_rfl) (by simp) ?_
  refine AllReadyH.cons rfl (fun K hK => ?_) AllReadyH.nil
  go_simp
  (with_reducible refine (LX.out _ _ nv).mono ?_); rintro e w4 ⟨rfl, hb⟩
  replace nv := nv.later hb
  replace cX0_0 := cL hb cX0_0; replace cX0_1 := cL hb cX0_1
  replace cX1_0 := cL hb cX1_0; replace cX1_1 := cL hb cX1_1; replace cX1_2 := cL hb cX1_2; replace cX1_3 := cL hb cX1_3
  replace fX2_0 := fL hb cX2_0 fX2_0; replace fX2_1 := fL hb cX2_1 fX2_1; replace fX2_2 := fL hb cX2_2 fX2_2
  replace cX2_0 := cL hb cX2_0; replace cX2_1 := cL hb cX2_1; replace cX2_2 := cL hb cX2_2
  replace kk := bC kk hb
  clear hb
  refine hK.out _ _ ⟨cX1_1, cX1_2, trivial⟩ (fun hHeld => ?_)
  clear hK K
  try simp only [zA, zB, zC, Act.put, zD, zE, zF]
  refine wpAnyH_take (i := 3) (v := ?vq128) rfl (by kernel_rfl) (by kernel_rfl) (by kernel_rfl) (fun _ _ _ h => h) (Or.inl ⟨by rfl, ?yq128⟩) hHeld ?rq128
  case yq128 => (intro wq hb; obtain ⟨lq0, lq1, _⟩ := hb; go_simp; try (with_reducible rfl))
  try simp only [zA, zB, zC, Act.put, zD, zE, zF]
  refine wpAnyH_take (i := 6) (v := ?vq129) rfl (by kernel_rfl) (by kernel_rfl) (by kernel_rfl) (fun _ _ _ h => h) (Or.inl ⟨by rfl, ?yq129⟩) hHeld ?rq129
  case yq129 => (intro wq hb; obtain ⟨lq0, lq1, _⟩ := hb; go_simp; try (with_reducible rfl))
  try simp only [zA, zB, zC, Act.put, zD, zE, zF]
  refine wpAnyH_take (i := 7) (v := ?vq130) rfl (by kernel_rfl) (by kernel_rfl) (by kernel_rfl) (fun _ _ _ h => h) (Or.inl ⟨by rfl, ?yq130⟩) hHeld ?rq130
  case yq130 => (intro wq hb; obtain ⟨lq0, lq1, _⟩ := hb; go_simp; try (with_reducible rfl))
  try simp only [zA, zB, zC, Act.put, zD, zE, zF]
  clear hHeld
  refine wpAnyH_done (by kernel_rfl) ?_ _
  refine NoPanic.normal ?_
  replace sX0 : w.heap.size < w4.heap.size := bL cX0_0
  replace sX1 : w.heap.size + 1 < w4.heap.size ∧ w.heap.size < w4.heap.size := by have h : w.heap.size + 1 < w4.heap.size := bL cX1_0; exact ⟨h, by omega⟩
  replace sX2 : w.heap.size + 1 + 1 < w4.heap.size ∧ w.heap.size + 1 < w4.heap.size := by have h : w.heap.size + 1 + 1 < w4.heap.size := bL cX2_0; exact ⟨h, by omega⟩
  go_wp2_with fail
  (with_reducible refine (C1.out _ _ nv).mono ?_); rintro e w5 ⟨y1, rfl, ny1, hb⟩
  replace nv := nv.later hb
  replace cX0_0 := cL hb cX0_0; replace cX0_1 := cL hb cX0_1
  replace sX0 : w.heap.size < w5.heap.size := bL cX0_0
  replace cX1_0 := cL hb cX1_0; replace cX1_1 := cL hb cX1_1; replace cX1_2 := cL hb cX1_2; replace cX1_3 := cL hb cX1_3
  replace sX1 : w.heap.size + 1 < w5.heap.size ∧ w.heap.size < w5.heap.size := by have h : w.heap.size + 1 < w5.heap.size := bL cX1_0; exact ⟨h, by omega⟩
  replace fX2_0 := fL hb cX2_0 fX2_0; replace fX2_1 := fL hb cX2_1 fX2_1; replace fX2_2 := fL hb cX2_2 fX2_2
  replace cX2_0 := cL hb cX2_0; replace cX2_1 := cL hb cX2_1; replace cX2_2 := cL hb cX2_2
  replace sX2 : w.heap.size + 1 + 1 < w5.heap.size ∧ w.heap.size + 1 < w5.heap.size := by have h : w.heap.size + 1 + 1 < w5.heap.size := bL cX2_0; exact ⟨h, by omega⟩
  replace kk := bC kk hb
  clear hb
  clear nv
  go_wp2_with fail
  (with_reducible refine (LY.out _ _ ny1).mono ?_); rintro e w6 ⟨rfl, hb⟩
  replace ny1 := ny1.later hb
  replace cX0_0 := cL hb cX0_0; replace cX0_1 := cL hb cX0_1
  replace sX0 : w.heap.size < w6.heap.size := bL cX0_0
  replace cX1_0 := cL hb cX1_0; replace cX1_1 := cL hb cX1_1; replace cX1_2 := cL hb cX1_2; replace cX1_3 := cL hb cX1_3
  replace sX1 : w.heap.size + 1 < w6.heap.size ∧ w.heap.size < w6.heap.size := by have h : w.heap.size + 1 < w6.heap.size := bL cX1_0; exact ⟨h, by omega⟩
  replace fX2_0 := fL hb cX2_0 fX2_0; replace fX2_1 := fL hb cX2_1 fX2_1; replace fX2_2 := fL hb cX2_2 fX2_2
  replace cX2_0 := cL hb cX2_0; replace cX2_1 := cL hb cX2_1; replace cX2_2 := cL hb cX2_2
  replace sX2 : w.heap.size + 1 + 1 < w6.heap.size ∧ w.heap.size + 1 < w6.heap.size := by have h : w.heap.size + 1 + 1 < w6.heap.size := bL cX2_0; exact ⟨h, by omega⟩
  replace kk := bC kk hb
  clear hb
  clear ny1
  go_wp2_with fail
  (with_reducible refine (h1.out _).mono ?_); rintro e w7 ⟨rfl, hb⟩
  replace cX0_0 := cL hb cX0_0; replace cX0_1 := cL hb cX0_1
  replace sX0 : w.heap.size < w7.heap.size := bL cX0_0
  replace cX1_0 := cL hb cX1_0; replace cX1_1 := cL hb cX1_1; replace cX1_2 := cL hb cX1_2; replace cX1_3 := cL hb cX1_3
  replace sX1 : w.heap.size + 1 < w7.heap.size ∧ w.heap.size < w7.heap.size := by have h : w.heap.size + 1 < w7.heap.size := bL cX1_0; exact ⟨h, by omega⟩
  replace fX2_0 := fL hb cX2_0 fX2_0; replace fX2_1 := fL hb cX2_1 fX2_1; replace fX2_2 := fL hb cX2_2 fX2_2
  replace cX2_0 := cL hb cX2_0; replace cX2_1 := cL hb cX2_1; replace cX2_2 := cL hb cX2_2
  replace sX2 : w.heap.size + 1 + 1 < w7.heap.size ∧ w.heap.size + 1 < w7.heap.size := by have h : w.heap.size + 1 + 1 < w7.heap.size := bL cX2_0; exact ⟨h, by omega⟩
  replace kk := bC kk hb
  clear hb
  go_wp2_with fail
  (with_reducible refine (h6.out _).mono ?_); rintro e w8 ⟨rfl, hb⟩
  clear cX0_0 cX0_1 sX0
  clear cX1_0 cX1_1 cX1_2 cX1_3 sX1
  replace fX2_0 := fL hb cX2_0 fX2_0; replace fX2_1 := fL hb cX2_1 fX2_1; replace fX2_2 := fL hb cX2_2 fX2_2
  replace cX2_0 := cL hb cX2_0; replace cX2_1 := cL hb cX2_1; replace cX2_2 := cL hb cX2_2
  replace sX2 : w.heap.size + 1 + 1 < w8.heap.size ∧ w.heap.size + 1 < w8.heap.size := by have h : w.heap.size + 1 + 1 < w8.heap.size := bL cX2_0; exact ⟨h, by omega⟩
  replace kk := bC kk hb
  clear hb
  have KEY : Hid ((fun W : World => W.cell? ⟨w.heap.size + 1 + 1, 0, none⟩ = some (.int .u64 rh) ∧ W.cell? ⟨w.heap.size + 1 + 1, 1, none⟩ = some (.int .u64 rl) ∧ W.cell? ⟨w.heap.size + 1 + 1, 2, none⟩ = some (.int .u8 fl) ∧ Below w.heap.size w W) (((w8.setCell ⟨w.heap.size + 1 + 1, 0, none⟩ (.int .u64 rh)).setCell ⟨w.heap.size + 1 + 1, 1, none⟩ (.int .u64 rl)).setCell ⟨w.heap.size + 1 + 1, 2, none⟩ (.int .u8 fl))) := Lib.hid ⟨by go_simp, by go_simp, by go_simp, (((kk.setCell (p := ⟨w.heap.size + 1 + 1, 0, none⟩) gX2 _).setCell (p := ⟨w.heap.size + 1 + 1, 1, none⟩) gX2 _).setCell (p := ⟨w.heap.size + 1 + 1, 2, none⟩) gX2 _)⟩
  go_wp2_with fail
  obtain ⟨e0, e1, e2, kb⟩ := KEY.out
  clear KEY cX2_0 cX2_1 cX2_2 fX2_0 fX2_1 fX2_2
  refine bodyPost_ret (v := .agg #[.int .u64 rh, .int .u64 rl, .int .u8 fl]) ?_ rfl ⟨rfl, kb⟩
  simp [results, Tryz.results7, go_sem, e0, e1, e2]



end Go.Proofs.YtbcjboaihahemaaGreatDoor
