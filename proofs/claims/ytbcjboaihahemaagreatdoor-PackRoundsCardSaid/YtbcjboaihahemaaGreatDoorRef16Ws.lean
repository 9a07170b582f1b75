/-
  The document's answer of stage 16, over variables: small numbers.
-/
import Derived.Test.YtbcjboaihahemaaGreatDoorPack16D
import Derived.Test.YtbcjboaihahemaaGreatDoorSlim
import Derived.Test.YtbcjboaihahemaaGreatDoorGnB
import Derived.Test.YtbcjboaihahemaaGreatDoorGdA
import Derived.Test.YtbcjboaihahemaaGreatDoorGaA
import Derived.Test.YtbcjboaihahemaaGreatDoorRef16W
set_option linter.unusedVariables false
set_option linter.unusedSimpArgs false
set_option maxRecDepth 100000
namespace Go.Proofs.YtbcjboaihahemaaGreatDoor
open Go.RowKit
attribute [local go_sem ↓] Go.wp_at_zero Go.wp_at_succ

set_option maxHeartbeats 4000000 in
set_option maxRecDepth 100000 in
theorem ref16_sub_exact (ao : Option Addr) (kl cap : Nat) (f m E X p em ls L1 a1 e1 p1 a2 n1 Y1 r1 L2 a3 a4 ow mx un n2 Y2 r2 L3 rh rl : Int) (t ng more : Bool)
    (h0 : Hid (∀ w, Calls Tryz.prog 22 #[.int .u8 f] w fun e w' => e = .returned (.int .i64 p) ∧ Below w.heap.size w w'))
    (h1 : Hid (∀ w, Calls Tryz.prog 23 #[.int .u8 f] w fun e w' => e = .returned (.int .i64 em) ∧ Below w.heap.size w w')) (g1 : decide (3 < f) = false) (g2 : decide (4 < m) = false) (hz : ((kl : Int) == 0) = false) (w1 : IntKind.i64.wrap (1 - em) = ls) (w1x : wrap64 (1 - em) = ls) (w2 : IntKind.i64.wrap (L1 - 1) = a1) (w2x : wrap64 (L1 - 1) = a1) (w3 : IntKind.i64.wrap (a1 + E) = e1) (w3x : wrap64 (a1 + E) = e1) (w4 : IntKind.i64.wrap (p - 1) = p1) (w4x : wrap64 (p - 1) = p1) (w5 : IntKind.i64.wrap (e1 - p1) = a2) (w5x : wrap64 (e1 - p1) = a2) (w6 : IntKind.i64.wrap (a2 - E) = n1) (w6x : wrap64 (a2 - E) = n1) (w7 : IntKind.i64.wrap (L2 - 1) = a3) (w7x : wrap64 (L2 - 1) = a3) (w8 : IntKind.i64.wrap (a3 + e1) = a4) (w8x : wrap64 (a3 + e1) = a4) (w9 : IntKind.i64.wrap (a4 - p1) = ow) (w9x : wrap64 (a4 - p1) = ow) (q1 : (if ls > e1 then ls else e1) = mx) (q1' : (if e1 < ls then ls else e1) = mx) (v1 : IntKind.i64.wrap (mx - p1) = un) (v1x : wrap64 (mx - p1) = un) (v2 : IntKind.i64.wrap (un - E) = n2) (v2x : wrap64 (un - E) = n2) (LX : Hid (∀ w v, IsNum w v X → Calls Tryz.prog 24 #[v] w fun e w' => e = .returned (.int .i64 L1) ∧ Below w.heap.size w w')) (C1 : Hid (∀ w v, IsNum w v X → Calls Tryz.prog 25 #[v, .int .i64 n1, .bool more, .int .u8 m, .bool ng] w fun e w' => ∃ u, e = .returned (.tuple #[u, .int .i64 r1]) ∧ IsNum w' u Y1 ∧ Below w.heap.size w w')) (LY : Hid (∀ w v, IsNum w v Y1 → Calls Tryz.prog 24 #[v] w fun e w' => e = .returned (.int .i64 L2) ∧ Below w.heap.size w w')) (g3 : decide (em < ow) = false) (C2 : Hid (∀ w v, IsNum w v X → Calls Tryz.prog 25 #[v, .int .i64 n2, .bool more, .int .u8 m, .bool ng] w fun e w' => ∃ u, e = .returned (.tuple #[u, .int .i64 r2]) ∧ IsNum w' u Y2 ∧ Below w.heap.size w w')) (LZ : Hid (∀ w v, IsNum w v Y2 → Calls Tryz.prog 24 #[v] w fun e w' => e = .returned (.int .i64 L3) ∧ Below w.heap.size w w')) (g4 : decide (L3 < p) = true) (MK : Hid (∀ w v, IsNum w v Y2 → Calls Tryz.prog 21 #[.int .u8 f, .bool ng, .int .i64 0, v] w fun e w' => e = .returned (.agg #[.int .u64 rh, .int .u64 rl]) ∧ Below w.heap.size w w')) (g5 : (r2 == 0) = true) (w : World) (nv : IsNum w (.slice ao kl cap) (X)) :
    Calls Tryz.prog 7 #[.int .u8 f, .agg #[.int .u8 m, .bool t], .agg #[.bool ng, .slice ao kl cap, .int .i64 E, .bool more]] w fun e w' => e = .returned (.agg #[.int .u64 rh, .int .u64 rl, .int .u8 0]) ∧ Below w.heap.size w w' := by
  go_enter Tryz.func7, Tryz.ntmps7
  go_wp2_with fail
  (with_reducible refine (h0.out _).mono ?_); rintro e w1 ⟨rfl, hb⟩
  have hz := bC (bA (bA (bA (Below.refl _ _) _) _) _) hb
  replace nv := nv.later hz
  have gX2 : w.heap.size ≤ w.heap.size + 1 + 1 := by omega
  have cX0_0 := cL hb (a := ⟨w.heap.size, 0, none⟩) (v := .int .u8 m) (by go_simp)
  have cX0_1 := cL hb (a := ⟨w.heap.size, 1, none⟩) (v := .bool t) (by go_simp)
  have sX0 : w.heap.size < w1.heap.size := bL cX0_0
  have cX1_0 := cL hb (a := ⟨w.heap.size + 1, 0, none⟩) (v := .bool ng) (by go_simp)
  have cX1_1 := cL hb (a := ⟨w.heap.size + 1, 1, none⟩) (v := .slice ao kl cap) (by go_simp)
  have cX1_2 := cL hb (a := ⟨w.heap.size + 1, 2, none⟩) (v := .int .i64 E) (by go_simp)
  have cX1_3 := cL hb (a := ⟨w.heap.size + 1, 3, none⟩) (v := .bool more) (by go_simp)
  have sX1 : w.heap.size + 1 < w1.heap.size ∧ w.heap.size < w1.heap.size := by have h : w.heap.size + 1 < w1.heap.size := bL cX1_0; exact ⟨h, by omega⟩
  have cX2_0 := cL hb (a := ⟨w.heap.size + 1 + 1, 0, none⟩) (v := .int .u64 0) (by go_simp)
  have cX2_1 := cL hb (a := ⟨w.heap.size + 1 + 1, 1, none⟩) (v := .int .u64 0) (by go_simp)
  have cX2_2 := cL hb (a := ⟨w.heap.size + 1 + 1, 2, none⟩) (v := .int .u8 0) (by go_simp)
  have sX2 : w.heap.size + 1 + 1 < w1.heap.size ∧ w.heap.size + 1 < w1.heap.size := by have h : w.heap.size + 1 + 1 < w1.heap.size := bL cX2_0; exact ⟨h, by omega⟩
  have fX2_0 := fL hb (a := ⟨w.heap.size + 1 + 1, 0, none⟩) (v := .int .u64 0) (by go_simp) (by go_simp)
  have fX2_1 := fL hb (a := ⟨w.heap.size + 1 + 1, 1, none⟩) (v := .int .u64 0) (by go_simp) (by go_simp)
  have fX2_2 := fL hb (a := ⟨w.heap.size + 1 + 1, 2, none⟩) (v := .int .u8 0) (by go_simp) (by go_simp)
  have kk := hz
  clear hb hz
  go_wp2_with fail
  (with_reducible refine (h1.out _).mono ?_); rintro e w2 ⟨rfl, hb⟩
  replace nv := nv.later hb
  replace cX0_0 := cL hb cX0_0; replace cX0_1 := cL hb cX0_1
  replace sX0 : w.heap.size < w2.heap.size := bL cX0_0
  replace cX1_0 := cL hb cX1_0; replace cX1_1 := cL hb cX1_1; replace cX1_2 := cL hb cX1_2; replace cX1_3 := cL hb cX1_3
  replace sX1 : w.heap.size + 1 < w2.heap.size ∧ w.heap.size < w2.heap.size := by have h : w.heap.size + 1 < w2.heap.size := bL cX1_0; exact ⟨h, by omega⟩
  replace fX2_0 := fL hb cX2_0 fX2_0; replace fX2_1 := fL hb cX2_1 fX2_1; replace fX2_2 := fL hb cX2_2 fX2_2
  replace cX2_0 := cL hb cX2_0; replace cX2_1 := cL hb cX2_1; replace cX2_2 := cL hb cX2_2
  replace sX2 : w.heap.size + 1 + 1 < w2.heap.size ∧ w.heap.size + 1 < w2.heap.size := by have h : w.heap.size + 1 + 1 < w2.heap.size := bL cX2_0; exact ⟨h, by omega⟩
  replace kk := bC kk hb
  clear hb
  go_wp2_with fail
  refine wp_region_noPanic ?_
  refine wp_region_held_drew (S := fun w' => w'.cell? ⟨w.heap.size + 1, 1, none⟩ = some (.slice ao kl cap) ∧ w'.cell? ⟨w.heap.size + 1, 2, none⟩ = some (.int .i64 E) ∧ True) (by kernel_rfl) ⟨cL (Below.refl _ _).drew cX1_1, cL (Below.refl _ _).drew cX1_2, trivial⟩ (fun hHeld => ?_)
  replace nv := nv.later (Below.refl _ _).drew
  replace cX0_0 := cL (Below.refl _ _).drew cX0_0; replace cX0_1 := cL (Below.refl _ _).drew cX0_1
  replace cX1_0 := cL (Below.refl _ _).drew cX1_0; replace cX1_1 := cL (Below.refl _ _).drew cX1_1; replace cX1_2 := cL (Below.refl _ _).drew cX1_2; replace cX1_3 := cL (Below.refl _ _).drew cX1_3
  replace fX2_0 := fL (Below.refl _ _).drew cX2_0 fX2_0; replace fX2_1 := fL (Below.refl _ _).drew cX2_1 fX2_1; replace fX2_2 := fL (Below.refl _ _).drew cX2_2 fX2_2
  replace cX2_0 := cL (Below.refl _ _).drew cX2_0; replace cX2_1 := cL (Below.refl _ _).drew cX2_1; replace cX2_2 := cL (Below.refl _ _).drew cX2_2
  replace kk := bC kk (Below.refl _ _).drew
  refine wpAnyH_take (i := 0) (v := ?vq131) rfl (by kernel_rfl) (by kernel_rfl) (by kernel_rfl) (fun _ _ _ h => h) (Or.inl ⟨by rfl, ?yq131⟩) hHeld ?rq131
  case yq131 => (intro wq hb; obtain ⟨lq0, lq1, _⟩ := hb; go_simp; try (with_reducible rfl))
  try simp only [zA, zB, zC, Act.put, zD, zE, zF]
  refine wpAnyH_take (i := 1) (v := ?vq132) rfl (by kernel_rfl) (by kernel_rfl) (by kernel_rfl) (fun _ _ _ h => h) (Or.inl ⟨by rfl, ?yq132⟩) hHeld ?rq132
  case yq132 => (intro wq hb; obtain ⟨lq0, lq1, _⟩ := hb; go_simp; try (with_reducible rfl))
  try simp only [zA, zB, zC, Act.put, zD, zE, zF]
  refine wpAnyH_take (i := 4) (v := ?vq133) rfl (by kernel_rfl) (by kernel_rfl) (by kernel_rfl) (fun _ _ _ h => h) (Or.inl ⟨by rfl, ?yq133⟩) hHeld ?rq133
  case yq133 => (intro wq hb; obtain ⟨lq0, lq1, _⟩ := hb; go_simp; try (with_reducible rfl))
  try simp only [zA, zB, zC, Act.put, zD, zE, zF]
  refine wpAnyH_take (i := 5) (v := ?vq134) rfl (by kernel_rfl) (by kernel_rfl) (by kernel_rfl) (fun _ _ _ h => h) (Or.inl ⟨by rfl, ?yq134⟩) hHeld ?rq134
  case yq134 => (intro wq hb; obtain ⟨lq0, lq1, _⟩ := hb; go_simp; try (with_reducible rfl))
  try simp only [zA, zB, zC, Act.put, zD, zE, zF]
  clear hHeld
  refine wpAnyH_ready (rs := [2]) (by kernel_rfl) (by simp) ?_
  refine AllReadyH.cons rfl (fun K hK => ?_) AllReadyH.nil
  go_simp
  (with_reducible refine (LX.out _ _ nv).mono ?_); rintro e w4 ⟨rfl, hb⟩
  replace nv := nv.later hb
  replace cX0_0 := cL hb cX0_0; replace cX0_1 := cL hb cX0_1
  replace cX1_0 := cL hb cX1_0; replace cX1_1 := cL hb cX1_1; replace cX1_2 := cL hb cX1_2; replace cX1_3 := cL hb cX1_3
  replace fX2_0 := fL hb cX2_0 fX2_0; replace fX2_1 := fL hb cX2_1 fX2_1; replace fX2_2 := fL hb cX2_2 fX2_2
  replace cX2_0 := cL hb cX2_0; replace cX2_1 := cL hb cX2_1; replace cX2_2 := cL hb cX2_2
  replace kk := bC kk hb
  clear hb
  refine hK.out _ _ ⟨cX1_1, cX1_2, trivial⟩ (fun hHeld => ?_)
  clear hK K
  try simp only [zA, zB, zC, Act.put, zD, zE, zF]
  refine wpAnyH_take (i := 3) (v := ?vq135) rfl (by kernel_rfl) (by kernel_rfl) (by kernel_rfl) (fun _ _ _ h => h) (Or.inl ⟨by rfl, ?yq135⟩) hHeld ?rq135
  case yq135 => (intro wq hb; obtain ⟨lq0, lq1, _⟩ := hb; go_simp; try (with_reducible rfl))
  try simp only [zA, zB, zC, Act.put, zD, zE, zF]
  refine wpAnyH_take (i := 6) (v := ?vq136) rfl (by kernel_rfl) (by kernel_rfl) (by kernel_rfl) (fun _ _ _ h => h) (Or.inl ⟨by rfl, ?yq136⟩) hHeld ?rq136
  case yq136 => (intro wq hb; obtain ⟨lq0, lq1, _⟩ := hb; go_simp; try (with_reducible rfl))
  try simp only [zA, zB, zC, Act.put, zD, zE, zF]
  refine wpAnyH_take (i := 7) (v := ?vq137) rfl (by kernel_rfl) (by kernel_rfl) (by kernel_rfl) (fun _ _ _ h => h) (Or.inl ⟨by rfl, ?yq137⟩) hHeld ?rq137
  case yq137 => (intro wq hb; obtain ⟨lq0, lq1, _⟩ := hb; go_simp; try (with_reducible rfl))
  try simp only [zA, zB, zC, Act.put, zD, zE, zF]
  clear hHeld
  refine wpAnyH_done (by kernel_rfl) ?_ _
  refine NoPanic.normal ?_
  replace sX0 : w.heap.size < w4.heap.size := bL cX0_0
  replace sX1 : w.heap.size + 1 < w4.heap.size ∧ w.heap.size < w4.heap.size := by have h : w.heap.size + 1 < w4.heap.size := bL cX1_0; exact ⟨h, by omega⟩
  replace sX2 : w.heap.size + 1 + 1 < w4.heap.size ∧ w.heap.size + 1 < w4.heap.size := by have h : w.heap.size + 1 + 1 < w4.heap.size := bL cX2_0; exact ⟨h, by omega⟩
  go_wp2_with fail
  (with_reducible refine (C1.out _ _ nv).mono ?_); rintro e w5 ⟨y1, rfl, ny1, hb⟩
  replace nv := nv.later hb
  replace cX0_0 := cL hb cX0_0; replace cX0_1 := cL hb cX0_1
  replace sX0 : w.heap.size < w5.heap.size := bL cX0_0
  replace cX1_0 := cL hb cX1_0; replace cX1_1 := cL hb cX1_1; replace cX1_2 := cL hb cX1_2; replace cX1_3 := cL hb cX1_3
  replace sX1 : w.heap.size + 1 < w5.heap.size ∧ w.heap.size < w5.heap.size := by have h : w.heap.size + 1 < w5.heap.size := bL cX1_0; exact ⟨h, by omega⟩
  replace fX2_0 := fL hb cX2_0 fX2_0; replace fX2_1 := fL hb cX2_1 fX2_1; replace fX2_2 := fL hb cX2_2 fX2_2
  replace cX2_0 := cL hb cX2_0; replace cX2_1 := cL hb cX2_1; replace cX2_2 := cL hb cX2_2
  replace sX2 : w.heap.size + 1 + 1 < w5.heap.size ∧ w.heap.size + 1 < w5.heap.size := by have h : w.heap.size + 1 + 1 < w5.heap.size := bL cX2_0; exact ⟨h, by omega⟩
  replace kk := bC kk hb
  clear hb
  go_wp2_with fail
  (with_reducible refine (LY.out _ _ ny1).mono ?_); rintro e w6 ⟨rfl, hb⟩
  replace nv := nv.later hb
  replace ny1 := ny1.later hb
  replace cX0_0 := cL hb cX0_0; replace cX0_1 := cL hb cX0_1
  replace sX0 : w.heap.size < w6.heap.size := bL cX0_0
  replace cX1_0 := cL hb cX1_0; replace cX1_1 := cL hb cX1_1; replace cX1_2 := cL hb cX1_2; replace cX1_3 := cL hb cX1_3
  replace sX1 : w.heap.size + 1 < w6.heap.size ∧ w.heap.size < w6.heap.size := by have h : w.heap.size + 1 < w6.heap.size := bL cX1_0; exact ⟨h, by omega⟩
  replace fX2_0 := fL hb cX2_0 fX2_0; replace fX2_1 := fL hb cX2_1 fX2_1; replace fX2_2 := fL hb cX2_2 fX2_2
  replace cX2_0 := cL hb cX2_0; replace cX2_1 := cL hb cX2_1; replace cX2_2 := cL hb cX2_2
  replace sX2 : w.heap.size + 1 + 1 < w6.heap.size ∧ w.heap.size + 1 < w6.heap.size := by have h : w.heap.size + 1 + 1 < w6.heap.size := bL cX2_0; exact ⟨h, by omega⟩
  replace kk := bC kk hb
  clear hb
  clear ny1
  go_wp2_with fail
  (with_reducible refine (h1.out _).mono ?_); rintro e w7 ⟨rfl, hb⟩
  replace nv := nv.later hb
  replace cX0_0 := cL hb cX0_0; replace cX0_1 := cL hb cX0_1
  replace sX0 : w.heap.size < w7.heap.size := bL cX0_0
  replace cX1_0 := cL hb cX1_0; replace cX1_1 := cL hb cX1_1; replace cX1_2 := cL hb cX1_2; replace cX1_3 := cL hb cX1_3
  replace sX1 : w.heap.size + 1 < w7.heap.size ∧ w.heap.size < w7.heap.size := by have h : w.heap.size + 1 < w7.heap.size := bL cX1_0; exact ⟨h, by omega⟩
  replace fX2_0 := fL hb cX2_0 fX2_0; replace fX2_1 := fL hb cX2_1 fX2_1; replace fX2_2 := fL hb cX2_2 fX2_2
  replace cX2_0 := cL hb cX2_0; replace cX2_1 := cL hb cX2_1; replace cX2_2 := cL hb cX2_2
  replace sX2 : w.heap.size + 1 + 1 < w7.heap.size ∧ w.heap.size + 1 < w7.heap.size := by have h : w.heap.size + 1 + 1 < w7.heap.size := bL cX2_0; exact ⟨h, by omega⟩
  replace kk := bC kk hb
  clear hb
  go_wp2_with fail
  (with_reducible refine (C2.out _ _ nv).mono ?_); rintro e w8 ⟨y2, rfl, ny2, hb⟩
  replace nv := nv.later hb
  clear cX0_0 cX0_1 sX0
  replace cX1_0 := cL hb cX1_0; replace cX1_1 := cL hb cX1_1; replace cX1_2 := cL hb cX1_2; replace cX1_3 := cL hb cX1_3
  replace sX1 : w.heap.size + 1 < w8.heap.size ∧ w.heap.size < w8.heap.size := by have h : w.heap.size + 1 < w8.heap.size := bL cX1_0; exact ⟨h, by omega⟩
  replace fX2_0 := fL hb cX2_0 fX2_0; replace fX2_1 := fL hb cX2_1 fX2_1; replace fX2_2 := fL hb cX2_2 fX2_2
  replace cX2_0 := cL hb cX2_0; replace cX2_1 := cL hb cX2_1; replace cX2_2 := cL hb cX2_2
  replace sX2 : w.heap.size + 1 + 1 < w8.heap.size ∧ w.heap.size + 1 < w8.heap.size := by have h : w.heap.size + 1 + 1 < w8.heap.size := bL cX2_0; exact ⟨h, by omega⟩
  replace kk := bC kk hb
  clear hb
  clear nv
  go_wp2_with fail
  replace ny2 := ny2.later (bA (Below.refl _ _) (.cells #[.int .u64 0, .int .u64 0, .int .u8 0] 33))
  (with_reducible refine (LZ.out _ _ ny2).mono ?_); rintro e w9 ⟨rfl, hb⟩
  have hz := bC (bA (Below.refl _ _) _) hb
  replace ny2 := ny2.later hb
  have nX1_X3 : w.heap.size + 1 < w8.heap.size := by omega
  have nX2_X3 : w.heap.size + 1 + 1 < w8.heap.size := by omega
  have gX3 : w.heap.size ≤ w8.heap.size := by have := kk.size; omega
  replace cX1_0 := cL hz cX1_0; replace cX1_1 := cL hz cX1_1; replace cX1_2 := cL hz cX1_2; replace cX1_3 := cL hz cX1_3
  replace sX1 : w.heap.size + 1 < w9.heap.size ∧ w.heap.size < w9.heap.size := by have h : w.heap.size + 1 < w9.heap.size := bL cX1_0; exact ⟨h, by omega⟩
  replace fX2_0 := fL hz cX2_0 fX2_0; replace fX2_1 := fL hz cX2_1 fX2_1; replace fX2_2 := fL hz cX2_2 fX2_2
  replace cX2_0 := cL hz cX2_0; replace cX2_1 := cL hz cX2_1; replace cX2_2 := cL hz cX2_2
  replace sX2 : w.heap.size + 1 + 1 < w9.heap.size ∧ w.heap.size + 1 < w9.heap.size := by have h : w.heap.size + 1 + 1 < w9.heap.size := bL cX2_0; exact ⟨h, by omega⟩
  have cX3_0 := cL hb (a := ⟨w8.heap.size, 0, none⟩) (v := .int .u64 0) (by go_simp)
  have cX3_1 := cL hb (a := ⟨w8.heap.size, 1, none⟩) (v := .int .u64 0) (by go_simp)
  have cX3_2 := cL hb (a := ⟨w8.heap.size, 2, none⟩) (v := .int .u8 0) (by go_simp)
  have sX3 : w8.heap.size < w9.heap.size := bL cX3_0
  have fX3_0 := fL hb (a := ⟨w8.heap.size, 0, none⟩) (v := .int .u64 0) (by go_simp) (by go_simp)
  have fX3_1 := fL hb (a := ⟨w8.heap.size, 1, none⟩) (v := .int .u64 0) (by go_simp) (by go_simp)
  have fX3_2 := fL hb (a := ⟨w8.heap.size, 2, none⟩) (v := .int .u8 0) (by go_simp) (by go_simp)
  replace kk := bC kk hz
  clear hb hz
  go_wp2_with fail
  (with_reducible refine (MK.out _ _ ny2).mono ?_); rintro e w10 ⟨rfl, hb⟩
  replace ny2 := ny2.later hb
  clear cX1_0 cX1_1 cX1_2 cX1_3 sX1
  replace fX2_0 := fL hb cX2_0 fX2_0; replace fX2_1 := fL hb cX2_1 fX2_1; replace fX2_2 := fL hb cX2_2 fX2_2
  replace cX2_0 := cL hb cX2_0; replace cX2_1 := cL hb cX2_1; replace cX2_2 := cL hb cX2_2
  replace sX2 : w.heap.size + 1 + 1 < w10.heap.size ∧ w.heap.size + 1 < w10.heap.size := by have h : w.heap.size + 1 + 1 < w10.heap.size := bL cX2_0; exact ⟨h, by omega⟩
  replace fX3_0 := fL hb cX3_0 fX3_0; replace fX3_1 := fL hb cX3_1 fX3_1; replace fX3_2 := fL hb cX3_2 fX3_2
  replace cX3_0 := cL hb cX3_0; replace cX3_1 := cL hb cX3_1; replace cX3_2 := cL hb cX3_2
  replace sX3 : w8.heap.size < w10.heap.size := bL cX3_0
  replace kk := bC kk hb
  clear hb
  clear ny2
  have KEY : Hid ((fun W : World => W.cell? ⟨w.heap.size + 1 + 1, 0, none⟩ = some (.int .u64 rh) ∧ W.cell? ⟨w.heap.size + 1 + 1, 1, none⟩ = some (.int .u64 rl) ∧ W.cell? ⟨w.heap.size + 1 + 1, 2, none⟩ = some (.int .u8 0) ∧ Below w.heap.size w W) (((((w10.setCell ⟨w8.heap.size, 0, none⟩ (.int .u64 rh)).setCell ⟨w8.heap.size, 1, none⟩ (.int .u64 rl)).setCell ⟨w.heap.size + 1 + 1, 0, none⟩ (.int .u64 rh)).setCell ⟨w.heap.size + 1 + 1, 1, none⟩ (.int .u64 rl)).setCell ⟨w.heap.size + 1 + 1, 2, none⟩ (.int .u8 0))) := Lib.hid ⟨by go_simp, by go_simp, by go_simp, (((((kk.setCell (p := ⟨w8.heap.size, 0, none⟩) gX3 _).setCell (p := ⟨w8.heap.size, 1, none⟩) gX3 _).setCell (p := ⟨w.heap.size + 1 + 1, 0, none⟩) gX2 _).setCell (p := ⟨w.heap.size + 1 + 1, 1, none⟩) gX2 _).setCell (p := ⟨w.heap.size + 1 + 1, 2, none⟩) gX2 _)⟩
  go_wp2_with fail
  obtain ⟨e0, e1, e2, kb⟩ := KEY.out
  clear KEY cX2_0 cX2_1 cX2_2 fX2_0 fX2_1 fX2_2
  refine bodyPost_ret (v := .agg #[.int .u64 rh, .int .u64 rl, .int .u8 0]) ?_ rfl ⟨rfl, kb⟩
  simp [results, Tryz.results7, go_sem, e0, e1, e2]

set_option maxHeartbeats 4000000 in
set_option maxRecDepth 100000 in
theorem ref16_sub_00 (ao : Option Addr) (kl cap : Nat) (f m E X p em ls L1 a1 e1 p1 a2 n1 Y1 r1 L2 a3 a4 ow mx un n2 Y2 r2 L3 rh rl : Int) (ng more : Bool)
    (h0 : Hid (∀ w, Calls Tryz.prog 22 #[.int .u8 f] w fun e w' => e = .returned (.int .i64 p) ∧ Below w.heap.size w w'))
    (h1 : Hid (∀ w, Calls Tryz.prog 23 #[.int .u8 f] w fun e w' => e = .returned (.int .i64 em) ∧ Below w.heap.size w w')) (g1 : decide (3 < f) = false) (g2 : decide (4 < m) = false) (hz : ((kl : Int) == 0) = false) (w1 : IntKind.i64.wrap (1 - em) = ls) (w1x : wrap64 (1 - em) = ls) (w2 : IntKind.i64.wrap (L1 - 1) = a1) (w2x : wrap64 (L1 - 1) = a1) (w3 : IntKind.i64.wrap (a1 + E) = e1) (w3x : wrap64 (a1 + E) = e1) (w4 : IntKind.i64.wrap (p - 1) = p1) (w4x : wrap64 (p - 1) = p1) (w5 : IntKind.i64.wrap (e1 - p1) = a2) (w5x : wrap64 (e1 - p1) = a2) (w6 : IntKind.i64.wrap (a2 - E) = n1) (w6x : wrap64 (a2 - E) = n1) (w7 : IntKind.i64.wrap (L2 - 1) = a3) (w7x : wrap64 (L2 - 1) = a3) (w8 : IntKind.i64.wrap (a3 + e1) = a4) (w8x : wrap64 (a3 + e1) = a4) (w9 : IntKind.i64.wrap (a4 - p1) = ow) (w9x : wrap64 (a4 - p1) = ow) (q1 : (if ls > e1 then ls else e1) = mx) (q1' : (if e1 < ls then ls else e1) = mx) (v1 : IntKind.i64.wrap (mx - p1) = un) (v1x : wrap64 (mx - p1) = un) (v2 : IntKind.i64.wrap (un - E) = n2) (v2x : wrap64 (un - E) = n2) (LX : Hid (∀ w v, IsNum w v X → Calls Tryz.prog 24 #[v] w fun e w' => e = .returned (.int .i64 L1) ∧ Below w.heap.size w w')) (C1 : Hid (∀ w v, IsNum w v X → Calls Tryz.prog 25 #[v, .int .i64 n1, .bool more, .int .u8 m, .bool ng] w fun e w' => ∃ u, e = .returned (.tuple #[u, .int .i64 r1]) ∧ IsNum w' u Y1 ∧ Below w.heap.size w w')) (LY : Hid (∀ w v, IsNum w v Y1 → Calls Tryz.prog 24 #[v] w fun e w' => e = .returned (.int .i64 L2) ∧ Below w.heap.size w w')) (g3 : decide (em < ow) = false) (C2 : Hid (∀ w v, IsNum w v X → Calls Tryz.prog 25 #[v, .int .i64 n2, .bool more, .int .u8 m, .bool ng] w fun e w' => ∃ u, e = .returned (.tuple #[u, .int .i64 r2]) ∧ IsNum w' u Y2 ∧ Below w.heap.size w w')) (LZ : Hid (∀ w v, IsNum w v Y2 → Calls Tryz.prog 24 #[v] w fun e w' => e = .returned (.int .i64 L3) ∧ Below w.heap.size w w')) (g4 : decide (L3 < p) = true) (MK : Hid (∀ w v, IsNum w v Y2 → Calls Tryz.prog 21 #[.int .u8 f, .bool ng, .int .i64 0, v] w fun e w' => e = .returned (.agg #[.int .u64 rh, .int .u64 rl]) ∧ Below w.heap.size w w')) (g5 : (r2 == 0) = false) (g6 : decide (e1 < ls) = false) (w : World) (nv : IsNum w (.slice ao kl cap) (X)) :
    Calls Tryz.prog 7 #[.int .u8 f, .agg #[.int .u8 m, .bool false], .agg #[.bool ng, .slice ao kl cap, .int .i64 E, .bool more]] w fun e w' => e = .returned (.agg #[.int .u64 rh, .int .u64 rl, .int .u8 16]) ∧ Below w.heap.size w w' := by
  go_enter Tryz.func7, Tryz.ntmps7
  go_wp2_with fail
  (with_reducible refine (h0.out _).mono ?_); rintro e w1 ⟨rfl, hb⟩
  have hz := bC (bA (bA (bA (Below.refl _ _) _) _) _) hb
  replace nv := nv.later hz
  have gX2 : w.heap.size ≤ w.heap.size + 1 + 1 := by omega
  have cX0_0 := cL hb (a := ⟨w.heap.size, 0, none⟩) (v := .int .u8 m) (by go_simp)
  have cX0_1 := cL hb (a := ⟨w.heap.size, 1, none⟩) (v := .bool false) (by go_simp)
  have sX0 : w.heap.size < w1.heap.size := bL cX0_0
  have cX1_0 := cL hb (a := ⟨w.heap.size + 1, 0, none⟩) (v := .bool ng) (by go_simp)
  have cX1_1 := cL hb (a := ⟨w.heap.size + 1, 1, none⟩) (v := .slice ao kl cap) (by go_simp)
  have cX1_2 := cL hb (a := ⟨w.heap.size + 1, 2, none⟩) (v := .int .i64 E) (by go_simp)
  have cX1_3 := cL hb (a := ⟨w.heap.size + 1, 3, none⟩) (v := .bool more) (by go_simp)
  have sX1 : w.heap.size + 1 < w1.heap.size ∧ w.heap.size < w1.heap.size := by have h : w.heap.size + 1 < w1.heap.size := bL cX1_0; exact ⟨h, by omega⟩
  have cX2_0 := cL hb (a := ⟨w.heap.size + 1 + 1, 0, none⟩) (v := .int .u64 0) (by go_simp)
  have cX2_1 := cL hb (a := ⟨w.heap.size + 1 + 1, 1, none⟩) (v := .int .u64 0) (by go_simp)
  have cX2_2 := cL hb (a := ⟨w.heap.size + 1 + 1, 2, none⟩) (v := .int .u8 0) (by go_simp)
  have sX2 : w.heap.size + 1 + 1 < w1.heap.size ∧ w.heap.size + 1 < w1.heap.size := by have h : w.heap.size + 1 + 1 < w1.heap.size := bL cX2_0; exact ⟨h, by omega⟩
  have fX2_0 := fL hb (a := ⟨w.heap.size + 1 + 1, 0, none⟩) (v := .int .u64 0) (by go_simp) (by go_simp)
  have fX2_1 := fL hb (a := ⟨w.heap.size + 1 + 1, 1, none⟩) (v := .int .u64 0) (by go_simp) (by go_simp)
  have fX2_2 := fL hb (a := ⟨w.heap.size + 1 + 1, 2, none⟩) (v := .int .u8 0) (by go_simp) (by go_simp)
  have kk := hz
  clear hb hz
  go_wp2_with fail
  (with_reducible refine (h1.out _).mono ?_); rintro e w2 ⟨rfl, hb⟩
  replace nv := nv.later hb
  replace cX0_0 := cL hb cX0_0; replace cX0_1 := cL hb cX0_1
  replace sX0 : w.heap.size < w2.heap.size := bL cX0_0
  replace cX1_0 := cL hb cX1_0; replace cX1_1 := cL hb cX1_1; replace cX1_2 := cL hb cX1_2; replace cX1_3 := cL hb cX1_3
  replace sX1 : w.heap.size + 1 < w2.heap.size ∧ w.heap.size < w2.heap.size := by have h : w.heap.size + 1 < w2.heap.size := bL cX1_0; exact ⟨h, by omega⟩
  replace fX2_0 := fL hb cX2_0 fX2_0; replace fX2_1 := fL hb cX2_1 fX2_1; replace fX2_2 := fL hb cX2_2 fX2_2
  replace cX2_0 := cL hb cX2_0; replace cX2_1 := cL hb cX2_1; replace cX2_2 := cL hb cX2_2
  replace sX2 : w.heap.size + 1 + 1 < w2.heap.size ∧ w.heap.size + 1 < w2.heap.size := by have h : w.heap.size + 1 + 1 < w2.heap.size := bL cX2_0; exact ⟨h, by omega⟩
  replace kk := bC kk hb
  clear hb
  go_wp2_with fail
  refine wp_region_noPanic ?_
  refine wp_region_held_drew (S := fun w' => w'.cell? ⟨w.heap.size + 1, 1, none⟩ = some (.slice ao kl cap) ∧ w'.cell? ⟨w.heap.size + 1, 2, none⟩ = some (.int .i64 E) ∧ True) (by kernel_rfl) ⟨cL (Below.refl _ _).drew cX1_1, cL (Below.refl _ _).drew cX1_2, trivial⟩ (fun hHeld => ?_)
  replace nv := nv.later (Below.refl _ _).drew
  replace cX0_0 := cL (Below.refl _ _).drew cX0_0; replace cX0_1 := cL (Below.refl _ _).drew cX0_1
  replace cX1_0 := cL (Below.refl _ _).drew cX1_0; replace cX1_1 := cL (Below.refl _ _).drew cX1_1; replace cX1_2 := cL (Below.refl _ _).drew cX1_2; replace cX1_3 := cL (Below.refl _ _).drew cX1_3
  replace fX2_0 := fL (Below.refl _ _).drew cX2_0 fX2_0; replace fX2_1 := fL (Below.refl _ _).drew cX2_1 fX2_1; replace fX2_2 := fL (Below.refl _ _).drew cX2_2 fX2_2
  replace cX2_0 := cL (Below.refl _ _).drew cX2_0; replace cX2_1 := cL (Below.refl _ _).drew cX2_1; replace cX2_2 := cL (Below.refl _ _).drew cX2_2
  replace kk := bC kk (Below.refl _ _).drew
  refine wpAnyH_take (i := 0) (v := ?vq138) rfl (by kernel_rfl) (by kernel_rfl) (by kernel_rfl) (fun _ _ _ h => h) (Or.inl ⟨by rfl, ?yq138⟩) hHeld ?rq138
  case yq138 => (intro wq hb; obtain ⟨lq0, lq1, _⟩ := hb; go_simp; try (with_reducible rfl))
  try simp only [zA, zB, zC, Act.put, zD, zE, zF]
  refine wpAnyH_take (i := 1) (v := ?vq139) rfl (by kernel_rfl) (by kernel_rfl) (by kernel_rfl) (fun _ _ _ h => h) (Or.inl ⟨by rfl, ?yq139⟩) hHeld ?rq139
  case yq139 => (intro wq hb; obtain ⟨lq0, lq1, _⟩ := hb; go_simp; try (with_reducible rfl))
  try simp only [zA, zB, zC, Act.put, zD, zE, zF]
  refine wpAnyH_take (i := 4) (v := ?vq140) rfl (by kernel_rfl) (by kernel_rfl) (by kernel_rfl) (fun _ _ _ h => h) (Or.inl ⟨by rfl, ?yq140⟩) hHeld ?rq140
  case yq140 => (intro wq hb; obtain ⟨lq0, lq1, _⟩ := hb; go_simp; try (with_reducible rfl))
  try simp only [zA, zB, zC, Act.put, zD, zE, zF]
  refine wpAnyH_take (i := 5) (v := ?vq141) rfl (by kernel_rfl) (by kernel_rfl) (by kernel_rfl) (fun _ _ _ h => h) (Or.inl ⟨by rfl, ?yq141⟩) hHeld ?rq141
  case yq141 => (intro wq hb; obtain ⟨lq0, lq1, _⟩ := hb; go_simp; try (with_reducible rfl))
  try simp only [zA, zB, zC, Act.put, zD, zE, zF]
  clear hHeld
  refine wpAnyH_ready (rs := [2]) (by kernel_rfl) (by simp) ?_
  refine AllReadyH.cons rfl (fun K hK => ?_) AllReadyH.nil
  go_simp
  (with_reducible refine (LX.out _ _ nv).mono ?_); rintro e w4 ⟨rfl, hb⟩
  replace nv := nv.later hb
  replace cX0_0 := cL hb cX0_0; replace cX0_1 := cL hb cX0_1
  replace cX1_0 := cL hb cX1_0; replace cX1_1 := cL hb cX1_1; replace cX1_2 := cL hb cX1_2; replace cX1_3 := cL hb cX1_3
  replace fX2_0 := fL hb cX2_0 fX2_0; replace fX2_1 := fL hb cX2_1 fX2_1; replace fX2_2 := fL hb cX2_2 fX2_2
  replace cX2_0 := cL hb cX2_0; replace cX2_1 := cL hb cX2_1; replace cX2_2 := cL hb cX2_2
  replace kk := bC kk hb
  clear hb
  refine hK.out _ _ ⟨cX1_1, cX1_2, trivial⟩ (fun hHeld => ?_)
  clear hK K
  try simp only [zA, zB, zC, Act.put, zD, zE, zF]
  refine wpAnyH_take (i := 3) (v := ?vq142) rfl (by kernel_rfl) (by kernel_rfl) (by kernel_rfl) (fun _ _ _ h => h) (Or.inl ⟨by rfl, ?yq142⟩) hHeld ?rq142
  case yq142 => (intro wq hb; obtain ⟨lq0, lq1, _⟩ := hb; go_simp; try (with_reducible rfl))
  try simp only [zA, zB, zC, Act.put, zD, zE, zF]
  refine wpAnyH_take (i := 6) (v := ?vq143) rfl (by kernel_rfl) (by kernel_rfl) (by kernel_rfl) (fun _ _ _ h => h) (Or.inl ⟨by rfl, ?yq143⟩) hHeld ?rq143
  case yq143 => (intro wq hb; obtain ⟨lq0, lq1, _⟩ := hb; go_simp; try (with_reducible rfl))
  try simp only [zA, zB, zC, Act.put, zD, zE, zF]
  refine wpAnyH_take (i := 7) (v := ?vq144) rfl (by kernel_rfl) (by kernel_rfl) (by kernel_rfl) (fun _ _ _ h => h) (Or.inl ⟨by rfl, ?yq144⟩) hHeld ?rq144
  case yq144 => (intro wq hb; obtain ⟨lq0, lq1, _⟩ := hb; go_simp; try (with_reducible rfl))
  try simp only [zA, zB, zC, Act.put, zD, zE, zF]
  clear hHeld
  refine wpAnyH_done (by kernel_rfl) ?_ _
  refine NoPanic.normal ?_
  replace sX0 : w.heap.size < w4.heap.size := bL cX0_0
  replace sX1 : w.heap.size + 1 < w4.heap.size ∧ w.heap.size < w4.heap.size := by have h : w.heap.size + 1 < w4.heap.size := bL cX1_0; exact ⟨h, by omega⟩
  replace sX2 : w.heap.size + 1 + 1 < w4.heap.size ∧ w.heap.size + 1 < w4.heap.size := by have h : w.heap.size + 1 + 1 < w4.heap.size := bL cX2_0; exact ⟨h, by omega⟩
  go_wp2_with fail
  (with_reducible refine (C1.out _ _ nv).mono ?_); rintro e w5 ⟨y1, rfl, ny1, hb⟩
  replace nv := nv.later hb
  replace cX0_0 := cL hb cX0_0; replace cX0_1 := cL hb cX0_1
  replace sX0 : w.heap.size < w5.heap.size := bL cX0_0
  replace cX1_0 := cL hb cX1_0; replace cX1_1 := cL hb cX1_1; replace cX1_2 := cL hb cX1_2; replace cX1_3 := cL hb cX1_3
  replace sX1 : w.heap.size + 1 < w5.heap.size ∧ w.heap.size < w5.heap.size := by have h : w.heap.size + 1 < w5.heap.size := bL cX1_0; exact ⟨h, by omega⟩
  replace fX2_0 := fL hb cX2_0 fX2_0; replace fX2_1 := fL hb cX2_1 fX2_1; replace fX2_2 := fL hb cX2_2 fX2_2
  replace cX2_0 := cL hb cX2_0; replace cX2_1 := cL hb cX2_1; replace cX2_2 := cL hb cX2_2
  replace sX2 : w.heap.size + 1 + 1 < w5.heap.size ∧ w.heap.size + 1 < w5.heap.size := by have h : w.heap.size + 1 + 1 < w5.heap.size := bL cX2_0; exact ⟨h, by omega⟩
  replace kk := bC kk hb
  clear hb
  go_wp2_with fail
  (with_reducible refine (LY.out _ _ ny1).mono ?_); rintro e w6 ⟨rfl, hb⟩
  replace nv := nv.later hb
  replace ny1 := ny1.later hb
  replace cX0_0 := cL hb cX0_0; replace cX0_1 := cL hb cX0_1
  replace sX0 : w.heap.size < w6.heap.size := bL cX0_0
  replace cX1_0 := cL hb cX1_0; replace cX1_1 := cL hb cX1_1; replace cX1_2 := cL hb cX1_2; replace cX1_3 := cL hb cX1_3
  replace sX1 : w.heap.size + 1 < w6.heap.size ∧ w.heap.size < w6.heap.size := by have h : w.heap.size + 1 < w6.heap.size := bL cX1_0; exact ⟨h, by omega⟩
  replace fX2_0 := fL hb cX2_0 fX2_0; replace fX2_1 := fL hb cX2_1 fX2_1; replace fX2_2 := fL hb cX2_2 fX2_2
  replace cX2_0 := cL hb cX2_0; replace cX2_1 := cL hb cX2_1; replace cX2_2 := cL hb cX2_2
  replace sX2 : w.heap.size + 1 + 1 < w6.heap.size ∧ w.heap.size + 1 < w6.heap.size := by have h : w.heap.size + 1 + 1 < w6.heap.size := bL cX2_0; exact ⟨h, by omega⟩
  replace kk := bC kk hb
  clear hb
  clear ny1
  go_wp2_with fail
  (with_reducible refine (h1.out _).mono ?_); rintro e w7 ⟨rfl, hb⟩
  replace nv := nv.later hb
  replace cX0_0 := cL hb cX0_0; replace cX0_1 := cL hb cX0_1
  replace sX0 : w.heap.size < w7.heap.size := bL cX0_0
  replace cX1_0 := cL hb cX1_0; replace cX1_1 := cL hb cX1_1; replace cX1_2 := cL hb cX1_2; replace cX1_3 := cL hb cX1_3
  replace sX1 : w.heap.size + 1 < w7.heap.size ∧ w.heap.size < w7.heap.size := by have h : w.heap.size + 1 < w7.heap.size := bL cX1_0; exact ⟨h, by omega⟩
  replace fX2_0 := fL hb cX2_0 fX2_0; replace fX2_1 := fL hb cX2_1 fX2_1; replace fX2_2 := fL hb cX2_2 fX2_2
  replace cX2_0 := cL hb cX2_0; replace cX2_1 := cL hb cX2_1; replace cX2_2 := cL hb cX2_2
  replace sX2 : w.heap.size + 1 + 1 < w7.heap.size ∧ w.heap.size + 1 < w7.heap.size := by have h : w.heap.size + 1 + 1 < w7.heap.size := bL cX2_0; exact ⟨h, by omega⟩
  replace kk := bC kk hb
  clear hb
  go_wp2_with fail
  (with_reducible refine (C2.out _ _ nv).mono ?_); rintro e w8 ⟨y2, rfl, ny2, hb⟩
  replace nv := nv.later hb
  replace cX0_0 := cL hb cX0_0; replace cX0_1 := cL hb cX0_1
  replace sX0 : w.heap.size < w8.heap.size := bL cX0_0
  replace cX1_0 := cL hb cX1_0; replace cX1_1 := cL hb cX1_1; replace cX1_2 := cL hb cX1_2; replace cX1_3 := cL hb cX1_3
  replace sX1 : w.heap.size + 1 < w8.heap.size ∧ w.heap.size < w8.heap.size := by have h : w.heap.size + 1 < w8.heap.size := bL cX1_0; exact ⟨h, by omega⟩
  replace fX2_0 := fL hb cX2_0 fX2_0; replace fX2_1 := fL hb cX2_1 fX2_1; replace fX2_2 := fL hb cX2_2 fX2_2
  replace cX2_0 := cL hb cX2_0; replace cX2_1 := cL hb cX2_1; replace cX2_2 := cL hb cX2_2
  replace sX2 : w.heap.size + 1 + 1 < w8.heap.size ∧ w.heap.size + 1 < w8.heap.size := by have h : w.heap.size + 1 + 1 < w8.heap.size := bL cX2_0; exact ⟨h, by omega⟩
  replace kk := bC kk hb
  clear hb
  clear nv
  go_wp2_with fail
  replace ny2 := ny2.later (bA (Below.refl _ _) (.cells #[.int .u64 0, .int .u64 0, .int .u8 0] 33))
  (with_reducible refine (LZ.out _ _ ny2).mono ?_); rintro e w9 ⟨rfl, hb⟩
  have hz := bC (bA (Below.refl _ _) _) hb
  replace ny2 := ny2.later hb
  have nX0_X3 : w.heap.size < w8.heap.size := by omega
  have nX1_X3 : w.heap.size + 1 < w8.heap.size := by omega
  have nX2_X3 : w.heap.size + 1 + 1 < w8.heap.size := by omega
  have gX3 : w.heap.size ≤ w8.heap.size := by have := kk.size; omega
  replace cX0_0 := cL hz cX0_0; replace cX0_1 := cL hz cX0_1
  replace sX0 : w.heap.size < w9.heap.size := bL cX0_0
  replace cX1_0 := cL hz cX1_0; replace cX1_1 := cL hz cX1_1; replace cX1_2 := cL hz cX1_2; replace cX1_3 := cL hz cX1_3
  replace sX1 : w.heap.size + 1 < w9.heap.size ∧ w.heap.size < w9.heap.size := by have h : w.heap.size + 1 < w9.heap.size := bL cX1_0; exact ⟨h, by omega⟩
  replace fX2_0 := fL hz cX2_0 fX2_0; replace fX2_1 := fL hz cX2_1 fX2_1; replace fX2_2 := fL hz cX2_2 fX2_2
  replace cX2_0 := cL hz cX2_0; replace cX2_1 := cL hz cX2_1; replace cX2_2 := cL hz cX2_2
  replace sX2 : w.heap.size + 1 + 1 < w9.heap.size ∧ w.heap.size + 1 < w9.heap.size := by have h : w.heap.size + 1 + 1 < w9.heap.size := bL cX2_0; exact ⟨h, by omega⟩
  have cX3_0 := cL hb (a := ⟨w8.heap.size, 0, none⟩) (v := .int .u64 0) (by go_simp)
  have cX3_1 := cL hb (a := ⟨w8.heap.size, 1, none⟩) (v := .int .u64 0) (by go_simp)
  have cX3_2 := cL hb (a := ⟨w8.heap.size, 2, none⟩) (v := .int .u8 0) (by go_simp)
  have sX3 : w8.heap.size < w9.heap.size := bL cX3_0
  have fX3_0 := fL hb (a := ⟨w8.heap.size, 0, none⟩) (v := .int .u64 0) (by go_simp) (by go_simp)
  have fX3_1 := fL hb (a := ⟨w8.heap.size, 1, none⟩) (v := .int .u64 0) (by go_simp) (by go_simp)
  have fX3_2 := fL hb (a := ⟨w8.heap.size, 2, none⟩) (v := .int .u8 0) (by go_simp) (by go_simp)
  replace kk := bC kk hz
  clear hb hz
  go_wp2_with fail
  (with_reducible refine (MK.out _ _ ny2).mono ?_); rintro e w10 ⟨rfl, hb⟩
  replace ny2 := ny2.later hb
  replace cX0_0 := cL hb cX0_0; replace cX0_1 := cL hb cX0_1
  replace sX0 : w.heap.size < w10.heap.size := bL cX0_0
  clear cX1_0 cX1_1 cX1_2 cX1_3 sX1
  replace fX2_0 := fL hb cX2_0 fX2_0; replace fX2_1 := fL hb cX2_1 fX2_1; replace fX2_2 := fL hb cX2_2 fX2_2
  replace cX2_0 := cL hb cX2_0; replace cX2_1 := cL hb cX2_1; replace cX2_2 := cL hb cX2_2
  replace sX2 : w.heap.size + 1 + 1 < w10.heap.size ∧ w.heap.size + 1 < w10.heap.size := by have h : w.heap.size + 1 + 1 < w10.heap.size := bL cX2_0; exact ⟨h, by omega⟩
  replace fX3_0 := fL hb cX3_0 fX3_0; replace fX3_1 := fL hb cX3_1 fX3_1; replace fX3_2 := fL hb cX3_2 fX3_2
  replace cX3_0 := cL hb cX3_0; replace cX3_1 := cL hb cX3_1; replace cX3_2 := cL hb cX3_2
  replace sX3 : w8.heap.size < w10.heap.size := bL cX3_0
  replace kk := bC kk hb
  clear hb
  clear ny2
  have KEY : Hid ((fun W : World => W.cell? ⟨w.heap.size + 1 + 1, 0, none⟩ = some (.int .u64 rh) ∧ W.cell? ⟨w.heap.size + 1 + 1, 1, none⟩ = some (.int .u64 rl) ∧ W.cell? ⟨w.heap.size + 1 + 1, 2, none⟩ = some (.int .u8 16) ∧ Below w.heap.size w W) ((((((w10.setCell ⟨w8.heap.size, 0, none⟩ (.int .u64 rh)).setCell ⟨w8.heap.size, 1, none⟩ (.int .u64 rl)).setCell ⟨w8.heap.size, 2, none⟩ (.int .u8 16)).setCell ⟨w.heap.size + 1 + 1, 0, none⟩ (.int .u64 rh)).setCell ⟨w.heap.size + 1 + 1, 1, none⟩ (.int .u64 rl)).setCell ⟨w.heap.size + 1 + 1, 2, none⟩ (.int .u8 16))) := Lib.hid ⟨by go_simp, by go_simp, by go_simp, ((((((kk.setCell (p := ⟨w8.heap.size, 0, none⟩) gX3 _).setCell (p := ⟨w8.heap.size, 1, none⟩) gX3 _).setCell (p := ⟨w8.heap.size, 2, none⟩) gX3 _).setCell (p := ⟨w.heap.size + 1 + 1, 0, none⟩) gX2 _).setCell (p := ⟨w.heap.size + 1 + 1, 1, none⟩) gX2 _).setCell (p := ⟨w.heap.size + 1 + 1, 2, none⟩) gX2 _)⟩
  go_wp2_with fail
  obtain ⟨e0, e1, e2, kb⟩ := KEY.out
  clear KEY cX2_0 cX2_1 cX2_2 fX2_0 fX2_1 fX2_2
  refine bodyPost_ret (v := .agg #[.int .u64 rh, .int .u64 rl, .int .u8 16]) ?_ rfl ⟨rfl, kb⟩
  simp [results, Tryz.results7, go_sem, e0, e1, e2]

set_option maxHeartbeats 4000000 in
set_option maxRecDepth 100000 in
theorem ref16_sub_01 (ao : Option Addr) (kl cap : Nat) (f m E X p em ls L1 a1 e1 p1 a2 n1 Y1 r1 L2 a3 a4 ow mx un n2 Y2 r2 L3 rh rl : Int) (ng more : Bool)
    (h0 : Hid (∀ w, Calls Tryz.prog 22 #[.int .u8 f] w fun e w' => e = .returned (.int .i64 p) ∧ Below w.heap.size w w'))
    (h1 : Hid (∀ w, Calls Tryz.prog 23 #[.int .u8 f] w fun e w' => e = .returned (.int .i64 em) ∧ Below w.heap.size w w')) (g1 : decide (3 < f) = false) (g2 : decide (4 < m) = false) (hz : ((kl : Int) == 0) = false) (w1 : IntKind.i64.wrap (1 - em) = ls) (w1x : wrap64 (1 - em) = ls) (w2 : IntKind.i64.wrap (L1 - 1) = a1) (w2x : wrap64 (L1 - 1) = a1) (w3 : IntKind.i64.wrap (a1 + E) = e1) (w3x : wrap64 (a1 + E) = e1) (w4 : IntKind.i64.wrap (p - 1) = p1) (w4x : wrap64 (p - 1) = p1) (w5 : IntKind.i64.wrap (e1 - p1) = a2) (w5x : wrap64 (e1 - p1) = a2) (w6 : IntKind.i64.wrap (a2 - E) = n1) (w6x : wrap64 (a2 - E) = n1) (w7 : IntKind.i64.wrap (L2 - 1) = a3) (w7x : wrap64 (L2 - 1) = a3) (w8 : IntKind.i64.wrap (a3 + e1) = a4) (w8x : wrap64 (a3 + e1) = a4) (w9 : IntKind.i64.wrap (a4 - p1) = ow) (w9x : wrap64 (a4 - p1) = ow) (q1 : (if ls > e1 then ls else e1) = mx) (q1' : (if e1 < ls then ls else e1) = mx) (v1 : IntKind.i64.wrap (mx - p1) = un) (v1x : wrap64 (mx - p1) = un) (v2 : IntKind.i64.wrap (un - E) = n2) (v2x : wrap64 (un - E) = n2) (LX : Hid (∀ w v, IsNum w v X → Calls Tryz.prog 24 #[v] w fun e w' => e = .returned (.int .i64 L1) ∧ Below w.heap.size w w')) (C1 : Hid (∀ w v, IsNum w v X → Calls Tryz.prog 25 #[v, .int .i64 n1, .bool more, .int .u8 m, .bool ng] w fun e w' => ∃ u, e = .returned (.tuple #[u, .int .i64 r1]) ∧ IsNum w' u Y1 ∧ Below w.heap.size w w')) (LY : Hid (∀ w v, IsNum w v Y1 → Calls Tryz.prog 24 #[v] w fun e w' => e = .returned (.int .i64 L2) ∧ Below w.heap.size w w')) (g3 : decide (em < ow) = false) (C2 : Hid (∀ w v, IsNum w v X → Calls Tryz.prog 25 #[v, .int .i64 n2, .bool more, .int .u8 m, .bool ng] w fun e w' => ∃ u, e = .returned (.tuple #[u, .int .i64 r2]) ∧ IsNum w' u Y2 ∧ Below w.heap.size w w')) (LZ : Hid (∀ w v, IsNum w v Y2 → Calls Tryz.prog 24 #[v] w fun e w' => e = .returned (.int .i64 L3) ∧ Below w.heap.size w w')) (g4 : decide (L3 < p) = true) (MK : Hid (∀ w v, IsNum w v Y2 → Calls Tryz.prog 21 #[.int .u8 f, .bool ng, .int .i64 0, v] w fun e w' => e = .returned (.agg #[.int .u64 rh, .int .u64 rl]) ∧ Below w.heap.size w w')) (g5 : (r2 == 0) = false) (g6 : decide (e1 < ls) = true) (w : World) (nv : IsNum w (.slice ao kl cap) (X)) :
    Calls Tryz.prog 7 #[.int .u8 f, .agg #[.int .u8 m, .bool false], .agg #[.bool ng, .slice ao kl cap, .int .i64 E, .bool more]] w fun e w' => e = .returned (.agg #[.int .u64 rh, .int .u64 rl, .int .u8 24]) ∧ Below w.heap.size w w' := by
  have hss : ∀ (w : World) (b o : Nat) (v v2 : Value), (w.setCell ⟨b, o, none⟩ v).setCell ⟨b, o, none⟩ v2 = w.setCell ⟨b, o, none⟩ v2 := setCell_twice
  go_enter Tryz.func7, Tryz.ntmps7
  go_wp2_with fail
  (with_reducible refine (h0.out _).mono ?_); rintro e w1 ⟨rfl, hb⟩
  have hz := bC (bA (bA (bA (Below.refl _ _) _) _) _) hb
  replace nv := nv.later hz
  have gX2 : w.heap.size ≤ w.heap.size + 1 + 1 := by omega
  have cX0_0 := cL hb (a := ⟨w.heap.size, 0, none⟩) (v := .int .u8 m) (by go_simp)
  have cX0_1 := cL hb (a := ⟨w.heap.size, 1, none⟩) (v := .bool false) (by go_simp)
  have sX0 : w.heap.size < w1.heap.size := bL cX0_0
  have cX1_0 := cL hb (a := ⟨w.heap.size + 1, 0, none⟩) (v := .bool ng) (by go_simp)
  have cX1_1 := cL hb (a := ⟨w.heap.size + 1, 1, none⟩) (v := .slice ao kl cap) (by go_simp)
  have cX1_2 := cL hb (a := ⟨w.heap.size + 1, 2, none⟩) (v := .int .i64 E) (by go_simp)
  have cX1_3 := cL hb (a := ⟨w.heap.size + 1, 3, none⟩) (v := .bool more) (by go_simp)
  have sX1 : w.heap.size + 1 < w1.heap.size ∧ w.heap.size < w1.heap.size := by have h : w.heap.size + 1 < w1.heap.size := bL cX1_0; exact ⟨h, by omega⟩
  have cX2_0 := cL hb (a := ⟨w.heap.size + 1 + 1, 0, none⟩) (v := .int .u64 0) (by go_simp)
  have cX2_1 := cL hb (a := ⟨w.heap.size + 1 + 1, 1, none⟩) (v := .int .u64 0) (by go_simp)
  have cX2_2 := cL hb (a := ⟨w.heap.size + 1 + 1, 2, none⟩) (v := .int .u8 0) (by go_simp)
  have sX2 : w.heap.size + 1 + 1 < w1.heap.size ∧ w.heap.size + 1 < w1.heap.size := by have h : w.heap.size + 1 + 1 < w1.heap.size := bL cX2_0; exact ⟨h, by omega⟩
  have fX2_0 := fL hb (a := ⟨w.heap.size + 1 + 1, 0, none⟩) (v := .int .u64 0) (by go_simp) (by go_simp)
  have fX2_1 := fL hb (a := ⟨w.heap.size + 1 + 1, 1, none⟩) (v := .int .u64 0) (by go_simp) (by go_simp)
  have fX2_2 := fL hb (a := ⟨w.heap.size + 1 + 1, 2, none⟩) (v := .int .u8 0) (by go_simp) (by go_simp)
  have kk := hz
  clear hb hz
  go_wp2_with fail
  (with_reducible refine (h1.out _).mono ?_); rintro e w2 ⟨rfl, hb⟩
  replace nv := nv.later hb
  replace cX0_0 := cL hb cX0_0; replace cX0_1 := cL hb cX0_1
  replace sX0 : w.heap.size < w2.heap.size := bL cX0_0
  replace cX1_0 := cL hb cX1_0; replace cX1_1 := cL hb cX1_1; replace cX1_2 := cL hb cX1_2; replace cX1_3 := cL hb cX1_3
  replace sX1 : w.heap.size + 1 < w2.heap.size ∧ w.heap.size < w2.heap.size := by have h : w.heap.size + 1 < w2.heap.size := bL cX1_0; exact ⟨h, by omega⟩
  replace fX2_0 := fL hb cX2_0 fX2_0; replace fX2_1 := fL hb cX2_1 fX2_1; replace fX2_2 := fL hb cX2_2 fX2_2
  replace cX2_0 := cL hb cX2_0; replace cX2_1 := cL hb cX2_1; replace cX2_2 := cL hb cX2_2
  replace sX2 : w.heap.size + 1 + 1 < w2.heap.size ∧ w.heap.size + 1 < w2.heap.size := by have h : w.heap.size + 1 + 1 < w2.heap.size := bL cX2_0; exact ⟨h, by omega⟩
  replace kk := bC kk hb
  clear hb
  go_wp2_with fail
  refine wp_region_noPanic ?_
  refine wp_region_held_drew (S := fun w' => w'.cell? ⟨w.heap.size + 1, 1, none⟩ = some (.slice ao kl cap) ∧ w'.cell? ⟨w.heap.size + 1, 2, none⟩ = some (.int .i64 E) ∧ True) (by kernel_rfl) ⟨cL (Below.refl _ _).drew cX1_1, cL (Below.refl _ _).drew cX1_2, trivial⟩ (fun hHeld => ?_)
  replace nv := nv.later (Below.refl _ _).drew
  replace cX0_0 := cL (Below.refl _ _).drew cX0_0; replace cX0_1 := cL (Below.refl _ _).drew cX0_1
  replace cX1_0 := cL (Below.refl _ _).drew cX1_0; replace cX1_1 := cL (Below.refl _ _).drew cX1_1; replace cX1_2 := cL (Below.refl _ _).drew cX1_2; replace cX1_3 := cL (Below.refl _ _).drew cX1_3
  replace fX2_0 := fL (Below.refl _ _).drew cX2_0 fX2_0; replace fX2_1 := fL (Below.refl _ _).drew cX2_1 fX2_1; replace fX2_2 := fL (Below.refl _ _).drew cX2_2 fX2_2
  replace cX2_0 := cL (Below.refl _ _).drew cX2_0; replace cX2_1 := cL (Below.refl _ _).drew cX2_1; replace cX2_2 := cL (Below.refl _ _).drew cX2_2
  replace kk := bC kk (Below.refl _ _).drew
  refine wpAnyH_take (i := 0) (v := ?vq145) rfl (by kernel_rfl) (by kernel_rfl) (by kernel_rfl) (fun _ _ _ h => h) (Or.inl ⟨by rfl, ?yq145⟩) hHeld ?rq145
  case yq145 => (intro wq hb; obtain ⟨lq0, lq1, _⟩ := hb; go_simp; try (with_reducible rfl))
  try simp only [zA, zB, zC, Act.put, zD, zE, zF]
  refine wpAnyH_take (i := 1) (v := ?vq146) rfl (by kernel_rfl) (by kernel_rfl) (by kernel_rfl) (fun _ _ _ h => h) (Or.inl ⟨by rfl, ?yq146⟩) hHeld ?rq146
  case yq146 => (intro wq hb; obtain ⟨lq0, lq1, _⟩ := hb; go_simp; try (with_reducible rfl))
  try simp only [zA, zB, zC, Act.put, zD, zE, zF]
  refine wpAnyH_take (i := 4) (v := ?vq147) rfl (by kernel_rfl) (by kernel_rfl) (by kernel_rfl) (fun _ _ _ h => h) (Or.inl ⟨by rfl, ?yq147⟩) hHeld ?rq147
  case yq147 => (intro wq hb; obtain ⟨lq0, lq1, _⟩ := hb; go_simp; try (with_reducible rfl))
  try simp only [zA, zB, zC, Act.put, zD, zE, zF]
  refine wpAnyH_take (i := 5) (v := ?vq148) rfl (by kernel_rfl) (by kernel_rfl) (by kernel_rfl) (fun _ _ _ h => h) (Or.inl ⟨by rfl, ?yq148⟩) hHeld ?rq148
  case yq148 => (intro wq hb; obtain ⟨lq0, lq1, _⟩ := hb; go_simp; try (with_reducible rfl))
  try simp only [zA, zB, zC, Act.put, zD, zE, zF]
  clear hHeld
  refine wpAnyH_ready (rs := [2]) (by kernel_rfl) (by simp) ?_
  refine AllReadyH.cons rfl (fun K hK => ?_) AllReadyH.nil
  go_simp
  (with_reducible refine (LX.out _ _ nv).mono ?_); rintro e w4 ⟨rfl, hb⟩
  replace nv := nv.later hb
  replace cX0_0 := cL hb cX0_0; replace cX0_1 := cL hb cX0_1
  replace cX1_0 := cL hb cX1_0; replace cX1_1 := cL hb cX1_1; replace cX1_2 := cL hb cX1_2; replace cX1_3 := cL hb cX1_3
  replace fX2_0 := fL hb cX2_0 fX2_0; replace fX2_1 := fL hb cX2_1 fX2_1; replace fX2_2 := fL hb cX2_2 fX2_2
  replace cX2_0 := cL hb cX2_0; replace cX2_1 := cL hb cX2_1; replace cX2_2 := cL hb cX2_2
  replace kk := bC kk hb
  clear hb
  refine hK.out _ _ ⟨cX1_1, cX1_2, trivial⟩ (fun hHeld => ?_)
  clear hK K
  try simp only [zA, zB, zC, Act.put, zD, zE, zF]
  refine wpAnyH_take (i := 3) (v := ?vq149) rfl (by kernel_rfl) (by kernel_rfl) (by kernel_rfl) (fun _ _ _ h => h) (Or.inl ⟨by rfl, ?yq149⟩) hHeld ?rq149
  case yq149 => (intro wq hb; obtain ⟨lq0, lq1, _⟩ := hb; go_simp; try (with_reducible rfl))
  try simp only [zA, zB, zC, Act.put, zD, zE, zF]
  refine wpAnyH_take (i := 6) (v := ?vq150) rfl (by kernel_rfl) (by kernel_rfl) (by kernel_rfl) (fun _ _ _ h => h) (Or.inl ⟨by rfl, ?yq150⟩) hHeld ?rq150
  case yq150 => (intro wq hb; obtain ⟨lq0, lq1, _⟩ := hb; go_simp; try (with_reducible rfl))
  try simp only [zA, zB, zC, Act.put, zD, zE, zF]
  refine wpAnyH_take (i := 7) (v := ?vq151) rfl (by kernel_rfl) (by kernel_rfl) (by kernel_rfl) (fun _ _ _ h => h) (Or.inl ⟨by rfl, ?yq151⟩) hHeld ?rq151
  case yq151 => (intro wq hb; obtain ⟨lq0, lq1, _⟩ := hb; go_simp; try (with_reducible rfl))
  try simp only [zA, zB, zC, Act.put, zD, zE, zF]
  clear hHeld
  refine wpAnyH_done (by kernel_rfl) ?_ _
  refine NoPanic.normal ?_
  replace sX0 : w.heap.size < w4.heap.size := bL cX0_0
  replace sX1 : w.heap.size + 1 < w4.heap.size ∧ w.heap.size < w4.heap.size := by have h : w.heap.size + 1 < w4.heap.size := bL cX1_0; exact ⟨h, by omega⟩
  replace sX2 : w.heap.size + 1 + 1 < w4.heap.size ∧ w.heap.size + 1 < w4.heap.size := by have h : w.heap.size + 1 + 1 < w4.heap.size := bL cX2_0; exact ⟨h, by omega⟩
  go_wp2_with fail
  (with_reducible refine (C1.out _ _ nv).mono ?_); rintro e w5 ⟨y1, rfl, ny1, hb⟩
  replace nv := nv.later hb
  replace cX0_0 := cL hb cX0_0; replace cX0_1 := cL hb cX0_1
  replace sX0 : w.heap.size < w5.heap.size := bL cX0_0
  replace cX1_0 := cL hb cX1_0; replace cX1_1 := cL hb cX1_1; replace cX1_2 := cL hb cX1_2; replace cX1_3 := cL hb cX1_3
  replace sX1 : w.heap.size + 1 < w5.heap.size ∧ w.heap.size < w5.heap.size := by have h : w.heap.size + 1 < w5.heap.size := bL cX1_0; exact ⟨h, by omega⟩
  replace fX2_0 := fL hb cX2_0 fX2_0; replace fX2_1 := fL hb cX2_1 fX2_1; replace fX2_2 := fL hb cX2_2 fX2_2
  replace cX2_0 := cL hb cX2_0; replace cX2_1 := cL hb cX2_1; replace cX2_2 := cL hb cX2_2
  replace sX2 : w.heap.size + 1 + 1 < w5.heap.size ∧ w.heap.size + 1 < w5.heap.size := by have h : w.heap.size + 1 + 1 < w5.heap.size := bL cX2_0; exact ⟨h, by omega⟩
  replace kk := bC kk hb
  clear hb
  go_wp2_with fail
  (with_reducible refine (LY.out _ _ ny1).mono ?_); rintro e w6 ⟨rfl, hb⟩
  replace nv := nv.later hb
  replace ny1 := ny1.later hb
  replace cX0_0 := cL hb cX0_0; replace cX0_1 := cL hb cX0_1
  replace sX0 : w.heap.size < w6.heap.size := bL cX0_0
  replace cX1_0 := cL hb cX1_0; replace cX1_1 := cL hb cX1_1; replace cX1_2 := cL hb cX1_2; replace cX1_3 := cL hb cX1_3
  replace sX1 : w.heap.size + 1 < w6.heap.size ∧ w.heap.size < w6.heap.size := by have h : w.heap.size + 1 < w6.heap.size := bL cX1_0; exact ⟨h, by omega⟩
  replace fX2_0 := fL hb cX2_0 fX2_0; replace fX2_1 := fL hb cX2_1 fX2_1; replace fX2_2 := fL hb cX2_2 fX2_2
  replace cX2_0 := cL hb cX2_0; replace cX2_1 := cL hb cX2_1; replace cX2_2 := cL hb cX2_2
  replace sX2 : w.heap.size + 1 + 1 < w6.heap.size ∧ w.heap.size + 1 < w6.heap.size := by have h : w.heap.size + 1 + 1 < w6.heap.size := bL cX2_0; exact ⟨h, by omega⟩
  replace kk := bC kk hb
  clear hb
  clear ny1
  go_wp2_with fail
  (with_reducible refine (h1.out _).mono ?_); rintro e w7 ⟨rfl, hb⟩
  replace nv := nv.later hb
  replace cX0_0 := cL hb cX0_0; replace cX0_1 := cL hb cX0_1
  replace sX0 : w.heap.size < w7.heap.size := bL cX0_0
  replace cX1_0 := cL hb cX1_0; replace cX1_1 := cL hb cX1_1; replace cX1_2 := cL hb cX1_2; replace cX1_3 := cL hb cX1_3
  replace sX1 : w.heap.size + 1 < w7.heap.size ∧ w.heap.size < w7.heap.size := by have h : w.heap.size + 1 < w7.heap.size := bL cX1_0; exact ⟨h, by omega⟩
  replace fX2_0 := fL hb cX2_0 fX2_0; replace fX2_1 := fL hb cX2_1 fX2_1; replace fX2_2 := fL hb cX2_2 fX2_2
  replace cX2_0 := cL hb cX2_0; replace cX2_1 := cL hb cX2_1; replace cX2_2 := cL hb cX2_2
  replace sX2 : w.heap.size + 1 + 1 < w7.heap.size ∧ w.heap.size + 1 < w7.heap.size := by have h : w.heap.size + 1 + 1 < w7.heap.size := bL cX2_0; exact ⟨h, by omega⟩
  replace kk := bC kk hb
  clear hb
  go_wp2_with fail
  (with_reducible refine (C2.out _ _ nv).mono ?_); rintro e w8 ⟨y2, rfl, ny2, hb⟩
  replace nv := nv.later hb
  replace cX0_0 := cL hb cX0_0; replace cX0_1 := cL hb cX0_1
  replace sX0 : w.heap.size < w8.heap.size := bL cX0_0
  replace cX1_0 := cL hb cX1_0; replace cX1_1 := cL hb cX1_1; replace cX1_2 := cL hb cX1_2; replace cX1_3 := cL hb cX1_3
  replace sX1 : w.heap.size + 1 < w8.heap.size ∧ w.heap.size < w8.heap.size := by have h : w.heap.size + 1 < w8.heap.size := bL cX1_0; exact ⟨h, by omega⟩
  replace fX2_0 := fL hb cX2_0 fX2_0; replace fX2_1 := fL hb cX2_1 fX2_1; replace fX2_2 := fL hb cX2_2 fX2_2
  replace cX2_0 := cL hb cX2_0; replace cX2_1 := cL hb cX2_1; replace cX2_2 := cL hb cX2_2
  replace sX2 : w.heap.size + 1 + 1 < w8.heap.size ∧ w.heap.size + 1 < w8.heap.size := by have h : w.heap.size + 1 + 1 < w8.heap.size := bL cX2_0; exact ⟨h, by omega⟩
  replace kk := bC kk hb
  clear hb
  clear nv
  go_wp2_with fail
  replace ny2 := ny2.later (bA (Below.refl _ _) (.cells #[.int .u64 0, .int .u64 0, .int .u8 0] 33))
  (with_reducible refine (LZ.out _ _ ny2).mono ?_); rintro e w9 ⟨rfl, hb⟩
  have hz := bC (bA (Below.refl _ _) _) hb
  replace ny2 := ny2.later hb
  have nX0_X3 : w.heap.size < w8.heap.size := by omega
  have nX1_X3 : w.heap.size + 1 < w8.heap.size := by omega
  have nX2_X3 : w.heap.size + 1 + 1 < w8.heap.size := by omega
  have gX3 : w.heap.size ≤ w8.heap.size := by have := kk.size; omega
  replace cX0_0 := cL hz cX0_0; replace cX0_1 := cL hz cX0_1
  replace sX0 : w.heap.size < w9.heap.size := bL cX0_0
  replace cX1_0 := cL hz cX1_0; replace cX1_1 := cL hz cX1_1; replace cX1_2 := cL hz cX1_2; replace cX1_3 := cL hz cX1_3
  replace sX1 : w.heap.size + 1 < w9.heap.size ∧ w.heap.size < w9.heap.size := by have h : w.heap.size + 1 < w9.heap.size := bL cX1_0; exact ⟨h, by omega⟩
  replace fX2_0 := fL hz cX2_0 fX2_0; replace fX2_1 := fL hz cX2_1 fX2_1; replace fX2_2 := fL hz cX2_2 fX2_2
  replace cX2_0 := cL hz cX2_0; replace cX2_1 := cL hz cX2_1; replace cX2_2 := cL hz cX2_2
  replace sX2 : w.heap.size + 1 + 1 < w9.heap.size ∧ w.heap.size + 1 < w9.heap.size := by have h : w.heap.size + 1 + 1 < w9.heap.size := bL cX2_0; exact ⟨h, by omega⟩
  have cX3_0 := cL hb (a := ⟨w8.heap.size, 0, none⟩) (v := .int .u64 0) (by go_simp)
  have cX3_1 := cL hb (a := ⟨w8.heap.size, 1, none⟩) (v := .int .u64 0) (by go_simp)
  have cX3_2 := cL hb (a := ⟨w8.heap.size, 2, none⟩) (v := .int .u8 0) (by go_simp)
  have sX3 : w8.heap.size < w9.heap.size := bL cX3_0
  have fX3_0 := fL hb (a := ⟨w8.heap.size, 0, none⟩) (v := .int .u64 0) (by go_simp) (by go_simp)
  have fX3_1 := fL hb (a := ⟨w8.heap.size, 1, none⟩) (v := .int .u64 0) (by go_simp) (by go_simp)
  have fX3_2 := fL hb (a := ⟨w8.heap.size, 2, none⟩) (v := .int .u8 0) (by go_simp) (by go_simp)
  replace kk := bC kk hz
  clear hb hz
  go_wp2_with fail
  (with_reducible refine (MK.out _ _ ny2).mono ?_); rintro e w10 ⟨rfl, hb⟩
  replace ny2 := ny2.later hb
  replace cX0_0 := cL hb cX0_0; replace cX0_1 := cL hb cX0_1
  replace sX0 : w.heap.size < w10.heap.size := bL cX0_0
  clear cX1_0 cX1_1 cX1_2 cX1_3 sX1
  replace fX2_0 := fL hb cX2_0 fX2_0; replace fX2_1 := fL hb cX2_1 fX2_1; replace fX2_2 := fL hb cX2_2 fX2_2
  replace cX2_0 := cL hb cX2_0; replace cX2_1 := cL hb cX2_1; replace cX2_2 := cL hb cX2_2
  replace sX2 : w.heap.size + 1 + 1 < w10.heap.size ∧ w.heap.size + 1 < w10.heap.size := by have h : w.heap.size + 1 + 1 < w10.heap.size := bL cX2_0; exact ⟨h, by omega⟩
  replace fX3_0 := fL hb cX3_0 fX3_0; replace fX3_1 := fL hb cX3_1 fX3_1; replace fX3_2 := fL hb cX3_2 fX3_2
  replace cX3_0 := cL hb cX3_0; replace cX3_1 := cL hb cX3_1; replace cX3_2 := cL hb cX3_2
  replace sX3 : w8.heap.size < w10.heap.size := bL cX3_0
  replace kk := bC kk hb
  clear hb
  clear ny2
  have KEY : Hid ((fun W : World => W.cell? ⟨w.heap.size + 1 + 1, 0, none⟩ = some (.int .u64 rh) ∧ W.cell? ⟨w.heap.size + 1 + 1, 1, none⟩ = some (.int .u64 rl) ∧ W.cell? ⟨w.heap.size + 1 + 1, 2, none⟩ = some (.int .u8 24) ∧ Below w.heap.size w W) ((((((w10.setCell ⟨w8.heap.size, 0, none⟩ (.int .u64 rh)).setCell ⟨w8.heap.size, 1, none⟩ (.int .u64 rl)).setCell ⟨w8.heap.size, 2, none⟩ (.int .u8 24)).setCell ⟨w.heap.size + 1 + 1, 0, none⟩ (.int .u64 rh)).setCell ⟨w.heap.size + 1 + 1, 1, none⟩ (.int .u64 rl)).setCell ⟨w.heap.size + 1 + 1, 2, none⟩ (.int .u8 24))) := Lib.hid ⟨by go_simp, by go_simp, by go_simp, ((((((kk.setCell (p := ⟨w8.heap.size, 0, none⟩) gX3 _).setCell (p := ⟨w8.heap.size, 1, none⟩) gX3 _).setCell (p := ⟨w8.heap.size, 2, none⟩) gX3 _).setCell (p := ⟨w.heap.size + 1 + 1, 0, none⟩) gX2 _).setCell (p := ⟨w.heap.size + 1 + 1, 1, none⟩) gX2 _).setCell (p := ⟨w.heap.size + 1 + 1, 2, none⟩) gX2 _)⟩
  go_wp2_with fail
  obtain ⟨e0, e1, e2, kb⟩ := KEY.out
  clear KEY cX2_0 cX2_1 cX2_2 fX2_0 fX2_1 fX2_2
  refine bodyPost_ret (v := .agg #[.int .u64 rh, .int .u64 rl, .int .u8 24]) ?_ rfl ⟨rfl, kb⟩
  simp [results, Tryz.results7, go_sem, e0, e1, e2]

set_option maxHeartbeats 4000000 in
set_option maxRecDepth 100000 in
theorem ref16_sub_10 (ao : Option Addr) (kl cap : Nat) (f m E X p em ls L1 a1 e1 p1 a2 n1 Y1 r1 L2 a3 a4 ow mx un n2 Y2 r2 L3 rh rl : Int) (lt ng more : Bool)
    (h0 : Hid (∀ w, Calls Tryz.prog 22 #[.int .u8 f] w fun e w' => e = .returned (.int .i64 p) ∧ Below w.heap.size w w'))
    (h1 : Hid (∀ w, Calls Tryz.prog 23 #[.int .u8 f] w fun e w' => e = .returned (.int .i64 em) ∧ Below w.heap.size w w')) (g1 : decide (3 < f) = false) (g2 : decide (4 < m) = false) (hz : ((kl : Int) == 0) = false) (w1 : IntKind.i64.wrap (1 - em) = ls) (w1x : wrap64 (1 - em) = ls) (w2 : IntKind.i64.wrap (L1 - 1) = a1) (w2x : wrap64 (L1 - 1) = a1) (w3 : IntKind.i64.wrap (a1 + E) = e1) (w3x : wrap64 (a1 + E) = e1) (w4 : IntKind.i64.wrap (p - 1) = p1) (w4x : wrap64 (p - 1) = p1) (w5 : IntKind.i64.wrap (e1 - p1) = a2) (w5x : wrap64 (e1 - p1) = a2) (w6 : IntKind.i64.wrap (a2 - E) = n1) (w6x : wrap64 (a2 - E) = n1) (w7 : IntKind.i64.wrap (L2 - 1) = a3) (w7x : wrap64 (L2 - 1) = a3) (w8 : IntKind.i64.wrap (a3 + e1) = a4) (w8x : wrap64 (a3 + e1) = a4) (w9 : IntKind.i64.wrap (a4 - p1) = ow) (w9x : wrap64 (a4 - p1) = ow) (q1 : (if ls > e1 then ls else e1) = mx) (q1' : (if e1 < ls then ls else e1) = mx) (v1 : IntKind.i64.wrap (mx - p1) = un) (v1x : wrap64 (mx - p1) = un) (v2 : IntKind.i64.wrap (un - E) = n2) (v2x : wrap64 (un - E) = n2) (LX : Hid (∀ w v, IsNum w v X → Calls Tryz.prog 24 #[v] w fun e w' => e = .returned (.int .i64 L1) ∧ Below w.heap.size w w')) (C1 : Hid (∀ w v, IsNum w v X → Calls Tryz.prog 25 #[v, .int .i64 n1, .bool more, .int .u8 m, .bool ng] w fun e w' => ∃ u, e = .returned (.tuple #[u, .int .i64 r1]) ∧ IsNum w' u Y1 ∧ Below w.heap.size w w')) (LY : Hid (∀ w v, IsNum w v Y1 → Calls Tryz.prog 24 #[v] w fun e w' => e = .returned (.int .i64 L2) ∧ Below w.heap.size w w')) (g3 : decide (em < ow) = false) (C2 : Hid (∀ w v, IsNum w v X → Calls Tryz.prog 25 #[v, .int .i64 n2, .bool more, .int .u8 m, .bool ng] w fun e w' => ∃ u, e = .returned (.tuple #[u, .int .i64 r2]) ∧ IsNum w' u Y2 ∧ Below w.heap.size w w')) (LZ : Hid (∀ w v, IsNum w v Y2 → Calls Tryz.prog 24 #[v] w fun e w' => e = .returned (.int .i64 L3) ∧ Below w.heap.size w w')) (g4 : decide (L3 < p) = true) (MK : Hid (∀ w v, IsNum w v Y2 → Calls Tryz.prog 21 #[.int .u8 f, .bool ng, .int .i64 0, v] w fun e w' => e = .returned (.agg #[.int .u64 rh, .int .u64 rl]) ∧ Below w.heap.size w w')) (g5 : (r2 == 0) = false) (g6 : decide (ow < ls) = false) (g7 : decide (e1 < ls) = lt) (w : World) (nv : IsNum w (.slice ao kl cap) (X)) :
    Calls Tryz.prog 7 #[.int .u8 f, .agg #[.int .u8 m, .bool true], .agg #[.bool ng, .slice ao kl cap, .int .i64 E, .bool more]] w fun e w' => e = .returned (.agg #[.int .u64 rh, .int .u64 rl, .int .u8 16]) ∧ Below w.heap.size w w' := by
  go_enter Tryz.func7, Tryz.ntmps7
  go_wp2_with fail
  (with_reducible refine (h0.out _).mono ?_); rintro e w1 ⟨rfl, hb⟩
  have hz := bC (bA (bA (bA (Below.refl _ _) _) _) _) hb
  replace nv := nv.later hz
  have gX2 : w.heap.size ≤ w.heap.size + 1 + 1 := by omega
  have cX0_0 := cL hb (a := ⟨w.heap.size, 0, none⟩) (v := .int .u8 m) (by go_simp)
  have cX0_1 := cL hb (a := ⟨w.heap.size, 1, none⟩) (v := .bool true) (by go_simp)
  have sX0 : w.heap.size < w1.heap.size := bL cX0_0
  have cX1_0 := cL hb (a := ⟨w.heap.size + 1, 0, none⟩) (v := .bool ng) (by go_simp)
  have cX1_1 := cL hb (a := ⟨w.heap.size + 1, 1, none⟩) (v := .slice ao kl cap) (by go_simp)
  have cX1_2 := cL hb (a := ⟨w.heap.size + 1, 2, none⟩) (v := .int .i64 E) (by go_simp)
  have cX1_3 := cL hb (a := ⟨w.heap.size + 1, 3, none⟩) (v := .bool more) (by go_simp)
  have sX1 : w.heap.size + 1 < w1.heap.size ∧ w.heap.size < w1.heap.size := by have h : w.heap.size + 1 < w1.heap.size := bL cX1_0; exact ⟨h, by omega⟩
  have cX2_0 := cL hb (a := ⟨w.heap.size + 1 + 1, 0, none⟩) (v := .int .u64 0) (by go_simp)
  have cX2_1 := cL hb (a := ⟨w.heap.size + 1 + 1, 1, none⟩) (v := .int .u64 0) (by go_simp)
  have cX2_2 := cL hb (a := ⟨w.heap.size + 1 + 1, 2, none⟩) (v := .int .u8 0) (by go_simp)
  have sX2 : w.heap.size + 1 + 1 < w1.heap.size ∧ w.heap.size + 1 < w1.heap.size := by have h : w.heap.size + 1 + 1 < w1.heap.size := bL cX2_0; exact ⟨h, by omega⟩
  have fX2_0 := fL hb (a := ⟨w.heap.size + 1 + 1, 0, none⟩) (v := .int .u64 0) (by go_simp) (by go_simp)
  have fX2_1 := fL hb (a := ⟨w.heap.size + 1 + 1, 1, none⟩) (v := .int .u64 0) (by go_simp) (by go_simp)
  have fX2_2 := fL hb (a := ⟨w.heap.size + 1 + 1, 2, none⟩) (v := .int .u8 0) (by go_simp) (by go_simp)
  have kk := hz
  clear hb hz
  go_wp2_with fail
  (with_reducible refine (h1.out _).mono ?_); rintro e w2 ⟨rfl, hb⟩
  replace nv := nv.later hb
  replace cX0_0 := cL hb cX0_0; replace cX0_1 := cL hb cX0_1
  replace sX0 : w.heap.size < w2.heap.size := bL cX0_0
  replace cX1_0 := cL hb cX1_0; replace cX1_1 := cL hb cX1_1; replace cX1_2 := cL hb cX1_2; replace cX1_3 := cL hb cX1_3
  replace sX1 : w.heap.size + 1 < w2.heap.size ∧ w.heap.size < w2.heap.size := by have h : w.heap.size + 1 < w2.heap.size := bL cX1_0; exact ⟨h, by omega⟩
  replace fX2_0 := fL hb cX2_0 fX2_0; replace fX2_1 := fL hb cX2_1 fX2_1; replace fX2_2 := fL hb cX2_2 fX2_2
  replace cX2_0 := cL hb cX2_0; replace cX2_1 := cL hb cX2_1; replace cX2_2 := cL hb cX2_2
  replace sX2 : w.heap.size + 1 + 1 < w2.heap.size ∧ w.heap.size + 1 < w2.heap.size := by have h : w.heap.size + 1 + 1 < w2.heap.size := bL cX2_0; exact ⟨h, by omega⟩
  replace kk := bC kk hb
  clear hb
  go_wp2_with fail
  refine wp_region_noPanic ?_
  refine wp_region_held_drew (S := fun w' => w'.cell? ⟨w.heap.size + 1, 1, none⟩ = some (.slice ao kl cap) ∧ w'.cell? ⟨w.heap.size + 1, 2, none⟩ = some (.int .i64 E) ∧ True) (by kernel_rfl) ⟨cL (Below.refl _ _).drew cX1_1, cL (Below.refl _ _).drew cX1_2, trivial⟩ (fun hHeld => ?_)
  replace nv := nv.later (Below.refl _ _).drew
  replace cX0_0 := cL (Below.refl _ _).drew cX0_0; replace cX0_1 := cL (Below.refl _ _).drew cX0_1
  replace cX1_0 := cL (Below.refl _ _).drew cX1_0; replace cX1_1 := cL (Below.refl _ _).drew cX1_1; replace cX1_2 := cL (Below.refl _ _).drew cX1_2; replace cX1_3 := cL (Below.refl _ _).drew cX1_3
  replace fX2_0 := fL (Below.refl _ _).drew cX2_0 fX2_0; replace fX2_1 := fL (Below.refl _ _).drew cX2_1 fX2_1; replace fX2_2 := fL (Below.refl _ _).drew cX2_2 fX2_2
  replace cX2_0 := cL (Below.refl _ _).drew cX2_0; replace cX2_1 := cL (Below.refl _ _).drew cX2_1; replace cX2_2 := cL (Below.refl _ _).drew cX2_2
  replace kk := bC kk (Below.refl _ _).drew
  refine wpAnyH_take (i := 0) (v := ?vq152) rfl (by kernel_rfl) (by kernel_rfl) (by kernel_rfl) (fun _ _ _ h => h) (Or.inl ⟨by rfl, ?yq152⟩) hHeld ?rq152
  case yq152 => (intro wq hb; obtain ⟨lq0, lq1, _⟩ := hb; go_simp; try (with_reducible rfl))
  try simp only [zA, zB, zC, Act.put, zD, zE, zF]
  refine wpAnyH_take (i := 1) (v := ?vq153) rfl (by kernel_rfl) (by kernel_rfl) (by kernel_rfl) (fun _ _ _ h => h) (Or.inl ⟨by rfl, ?yq153⟩) hHeld ?rq153
  case yq153 => (intro wq hb; obtain ⟨lq0, lq1, _⟩ := hb; go_simp; try (with_reducible rfl))
  try simp only [zA, zB, zC, Act.put, zD, zE, zF]
  refine wpAnyH_take (i := 4) (v := ?vq154) rfl (by kernel_rfl) (by kernel_rfl) (by kernel_rfl) (fun _ _ _ h => h) (Or.inl ⟨by rfl, ?yq154⟩) hHeld ?rq154
  case yq154 => (intro wq hb; obtain ⟨lq0, lq1, _⟩ := hb; go_simp; try (with_reducible rfl))
  try simp only [zA, zB, zC, Act.put, zD, zE, zF]
  refine wpAnyH_take (i := 5) (v := ?vq155) rfl (by kernel_rfl) (by kernel_rfl) (by kernel_rfl) (fun _ _ _ h => h) (Or.inl ⟨by rfl, ?yq155⟩) hHeld ?rq155
  case yq155 => (intro wq hb; obtain ⟨lq0, lq1, _⟩ := hb; go_simp; try (with_reducible rfl))
  try simp only [zA, zB, zC, Act.put, zD, zE, zF]
  clear hHeld
  refine wpAnyH_ready (rs := [2]) (by kernel_rfl) (by simp) ?_
  refine AllReadyH.cons rfl (fun K hK => ?_) AllReadyH.nil
  go_simp
  (with_reducible refine (LX.out _ _ nv).mono ?_); rintro e w4 ⟨rfl, hb⟩
  replace nv := nv.later hb
  replace cX0_0 := cL hb cX0_0; replace cX0_1 := cL hb cX0_1
  replace cX1_0 := cL hb cX1_0; replace cX1_1 := cL hb cX1_1; replace cX1_2 := cL hb cX1_2; replace cX1_3 := cL hb cX1_3
  replace fX2_0 := fL hb cX2_0 fX2_0; replace fX2_1 := fL hb cX2_1 fX2_1; replace fX2_2 := fL hb cX2_2 fX2_2
  replace cX2_0 := cL hb cX2_0; replace cX2_1 := cL hb cX2_1; replace cX2_2 := cL hb cX2_2
  replace kk := bC kk hb
  clear hb
  refine hK.out _ _ ⟨cX1_1, cX1_2, trivial⟩ (fun hHeld => ?_)
  clear hK K
  try simp only [zA, zB, zC, Act.put, zD, zE, zF]
  refine wpAnyH_take (i := 3) (v := ?vq156) rfl (by kernel_rfl) (by kernel_rfl) (by kernel_rfl) (fun _ _ _ h => h) (Or.inl ⟨by rfl, ?yq156⟩) hHeld ?rq156
  case yq156 => (intro wq hb; obtain ⟨lq0, lq1, _⟩ := hb; go_simp; try (with_reducible rfl))
  try simp only [zA, zB, zC, Act.put, zD, zE, zF]
  refine wpAnyH_take (i := 6) (v := ?vq157) rfl (by kernel_rfl) (by kernel_rfl) (by kernel_rfl) (fun _ _ _ h => h) (Or.inl ⟨by rfl, ?yq157⟩) hHeld ?rq157
  case yq157 => (intro wq hb; obtain ⟨lq0, lq1, _⟩ := hb; go_simp; try (with_reducible rfl))
  try simp only [zA, zB, zC, Act.put, zD, zE, zF]
  refine wpAnyH_take (i := 7) (v := ?vq158) rfl (by kernel_rfl) (by kernel_rfl) (by kernel_rfl) (fun _ _ _ h => h) (Or.inl ⟨by rfl, ?yq158⟩) hHeld ?rq158
  case yq158 => (intro wq hb; obtain ⟨lq0, lq1, _⟩ := hb; go_simp; try (with_reducible rfl))
  try simp only [zA, zB, zC, Act.put, zD, zE, zF]
  clear hHeld
  refine wpAnyH_done (by kernel_rfl) ?_ _
  refine NoPanic.normal ?_
  replace sX0 : w.heap.size < w4.heap.size := bL cX0_0
  replace sX1 : w.heap.size + 1 < w4.heap.size ∧ w.heap.size < w4.heap.size := by have h : w.heap.size + 1 < w4.heap.size := bL cX1_0; exact ⟨h, by omega⟩
  replace sX2 : w.heap.size + 1 + 1 < w4.heap.size ∧ w.heap.size + 1 < w4.heap.size := by have h : w.heap.size + 1 + 1 < w4.heap.size := bL cX2_0; exact ⟨h, by omega⟩
  go_wp2_with fail
  (with_reducible refine (C1.out _ _ nv).mono ?_); rintro e w5 ⟨y1, rfl, ny1, hb⟩
  replace nv := nv.later hb
  replace cX0_0 := cL hb cX0_0; replace cX0_1 := cL hb cX0_1
  replace sX0 : w.heap.size < w5.heap.size := bL cX0_0
  replace cX1_0 := cL hb cX1_0; replace cX1_1 := cL hb cX1_1; replace cX1_2 := cL hb cX1_2; replace cX1_3 := cL hb cX1_3
  replace sX1 : w.heap.size + 1 < w5.heap.size ∧ w.heap.size < w5.heap.size := by have h : w.heap.size + 1 < w5.heap.size := bL cX1_0; exact ⟨h, by omega⟩
  replace fX2_0 := fL hb cX2_0 fX2_0; replace fX2_1 := fL hb cX2_1 fX2_1; replace fX2_2 := fL hb cX2_2 fX2_2
  replace cX2_0 := cL hb cX2_0; replace cX2_1 := cL hb cX2_1; replace cX2_2 := cL hb cX2_2
  replace sX2 : w.heap.size + 1 + 1 < w5.heap.size ∧ w.heap.size + 1 < w5.heap.size := by have h : w.heap.size + 1 + 1 < w5.heap.size := bL cX2_0; exact ⟨h, by omega⟩
  replace kk := bC kk hb
  clear hb
  go_wp2_with fail
  (with_reducible refine (LY.out _ _ ny1).mono ?_); rintro e w6 ⟨rfl, hb⟩
  replace nv := nv.later hb
  replace ny1 := ny1.later hb
  replace cX0_0 := cL hb cX0_0; replace cX0_1 := cL hb cX0_1
  replace sX0 : w.heap.size < w6.heap.size := bL cX0_0
  replace cX1_0 := cL hb cX1_0; replace cX1_1 := cL hb cX1_1; replace cX1_2 := cL hb cX1_2; replace cX1_3 := cL hb cX1_3
  replace sX1 : w.heap.size + 1 < w6.heap.size ∧ w.heap.size < w6.heap.size := by have h : w.heap.size + 1 < w6.heap.size := bL cX1_0; exact ⟨h, by omega⟩
  replace fX2_0 := fL hb cX2_0 fX2_0; replace fX2_1 := fL hb cX2_1 fX2_1; replace fX2_2 := fL hb cX2_2 fX2_2
  replace cX2_0 := cL hb cX2_0; replace cX2_1 := cL hb cX2_1; replace cX2_2 := cL hb cX2_2
  replace sX2 : w.heap.size + 1 + 1 < w6.heap.size ∧ w.heap.size + 1 < w6.heap.size := by have h : w.heap.size + 1 + 1 < w6.heap.size := bL cX2_0; exact ⟨h, by omega⟩
  replace kk := bC kk hb
  clear hb
  clear ny1
  go_wp2_with fail
  (with_reducible refine (h1.out _).mono ?_); rintro e w7 ⟨rfl, hb⟩
  replace nv := nv.later hb
  replace cX0_0 := cL hb cX0_0; replace cX0_1 := cL hb cX0_1
  replace sX0 : w.heap.size < w7.heap.size := bL cX0_0
  replace cX1_0 := cL hb cX1_0; replace cX1_1 := cL hb cX1_1; replace cX1_2 := cL hb cX1_2; replace cX1_3 := cL hb cX1_3
  replace sX1 : w.heap.size + 1 < w7.heap.size ∧ w.heap.size < w7.heap.size := by have h : w.heap.size + 1 < w7.heap.size := bL cX1_0; exact ⟨h, by omega⟩
  replace fX2_0 := fL hb cX2_0 fX2_0; replace fX2_1 := fL hb cX2_1 fX2_1; replace fX2_2 := fL hb cX2_2 fX2_2
  replace cX2_0 := cL hb cX2_0; replace cX2_1 := cL hb cX2_1; replace cX2_2 := cL hb cX2_2
  replace sX2 : w.heap.size + 1 + 1 < w7.heap.size ∧ w.heap.size + 1 < w7.heap.size := by have h : w.heap.size + 1 + 1 < w7.heap.size := bL cX2_0; exact ⟨h, by omega⟩
  replace kk := bC kk hb
  clear hb
  go_wp2_with fail
  (with_reducible refine (C2.out _ _ nv).mono ?_); rintro e w8 ⟨y2, rfl, ny2, hb⟩
  replace nv := nv.later hb
  replace cX0_0 := cL hb cX0_0; replace cX0_1 := cL hb cX0_1
  replace sX0 : w.heap.size < w8.heap.size := bL cX0_0
  replace cX1_0 := cL hb cX1_0; replace cX1_1 := cL hb cX1_1; replace cX1_2 := cL hb cX1_2; replace cX1_3 := cL hb cX1_3
  replace sX1 : w.heap.size + 1 < w8.heap.size ∧ w.heap.size < w8.heap.size := by have h : w.heap.size + 1 < w8.heap.size := bL cX1_0; exact ⟨h, by omega⟩
  replace fX2_0 := fL hb cX2_0 fX2_0; replace fX2_1 := fL hb cX2_1 fX2_1; replace fX2_2 := fL hb cX2_2 fX2_2
  replace cX2_0 := cL hb cX2_0; replace cX2_1 := cL hb cX2_1; replace cX2_2 := cL hb cX2_2
  replace sX2 : w.heap.size + 1 + 1 < w8.heap.size ∧ w.heap.size + 1 < w8.heap.size := by have h : w.heap.size + 1 + 1 < w8.heap.size := bL cX2_0; exact ⟨h, by omega⟩
  replace kk := bC kk hb
  clear hb
  clear nv
  go_wp2_with fail
  replace ny2 := ny2.later (bA (Below.refl _ _) (.cells #[.int .u64 0, .int .u64 0, .int .u8 0] 33))
  (with_reducible refine (LZ.out _ _ ny2).mono ?_); rintro e w9 ⟨rfl, hb⟩
  have hz := bC (bA (Below.refl _ _) _) hb
  replace ny2 := ny2.later hb
  have nX0_X3 : w.heap.size < w8.heap.size := by omega
  have nX1_X3 : w.heap.size + 1 < w8.heap.size := by omega
  have nX2_X3 : w.heap.size + 1 + 1 < w8.heap.size := by omega
  have gX3 : w.heap.size ≤ w8.heap.size := by have := kk.size; omega
  replace cX0_0 := cL hz cX0_0; replace cX0_1 := cL hz cX0_1
  replace sX0 : w.heap.size < w9.heap.size := bL cX0_0
  replace cX1_0 := cL hz cX1_0; replace cX1_1 := cL hz cX1_1; replace cX1_2 := cL hz cX1_2; replace cX1_3 := cL hz cX1_3
  replace sX1 : w.heap.size + 1 < w9.heap.size ∧ w.heap.size < w9.heap.size := by have h : w.heap.size + 1 < w9.heap.size := bL cX1_0; exact ⟨h, by omega⟩
  replace fX2_0 := fL hz cX2_0 fX2_0; replace fX2_1 := fL hz cX2_1 fX2_1; replace fX2_2 := fL hz cX2_2 fX2_2
  replace cX2_0 := cL hz cX2_0; replace cX2_1 := cL hz cX2_1; replace cX2_2 := cL hz cX2_2
  replace sX2 : w.heap.size + 1 + 1 < w9.heap.size ∧ w.heap.size + 1 < w9.heap.size := by have h : w.heap.size + 1 + 1 < w9.heap.size := bL cX2_0; exact ⟨h, by omega⟩
  have cX3_0 := cL hb (a := ⟨w8.heap.size, 0, none⟩) (v := .int .u64 0) (by go_simp)
  have cX3_1 := cL hb (a := ⟨w8.heap.size, 1, none⟩) (v := .int .u64 0) (by go_simp)
  have cX3_2 := cL hb (a := ⟨w8.heap.size, 2, none⟩) (v := .int .u8 0) (by go_simp)
  have sX3 : w8.heap.size < w9.heap.size := bL cX3_0
  have fX3_0 := fL hb (a := ⟨w8.heap.size, 0, none⟩) (v := .int .u64 0) (by go_simp) (by go_simp)
  have fX3_1 := fL hb (a := ⟨w8.heap.size, 1, none⟩) (v := .int .u64 0) (by go_simp) (by go_simp)
  have fX3_2 := fL hb (a := ⟨w8.heap.size, 2, none⟩) (v := .int .u8 0) (by go_simp) (by go_simp)
  replace kk := bC kk hz
  clear hb hz
  go_wp2_with fail
  (with_reducible refine (MK.out _ _ ny2).mono ?_); rintro e w10 ⟨rfl, hb⟩
  replace ny2 := ny2.later hb
  replace cX0_0 := cL hb cX0_0; replace cX0_1 := cL hb cX0_1
  replace sX0 : w.heap.size < w10.heap.size := bL cX0_0
  clear cX1_0 cX1_1 cX1_2 cX1_3 sX1
  replace fX2_0 := fL hb cX2_0 fX2_0; replace fX2_1 := fL hb cX2_1 fX2_1; replace fX2_2 := fL hb cX2_2 fX2_2
  replace cX2_0 := cL hb cX2_0; replace cX2_1 := cL hb cX2_1; replace cX2_2 := cL hb cX2_2
  replace sX2 : w.heap.size + 1 + 1 < w10.heap.size ∧ w.heap.size + 1 < w10.heap.size := by have h : w.heap.size + 1 + 1 < w10.heap.size := bL cX2_0; exact ⟨h, by omega⟩
  replace fX3_0 := fL hb cX3_0 fX3_0; replace fX3_1 := fL hb cX3_1 fX3_1; replace fX3_2 := fL hb cX3_2 fX3_2
  replace cX3_0 := cL hb cX3_0; replace cX3_1 := cL hb cX3_1; replace cX3_2 := cL hb cX3_2
  replace sX3 : w8.heap.size < w10.heap.size := bL cX3_0
  replace kk := bC kk hb
  clear hb
  clear ny2
  have KEY : Hid ((fun W : World => W.cell? ⟨w.heap.size + 1 + 1, 0, none⟩ = some (.int .u64 rh) ∧ W.cell? ⟨w.heap.size + 1 + 1, 1, none⟩ = some (.int .u64 rl) ∧ W.cell? ⟨w.heap.size + 1 + 1, 2, none⟩ = some (.int .u8 16) ∧ Below w.heap.size w W) ((((((w10.setCell ⟨w8.heap.size, 0, none⟩ (.int .u64 rh)).setCell ⟨w8.heap.size, 1, none⟩ (.int .u64 rl)).setCell ⟨w8.heap.size, 2, none⟩ (.int .u8 16)).setCell ⟨w.heap.size + 1 + 1, 0, none⟩ (.int .u64 rh)).setCell ⟨w.heap.size + 1 + 1, 1, none⟩ (.int .u64 rl)).setCell ⟨w.heap.size + 1 + 1, 2, none⟩ (.int .u8 16))) := Lib.hid ⟨by go_simp, by go_simp, by go_simp, ((((((kk.setCell (p := ⟨w8.heap.size, 0, none⟩) gX3 _).setCell (p := ⟨w8.heap.size, 1, none⟩) gX3 _).setCell (p := ⟨w8.heap.size, 2, none⟩) gX3 _).setCell (p := ⟨w.heap.size + 1 + 1, 0, none⟩) gX2 _).setCell (p := ⟨w.heap.size + 1 + 1, 1, none⟩) gX2 _).setCell (p := ⟨w.heap.size + 1 + 1, 2, none⟩) gX2 _)⟩
  go_wp2_with fail
  obtain ⟨e0, e1, e2, kb⟩ := KEY.out
  clear KEY cX2_0 cX2_1 cX2_2 fX2_0 fX2_1 fX2_2
  refine bodyPost_ret (v := .agg #[.int .u64 rh, .int .u64 rl, .int .u8 16]) ?_ rfl ⟨rfl, kb⟩
  simp [results, Tryz.results7, go_sem, e0, e1, e2]

set_option maxHeartbeats 4000000 in
set_option maxRecDepth 100000 in
theorem ref16_sub_11 (ao : Option Addr) (kl cap : Nat) (f m E X p em ls L1 a1 e1 p1 a2 n1 Y1 r1 L2 a3 a4 ow mx un n2 Y2 r2 L3 rh rl : Int) (lt ng more : Bool)
    (h0 : Hid (∀ w, Calls Tryz.prog 22 #[.int .u8 f] w fun e w' => e = .returned (.int .i64 p) ∧ Below w.heap.size w w'))
    (h1 : Hid (∀ w, Calls Tryz.prog 23 #[.int .u8 f] w fun e w' => e = .returned (.int .i64 em) ∧ Below w.heap.size w w')) (g1 : decide (3 < f) = false) (g2 : decide (4 < m) = false) (hz : ((kl : Int) == 0) = false) (w1 : IntKind.i64.wrap (1 - em) = ls) (w1x : wrap64 (1 - em) = ls) (w2 : IntKind.i64.wrap (L1 - 1) = a1) (w2x : wrap64 (L1 - 1) = a1) (w3 : IntKind.i64.wrap (a1 + E) = e1) (w3x : wrap64 (a1 + E) = e1) (w4 : IntKind.i64.wrap (p - 1) = p1) (w4x : wrap64 (p - 1) = p1) (w5 : IntKind.i64.wrap (e1 - p1) = a2) (w5x : wrap64 (e1 - p1) = a2) (w6 : IntKind.i64.wrap (a2 - E) = n1) (w6x : wrap64 (a2 - E) = n1) (w7 : IntKind.i64.wrap (L2 - 1) = a3) (w7x : wrap64 (L2 - 1) = a3) (w8 : IntKind.i64.wrap (a3 + e1) = a4) (w8x : wrap64 (a3 + e1) = a4) (w9 : IntKind.i64.wrap (a4 - p1) = ow) (w9x : wrap64 (a4 - p1) = ow) (q1 : (if ls > e1 then ls else e1) = mx) (q1' : (if e1 < ls then ls else e1) = mx) (v1 : IntKind.i64.wrap (mx - p1) = un) (v1x : wrap64 (mx - p1) = un) (v2 : IntKind.i64.wrap (un - E) = n2) (v2x : wrap64 (un - E) = n2) (LX : Hid (∀ w v, IsNum w v X → Calls Tryz.prog 24 #[v] w fun e w' => e = .returned (.int .i64 L1) ∧ Below w.heap.size w w')) (C1 : Hid (∀ w v, IsNum w v X → Calls Tryz.prog 25 #[v, .int .i64 n1, .bool more, .int .u8 m, .bool ng] w fun e w' => ∃ u, e = .returned (.tuple #[u, .int .i64 r1]) ∧ IsNum w' u Y1 ∧ Below w.heap.size w w')) (LY : Hid (∀ w v, IsNum w v Y1 → Calls Tryz.prog 24 #[v] w fun e w' => e = .returned (.int .i64 L2) ∧ Below w.heap.size w w')) (g3 : decide (em < ow) = false) (C2 : Hid (∀ w v, IsNum w v X → Calls Tryz.prog 25 #[v, .int .i64 n2, .bool more, .int .u8 m, .bool ng] w fun e w' => ∃ u, e = .returned (.tuple #[u, .int .i64 r2]) ∧ IsNum w' u Y2 ∧ Below w.heap.size w w')) (LZ : Hid (∀ w v, IsNum w v Y2 → Calls Tryz.prog 24 #[v] w fun e w' => e = .returned (.int .i64 L3) ∧ Below w.heap.size w w')) (g4 : decide (L3 < p) = true) (MK : Hid (∀ w v, IsNum w v Y2 → Calls Tryz.prog 21 #[.int .u8 f, .bool ng, .int .i64 0, v] w fun e w' => e = .returned (.agg #[.int .u64 rh, .int .u64 rl]) ∧ Below w.heap.size w w')) (g5 : (r2 == 0) = false) (g6 : decide (ow < ls) = true) (g7 : decide (e1 < ls) = lt) (w : World) (nv : IsNum w (.slice ao kl cap) (X)) :
    Calls Tryz.prog 7 #[.int .u8 f, .agg #[.int .u8 m, .bool true], .agg #[.bool ng, .slice ao kl cap, .int .i64 E, .bool more]] w fun e w' => e = .returned (.agg #[.int .u64 rh, .int .u64 rl, .int .u8 24]) ∧ Below w.heap.size w w' := by
  have hss : ∀ (w : World) (b o : Nat) (v v2 : Value), (w.setCell ⟨b, o, none⟩ v).setCell ⟨b, o, none⟩ v2 = w.setCell ⟨b, o, none⟩ v2 := setCell_twice
  go_enter Tryz.func7, Tryz.ntmps7
  go_wp2_with fail
  (with_reducible refine (h0.out _).mono ?_); rintro e w1 ⟨rfl, hb⟩
  have hz := bC (bA (bA (bA (Below.refl _ _) _) _) _) hb
  replace nv := nv.later hz
  have gX2 : w.heap.size ≤ w.heap.size + 1 + 1 := by omega
  have cX0_0 := cL hb (a := ⟨w.heap.size, 0, none⟩) (v := .int .u8 m) (by go_simp)
  have cX0_1 := cL hb (a := ⟨w.heap.size, 1, none⟩) (v := .bool true) (by go_simp)
  have sX0 : w.heap.size < w1.heap.size := bL cX0_0
  have cX1_0 := cL hb (a := ⟨w.heap.size + 1, 0, none⟩) (v := .bool ng) (by go_simp)
  have cX1_1 := cL hb (a := ⟨w.heap.size + 1, 1, none⟩) (v := .slice ao kl cap) (by go_simp)
  have cX1_2 := cL hb (a := ⟨w.heap.size + 1, 2, none⟩) (v := .int .i64 E) (by go_simp)
  have cX1_3 := cL hb (a := ⟨w.heap.size + 1, 3, none⟩) (v := .bool more) (by go_simp)
  have sX1 : w.heap.size + 1 < w1.heap.size ∧ w.heap.size < w1.heap.size := by have h : w.heap.size + 1 < w1.heap.size := bL cX1_0; exact ⟨h, by omega⟩
  have cX2_0 := cL hb (a := ⟨w.heap.size + 1 + 1, 0, none⟩) (v := .int .u64 0) (by go_simp)
  have cX2_1 := cL hb (a := ⟨w.heap.size + 1 + 1, 1, none⟩) (v := .int .u64 0) (by go_simp)
  have cX2_2 := cL hb (a := ⟨w.heap.size + 1 + 1, 2, none⟩) (v := .int .u8 0) (by go_simp)
  have sX2 : w.heap.size + 1 + 1 < w1.heap.size ∧ w.heap.size + 1 < w1.heap.size := by have h : w.heap.size + 1 + 1 < w1.heap.size := bL cX2_0; exact ⟨h, by omega⟩
  have fX2_0 := fL hb (a := ⟨w.heap.size + 1 + 1, 0, none⟩) (v := .int .u64 0) (by go_simp) (by go_simp)
  have fX2_1 := fL hb (a := ⟨w.heap.size + 1 + 1, 1, none⟩) (v := .int .u64 0) (by go_simp) (by go_simp)
  have fX2_2 := fL hb (a := ⟨w.heap.size + 1 + 1, 2, none⟩) (v := .int .u8 0) (by go_simp) (by go_simp)
  have kk := hz
  clear hb hz
  go_wp2_with fail
  (with_reducible refine (h1.out _).mono ?_); rintro e w2 ⟨rfl, hb⟩
  replace nv := nv.later hb
  replace cX0_0 := cL hb cX0_0; replace cX0_1 := cL hb cX0_1
  replace sX0 : w.heap.size < w2.heap.size := bL cX0_0
  replace cX1_0 := cL hb cX1_0; replace cX1_1 := cL hb cX1_1; replace cX1_2 := cL hb cX1_2; replace cX1_3 := cL hb cX1_3
  replace sX1 : w.heap.size + 1 < w2.heap.size ∧ w.heap.size < w2.heap.size := by have h : w.heap.size + 1 < w2.heap.size := bL cX1_0; exact ⟨h, by omega⟩
  replace fX2_0 := fL hb cX2_0 fX2_0; replace fX2_1 := fL hb cX2_1 fX2_1; replace fX2_2 := fL hb cX2_2 fX2_2
  replace cX2_0 := cL hb cX2_0; replace cX2_1 := cL hb cX2_1; replace cX2_2 := cL hb cX2_2
  replace sX2 : w.heap.size + 1 + 1 < w2.heap.size ∧ w.heap.size + 1 < w2.heap.size := by have h : w.heap.size + 1 + 1 < w2.heap.size := bL cX2_0; exact ⟨h, by omega⟩
  replace kk := bC kk hb
  clear hb
  go_wp2_with fail
  refine wp_region_noPanic ?_
  refine wp_region_held_drew (S := fun w' => w'.cell? ⟨w.heap.size + 1, 1, none⟩ = some (.slice ao kl cap) ∧ w'.cell? ⟨w.heap.size + 1, 2, none⟩ = some (.int .i64 E) ∧ True) (by kernel_rfl) ⟨cL (Below.refl _ _).drew cX1_1, cL (Below.refl _ _).drew cX1_2, trivial⟩ (fun hHeld => ?_)
  replace nv := nv.later (Below.refl _ _).drew
  replace cX0_0 := cL (Below.refl _ _).drew cX0_0; replace cX0_1 := cL (Below.refl _ _).drew cX0_1
  replace cX1_0 := cL (Below.refl _ _).drew cX1_0; replace cX1_1 := cL (Below.refl _ _).drew cX1_1; replace cX1_2 := cL (Below.refl _ _).drew cX1_2; replace cX1_3 := cL (Below.refl _ _).drew cX1_3
  replace fX2_0 := fL (Below.refl _ _).drew cX2_0 fX2_0; replace fX2_1 := fL (Below.refl _ _).drew cX2_1 fX2_1; replace fX2_2 := fL (Below.refl _ _).drew cX2_2 fX2_2
  replace cX2_0 := cL (Below.refl _ _).drew cX2_0; replace cX2_1 := cL (Below.refl _ _).drew cX2_1; replace cX2_2 := cL (Below.refl _ _).drew cX2_2
  replace kk := bC kk (Below.refl _ _).drew
  refine wpAnyH_take (i := 0) (v := ?vq159) rfl (by kernel_rfl) (by kernel_rfl) (by kernel_rfl) (fun _ _ _ h => h) (Or.inl ⟨by rfl, ?yq159⟩) hHeld ?rq159
  case yq159 => (intro wq hb; obtain ⟨lq0, lq1, _⟩ := hb; go_simp; try (with_reducible rfl))
  try simp only [zA, zB, zC, Act.put, zD, zE, zF]
  refine wpAnyH_take (i := 1) (v := ?vq160) rfl (by kernel_rfl) (by kernel_rfl) (by kernel_rfl) (fun _ _ _ h => h) (Or.inl ⟨by rfl, ?yq160⟩) hHeld ?rq160
  case yq160 => (intro wq hb; obtain ⟨lq0, lq1, _⟩ := hb; go_simp; try (with_reducible rfl))
  try simp only [zA, zB, zC, Act.put, zD, zE, zF]
  refine wpAnyH_take (i := 4) (v := ?vq161) rfl (by kernel_rfl) (by kernel_rfl) (by kernel_rfl) (fun _ _ _ h => h) (Or.inl ⟨by rfl, ?yq161⟩) hHeld ?rq161
  case yq161 => (intro wq hb; obtain ⟨lq0, lq1, _⟩ := hb; go_simp; try (with_reducible rfl))
  try simp only [zA, zB, zC, Act.put, zD, zE, zF]
  refine wpAnyH_take (i := 5) (v := ?vq162) rfl (by kernel_rfl) (by kernel_rfl) (by kernel_rfl) (fun _ _ _ h => h) (Or.inl ⟨by rfl, ?yq162⟩) hHeld ?rq162
  case yq162 => (intro wq hb; obtain ⟨lq0, lq1, _⟩ := hb; go_simp; try (with_reducible rfl))
  try simp only [zA, zB, zC, Act.put, zD, zE, zF]
  clear hHeld
  refine wpAnyH_ready (rs := [2]) (by kernel_rfl) (by simp) ?_
  refine AllReadyH.cons rfl (fun K hK => ?_) AllReadyH.nil
  go_simp
  (with_reducible refine (LX.out _ _ nv).mono ?_); rintro e w4 ⟨rfl, hb⟩
  replace nv := nv.later hb
  replace cX0_0 := cL hb cX0_0; replace cX0_1 := cL hb cX0_1
  replace cX1_0 := cL hb cX1_0; replace cX1_1 := cL hb cX1_1; replace cX1_2 := cL hb cX1_2; replace cX1_3 := cL hb cX1_3
  replace fX2_0 := fL hb cX2_0 fX2_0; replace fX2_1 := fL hb cX2_1 fX2_1; replace fX2_2 := fL hb cX2_2 fX2_2
  replace cX2_0 := cL hb cX2_0; replace cX2_1 := cL hb cX2_1; replace cX2_2 := cL hb cX2_2
  replace kk := bC kk hb
  clear hb
  refine hK.out _ _ ⟨cX1_1, cX1_2, trivial⟩ (fun hHeld => ?_)
  clear hK K
  try simp only [zA, zB, zC, Act.put, zD, zE, zF]
  refine wpAnyH_take (i := 3) (v := ?vq163) rfl (by kernel_rfl) (by kernel_rfl) (by kernel_rfl) (fun _ _ _ h => h) (Or.inl ⟨by rfl, ?yq163⟩) hHeld ?rq163
  case yq163 => (intro wq hb; obtain ⟨lq0, lq1, _⟩ := hb; go_simp; try (with_reducible rfl))
  try simp only [zA, zB, zC, Act.put, zD, zE, zF]
  refine wpAnyH_take (i := 6) (v := ?vq164) rfl (by kernel_rfl) (by kernel_rfl) (by kernel_rfl) (fun _ _ _ h => h) (Or.inl ⟨by rfl, ?yq164⟩) hHeld ?rq164
  case yq164 => (intro wq hb; obtain ⟨lq0, lq1, _⟩ := hb; go_simp; try (with_reducible rfl))
  try simp only [zA, zB, zC, Act.put, zD, zE, zF]
  refine wpAnyH_take (i := 7) (v := ?vq165) rfl (by kernel_rfl) (by kernel_rfl) (by kernel_rfl) (fun _ _ _ h => h) (Or.inl ⟨by rfl, ?yq165⟩) hHeld ?rq165
  case yq165 => (intro wq hb; obtain ⟨lq0, lq1, _⟩ := hb; go_simp; try (with_reducible rfl))
  try simp only [zA, zB, zC, Act.put, zD, zE, zF]
  clear hHeld
  refine wpAnyH_done (by kernel_rfl) ?_ _
  refine NoPanic.normal ?_
  replace sX0 : w.heap.size < w4.heap.size := bL cX0_0
  replace sX1 : w.heap.size + 1 < w4.heap.size ∧ w.heap.size < w4.heap.size := by have h : w.heap.size + 1 < w4.heap.size := bL cX1_0; exact ⟨h, by omega⟩
  replace sX2 : w.heap.size + 1 + 1 < w4.heap.size ∧ w.heap.size + 1 < w4.heap.size := by have h : w.heap.size + 1 + 1 < w4.heap.size := bL cX2_0; exact ⟨h, by omega⟩
  go_wp2_with fail
  (with_reducible refine (C1.out _ _ nv).mono ?_); rintro e w5 ⟨y1, rfl, ny1, hb⟩
  replace nv := nv.later hb
  replace cX0_0 := cL hb cX0_0; replace cX0_1 := cL hb cX0_1
  replace sX0 : w.heap.size < w5.heap.size := bL cX0_0
  replace cX1_0 := cL hb cX1_0; replace cX1_1 := cL hb cX1_1; replace cX1_2 := cL hb cX1_2; replace cX1_3 := cL hb cX1_3
  replace sX1 : w.heap.size + 1 < w5.heap.size ∧ w.heap.size < w5.heap.size := by have h : w.heap.size + 1 < w5.heap.size := bL cX1_0; exact ⟨h, by omega⟩
  replace fX2_0 := fL hb cX2_0 fX2_0; replace fX2_1 := fL hb cX2_1 fX2_1; replace fX2_2 := fL hb cX2_2 fX2_2
  replace cX2_0 := cL hb cX2_0; replace cX2_1 := cL hb cX2_1; replace cX2_2 := cL hb cX2_2
  replace sX2 : w.heap.size + 1 + 1 < w5.heap.size ∧ w.heap.size + 1 < w5.heap.size := by have h : w.heap.size + 1 + 1 < w5.heap.size := bL cX2_0; exact ⟨h, by omega⟩
  replace kk := bC kk hb
  clear hb
  go_wp2_with fail
  (with_reducible refine (LY.out _ _ ny1).mono ?_); rintro e w6 ⟨rfl, hb⟩
  replace nv := nv.later hb
  replace ny1 := ny1.later hb
  replace cX0_0 := cL hb cX0_0; replace cX0_1 := cL hb cX0_1
  replace sX0 : w.heap.size < w6.heap.size := bL cX0_0
  replace cX1_0 := cL hb cX1_0; replace cX1_1 := cL hb cX1_1; replace cX1_2 := cL hb cX1_2; replace cX1_3 := cL hb cX1_3
  replace sX1 : w.heap.size + 1 < w6.heap.size ∧ w.heap.size < w6.heap.size := by have h : w.heap.size + 1 < w6.heap.size := bL cX1_0; exact ⟨h, by omega⟩
  replace fX2_0 := fL hb cX2_0 fX2_0; replace fX2_1 := fL hb cX2_1 fX2_1; replace fX2_2 := fL hb cX2_2 fX2_2
  replace cX2_0 := cL hb cX2_0; replace cX2_1 := cL hb cX2_1; replace cX2_2 := cL hb cX2_2
  replace sX2 : w.heap.size + 1 + 1 < w6.heap.size ∧ w.heap.size + 1 < w6.heap.size := by have h : w.heap.size + 1 + 1 < w6.heap.size := bL cX2_0; exact ⟨h, by omega⟩
  replace kk := bC kk hb
  clear hb
  clear ny1
  go_wp2_with fail
  (with_reducible refine (h1.out _).mono ?_); rintro e w7 ⟨rfl, hb⟩
  replace nv := nv.later hb
  replace cX0_0 := cL hb cX0_0; replace cX0_1 := cL hb cX0_1
  replace sX0 : w.heap.size < w7.heap.size := bL cX0_0
  replace cX1_0 := cL hb cX1_0; replace cX1_1 := cL hb cX1_1; replace cX1_2 := cL hb cX1_2; replace cX1_3 := cL hb cX1_3
  replace sX1 : w.heap.size + 1 < w7.heap.size ∧ w.heap.size < w7.heap.size := by have h : w.heap.size + 1 < w7.heap.size := bL cX1_0; exact ⟨h, by omega⟩
  replace fX2_0 := fL hb cX2_0 fX2_0; replace fX2_1 := fL hb cX2_1 fX2_1; replace fX2_2 := fL hb cX2_2 fX2_2
  replace cX2_0 := cL hb cX2_0; replace cX2_1 := cL hb cX2_1; replace cX2_2 := cL hb cX2_2
  replace sX2 : w.heap.size + 1 + 1 < w7.heap.size ∧ w.heap.size + 1 < w7.heap.size := by have h : w.heap.size + 1 + 1 < w7.heap.size := bL cX2_0; exact ⟨h, by omega⟩
  replace kk := bC kk hb
  clear hb
  go_wp2_with fail
  (with_reducible refine (C2.out _ _ nv).mono ?_); rintro e w8 ⟨y2, rfl, ny2, hb⟩
  replace nv := nv.later hb
  replace cX0_0 := cL hb cX0_0; replace cX0_1 := cL hb cX0_1
  replace sX0 : w.heap.size < w8.heap.size := bL cX0_0
  replace cX1_0 := cL hb cX1_0; replace cX1_1 := cL hb cX1_1; replace cX1_2 := cL hb cX1_2; replace cX1_3 := cL hb cX1_3
  replace sX1 : w.heap.size + 1 < w8.heap.size ∧ w.heap.size < w8.heap.size := by have h : w.heap.size + 1 < w8.heap.size := bL cX1_0; exact ⟨h, by omega⟩
  replace fX2_0 := fL hb cX2_0 fX2_0; replace fX2_1 := fL hb cX2_1 fX2_1; replace fX2_2 := fL hb cX2_2 fX2_2
  replace cX2_0 := cL hb cX2_0; replace cX2_1 := cL hb cX2_1; replace cX2_2 := cL hb cX2_2
  replace sX2 : w.heap.size + 1 + 1 < w8.heap.size ∧ w.heap.size + 1 < w8.heap.size := by have h : w.heap.size + 1 + 1 < w8.heap.size := bL cX2_0; exact ⟨h, by omega⟩
  replace kk := bC kk hb
  clear hb
  clear nv
  go_wp2_with fail
  replace ny2 := ny2.later (bA (Below.refl _ _) (.cells #[.int .u64 0, .int .u64 0, .int .u8 0] 33))
  (with_reducible refine (LZ.out _ _ ny2).mono ?_); rintro e w9 ⟨rfl, hb⟩
  have hz := bC (bA (Below.refl _ _) _) hb
  replace ny2 := ny2.later hb
  have nX0_X3 : w.heap.size < w8.heap.size := by omega
  have nX1_X3 : w.heap.size + 1 < w8.heap.size := by omega
  have nX2_X3 : w.heap.size + 1 + 1 < w8.heap.size := by omega
  have gX3 : w.heap.size ≤ w8.heap.size := by have := kk.size; omega
  replace cX0_0 := cL hz cX0_0; replace cX0_1 := cL hz cX0_1
  replace sX0 : w.heap.size < w9.heap.size := bL cX0_0
  replace cX1_0 := cL hz cX1_0; replace cX1_1 := cL hz cX1_1; replace cX1_2 := cL hz cX1_2; replace cX1_3 := cL hz cX1_3
  replace sX1 : w.heap.size + 1 < w9.heap.size ∧ w.heap.size < w9.heap.size := by have h : w.heap.size + 1 < w9.heap.size := bL cX1_0; exact ⟨h, by omega⟩
  replace fX2_0 := fL hz cX2_0 fX2_0; replace fX2_1 := fL hz cX2_1 fX2_1; replace fX2_2 := fL hz cX2_2 fX2_2
  replace cX2_0 := cL hz cX2_0; replace cX2_1 := cL hz cX2_1; replace cX2_2 := cL hz cX2_2
  replace sX2 : w.heap.size + 1 + 1 < w9.heap.size ∧ w.heap.size + 1 < w9.heap.size := by have h : w.heap.size + 1 + 1 < w9.heap.size := bL cX2_0; exact ⟨h, by omega⟩
  have cX3_0 := cL hb (a := ⟨w8.heap.size, 0, none⟩) (v := .int .u64 0) (by go_simp)
  have cX3_1 := cL hb (a := ⟨w8.heap.size, 1, none⟩) (v := .int .u64 0) (by go_simp)
  have cX3_2 := cL hb (a := ⟨w8.heap.size, 2, none⟩) (v := .int .u8 0) (by go_simp)
  have sX3 : w8.heap.size < w9.heap.size := bL cX3_0
  have fX3_0 := fL hb (a := ⟨w8.heap.size, 0, none⟩) (v := .int .u64 0) (by go_simp) (by go_simp)
  have fX3_1 := fL hb (a := ⟨w8.heap.size, 1, none⟩) (v := .int .u64 0) (by go_simp) (by go_simp)
  have fX3_2 := fL hb (a := ⟨w8.heap.size, 2, none⟩) (v := .int .u8 0) (by go_simp) (by go_simp)
  replace kk := bC kk hz
  clear hb hz
  go_wp2_with fail
  (with_reducible refine (MK.out _ _ ny2).mono ?_); rintro e w10 ⟨rfl, hb⟩
  replace ny2 := ny2.later hb
  replace cX0_0 := cL hb cX0_0; replace cX0_1 := cL hb cX0_1
  replace sX0 : w.heap.size < w10.heap.size := bL cX0_0
  clear cX1_0 cX1_1 cX1_2 cX1_3 sX1
  replace fX2_0 := fL hb cX2_0 fX2_0; replace fX2_1 := fL hb cX2_1 fX2_1; replace fX2_2 := fL hb cX2_2 fX2_2
  replace cX2_0 := cL hb cX2_0; replace cX2_1 := cL hb cX2_1; replace cX2_2 := cL hb cX2_2
  replace sX2 : w.heap.size + 1 + 1 < w10.heap.size ∧ w.heap.size + 1 < w10.heap.size := by have h : w.heap.size + 1 + 1 < w10.heap.size := bL cX2_0; exact ⟨h, by omega⟩
  replace fX3_0 := fL hb cX3_0 fX3_0; replace fX3_1 := fL hb cX3_1 fX3_1; replace fX3_2 := fL hb cX3_2 fX3_2
  replace cX3_0 := cL hb cX3_0; replace cX3_1 := cL hb cX3_1; replace cX3_2 := cL hb cX3_2
  replace sX3 : w8.heap.size < w10.heap.size := bL cX3_0
  replace kk := bC kk hb
  clear hb
  clear ny2
  have KEY : Hid ((fun W : World => W.cell? ⟨w.heap.size + 1 + 1, 0, none⟩ = some (.int .u64 rh) ∧ W.cell? ⟨w.heap.size + 1 + 1, 1, none⟩ = some (.int .u64 rl) ∧ W.cell? ⟨w.heap.size + 1 + 1, 2, none⟩ = some (.int .u8 24) ∧ Below w.heap.size w W) ((((((w10.setCell ⟨w8.heap.size, 0, none⟩ (.int .u64 rh)).setCell ⟨w8.heap.size, 1, none⟩ (.int .u64 rl)).setCell ⟨w8.heap.size, 2, none⟩ (.int .u8 24)).setCell ⟨w.heap.size + 1 + 1, 0, none⟩ (.int .u64 rh)).setCell ⟨w.heap.size + 1 + 1, 1, none⟩ (.int .u64 rl)).setCell ⟨w.heap.size + 1 + 1, 2, none⟩ (.int .u8 24))) := Lib.hid ⟨by go_simp, by go_simp, by go_simp, ((((((kk.setCell (p := ⟨w8.heap.size, 0, none⟩) gX3 _).setCell (p := ⟨w8.heap.size, 1, none⟩) gX3 _).setCell (p := ⟨w8.heap.size, 2, none⟩) gX3 _).setCell (p := ⟨w.heap.size + 1 + 1, 0, none⟩) gX2 _).setCell (p := ⟨w.heap.size + 1 + 1, 1, none⟩) gX2 _).setCell (p := ⟨w.heap.size + 1 + 1, 2, none⟩) gX2 _)⟩
  go_wp2_with fail
  obtain ⟨e0, e1, e2, kb⟩ := KEY.out
  clear KEY cX2_0 cX2_1 cX2_2 fX2_0 fX2_1 fX2_2
  refine bodyPost_ret (v := .agg #[.int .u64 rh, .int .u64 rl, .int .u8 24]) ?_ rfl ⟨rfl, kb⟩
  simp [results, Tryz.results7, go_sem, e0, e1, e2]



end Go.Proofs.YtbcjboaihahemaaGreatDoor
