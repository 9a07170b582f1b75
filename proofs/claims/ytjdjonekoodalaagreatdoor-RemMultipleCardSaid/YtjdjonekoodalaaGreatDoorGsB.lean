import Derived.Conc.MuLone
import Derived.Test.YtjdjonekoodalaaGreatDoorGsA
import Derived.Test.YtjdjonekoodalaaGreatDoorGaC
import Derived.Test.YtjdjonekoodalaaGreatDoorGnB
set_option maxHeartbeats 4000000
set_option linter.unusedVariables false
set_option linter.unusedSimpArgs false
set_option maxRecDepth 100000
namespace Go.Proofs.YtjdjonekoodalaaGreatDoor
open Go.RowKit
attribute [local go_sem ↓] Go.wp_at_zero Go.wp_at_succ
theorem left2_fun {b1 b2 b3 : Nat} (a0 a1 i : Int) (wh p : Nat) (u0 : U64 a0) (u1 : U64 a1) (hp : p ≤ 64) (i0 : 0 ≤ i) (i1 : i ≤ 4) (wh1 : wh ≤ 1000000000000000000) (w : World)
    (cA0 : w.cell? ⟨b1, 0, none⟩ = some (.int .u64 a0)) (cA1 : w.cell? ⟨b1, 1, none⟩ = some (.int .u64 a1)) (cW : w.cell? ⟨b2, 0, none⟩ = some (.int .i64 (wh : Int))) (cP : w.cell? ⟨b3, 0, none⟩ = some (.int .i64 (p : Int))) :
    Calls Tryz.prog 158 #[.int .i64 i, .pointer (some ⟨b1, 0, none⟩), .pointer (some ⟨b2, 0, none⟩), .pointer (some ⟨b3, 0, none⟩)] w fun e w' =>
      e = .returned (.int .u64 (lft2 a0 a1 wh p i)) ∧ Below w.heap.size w w' := by
  have e1 : ((64 : Int) - (p : Int)).toNat = 64 - p := by omega
  refine left2_core a0 a1 i wh p (64 - (p : Int)) (i - (wh : Int)) (i - (wh : Int) - 1) _ _ (upLo (dg2 a0 a1 (i - (wh : Int))) p) (upHi (dg2 a0 a1 (i - (wh : Int) - 1)) p) _ (IntWalk.i64_in _ (by omega)) (IntWalk.i64_in _ (by omega)) (IntWalk.i64_in _ (by omega)) ?_ ?_ ?_ (lH fun w => digit2_any a0 a1 _ w) (lH fun w => digit2_any a0 a1 _ w) w cA0 cA1 cW cP
  · rw [shift_shl .u64 .i64 _ _ (by omega) (by show (_ : Int) ≤ 64; omega)]; rw [IntKind.wrap_u64, Int.toNat_natCast]; rfl
  · rw [shift_shr .u64 .i64 _ _ (by omega) (by show (_ : Int) ≤ 64; omega), e1]; rfl
  · exact up_or (dg2_u u0 u1 _) hp
theorem right2_fun {b1 b2 b3 : Nat} (a0 a1 i : Int) (wh p : Nat) (u0 : U64 a0) (u1 : U64 a1) (hp : p ≤ 64) (i0 : 0 ≤ i) (i1 : i ≤ 4) (wh1 : wh ≤ 1000000000000000000) (w : World)
    (cA0 : w.cell? ⟨b1, 0, none⟩ = some (.int .u64 a0)) (cA1 : w.cell? ⟨b1, 1, none⟩ = some (.int .u64 a1)) (cW : w.cell? ⟨b2, 0, none⟩ = some (.int .i64 (wh : Int))) (cP : w.cell? ⟨b3, 0, none⟩ = some (.int .i64 (p : Int))) :
    Calls Tryz.prog 169 #[.int .i64 i, .pointer (some ⟨b1, 0, none⟩), .pointer (some ⟨b2, 0, none⟩), .pointer (some ⟨b3, 0, none⟩)] w fun e w' =>
      e = .returned (.int .u64 (rgt2 a0 a1 wh p i)) ∧ Below w.heap.size w w' := by
  have e1 : ((64 : Int) - (p : Int)).toNat = 64 - p := by omega
  refine right2_core a0 a1 i wh p (64 - (p : Int)) (i + (wh : Int)) (i + (wh : Int) + 1) _ _ (dnLo (dg2 a0 a1 (i + (wh : Int))) p) (dnHi (dg2 a0 a1 (i + (wh : Int) + 1)) p) _ (IntWalk.i64_in _ (by omega)) (IntWalk.i64_in _ (by omega)) (IntWalk.i64_in _ (by omega)) ?_ ?_ ?_ (lH fun w => digit2_any a0 a1 _ w) (lH fun w => digit2_any a0 a1 _ w) w cA0 cA1 cW cP
  · rw [shift_shr .u64 .i64 _ _ (by omega) (by show (_ : Int) ≤ 64; omega)]; rw [Int.toNat_natCast]; rfl
  · rw [shift_shl .u64 .i64 _ _ (by omega) (by show (_ : Int) ≤ 64; omega), e1]; rw [IntKind.wrap_u64]; rfl
  · exact dn_or (dg2_u u0 u1 _) hp
def Bld2 (w : World) (d0 d1 : Int) (i : Value) (wr : World) : Prop :=
  ((i = .int .i64 0 ∧ HB wr (w.heap.size + 1) 157 #[.int .u64 0, .int .u64 0]) ∨ (i = .int .i64 1 ∧ HB wr (w.heap.size + 1) 157 #[.int .u64 d0, .int .u64 0]) ∨ (i = .int .i64 2 ∧ HB wr (w.heap.size + 1) 157 #[.int .u64 d0, .int .u64 d1])) ∧ HB wr w.heap.size 157 #[.int .u64 0, .int .u64 0] ∧ Below w.heap.size w wr
theorem build2_any (g : Nat) (hg : ∀ args w, (callFunc g args).run Tryz.prog w = .ok (.enter g args) w) {b1 b2 b3 : Nat} (d0 d1 : Int) (w : World)
    (H0 : Hid (∀ W, Below w.heap.size w W → Calls Tryz.prog g #[.int .i64 0, .pointer (some ⟨b1, 0, none⟩), .pointer (some ⟨b2, 0, none⟩), .pointer (some ⟨b3, 0, none⟩)] W fun e W' => e = .returned (.int .u64 d0) ∧ Below W.heap.size W W'))
    (H1 : Hid (∀ W, Below w.heap.size w W → Calls Tryz.prog g #[.int .i64 1, .pointer (some ⟨b1, 0, none⟩), .pointer (some ⟨b2, 0, none⟩), .pointer (some ⟨b3, 0, none⟩)] W fun e W' => e = .returned (.int .u64 d1) ∧ Below W.heap.size W W')) :
    Calls Tryz.prog 157 #[.func (.func g) #[] #[.pointer (some ⟨b1, 0, none⟩), .pointer (some ⟨b2, 0, none⟩), .pointer (some ⟨b3, 0, none⟩)]] w fun e w' => e = .returned (.agg #[.int .u64 d0, .int .u64 d1]) ∧ Below w.heap.size w w' := by
  go_enter Tryz.func157, Tryz.ntmps157
  go_wp2_with fail
  go_loopw [7] (fun i wr => Bld2 w d0 d1 i wr) (fun i _ => 2 - (intOf i).toNat)
  case atStart => exact ⟨.inl ⟨rfl, HB.newAt (by simp) _ _⟩, (HB.new w _ _).alloc _, bA (bA bR _) _⟩
  case round =>
    obtain ⟨hs, hr, kk⟩ := hrel
    rcases hs with ⟨rfl, hx⟩ | ⟨rfl, hx⟩ | ⟨rfl, hx⟩
    · go_wp2_with fail
      (with_reducible refine (H0.out _ kk).mono ?_); rintro e W1 ⟨rfl, hb⟩
      replace hx := hx.later hb; replace hr := hr.later hb; replace kk := bC kk hb
      clear hb H0 H1
      have c := hx.cell 0; have f := hx.frozen 0; have hsz := kk.size
      dsimp at c
      have hx2 : HB (W1.setCell ⟨w.heap.size + 1, 0, none⟩ (.int .u64 d0)) (w.heap.size + 1) 157 #[.int .u64 d0, .int .u64 0] := hx.set 0 (.int .u64 d0)
      have hr2 := hr.other (B' := w.heap.size + 1) (by omega) 0 (.int .u64 d0)
      have kk2 := kk.setCell (p := ⟨w.heap.size + 1, 0, none⟩) (by simp) (.int .u64 d0)
      clear hx hr kk
      go_wp2_with fail
      go_roundw
      case rel => exact ⟨.inr (.inl ⟨rfl, hx2⟩), hr2, kk2⟩
      case measure => simp [intOf]
    · go_wp2_with fail
      (with_reducible refine (H1.out _ kk).mono ?_); rintro e W1 ⟨rfl, hb⟩
      replace hx := hx.later hb; replace hr := hr.later hb; replace kk := bC kk hb
      clear hb H0 H1
      have c := hx.cell 1; have f := hx.frozen 1; have hsz := kk.size
      dsimp at c
      have hx2 : HB (W1.setCell ⟨w.heap.size + 1, 1, none⟩ (.int .u64 d1)) (w.heap.size + 1) 157 #[.int .u64 d0, .int .u64 d1] := hx.set 1 (.int .u64 d1)
      have hr2 := hr.other (B' := w.heap.size + 1) (by omega) 1 (.int .u64 d1)
      have kk2 := kk.setCell (p := ⟨w.heap.size + 1, 1, none⟩) (by simp) (.int .u64 d1)
      clear hx hr kk
      go_wp2_with fail
      go_roundw
      case rel => exact ⟨.inr (.inr (⟨rfl, hx2⟩)), hr2, kk2⟩
      case measure => simp [intOf]
    · clear H0 H1
      have KEY : Hid (HB ((wr.setCell ⟨w.heap.size, 0, none⟩ (.int .u64 d0)).setCell ⟨w.heap.size, 1, none⟩ (.int .u64 d1)) w.heap.size 157 #[.int .u64 d0, .int .u64 d1] ∧ Below w.heap.size w ((wr.setCell ⟨w.heap.size, 0, none⟩ (.int .u64 d0)).setCell ⟨w.heap.size, 1, none⟩ (.int .u64 d1))) := lH ⟨((hr.set 0 _).set 1 _), ((kk.setCell (p := ⟨w.heap.size, 0, none⟩) (Nat.le_refl _) _).setCell (p := ⟨w.heap.size, 1, none⟩) (Nat.le_refl _) _)⟩
      have hsz := kk.size
      have c0 := hx.cell 0; have c1 := hx.cell 1
      dsimp at c0 c1
      have z0 := hr.cell 0; have f0 := hr.frozen 0; dsimp at z0; have z1 := hr.cell 1; have f1 := hr.frozen 1; dsimp at z1
      clear hr hx kk
      go_wp2_with fail
      obtain ⟨hE, kb⟩ := KEY.out
      have e0 := hE.cell 0; have e1 := hE.cell 1
      dsimp at e0 e1
      refine bodyPost_ret (v := .agg #[.int .u64 d0, .int .u64 d1]) ?_ rfl ⟨rfl, kb⟩
      clear c0 z0 f0 c1 z1 f1 kb hE
      simp [results, Tryz.results157, go_sem, e0, e1]
theorem left4_fun {b1 b2 b3 : Nat} (a0 a1 a2 a3 i : Int) (wh p : Nat) (u0 : U64 a0) (u1 : U64 a1) (u2 : U64 a2) (u3 : U64 a3) (hp : p ≤ 64) (i0 : 0 ≤ i) (i1 : i ≤ 4) (wh1 : wh ≤ 1000000000000000000) (w : World)
    (cA0 : w.cell? ⟨b1, 0, none⟩ = some (.int .u64 a0)) (cA1 : w.cell? ⟨b1, 1, none⟩ = some (.int .u64 a1)) (cA2 : w.cell? ⟨b1, 2, none⟩ = some (.int .u64 a2)) (cA3 : w.cell? ⟨b1, 3, none⟩ = some (.int .u64 a3)) (cW : w.cell? ⟨b2, 0, none⟩ = some (.int .i64 (wh : Int))) (cP : w.cell? ⟨b3, 0, none⟩ = some (.int .i64 (p : Int))) :
    Calls Tryz.prog 212 #[.int .i64 i, .pointer (some ⟨b1, 0, none⟩), .pointer (some ⟨b2, 0, none⟩), .pointer (some ⟨b3, 0, none⟩)] w fun e w' =>
      e = .returned (.int .u64 (lft a0 a1 a2 a3 wh p i)) ∧ Below w.heap.size w w' := by
  have e1 : ((64 : Int) - (p : Int)).toNat = 64 - p := by omega
  refine left4_core a0 a1 a2 a3 i wh p (64 - (p : Int)) (i - (wh : Int)) (i - (wh : Int) - 1) _ _ (upLo (dg4 a0 a1 a2 a3 (i - (wh : Int))) p) (upHi (dg4 a0 a1 a2 a3 (i - (wh : Int) - 1)) p) _ (IntWalk.i64_in _ (by omega)) (IntWalk.i64_in _ (by omega)) (IntWalk.i64_in _ (by omega)) ?_ ?_ ?_ (lH fun w => digit4_any a0 a1 a2 a3 _ w) (lH fun w => digit4_any a0 a1 a2 a3 _ w) w cA0 cA1 cA2 cA3 cW cP
  · rw [shift_shl .u64 .i64 _ _ (by omega) (by show (_ : Int) ≤ 64; omega)]; rw [IntKind.wrap_u64, Int.toNat_natCast]; rfl
  · rw [shift_shr .u64 .i64 _ _ (by omega) (by show (_ : Int) ≤ 64; omega), e1]; rfl
  · exact up_or (dg4_u u0 u1 u2 u3 _) hp
theorem right4_fun {b1 b2 b3 : Nat} (a0 a1 a2 a3 i : Int) (wh p : Nat) (u0 : U64 a0) (u1 : U64 a1) (u2 : U64 a2) (u3 : U64 a3) (hp : p ≤ 64) (i0 : 0 ≤ i) (i1 : i ≤ 4) (wh1 : wh ≤ 1000000000000000000) (w : World)
    (cA0 : w.cell? ⟨b1, 0, none⟩ = some (.int .u64 a0)) (cA1 : w.cell? ⟨b1, 1, none⟩ = some (.int .u64 a1)) (cA2 : w.cell? ⟨b1, 2, none⟩ = some (.int .u64 a2)) (cA3 : w.cell? ⟨b1, 3, none⟩ = some (.int .u64 a3)) (cW : w.cell? ⟨b2, 0, none⟩ = some (.int .i64 (wh : Int))) (cP : w.cell? ⟨b3, 0, none⟩ = some (.int .i64 (p : Int))) :
    Calls Tryz.prog 216 #[.int .i64 i, .pointer (some ⟨b1, 0, none⟩), .pointer (some ⟨b2, 0, none⟩), .pointer (some ⟨b3, 0, none⟩)] w fun e w' =>
      e = .returned (.int .u64 (rgt a0 a1 a2 a3 wh p i)) ∧ Below w.heap.size w w' := by
  have e1 : ((64 : Int) - (p : Int)).toNat = 64 - p := by omega
  refine right4_core a0 a1 a2 a3 i wh p (64 - (p : Int)) (i + (wh : Int)) (i + (wh : Int) + 1) _ _ (dnLo (dg4 a0 a1 a2 a3 (i + (wh : Int))) p) (dnHi (dg4 a0 a1 a2 a3 (i + (wh : Int) + 1)) p) _ (IntWalk.i64_in _ (by omega)) (IntWalk.i64_in _ (by omega)) (IntWalk.i64_in _ (by omega)) ?_ ?_ ?_ (lH fun w => digit4_any a0 a1 a2 a3 _ w) (lH fun w => digit4_any a0 a1 a2 a3 _ w) w cA0 cA1 cA2 cA3 cW cP
  · rw [shift_shr .u64 .i64 _ _ (by omega) (by show (_ : Int) ≤ 64; omega)]; rw [Int.toNat_natCast]; rfl
  · rw [shift_shl .u64 .i64 _ _ (by omega) (by show (_ : Int) ≤ 64; omega), e1]; rw [IntKind.wrap_u64]; rfl
  · exact dn_or (dg4_u u0 u1 u2 u3 _) hp
def Bld4 (w : World) (d0 d1 d2 d3 : Int) (i : Value) (wr : World) : Prop :=
  ((i = .int .i64 0 ∧ HB wr (w.heap.size + 1) 81 #[.int .u64 0, .int .u64 0, .int .u64 0, .int .u64 0]) ∨ (i = .int .i64 1 ∧ HB wr (w.heap.size + 1) 81 #[.int .u64 d0, .int .u64 0, .int .u64 0, .int .u64 0]) ∨ (i = .int .i64 2 ∧ HB wr (w.heap.size + 1) 81 #[.int .u64 d0, .int .u64 d1, .int .u64 0, .int .u64 0]) ∨ (i = .int .i64 3 ∧ HB wr (w.heap.size + 1) 81 #[.int .u64 d0, .int .u64 d1, .int .u64 d2, .int .u64 0]) ∨ (i = .int .i64 4 ∧ HB wr (w.heap.size + 1) 81 #[.int .u64 d0, .int .u64 d1, .int .u64 d2, .int .u64 d3])) ∧ HB wr w.heap.size 81 #[.int .u64 0, .int .u64 0, .int .u64 0, .int .u64 0] ∧ Below w.heap.size w wr
theorem build4_any (g : Nat) (hg : ∀ args w, (callFunc g args).run Tryz.prog w = .ok (.enter g args) w) {b1 b2 b3 : Nat} (d0 d1 d2 d3 : Int) (w : World)
    (H0 : Hid (∀ W, Below w.heap.size w W → Calls Tryz.prog g #[.int .i64 0, .pointer (some ⟨b1, 0, none⟩), .pointer (some ⟨b2, 0, none⟩), .pointer (some ⟨b3, 0, none⟩)] W fun e W' => e = .returned (.int .u64 d0) ∧ Below W.heap.size W W'))
    (H1 : Hid (∀ W, Below w.heap.size w W → Calls Tryz.prog g #[.int .i64 1, .pointer (some ⟨b1, 0, none⟩), .pointer (some ⟨b2, 0, none⟩), .pointer (some ⟨b3, 0, none⟩)] W fun e W' => e = .returned (.int .u64 d1) ∧ Below W.heap.size W W'))
    (H2 : Hid (∀ W, Below w.heap.size w W → Calls Tryz.prog g #[.int .i64 2, .pointer (some ⟨b1, 0, none⟩), .pointer (some ⟨b2, 0, none⟩), .pointer (some ⟨b3, 0, none⟩)] W fun e W' => e = .returned (.int .u64 d2) ∧ Below W.heap.size W W'))
    (H3 : Hid (∀ W, Below w.heap.size w W → Calls Tryz.prog g #[.int .i64 3, .pointer (some ⟨b1, 0, none⟩), .pointer (some ⟨b2, 0, none⟩), .pointer (some ⟨b3, 0, none⟩)] W fun e W' => e = .returned (.int .u64 d3) ∧ Below W.heap.size W W')) :
    Calls Tryz.prog 211 #[.func (.func g) #[] #[.pointer (some ⟨b1, 0, none⟩), .pointer (some ⟨b2, 0, none⟩), .pointer (some ⟨b3, 0, none⟩)]] w fun e w' => e = .returned (.agg #[.int .u64 d0, .int .u64 d1, .int .u64 d2, .int .u64 d3]) ∧ Below w.heap.size w w' := by
  go_enter Tryz.func211, Tryz.ntmps211
  go_wp2_with fail
  go_loopw [7] (fun i wr => Bld4 w d0 d1 d2 d3 i wr) (fun i _ => 4 - (intOf i).toNat)
  case atStart => exact ⟨.inl ⟨rfl, HB.newAt (by simp) _ _⟩, (HB.new w _ _).alloc _, bA (bA bR _) _⟩
  case round =>
    obtain ⟨hs, hr, kk⟩ := hrel
    rcases hs with ⟨rfl, hx⟩ | ⟨rfl, hx⟩ | ⟨rfl, hx⟩ | ⟨rfl, hx⟩ | ⟨rfl, hx⟩
    · go_wp2_with fail
      (with_reducible refine (H0.out _ kk).mono ?_); rintro e W1 ⟨rfl, hb⟩
      replace hx := hx.later hb; replace hr := hr.later hb; replace kk := bC kk hb
      clear hb H0 H1 H2 H3
      have c := hx.cell 0; have f := hx.frozen 0; have hsz := kk.size
      dsimp at c
      have hx2 : HB (W1.setCell ⟨w.heap.size + 1, 0, none⟩ (.int .u64 d0)) (w.heap.size + 1) 81 #[.int .u64 d0, .int .u64 0, .int .u64 0, .int .u64 0] := hx.set 0 (.int .u64 d0)
      have hr2 := hr.other (B' := w.heap.size + 1) (by omega) 0 (.int .u64 d0)
      have kk2 := kk.setCell (p := ⟨w.heap.size + 1, 0, none⟩) (by simp) (.int .u64 d0)
      clear hx hr kk
      go_wp2_with fail
      go_roundw
      case rel => exact ⟨.inr (.inl ⟨rfl, hx2⟩), hr2, kk2⟩
      case measure => simp [intOf]
    · go_wp2_with fail
      (with_reducible refine (H1.out _ kk).mono ?_); rintro e W1 ⟨rfl, hb⟩
      replace hx := hx.later hb; replace hr := hr.later hb; replace kk := bC kk hb
      clear hb H0 H1 H2 H3
      have c := hx.cell 1; have f := hx.frozen 1; have hsz := kk.size
      dsimp at c
      have hx2 : HB (W1.setCell ⟨w.heap.size + 1, 1, none⟩ (.int .u64 d1)) (w.heap.size + 1) 81 #[.int .u64 d0, .int .u64 d1, .int .u64 0, .int .u64 0] := hx.set 1 (.int .u64 d1)
      have hr2 := hr.other (B' := w.heap.size + 1) (by omega) 1 (.int .u64 d1)
      have kk2 := kk.setCell (p := ⟨w.heap.size + 1, 1, none⟩) (by simp) (.int .u64 d1)
      clear hx hr kk
      go_wp2_with fail
      go_roundw
      case rel => exact ⟨.inr (.inr (.inl ⟨rfl, hx2⟩)), hr2, kk2⟩
      case measure => simp [intOf]
    · go_wp2_with fail
      (with_reducible refine (H2.out _ kk).mono ?_); rintro e W1 ⟨rfl, hb⟩
      replace hx := hx.later hb; replace hr := hr.later hb; replace kk := bC kk hb
      clear hb H0 H1 H2 H3
      have c := hx.cell 2; have f := hx.frozen 2; have hsz := kk.size
      dsimp at c
      have hx2 : HB (W1.setCell ⟨w.heap.size + 1, 2, none⟩ (.int .u64 d2)) (w.heap.size + 1) 81 #[.int .u64 d0, .int .u64 d1, .int .u64 d2, .int .u64 0] := hx.set 2 (.int .u64 d2)
      have hr2 := hr.other (B' := w.heap.size + 1) (by omega) 2 (.int .u64 d2)
      have kk2 := kk.setCell (p := ⟨w.heap.size + 1, 2, none⟩) (by simp) (.int .u64 d2)
      clear hx hr kk
      go_wp2_with fail
      go_roundw
      case rel => exact ⟨.inr (.inr (.inr (.inl ⟨rfl, hx2⟩))), hr2, kk2⟩
      case measure => simp [intOf]
    · go_wp2_with fail
      (with_reducible refine (H3.out _ kk).mono ?_); rintro e W1 ⟨rfl, hb⟩
      replace hx := hx.later hb; replace hr := hr.later hb; replace kk := bC kk hb
      clear hb H0 H1 H2 H3
      have c := hx.cell 3; have f := hx.frozen 3; have hsz := kk.size
      dsimp at c
      have hx2 : HB (W1.setCell ⟨w.heap.size + 1, 3, none⟩ (.int .u64 d3)) (w.heap.size + 1) 81 #[.int .u64 d0, .int .u64 d1, .int .u64 d2, .int .u64 d3] := hx.set 3 (.int .u64 d3)
      have hr2 := hr.other (B' := w.heap.size + 1) (by omega) 3 (.int .u64 d3)
      have kk2 := kk.setCell (p := ⟨w.heap.size + 1, 3, none⟩) (by simp) (.int .u64 d3)
      clear hx hr kk
      go_wp2_with fail
      go_roundw
      case rel => exact ⟨.inr (.inr (.inr (.inr (⟨rfl, hx2⟩)))), hr2, kk2⟩
      case measure => simp [intOf]
    · clear H0 H1 H2 H3
      have KEY : Hid (HB ((((wr.setCell ⟨w.heap.size, 0, none⟩ (.int .u64 d0)).setCell ⟨w.heap.size, 1, none⟩ (.int .u64 d1)).setCell ⟨w.heap.size, 2, none⟩ (.int .u64 d2)).setCell ⟨w.heap.size, 3, none⟩ (.int .u64 d3)) w.heap.size 81 #[.int .u64 d0, .int .u64 d1, .int .u64 d2, .int .u64 d3] ∧ Below w.heap.size w ((((wr.setCell ⟨w.heap.size, 0, none⟩ (.int .u64 d0)).setCell ⟨w.heap.size, 1, none⟩ (.int .u64 d1)).setCell ⟨w.heap.size, 2, none⟩ (.int .u64 d2)).setCell ⟨w.heap.size, 3, none⟩ (.int .u64 d3))) := lH ⟨((((hr.set 0 _).set 1 _).set 2 _).set 3 _), ((((kk.setCell (p := ⟨w.heap.size, 0, none⟩) (Nat.le_refl _) _).setCell (p := ⟨w.heap.size, 1, none⟩) (Nat.le_refl _) _).setCell (p := ⟨w.heap.size, 2, none⟩) (Nat.le_refl _) _).setCell (p := ⟨w.heap.size, 3, none⟩) (Nat.le_refl _) _)⟩
      have hsz := kk.size
      have c0 := hx.cell 0; have c1 := hx.cell 1; have c2 := hx.cell 2; have c3 := hx.cell 3
      dsimp at c0 c1 c2 c3
      have z0 := hr.cell 0; have f0 := hr.frozen 0; dsimp at z0; have z1 := hr.cell 1; have f1 := hr.frozen 1; dsimp at z1; have z2 := hr.cell 2; have f2 := hr.frozen 2; dsimp at z2; have z3 := hr.cell 3; have f3 := hr.frozen 3; dsimp at z3
      clear hr hx kk
      go_wp2_with fail
      obtain ⟨hE, kb⟩ := KEY.out
      have e0 := hE.cell 0; have e1 := hE.cell 1; have e2 := hE.cell 2; have e3 := hE.cell 3
      dsimp at e0 e1 e2 e3
      refine bodyPost_ret (v := .agg #[.int .u64 d0, .int .u64 d1, .int .u64 d2, .int .u64 d3]) ?_ rfl ⟨rfl, kb⟩
      clear c0 z0 f0 c1 z1 f1 c2 z2 f2 c3 z3 f3 kb hE
      simp [results, Tryz.results211, go_sem, e0, e1, e2, e3]
end Go.Proofs.YtjdjonekoodalaaGreatDoor
namespace Go.Proofs.YtjdjonekoodalaaGreatDoor
open Go.RowKit
attribute [local go_sem ↓] Go.wp_at_zero Go.wp_at_succ
theorem enter_of {P : Program} {f : FuncId} {fn : Func} (hf : P.funcs[f]? = some fn) (hname : (fn.name == "runtime.NumGoroutine") = false) (hb : fn.body.isSome = true) (args : Array Value) (w : World) : (callFunc f args).run P w = .ok (.enter f args) w := by
  obtain ⟨c, hc⟩ := Option.isSome_iff_exists.1 hb
  exact Go.MuLone.run_callFunc_enter hf hname hc args w
theorem left2_any (a0 a1 n : Int) (u0 : U64 a0) (u1 : U64 a1) (n0 : -9223372036854775808 ≤ n) (n1 : n ≤ 9223372036854775807) (w : World) :
    Calls Tryz.prog 117 #[.agg #[.int .u64 a0, .int .u64 a1], .int .i64 n] w fun e w' => e = .returned (.agg #[.int .u64 (lft2 a0 a1 ((n.toNat / 64 : Nat) : Int) (n.toNat % 64) 0), .int .u64 (lft2 a0 a1 ((n.toNat / 64 : Nat) : Int) (n.toNat % 64) 1)]) ∧ Below w.heap.size w w' := by
  have S1 := lH (split_any n n0 n1)
  have hN : n.toNat / 64 ≤ 1000000000000000000 := by omega
  have hP : n.toNat % 64 ≤ 64 := by omega
  clear n0 n1
  generalize n.toNat / 64 = wh at *
  generalize n.toNat % 64 = p at *
  go_enter Tryz.func117, Tryz.ntmps117
  go_wp2_with fail
  (with_reducible refine (S1.out _).mono ?_); rintro e w1 ⟨rfl, hb⟩
  have kk := bC (bA (bA bR _) _) hb
  have xa : HB w1 w.heap.size 157 #[.int .u64 a0, .int .u64 a1] := ((HB.new w _ _).alloc _).later hb
  have xr : HB w1 (w.heap.size + 1) 157 #[.int .u64 0, .int .u64 0] := (HB.newAt (by simp) _ _).later hb
  clear S1 hb
  have s1 := xr.lt
  go_wp2_with fail
  (with_reducible refine (build2_any 158 (enter_of Tryz.func158 (by kernel_rfl) (by kernel_rfl)) (lft2 a0 a1 (wh : Int) p 0) (lft2 a0 a1 (wh : Int) p 1) ((w1.alloc (.cells #[.int .i64 (wh : Int)] 3)).alloc (.cells #[.int .i64 (p : Int)] 3)) (lH fun W hb => left2_fun a0 a1 0 wh p u0 u1 hP (by omega) (by omega) hN W ((((xa.alloc _).alloc _).later hb).cell 0) ((((xa.alloc _).alloc _).later hb).cell 1) (cL hb (by go_simp)) (cL hb (by go_simp))) (lH fun W hb => left2_fun a0 a1 1 wh p u0 u1 hP (by omega) (by omega) hN W ((((xa.alloc _).alloc _).later hb).cell 0) ((((xa.alloc _).alloc _).later hb).cell 1) (cL hb (by go_simp)) (cL hb (by go_simp)))).mono ?_)
  rintro e w2 ⟨rfl, hb⟩
  replace xr := ((xr.alloc _).alloc _).later hb
  replace kk := bC (bA (bA kk _) _) hb
  clear xa hb s1
  have KEY : Hid (HB ((w2.setCell ⟨w.heap.size + 1, 0, none⟩ (.int .u64 (lft2 a0 a1 (wh : Int) p 0))).setCell ⟨w.heap.size + 1, 1, none⟩ (.int .u64 (lft2 a0 a1 (wh : Int) p 1))) (w.heap.size + 1) 157 #[.int .u64 (lft2 a0 a1 (wh : Int) p 0), .int .u64 (lft2 a0 a1 (wh : Int) p 1)] ∧ Below w.heap.size w ((w2.setCell ⟨w.heap.size + 1, 0, none⟩ (.int .u64 (lft2 a0 a1 (wh : Int) p 0))).setCell ⟨w.heap.size + 1, 1, none⟩ (.int .u64 (lft2 a0 a1 (wh : Int) p 1)))) := lH ⟨((xr.set 0 _).set 1 _), ((kk.setCell (p := ⟨w.heap.size + 1, 0, none⟩) (by simp) _).setCell (p := ⟨w.heap.size + 1, 1, none⟩) (by simp) _)⟩
  have z0 := xr.cell 0; have f0 := xr.frozen 0; dsimp at z0; have z1 := xr.cell 1; have f1 := xr.frozen 1; dsimp at z1
  clear xr kk
  go_wp2_with fail
  obtain ⟨hE, kb⟩ := KEY.out
  have e0 := hE.cell 0; have e1 := hE.cell 1
  dsimp at e0 e1
  refine bodyPost_ret (v := .agg #[.int .u64 (lft2 a0 a1 (wh : Int) p 0), .int .u64 (lft2 a0 a1 (wh : Int) p 1)]) ?_ rfl ⟨rfl, kb⟩
  clear z0 f0 z1 f1 kb hE
  simp [results, Tryz.results117, go_sem, e0, e1]
theorem right2_any (a0 a1 n : Int) (u0 : U64 a0) (u1 : U64 a1) (n0 : -9223372036854775808 ≤ n) (n1 : n ≤ 9223372036854775807) (w : World) :
    Calls Tryz.prog 129 #[.agg #[.int .u64 a0, .int .u64 a1], .int .i64 n] w fun e w' => e = .returned (.agg #[.int .u64 (rgt2 a0 a1 ((n.toNat / 64 : Nat) : Int) (n.toNat % 64) 0), .int .u64 (rgt2 a0 a1 ((n.toNat / 64 : Nat) : Int) (n.toNat % 64) 1)]) ∧ Below w.heap.size w w' := by
  have S1 := lH (split_any n n0 n1)
  have hN : n.toNat / 64 ≤ 1000000000000000000 := by omega
  have hP : n.toNat % 64 ≤ 64 := by omega
  clear n0 n1
  generalize n.toNat / 64 = wh at *
  generalize n.toNat % 64 = p at *
  go_enter Tryz.func129, Tryz.ntmps129
  go_wp2_with fail
  (with_reducible refine (S1.out _).mono ?_); rintro e w1 ⟨rfl, hb⟩
  have kk := bC (bA (bA bR _) _) hb
  have xa : HB w1 w.heap.size 157 #[.int .u64 a0, .int .u64 a1] := ((HB.new w _ _).alloc _).later hb
  have xr : HB w1 (w.heap.size + 1) 157 #[.int .u64 0, .int .u64 0] := (HB.newAt (by simp) _ _).later hb
  clear S1 hb
  have s1 := xr.lt
  go_wp2_with fail
  (with_reducible refine (build2_any 169 (enter_of Tryz.func169 (by kernel_rfl) (by kernel_rfl)) (rgt2 a0 a1 (wh : Int) p 0) (rgt2 a0 a1 (wh : Int) p 1) ((w1.alloc (.cells #[.int .i64 (wh : Int)] 3)).alloc (.cells #[.int .i64 (p : Int)] 3)) (lH fun W hb => right2_fun a0 a1 0 wh p u0 u1 hP (by omega) (by omega) hN W ((((xa.alloc _).alloc _).later hb).cell 0) ((((xa.alloc _).alloc _).later hb).cell 1) (cL hb (by go_simp)) (cL hb (by go_simp))) (lH fun W hb => right2_fun a0 a1 1 wh p u0 u1 hP (by omega) (by omega) hN W ((((xa.alloc _).alloc _).later hb).cell 0) ((((xa.alloc _).alloc _).later hb).cell 1) (cL hb (by go_simp)) (cL hb (by go_simp)))).mono ?_)
  rintro e w2 ⟨rfl, hb⟩
  replace xr := ((xr.alloc _).alloc _).later hb
  replace kk := bC (bA (bA kk _) _) hb
  clear xa hb s1
  have KEY : Hid (HB ((w2.setCell ⟨w.heap.size + 1, 0, none⟩ (.int .u64 (rgt2 a0 a1 (wh : Int) p 0))).setCell ⟨w.heap.size + 1, 1, none⟩ (.int .u64 (rgt2 a0 a1 (wh : Int) p 1))) (w.heap.size + 1) 157 #[.int .u64 (rgt2 a0 a1 (wh : Int) p 0), .int .u64 (rgt2 a0 a1 (wh : Int) p 1)] ∧ Below w.heap.size w ((w2.setCell ⟨w.heap.size + 1, 0, none⟩ (.int .u64 (rgt2 a0 a1 (wh : Int) p 0))).setCell ⟨w.heap.size + 1, 1, none⟩ (.int .u64 (rgt2 a0 a1 (wh : Int) p 1)))) := lH ⟨((xr.set 0 _).set 1 _), ((kk.setCell (p := ⟨w.heap.size + 1, 0, none⟩) (by simp) _).setCell (p := ⟨w.heap.size + 1, 1, none⟩) (by simp) _)⟩
  have z0 := xr.cell 0; have f0 := xr.frozen 0; dsimp at z0; have z1 := xr.cell 1; have f1 := xr.frozen 1; dsimp at z1
  clear xr kk
  go_wp2_with fail
  obtain ⟨hE, kb⟩ := KEY.out
  have e0 := hE.cell 0; have e1 := hE.cell 1
  dsimp at e0 e1
  refine bodyPost_ret (v := .agg #[.int .u64 (rgt2 a0 a1 (wh : Int) p 0), .int .u64 (rgt2 a0 a1 (wh : Int) p 1)]) ?_ rfl ⟨rfl, kb⟩
  clear z0 f0 z1 f1 kb hE
  simp [results, Tryz.results129, go_sem, e0, e1]
theorem left4_any (a0 a1 a2 a3 n : Int) (u0 : U64 a0) (u1 : U64 a1) (u2 : U64 a2) (u3 : U64 a3) (n0 : -9223372036854775808 ≤ n) (n1 : n ≤ 9223372036854775807) (w : World) :
    Calls Tryz.prog 196 #[.agg #[.int .u64 a0, .int .u64 a1, .int .u64 a2, .int .u64 a3], .int .i64 n] w fun e w' => e = .returned (.agg #[.int .u64 (lft a0 a1 a2 a3 ((n.toNat / 64 : Nat) : Int) (n.toNat % 64) 0), .int .u64 (lft a0 a1 a2 a3 ((n.toNat / 64 : Nat) : Int) (n.toNat % 64) 1), .int .u64 (lft a0 a1 a2 a3 ((n.toNat / 64 : Nat) : Int) (n.toNat % 64) 2), .int .u64 (lft a0 a1 a2 a3 ((n.toNat / 64 : Nat) : Int) (n.toNat % 64) 3)]) ∧ Below w.heap.size w w' := by
  have S1 := lH (split_any n n0 n1)
  have hN : n.toNat / 64 ≤ 1000000000000000000 := by omega
  have hP : n.toNat % 64 ≤ 64 := by omega
  clear n0 n1
  generalize n.toNat / 64 = wh at *
  generalize n.toNat % 64 = p at *
  go_enter Tryz.func196, Tryz.ntmps196
  go_wp2_with fail
  (with_reducible refine (S1.out _).mono ?_); rintro e w1 ⟨rfl, hb⟩
  have kk := bC (bA (bA bR _) _) hb
  have xa : HB w1 w.heap.size 81 #[.int .u64 a0, .int .u64 a1, .int .u64 a2, .int .u64 a3] := ((HB.new w _ _).alloc _).later hb
  have xr : HB w1 (w.heap.size + 1) 81 #[.int .u64 0, .int .u64 0, .int .u64 0, .int .u64 0] := (HB.newAt (by simp) _ _).later hb
  clear S1 hb
  have s1 := xr.lt
  go_wp2_with fail
  (with_reducible refine (build4_any 212 (enter_of Tryz.func212 (by kernel_rfl) (by kernel_rfl)) (lft a0 a1 a2 a3 (wh : Int) p 0) (lft a0 a1 a2 a3 (wh : Int) p 1) (lft a0 a1 a2 a3 (wh : Int) p 2) (lft a0 a1 a2 a3 (wh : Int) p 3) ((w1.alloc (.cells #[.int .i64 (wh : Int)] 3)).alloc (.cells #[.int .i64 (p : Int)] 3)) (lH fun W hb => left4_fun a0 a1 a2 a3 0 wh p u0 u1 u2 u3 hP (by omega) (by omega) hN W ((((xa.alloc _).alloc _).later hb).cell 0) ((((xa.alloc _).alloc _).later hb).cell 1) ((((xa.alloc _).alloc _).later hb).cell 2) ((((xa.alloc _).alloc _).later hb).cell 3) (cL hb (by go_simp)) (cL hb (by go_simp))) (lH fun W hb => left4_fun a0 a1 a2 a3 1 wh p u0 u1 u2 u3 hP (by omega) (by omega) hN W ((((xa.alloc _).alloc _).later hb).cell 0) ((((xa.alloc _).alloc _).later hb).cell 1) ((((xa.alloc _).alloc _).later hb).cell 2) ((((xa.alloc _).alloc _).later hb).cell 3) (cL hb (by go_simp)) (cL hb (by go_simp))) (lH fun W hb => left4_fun a0 a1 a2 a3 2 wh p u0 u1 u2 u3 hP (by omega) (by omega) hN W ((((xa.alloc _).alloc _).later hb).cell 0) ((((xa.alloc _).alloc _).later hb).cell 1) ((((xa.alloc _).alloc _).later hb).cell 2) ((((xa.alloc _).alloc _).later hb).cell 3) (cL hb (by go_simp)) (cL hb (by go_simp))) (lH fun W hb => left4_fun a0 a1 a2 a3 3 wh p u0 u1 u2 u3 hP (by omega) (by omega) hN W ((((xa.alloc _).alloc _).later hb).cell 0) ((((xa.alloc _).alloc _).later hb).cell 1) ((((xa.alloc _).alloc _).later hb).cell 2) ((((xa.alloc _).alloc _).later hb).cell 3) (cL hb (by go_simp)) (cL hb (by go_simp)))).mono ?_)
  rintro e w2 ⟨rfl, hb⟩
  replace xr := ((xr.alloc _).alloc _).later hb
  replace kk := bC (bA (bA kk _) _) hb
  clear xa hb s1
  have KEY : Hid (HB ((((w2.setCell ⟨w.heap.size + 1, 0, none⟩ (.int .u64 (lft a0 a1 a2 a3 (wh : Int) p 0))).setCell ⟨w.heap.size + 1, 1, none⟩ (.int .u64 (lft a0 a1 a2 a3 (wh : Int) p 1))).setCell ⟨w.heap.size + 1, 2, none⟩ (.int .u64 (lft a0 a1 a2 a3 (wh : Int) p 2))).setCell ⟨w.heap.size + 1, 3, none⟩ (.int .u64 (lft a0 a1 a2 a3 (wh : Int) p 3))) (w.heap.size + 1) 81 #[.int .u64 (lft a0 a1 a2 a3 (wh : Int) p 0), .int .u64 (lft a0 a1 a2 a3 (wh : Int) p 1), .int .u64 (lft a0 a1 a2 a3 (wh : Int) p 2), .int .u64 (lft a0 a1 a2 a3 (wh : Int) p 3)] ∧ Below w.heap.size w ((((w2.setCell ⟨w.heap.size + 1, 0, none⟩ (.int .u64 (lft a0 a1 a2 a3 (wh : Int) p 0))).setCell ⟨w.heap.size + 1, 1, none⟩ (.int .u64 (lft a0 a1 a2 a3 (wh : Int) p 1))).setCell ⟨w.heap.size + 1, 2, none⟩ (.int .u64 (lft a0 a1 a2 a3 (wh : Int) p 2))).setCell ⟨w.heap.size + 1, 3, none⟩ (.int .u64 (lft a0 a1 a2 a3 (wh : Int) p 3)))) := lH ⟨((((xr.set 0 _).set 1 _).set 2 _).set 3 _), ((((kk.setCell (p := ⟨w.heap.size + 1, 0, none⟩) (by simp) _).setCell (p := ⟨w.heap.size + 1, 1, none⟩) (by simp) _).setCell (p := ⟨w.heap.size + 1, 2, none⟩) (by simp) _).setCell (p := ⟨w.heap.size + 1, 3, none⟩) (by simp) _)⟩
  have z0 := xr.cell 0; have f0 := xr.frozen 0; dsimp at z0; have z1 := xr.cell 1; have f1 := xr.frozen 1; dsimp at z1; have z2 := xr.cell 2; have f2 := xr.frozen 2; dsimp at z2; have z3 := xr.cell 3; have f3 := xr.frozen 3; dsimp at z3
  clear xr kk
  go_wp2_with fail
  obtain ⟨hE, kb⟩ := KEY.out
  have e0 := hE.cell 0; have e1 := hE.cell 1; have e2 := hE.cell 2; have e3 := hE.cell 3
  dsimp at e0 e1 e2 e3
  refine bodyPost_ret (v := .agg #[.int .u64 (lft a0 a1 a2 a3 (wh : Int) p 0), .int .u64 (lft a0 a1 a2 a3 (wh : Int) p 1), .int .u64 (lft a0 a1 a2 a3 (wh : Int) p 2), .int .u64 (lft a0 a1 a2 a3 (wh : Int) p 3)]) ?_ rfl ⟨rfl, kb⟩
  clear z0 f0 z1 f1 z2 f2 z3 f3 kb hE
  simp [results, Tryz.results196, go_sem, e0, e1, e2, e3]
theorem right4_any (a0 a1 a2 a3 n : Int) (u0 : U64 a0) (u1 : U64 a1) (u2 : U64 a2) (u3 : U64 a3) (n0 : -9223372036854775808 ≤ n) (n1 : n ≤ 9223372036854775807) (w : World) :
    Calls Tryz.prog 205 #[.agg #[.int .u64 a0, .int .u64 a1, .int .u64 a2, .int .u64 a3], .int .i64 n] w fun e w' => e = .returned (.agg #[.int .u64 (rgt a0 a1 a2 a3 ((n.toNat / 64 : Nat) : Int) (n.toNat % 64) 0), .int .u64 (rgt a0 a1 a2 a3 ((n.toNat / 64 : Nat) : Int) (n.toNat % 64) 1), .int .u64 (rgt a0 a1 a2 a3 ((n.toNat / 64 : Nat) : Int) (n.toNat % 64) 2), .int .u64 (rgt a0 a1 a2 a3 ((n.toNat / 64 : Nat) : Int) (n.toNat % 64) 3)]) ∧ Below w.heap.size w w' := by
  have S1 := lH (split_any n n0 n1)
  have hN : n.toNat / 64 ≤ 1000000000000000000 := by omega
  have hP : n.toNat % 64 ≤ 64 := by omega
  clear n0 n1
  generalize n.toNat / 64 = wh at *
  generalize n.toNat % 64 = p at *
  go_enter Tryz.func205, Tryz.ntmps205
  go_wp2_with fail
  (with_reducible refine (S1.out _).mono ?_); rintro e w1 ⟨rfl, hb⟩
  have kk := bC (bA (bA bR _) _) hb
  have xa : HB w1 w.heap.size 81 #[.int .u64 a0, .int .u64 a1, .int .u64 a2, .int .u64 a3] := ((HB.new w _ _).alloc _).later hb
  have xr : HB w1 (w.heap.size + 1) 81 #[.int .u64 0, .int .u64 0, .int .u64 0, .int .u64 0] := (HB.newAt (by simp) _ _).later hb
  clear S1 hb
  have s1 := xr.lt
  go_wp2_with fail
  (with_reducible refine (build4_any 216 (enter_of Tryz.func216 (by kernel_rfl) (by kernel_rfl)) (rgt a0 a1 a2 a3 (wh : Int) p 0) (rgt a0 a1 a2 a3 (wh : Int) p 1) (rgt a0 a1 a2 a3 (wh : Int) p 2) (rgt a0 a1 a2 a3 (wh : Int) p 3) ((w1.alloc (.cells #[.int .i64 (wh : Int)] 3)).alloc (.cells #[.int .i64 (p : Int)] 3)) (lH fun W hb => right4_fun a0 a1 a2 a3 0 wh p u0 u1 u2 u3 hP (by omega) (by omega) hN W ((((xa.alloc _).alloc _).later hb).cell 0) ((((xa.alloc _).alloc _).later hb).cell 1) ((((xa.alloc _).alloc _).later hb).cell 2) ((((xa.alloc _).alloc _).later hb).cell 3) (cL hb (by go_simp)) (cL hb (by go_simp))) (lH fun W hb => right4_fun a0 a1 a2 a3 1 wh p u0 u1 u2 u3 hP (by omega) (by omega) hN W ((((xa.alloc _).alloc _).later hb).cell 0) ((((xa.alloc _).alloc _).later hb).cell 1) ((((xa.alloc _).alloc _).later hb).cell 2) ((((xa.alloc _).alloc _).later hb).cell 3) (cL hb (by go_simp)) (cL hb (by go_simp))) (lH fun W hb => right4_fun a0 a1 a2 a3 2 wh p u0 u1 u2 u3 hP (by omega) (by omega) hN W ((((xa.alloc _).alloc _).later hb).cell 0) ((((xa.alloc _).alloc _).later hb).cell 1) ((((xa.alloc _).alloc _).later hb).cell 2) ((((xa.alloc _).alloc _).later hb).cell 3) (cL hb (by go_simp)) (cL hb (by go_simp))) (lH fun W hb => right4_fun a0 a1 a2 a3 3 wh p u0 u1 u2 u3 hP (by omega) (by omega) hN W ((((xa.alloc _).alloc _).later hb).cell 0) ((((xa.alloc _).alloc _).later hb).cell 1) ((((xa.alloc _).alloc _).later hb).cell 2) ((((xa.alloc _).alloc _).later hb).cell 3) (cL hb (by go_simp)) (cL hb (by go_simp)))).mono ?_)
  rintro e w2 ⟨rfl, hb⟩
  replace xr := ((xr.alloc _).alloc _).later hb
  replace kk := bC (bA (bA kk _) _) hb
  clear xa hb s1
  have KEY : Hid (HB ((((w2.setCell ⟨w.heap.size + 1, 0, none⟩ (.int .u64 (rgt a0 a1 a2 a3 (wh : Int) p 0))).setCell ⟨w.heap.size + 1, 1, none⟩ (.int .u64 (rgt a0 a1 a2 a3 (wh : Int) p 1))).setCell ⟨w.heap.size + 1, 2, none⟩ (.int .u64 (rgt a0 a1 a2 a3 (wh : Int) p 2))).setCell ⟨w.heap.size + 1, 3, none⟩ (.int .u64 (rgt a0 a1 a2 a3 (wh : Int) p 3))) (w.heap.size + 1) 81 #[.int .u64 (rgt a0 a1 a2 a3 (wh : Int) p 0), .int .u64 (rgt a0 a1 a2 a3 (wh : Int) p 1), .int .u64 (rgt a0 a1 a2 a3 (wh : Int) p 2), .int .u64 (rgt a0 a1 a2 a3 (wh : Int) p 3)] ∧ Below w.heap.size w ((((w2.setCell ⟨w.heap.size + 1, 0, none⟩ (.int .u64 (rgt a0 a1 a2 a3 (wh : Int) p 0))).setCell ⟨w.heap.size + 1, 1, none⟩ (.int .u64 (rgt a0 a1 a2 a3 (wh : Int) p 1))).setCell ⟨w.heap.size + 1, 2, none⟩ (.int .u64 (rgt a0 a1 a2 a3 (wh : Int) p 2))).setCell ⟨w.heap.size + 1, 3, none⟩ (.int .u64 (rgt a0 a1 a2 a3 (wh : Int) p 3)))) := lH ⟨((((xr.set 0 _).set 1 _).set 2 _).set 3 _), ((((kk.setCell (p := ⟨w.heap.size + 1, 0, none⟩) (by simp) _).setCell (p := ⟨w.heap.size + 1, 1, none⟩) (by simp) _).setCell (p := ⟨w.heap.size + 1, 2, none⟩) (by simp) _).setCell (p := ⟨w.heap.size + 1, 3, none⟩) (by simp) _)⟩
  have z0 := xr.cell 0; have f0 := xr.frozen 0; dsimp at z0; have z1 := xr.cell 1; have f1 := xr.frozen 1; dsimp at z1; have z2 := xr.cell 2; have f2 := xr.frozen 2; dsimp at z2; have z3 := xr.cell 3; have f3 := xr.frozen 3; dsimp at z3
  clear xr kk
  go_wp2_with fail
  obtain ⟨hE, kb⟩ := KEY.out
  have e0 := hE.cell 0; have e1 := hE.cell 1; have e2 := hE.cell 2; have e3 := hE.cell 3
  dsimp at e0 e1 e2 e3
  refine bodyPost_ret (v := .agg #[.int .u64 (rgt a0 a1 a2 a3 (wh : Int) p 0), .int .u64 (rgt a0 a1 a2 a3 (wh : Int) p 1), .int .u64 (rgt a0 a1 a2 a3 (wh : Int) p 2), .int .u64 (rgt a0 a1 a2 a3 (wh : Int) p 3)]) ?_ rfl ⟨rfl, kb⟩
  clear z0 f0 z1 f1 z2 f2 z3 f3 kb hE
  simp [results, Tryz.results205, go_sem, e0, e1, e2, e3]
end Go.Proofs.YtjdjonekoodalaaGreatDoor
namespace Go.Proofs.YtjdjonekoodalaaGreatDoor
open Go.RowKit
attribute [local go_sem ↓] Go.wp_at_zero Go.wp_at_succ
theorem neq_of_eql {t : TypeId} {x y : Array Value} {b : Bool} {w : World} (h : (binOp .eql t (.agg x) (.agg y)).run Tryz.prog w = .ok (.bool b) w) : (binOp .neq t (.agg x) (.agg y)).run Tryz.prog w = .ok (.bool (!b)) w := by
  rw [run_eql_struct] at h
  rw [run_neq_struct]
  revert h
  generalize (Op.equalIn 10000 t (.agg x) (.agg y)).run Tryz.prog w = r
  intro h
  cases r with
  | ok b' w'' => cases h; rfl
  | halt x w'' => cases h
theorem digitsOf_any (x0 x1 : Int) (w : World) :
    Calls Tryz.prog 118 #[.agg #[.int .u64 x0, .int .u64 x1]] w fun e w' => e = .returned (.agg #[.int .u64 x1, .int .u64 x0]) ∧ Below w.heap.size w w' := by
  go_enter Tryz.func118, Tryz.ntmps118
  go_wp2_with fail
  exact bodyPost_ret (v := .agg #[.int .u64 x1, .int .u64 x0]) (by simp [results, Tryz.results118, go_sem]) rfl ⟨rfl, bA (bA bR _) _⟩
theorem bitsOf_any (x0 x1 : Int) (w : World) :
    Calls Tryz.prog 116 #[.agg #[.int .u64 x0, .int .u64 x1]] w fun e w' => e = .returned (.agg #[.int .u64 x1, .int .u64 x0]) ∧ Below w.heap.size w w' := by
  go_enter Tryz.func116, Tryz.ntmps116
  go_wp2_with fail
  exact bodyPost_ret (v := .agg #[.int .u64 x1, .int .u64 x0]) (by simp [results, Tryz.results116, go_sem]) rfl ⟨rfl, bA (bA bR _) _⟩
theorem lost4_core (a0 a1 a2 a3 r0 r1 r2 r3 l0 l1 l2 l3 n : Int) (b : Bool)
    (h0 : Hid (∀ w, Calls Tryz.prog 205 #[.agg #[.int .u64 a0, .int .u64 a1, .int .u64 a2, .int .u64 a3], .int .i64 n] w fun e w' => e = .returned (.agg #[.int .u64 r0, .int .u64 r1, .int .u64 r2, .int .u64 r3]) ∧ Below w.heap.size w w'))
    (h1 : Hid (∀ w, Calls Tryz.prog 196 #[.agg #[.int .u64 r0, .int .u64 r1, .int .u64 r2, .int .u64 r3], .int .i64 n] w fun e w' => e = .returned (.agg #[.int .u64 l0, .int .u64 l1, .int .u64 l2, .int .u64 l3]) ∧ Below w.heap.size w w')) (hE : ∀ w, (binOp .neq 81 (.agg #[.int .u64 l0, .int .u64 l1, .int .u64 l2, .int .u64 l3]) (.agg #[.int .u64 a0, .int .u64 a1, .int .u64 a2, .int .u64 a3])).run Tryz.prog w = .ok (.bool b) w) (w : World) :
    Calls Tryz.prog 206 #[.agg #[.int .u64 a0, .int .u64 a1, .int .u64 a2, .int .u64 a3], .int .i64 n] w fun e w' => e = .returned (.bool b) ∧ Below w.heap.size w w' := by
  go_enter Tryz.func206, Tryz.ntmps206
  go_wp2_with fail
  refine wp_forget (fun W => W.cell? ⟨w.heap.size, 0, none⟩ = some (.int .u64 a0) ∧ W.cell? ⟨w.heap.size, 1, none⟩ = some (.int .u64 a1) ∧ W.cell? ⟨w.heap.size, 2, none⟩ = some (.int .u64 a2) ∧ W.cell? ⟨w.heap.size, 3, none⟩ = some (.int .u64 a3) ∧ Below w.heap.size w W) ⟨by go_simp, by go_simp, by go_simp, by go_simp, (bA bR _)⟩ (fun w1 hst => ?_)
  obtain ⟨cX0_0, cX0_1, cX0_2, cX0_3, kk⟩ := hst
  have sX0 : w.heap.size < w1.heap.size := bL cX0_0
  refine wp_region_noPanic ?_
  refine wp_region_F [] [] (LS w1 (fun _ _ => True) (fun _ _ _ => True)) (by kernel_rfl) (bs := []) (vs := []) (by kernel_rfl) rfl (LS.before noBits_nil bR.drew trivial) ?_
  refine wpF_take (i := 0) (v := ?vq9) rfl (by kernel_rfl) (by kernel_rfl) (fun _ _ _ h => h) (LS.load (by rfl) ?yq9) ?rq9
  case yq9 => (intro wq hb; have lcX0_0 := cL hb cX0_0; have lcX0_1 := cL hb cX0_1; have lcX0_2 := cL hb cX0_2; have lcX0_3 := cL hb cX0_3; go_simp; try (with_reducible rfl))
  try simp only [zA, zB, zC, Act.put, zD, zE, zF]
  refine wpF_yield (i := 1) (v := ?vq10) rfl (by kernel_rfl) (by kernel_rfl) (fun _ _ _ h => h) (Or.inl ⟨by rfl, ?yq10⟩) ?rq10
  case yq10 => (intro wq; go_simp; try (with_reducible rfl))
  try simp only [zA, zB, zC, Act.put, zD, zE, zF]
  refine wpF_take (i := 2) (v := _) rfl (by kernel_rfl) (by kernel_rfl) (fun _ _ _ h => h) (LS.call lasts_true (by rfl) _ _ ?yq11 (h0.out)) ?rq11
  case yq11 => (intro wq; go_simp; try (with_reducible rfl))
  try simp only [zA, zB, zC, Act.put, zD, zE, zF]
  refine wpF_yield (i := 3) (v := ?vq12) rfl (by kernel_rfl) (by kernel_rfl) (fun _ _ _ h => h) (Or.inl ⟨by rfl, ?yq12⟩) ?rq12
  case yq12 => (intro wq; go_simp; try (with_reducible rfl))
  try simp only [zA, zB, zC, Act.put, zD, zE, zF]
  refine wpF_take (i := 4) (v := _) rfl (by kernel_rfl) (by kernel_rfl) (fun _ _ _ h => h) (LS.call lasts_true (by rfl) _ _ ?yq13 (h1.out)) ?rq13
  case yq13 => (intro wq; go_simp; try (with_reducible rfl))
  try simp only [zA, zB, zC, Act.put, zD, zE, zF]
  refine wpF_take (i := 5) (v := ?vq14) rfl (by kernel_rfl) (by kernel_rfl) (fun _ _ _ h => h) (LS.load (by rfl) ?yq14) ?rq14
  case yq14 => (intro wq hb; have lcX0_0 := cL hb cX0_0; have lcX0_1 := cL hb cX0_1; have lcX0_2 := cL hb cX0_2; have lcX0_3 := cL hb cX0_3; go_simp; try (with_reducible rfl))
  try simp only [zA, zB, zC, Act.put, zD, zE, zF]
  refine wpF_yield (i := 6) (v := ?vq15) rfl (by kernel_rfl) (by kernel_rfl) (fun _ _ _ h => h) (Or.inl ⟨by rfl, ?yq15⟩) ?rq15
  case yq15 => (intro wq; go_simp; try (with_reducible rfl))
  try simp only [zA, zB, zC, Act.put, zD, zE, zF]
  refine wpF_yield (i := 7) (v := ?vq16) rfl (by kernel_rfl) (by kernel_rfl) (fun _ _ _ h => h) (Or.inl ⟨by rfl, ?yq16⟩) ?rq16
  case yq16 => (intro wq; go_simp; try (with_reducible rfl))
  try simp only [zA, zB, zC, Act.put, zD, zE, zF]
  refine wpF_done (bs := []) (vs := []) (by kernel_rfl) (by kernel_rfl) rfl (fun w2 hS => ?_) _
  refine NoPanic.normal ?_
  obtain ⟨hb, _⟩ := hS.1 noBits_nil
  clear hS
  clear cX0_0 cX0_1 cX0_2 cX0_3 sX0
  replace kk := bC kk hb
  clear hb
  go_wp2_with fail
  go_ret
  exact ⟨rfl, kk⟩
theorem jam4_no (a0 a1 a2 a3 r0 r1 r2 r3 n : Int)
    (H1 : Hid (∀ w, Calls Tryz.prog 205 #[.agg #[.int .u64 a0, .int .u64 a1, .int .u64 a2, .int .u64 a3], .int .i64 n] w fun e w' => e = .returned (.agg #[.int .u64 r0, .int .u64 r1, .int .u64 r2, .int .u64 r3]) ∧ Below w.heap.size w w'))
    (H2 : Hid (∀ w, Calls Tryz.prog 206 #[.agg #[.int .u64 a0, .int .u64 a1, .int .u64 a2, .int .u64 a3], .int .i64 n] w fun e w' => e = .returned (.bool false) ∧ Below w.heap.size w w')) (w : World) :
    Calls Tryz.prog 186 #[.agg #[.int .u64 a0, .int .u64 a1, .int .u64 a2, .int .u64 a3], .int .i64 n] w fun e w' => e = .returned (.agg #[.int .u64 r0, .int .u64 r1, .int .u64 r2, .int .u64 r3]) ∧ Below w.heap.size w w' := by
  go_enter Tryz.func186, Tryz.ntmps186
  have hh : Hid (∀ x : Unit, True) := lH fun _ => trivial
  go_wp2_with fail
  (with_reducible refine (H1.out _).mono ?_); rintro e w1 ⟨rfl, hb⟩
  have kk := bC (bA (bA bR _) _) hb
  have xa : HB w1 w.heap.size 81 #[.int .u64 a0, .int .u64 a1, .int .u64 a2, .int .u64 a3] := ((HB.new w _ _).alloc _).later hb
  have xr : HB w1 (w.heap.size + 1) 81 #[.int .u64 0, .int .u64 0, .int .u64 0, .int .u64 0] := (HB.newAt (by simp) _ _).later hb
  clear hb H1
  have sl := xr.lt
  have sa := xa.lt
  have q0 := xa.cell 0; dsimp at q0; have q1 := xa.cell 1; dsimp at q1; have q2 := xa.cell 2; dsimp at q2; have q3 := xa.cell 3; dsimp at q3
  go_wp2_with fail
  (with_reducible refine (H2.out _).mono ?_); rintro e w2 ⟨rfl, hb⟩
  replace kk := bC (bA kk _) hb
  replace xr := (xr.alloc _).later hb
  have xd : HB w2 w1.heap.size 81 #[.int .u64 r0, .int .u64 r1, .int .u64 r2, .int .u64 r3] := (HB.newAt rfl _ _).later hb
  clear hb H2 xa q0 q1 q2 q3
  have y0 := xd.cell 0; have g0 := xd.frozen 0; dsimp at y0; have y1 := xd.cell 1; have g1 := xd.frozen 1; dsimp at y1; have y2 := xd.cell 2; have g2 := xd.frozen 2; dsimp at y2; have y3 := xd.cell 3; have g3 := xd.frozen 3; dsimp at y3
  have sy := xd.lt
  have KEY : Hid (HB ((((w2.setCell ⟨w.heap.size + 1, 0, none⟩ (.int .u64 r0)).setCell ⟨w.heap.size + 1, 1, none⟩ (.int .u64 r1)).setCell ⟨w.heap.size + 1, 2, none⟩ (.int .u64 r2)).setCell ⟨w.heap.size + 1, 3, none⟩ (.int .u64 r3)) (w.heap.size + 1) 81 #[.int .u64 r0, .int .u64 r1, .int .u64 r2, .int .u64 r3] ∧ Below w.heap.size w ((((w2.setCell ⟨w.heap.size + 1, 0, none⟩ (.int .u64 r0)).setCell ⟨w.heap.size + 1, 1, none⟩ (.int .u64 r1)).setCell ⟨w.heap.size + 1, 2, none⟩ (.int .u64 r2)).setCell ⟨w.heap.size + 1, 3, none⟩ (.int .u64 r3))) := lH ⟨((((xr.set 0 _).set 1 _).set 2 _).set 3 _), ((((kk.setCell (p := ⟨w.heap.size + 1, 0, none⟩) (by simp) _).setCell (p := ⟨w.heap.size + 1, 1, none⟩) (by simp) _).setCell (p := ⟨w.heap.size + 1, 2, none⟩) (by simp) _).setCell (p := ⟨w.heap.size + 1, 3, none⟩) (by simp) _)⟩
  have z0 := xr.cell 0; have f0 := xr.frozen 0; dsimp at z0; have z1 := xr.cell 1; have f1 := xr.frozen 1; dsimp at z1; have z2 := xr.cell 2; have f2 := xr.frozen 2; dsimp at z2; have z3 := xr.cell 3; have f3 := xr.frozen 3; dsimp at z3
  clear xr kk
  go_wp2_with fail
  obtain ⟨hE, kb⟩ := KEY.out
  have e0 := hE.cell 0; have e1 := hE.cell 1; have e2 := hE.cell 2; have e3 := hE.cell 3
  dsimp at e0 e1 e2 e3
  refine bodyPost_ret (v := .agg #[.int .u64 r0, .int .u64 r1, .int .u64 r2, .int .u64 r3]) ?_ rfl ⟨rfl, kb⟩
  clear z0 f0 z1 f1 z2 f2 z3 f3 kb hE
  simp [results, Tryz.results186, go_sem, e0, e1, e2, e3]
theorem jam4_yes (a0 a1 a2 a3 r0 r1 r2 r3 n z : Int) (hz : bits .or .u64 r0 1 = z)
    (H1 : Hid (∀ w, Calls Tryz.prog 205 #[.agg #[.int .u64 a0, .int .u64 a1, .int .u64 a2, .int .u64 a3], .int .i64 n] w fun e w' => e = .returned (.agg #[.int .u64 r0, .int .u64 r1, .int .u64 r2, .int .u64 r3]) ∧ Below w.heap.size w w'))
    (H2 : Hid (∀ w, Calls Tryz.prog 206 #[.agg #[.int .u64 a0, .int .u64 a1, .int .u64 a2, .int .u64 a3], .int .i64 n] w fun e w' => e = .returned (.bool true) ∧ Below w.heap.size w w')) (w : World) :
    Calls Tryz.prog 186 #[.agg #[.int .u64 a0, .int .u64 a1, .int .u64 a2, .int .u64 a3], .int .i64 n] w fun e w' => e = .returned (.agg #[.int .u64 z, .int .u64 r1, .int .u64 r2, .int .u64 r3]) ∧ Below w.heap.size w w' := by
  go_enter Tryz.func186, Tryz.ntmps186
  have hh : Hid (∀ x : Unit, True) := lH fun _ => trivial
  go_wp2_with fail
  (with_reducible refine (H1.out _).mono ?_); rintro e w1 ⟨rfl, hb⟩
  have kk := bC (bA (bA bR _) _) hb
  have xa : HB w1 w.heap.size 81 #[.int .u64 a0, .int .u64 a1, .int .u64 a2, .int .u64 a3] := ((HB.new w _ _).alloc _).later hb
  have xr : HB w1 (w.heap.size + 1) 81 #[.int .u64 0, .int .u64 0, .int .u64 0, .int .u64 0] := (HB.newAt (by simp) _ _).later hb
  clear hb H1
  have sl := xr.lt
  have sa := xa.lt
  have q0 := xa.cell 0; dsimp at q0; have q1 := xa.cell 1; dsimp at q1; have q2 := xa.cell 2; dsimp at q2; have q3 := xa.cell 3; dsimp at q3
  go_wp2_with fail
  (with_reducible refine (H2.out _).mono ?_); rintro e w2 ⟨rfl, hb⟩
  replace kk := bC (bA kk _) hb
  replace xr := (xr.alloc _).later hb
  have xd : HB w2 w1.heap.size 81 #[.int .u64 r0, .int .u64 r1, .int .u64 r2, .int .u64 r3] := (HB.newAt rfl _ _).later hb
  clear hb H2 xa q0 q1 q2 q3
  have y0 := xd.cell 0; have g0 := xd.frozen 0; dsimp at y0; have y1 := xd.cell 1; have g1 := xd.frozen 1; dsimp at y1; have y2 := xd.cell 2; have g2 := xd.frozen 2; dsimp at y2; have y3 := xd.cell 3; have g3 := xd.frozen 3; dsimp at y3
  have sy := xd.lt
  have xr0 := xr
  replace xr := xr.other (B' := w1.heap.size) (by omega) 0 (.int .u64 z)
  replace kk := kk.setCell (p := ⟨w1.heap.size, 0, none⟩) (by show w.heap.size ≤ w1.heap.size; omega) (.int .u64 z)
  have KEY : Hid (HB (((((w2.setCell ⟨w1.heap.size, 0, none⟩ (.int .u64 z)).setCell ⟨w.heap.size + 1, 0, none⟩ (.int .u64 z)).setCell ⟨w.heap.size + 1, 1, none⟩ (.int .u64 r1)).setCell ⟨w.heap.size + 1, 2, none⟩ (.int .u64 r2)).setCell ⟨w.heap.size + 1, 3, none⟩ (.int .u64 r3)) (w.heap.size + 1) 81 #[.int .u64 z, .int .u64 r1, .int .u64 r2, .int .u64 r3] ∧ Below w.heap.size w (((((w2.setCell ⟨w1.heap.size, 0, none⟩ (.int .u64 z)).setCell ⟨w.heap.size + 1, 0, none⟩ (.int .u64 z)).setCell ⟨w.heap.size + 1, 1, none⟩ (.int .u64 r1)).setCell ⟨w.heap.size + 1, 2, none⟩ (.int .u64 r2)).setCell ⟨w.heap.size + 1, 3, none⟩ (.int .u64 r3))) := lH ⟨((((xr.set 0 _).set 1 _).set 2 _).set 3 _), ((((kk.setCell (p := ⟨w.heap.size + 1, 0, none⟩) (by simp) _).setCell (p := ⟨w.heap.size + 1, 1, none⟩) (by simp) _).setCell (p := ⟨w.heap.size + 1, 2, none⟩) (by simp) _).setCell (p := ⟨w.heap.size + 1, 3, none⟩) (by simp) _)⟩
  have z0 := xr0.cell 0; have f0 := xr0.frozen 0; dsimp at z0; have z1 := xr0.cell 1; have f1 := xr0.frozen 1; dsimp at z1; have z2 := xr0.cell 2; have f2 := xr0.frozen 2; dsimp at z2; have z3 := xr0.cell 3; have f3 := xr0.frozen 3; dsimp at z3
  clear xr kk xr0
  go_wp2_with fail
  obtain ⟨hE, kb⟩ := KEY.out
  have e0 := hE.cell 0; have e1 := hE.cell 1; have e2 := hE.cell 2; have e3 := hE.cell 3
  dsimp at e0 e1 e2 e3
  refine bodyPost_ret (v := .agg #[.int .u64 z, .int .u64 r1, .int .u64 r2, .int .u64 r3]) ?_ rfl ⟨rfl, kb⟩
  clear z0 f0 z1 f1 z2 f2 z3 f3 kb hE
  simp [results, Tryz.results186, go_sem, e0, e1, e2, e3]
theorem xleft_core (ah al n h0 h1 : Int)
    (H1 : Hid (∀ w, Calls Tryz.prog 117 #[.agg #[.int .u64 al, .int .u64 ah], .int .i64 n] w fun e w' => e = .returned (.agg #[.int .u64 h0, .int .u64 h1]) ∧ Below w.heap.size w w')) (w : World) :
    Calls Tryz.prog 62 #[.agg #[.int .u64 ah, .int .u64 al], .int .i64 n] w fun e w' => e = .returned (.agg #[.int .u64 h1, .int .u64 h0]) ∧ Below w.heap.size w w' := by
  go_enter Tryz.func62, Tryz.ntmps62
  have D1 := lH (digitsOf_any ah al)
  have D2 := lH (bitsOf_any h0 h1)
  go_wp2_with fail
  (with_reducible refine (D1.out _).mono ?_); rintro e w1 ⟨rfl, hb⟩
  have kk := bC (bA (bA bR _) _) hb
  have xr : HB w1 (w.heap.size + 1) 25 #[.int .u64 0, .int .u64 0] := (HB.newAt (by simp) _ _).later hb
  clear hb D1
  go_wp2_with fail
  (with_reducible refine (H1.out _).mono ?_); rintro e w2 ⟨rfl, hb⟩
  replace kk := bC kk hb
  replace xr := xr.later hb
  clear hb H1
  go_wp2_with fail
  (with_reducible refine (D2.out _).mono ?_); rintro e w3 ⟨rfl, hb⟩
  replace kk := bC kk hb
  replace xr := xr.later hb
  clear hb D2
  have KEY : Hid (HB ((w3.setCell ⟨w.heap.size + 1, 0, none⟩ (.int .u64 h1)).setCell ⟨w.heap.size + 1, 1, none⟩ (.int .u64 h0)) (w.heap.size + 1) 25 #[.int .u64 h1, .int .u64 h0] ∧ Below w.heap.size w ((w3.setCell ⟨w.heap.size + 1, 0, none⟩ (.int .u64 h1)).setCell ⟨w.heap.size + 1, 1, none⟩ (.int .u64 h0))) := lH ⟨((xr.set 0 _).set 1 _), ((kk.setCell (p := ⟨w.heap.size + 1, 0, none⟩) (by simp) _).setCell (p := ⟨w.heap.size + 1, 1, none⟩) (by simp) _)⟩
  have z0 := xr.cell 0; have f0 := xr.frozen 0; dsimp at z0; have z1 := xr.cell 1; have f1 := xr.frozen 1; dsimp at z1
  clear xr kk
  go_wp2_with fail
  obtain ⟨hE, kb⟩ := KEY.out
  have e0 := hE.cell 0; have e1 := hE.cell 1
  dsimp at e0 e1
  refine bodyPost_ret (v := .agg #[.int .u64 h1, .int .u64 h0]) ?_ rfl ⟨rfl, kb⟩
  clear z0 f0 z1 f1 kb hE
  simp [results, Tryz.results62, go_sem, e0, e1]
theorem xwideleft_core (a0 a1 a2 a3 r0 r1 r2 r3 n : Int)
    (H1 : Hid (∀ w, Calls Tryz.prog 196 #[.agg #[.int .u64 a0, .int .u64 a1, .int .u64 a2, .int .u64 a3], .int .i64 n] w fun e w' => e = .returned (.agg #[.int .u64 r0, .int .u64 r1, .int .u64 r2, .int .u64 r3]) ∧ Below w.heap.size w w')) (w : World) :
    Calls Tryz.prog 180 #[.agg #[.int .u64 a0, .int .u64 a1, .int .u64 a2, .int .u64 a3], .int .i64 n] w fun e w' => e = .returned (.agg #[.int .u64 r0, .int .u64 r1, .int .u64 r2, .int .u64 r3]) ∧ Below w.heap.size w w' := by
  go_enter Tryz.func180, Tryz.ntmps180
  go_wp2_with fail
  (with_reducible refine (H1.out _).mono ?_); rintro e w1 ⟨rfl, hb⟩
  have kk := bC (bA (bA bR _) _) hb
  have xr : HB w1 (w.heap.size + 1) 81 #[.int .u64 0, .int .u64 0, .int .u64 0, .int .u64 0] := (HB.newAt (by simp) _ _).later hb
  clear hb H1
  have KEY : Hid (HB ((((w1.setCell ⟨w.heap.size + 1, 0, none⟩ (.int .u64 r0)).setCell ⟨w.heap.size + 1, 1, none⟩ (.int .u64 r1)).setCell ⟨w.heap.size + 1, 2, none⟩ (.int .u64 r2)).setCell ⟨w.heap.size + 1, 3, none⟩ (.int .u64 r3)) (w.heap.size + 1) 81 #[.int .u64 r0, .int .u64 r1, .int .u64 r2, .int .u64 r3] ∧ Below w.heap.size w ((((w1.setCell ⟨w.heap.size + 1, 0, none⟩ (.int .u64 r0)).setCell ⟨w.heap.size + 1, 1, none⟩ (.int .u64 r1)).setCell ⟨w.heap.size + 1, 2, none⟩ (.int .u64 r2)).setCell ⟨w.heap.size + 1, 3, none⟩ (.int .u64 r3))) := lH ⟨((((xr.set 0 _).set 1 _).set 2 _).set 3 _), ((((kk.setCell (p := ⟨w.heap.size + 1, 0, none⟩) (by simp) _).setCell (p := ⟨w.heap.size + 1, 1, none⟩) (by simp) _).setCell (p := ⟨w.heap.size + 1, 2, none⟩) (by simp) _).setCell (p := ⟨w.heap.size + 1, 3, none⟩) (by simp) _)⟩
  have z0 := xr.cell 0; have f0 := xr.frozen 0; dsimp at z0; have z1 := xr.cell 1; have f1 := xr.frozen 1; dsimp at z1; have z2 := xr.cell 2; have f2 := xr.frozen 2; dsimp at z2; have z3 := xr.cell 3; have f3 := xr.frozen 3; dsimp at z3
  clear xr kk
  go_wp2_with fail
  obtain ⟨hE, kb⟩ := KEY.out
  have e0 := hE.cell 0; have e1 := hE.cell 1; have e2 := hE.cell 2; have e3 := hE.cell 3
  dsimp at e0 e1 e2 e3
  refine bodyPost_ret (v := .agg #[.int .u64 r0, .int .u64 r1, .int .u64 r2, .int .u64 r3]) ?_ rfl ⟨rfl, kb⟩
  clear z0 f0 z1 f1 z2 f2 z3 f3 kb hE
  simp [results, Tryz.results180, go_sem, e0, e1, e2, e3]
theorem xright_core (ah al n h0 h1 : Int)
    (H1 : Hid (∀ w, Calls Tryz.prog 129 #[.agg #[.int .u64 al, .int .u64 ah], .int .i64 n] w fun e w' => e = .returned (.agg #[.int .u64 h0, .int .u64 h1]) ∧ Below w.heap.size w w')) (w : World) :
    Calls Tryz.prog 85 #[.agg #[.int .u64 ah, .int .u64 al], .int .i64 n] w fun e w' => e = .returned (.agg #[.int .u64 h1, .int .u64 h0]) ∧ Below w.heap.size w w' := by
  go_enter Tryz.func85, Tryz.ntmps85
  have D1 := lH (digitsOf_any ah al)
  have D2 := lH (bitsOf_any h0 h1)
  go_wp2_with fail
  (with_reducible refine (D1.out _).mono ?_); rintro e w1 ⟨rfl, hb⟩
  have kk := bC (bA (bA bR _) _) hb
  have xr : HB w1 (w.heap.size + 1) 25 #[.int .u64 0, .int .u64 0] := (HB.newAt (by simp) _ _).later hb
  clear hb D1
  go_wp2_with fail
  (with_reducible refine (H1.out _).mono ?_); rintro e w2 ⟨rfl, hb⟩
  replace kk := bC kk hb
  replace xr := xr.later hb
  clear hb H1
  go_wp2_with fail
  (with_reducible refine (D2.out _).mono ?_); rintro e w3 ⟨rfl, hb⟩
  replace kk := bC kk hb
  replace xr := xr.later hb
  clear hb D2
  have KEY : Hid (HB ((w3.setCell ⟨w.heap.size + 1, 0, none⟩ (.int .u64 h1)).setCell ⟨w.heap.size + 1, 1, none⟩ (.int .u64 h0)) (w.heap.size + 1) 25 #[.int .u64 h1, .int .u64 h0] ∧ Below w.heap.size w ((w3.setCell ⟨w.heap.size + 1, 0, none⟩ (.int .u64 h1)).setCell ⟨w.heap.size + 1, 1, none⟩ (.int .u64 h0))) := lH ⟨((xr.set 0 _).set 1 _), ((kk.setCell (p := ⟨w.heap.size + 1, 0, none⟩) (by simp) _).setCell (p := ⟨w.heap.size + 1, 1, none⟩) (by simp) _)⟩
  have z0 := xr.cell 0; have f0 := xr.frozen 0; dsimp at z0; have z1 := xr.cell 1; have f1 := xr.frozen 1; dsimp at z1
  clear xr kk
  go_wp2_with fail
  obtain ⟨hE, kb⟩ := KEY.out
  have e0 := hE.cell 0; have e1 := hE.cell 1
  dsimp at e0 e1
  refine bodyPost_ret (v := .agg #[.int .u64 h1, .int .u64 h0]) ?_ rfl ⟨rfl, kb⟩
  clear z0 f0 z1 f1 kb hE
  simp [results, Tryz.results85, go_sem, e0, e1]
theorem xwideright_core (a0 a1 a2 a3 r0 r1 r2 r3 n : Int)
    (H1 : Hid (∀ w, Calls Tryz.prog 205 #[.agg #[.int .u64 a0, .int .u64 a1, .int .u64 a2, .int .u64 a3], .int .i64 n] w fun e w' => e = .returned (.agg #[.int .u64 r0, .int .u64 r1, .int .u64 r2, .int .u64 r3]) ∧ Below w.heap.size w w')) (w : World) :
    Calls Tryz.prog 200 #[.agg #[.int .u64 a0, .int .u64 a1, .int .u64 a2, .int .u64 a3], .int .i64 n] w fun e w' => e = .returned (.agg #[.int .u64 r0, .int .u64 r1, .int .u64 r2, .int .u64 r3]) ∧ Below w.heap.size w w' := by
  go_enter Tryz.func200, Tryz.ntmps200
  go_wp2_with fail
  (with_reducible refine (H1.out _).mono ?_); rintro e w1 ⟨rfl, hb⟩
  have kk := bC (bA (bA bR _) _) hb
  have xr : HB w1 (w.heap.size + 1) 81 #[.int .u64 0, .int .u64 0, .int .u64 0, .int .u64 0] := (HB.newAt (by simp) _ _).later hb
  clear hb H1
  have KEY : Hid (HB ((((w1.setCell ⟨w.heap.size + 1, 0, none⟩ (.int .u64 r0)).setCell ⟨w.heap.size + 1, 1, none⟩ (.int .u64 r1)).setCell ⟨w.heap.size + 1, 2, none⟩ (.int .u64 r2)).setCell ⟨w.heap.size + 1, 3, none⟩ (.int .u64 r3)) (w.heap.size + 1) 81 #[.int .u64 r0, .int .u64 r1, .int .u64 r2, .int .u64 r3] ∧ Below w.heap.size w ((((w1.setCell ⟨w.heap.size + 1, 0, none⟩ (.int .u64 r0)).setCell ⟨w.heap.size + 1, 1, none⟩ (.int .u64 r1)).setCell ⟨w.heap.size + 1, 2, none⟩ (.int .u64 r2)).setCell ⟨w.heap.size + 1, 3, none⟩ (.int .u64 r3))) := lH ⟨((((xr.set 0 _).set 1 _).set 2 _).set 3 _), ((((kk.setCell (p := ⟨w.heap.size + 1, 0, none⟩) (by simp) _).setCell (p := ⟨w.heap.size + 1, 1, none⟩) (by simp) _).setCell (p := ⟨w.heap.size + 1, 2, none⟩) (by simp) _).setCell (p := ⟨w.heap.size + 1, 3, none⟩) (by simp) _)⟩
  have z0 := xr.cell 0; have f0 := xr.frozen 0; dsimp at z0; have z1 := xr.cell 1; have f1 := xr.frozen 1; dsimp at z1; have z2 := xr.cell 2; have f2 := xr.frozen 2; dsimp at z2; have z3 := xr.cell 3; have f3 := xr.frozen 3; dsimp at z3
  clear xr kk
  go_wp2_with fail
  obtain ⟨hE, kb⟩ := KEY.out
  have e0 := hE.cell 0; have e1 := hE.cell 1; have e2 := hE.cell 2; have e3 := hE.cell 3
  dsimp at e0 e1 e2 e3
  refine bodyPost_ret (v := .agg #[.int .u64 r0, .int .u64 r1, .int .u64 r2, .int .u64 r3]) ?_ rfl ⟨rfl, kb⟩
  clear z0 f0 z1 f1 z2 f2 z3 f3 kb hE
  simp [results, Tryz.results200, go_sem, e0, e1, e2, e3]
theorem xwidejam_core (a0 a1 a2 a3 r0 r1 r2 r3 n : Int)
    (H1 : Hid (∀ w, Calls Tryz.prog 186 #[.agg #[.int .u64 a0, .int .u64 a1, .int .u64 a2, .int .u64 a3], .int .i64 n] w fun e w' => e = .returned (.agg #[.int .u64 r0, .int .u64 r1, .int .u64 r2, .int .u64 r3]) ∧ Below w.heap.size w w')) (w : World) :
    Calls Tryz.prog 152 #[.agg #[.int .u64 a0, .int .u64 a1, .int .u64 a2, .int .u64 a3], .int .i64 n] w fun e w' => e = .returned (.agg #[.int .u64 r0, .int .u64 r1, .int .u64 r2, .int .u64 r3]) ∧ Below w.heap.size w w' := by
  go_enter Tryz.func152, Tryz.ntmps152
  go_wp2_with fail
  (with_reducible refine (H1.out _).mono ?_); rintro e w1 ⟨rfl, hb⟩
  have kk := bC (bA (bA bR _) _) hb
  have xr : HB w1 (w.heap.size + 1) 81 #[.int .u64 0, .int .u64 0, .int .u64 0, .int .u64 0] := (HB.newAt (by simp) _ _).later hb
  clear hb H1
  have KEY : Hid (HB ((((w1.setCell ⟨w.heap.size + 1, 0, none⟩ (.int .u64 r0)).setCell ⟨w.heap.size + 1, 1, none⟩ (.int .u64 r1)).setCell ⟨w.heap.size + 1, 2, none⟩ (.int .u64 r2)).setCell ⟨w.heap.size + 1, 3, none⟩ (.int .u64 r3)) (w.heap.size + 1) 81 #[.int .u64 r0, .int .u64 r1, .int .u64 r2, .int .u64 r3] ∧ Below w.heap.size w ((((w1.setCell ⟨w.heap.size + 1, 0, none⟩ (.int .u64 r0)).setCell ⟨w.heap.size + 1, 1, none⟩ (.int .u64 r1)).setCell ⟨w.heap.size + 1, 2, none⟩ (.int .u64 r2)).setCell ⟨w.heap.size + 1, 3, none⟩ (.int .u64 r3))) := lH ⟨((((xr.set 0 _).set 1 _).set 2 _).set 3 _), ((((kk.setCell (p := ⟨w.heap.size + 1, 0, none⟩) (by simp) _).setCell (p := ⟨w.heap.size + 1, 1, none⟩) (by simp) _).setCell (p := ⟨w.heap.size + 1, 2, none⟩) (by simp) _).setCell (p := ⟨w.heap.size + 1, 3, none⟩) (by simp) _)⟩
  have z0 := xr.cell 0; have f0 := xr.frozen 0; dsimp at z0; have z1 := xr.cell 1; have f1 := xr.frozen 1; dsimp at z1; have z2 := xr.cell 2; have f2 := xr.frozen 2; dsimp at z2; have z3 := xr.cell 3; have f3 := xr.frozen 3; dsimp at z3
  clear xr kk
  go_wp2_with fail
  obtain ⟨hE, kb⟩ := KEY.out
  have e0 := hE.cell 0; have e1 := hE.cell 1; have e2 := hE.cell 2; have e3 := hE.cell 3
  dsimp at e0 e1 e2 e3
  refine bodyPost_ret (v := .agg #[.int .u64 r0, .int .u64 r1, .int .u64 r2, .int .u64 r3]) ?_ rfl ⟨rfl, kb⟩
  clear z0 f0 z1 f1 z2 f2 z3 f3 kb hE
  simp [results, Tryz.results152, go_sem, e0, e1, e2, e3]
theorem xlost_core (a0 a1 a2 a3 n : Int) (b : Bool)
    (H1 : Hid (∀ w, Calls Tryz.prog 206 #[.agg #[.int .u64 a0, .int .u64 a1, .int .u64 a2, .int .u64 a3], .int .i64 n] w fun e w' => e = .returned (.bool b) ∧ Below w.heap.size w w')) (w : World) :
    Calls Tryz.prog 209 #[.agg #[.int .u64 a0, .int .u64 a1, .int .u64 a2, .int .u64 a3], .int .i64 n] w fun e w' => e = .returned (.bool b) ∧ Below w.heap.size w w' := by
  go_enter Tryz.func209, Tryz.ntmps209
  go_wp2_with fail
  (with_reducible refine (H1.out _).mono ?_); rintro e w1 ⟨rfl, hb⟩
  have kk := bC (bA bR _) hb
  clear hb H1
  go_wp2_with fail
  go_ret
  exact ⟨rfl, kk⟩
end Go.Proofs.YtjdjonekoodalaaGreatDoor
namespace Go.Proofs.YtjdjonekoodalaaGreatDoor
open Go.RowKit
def jamN (x : Int) (k : Nat) : Int := if x % 2 ^ k = 0 then x / 2 ^ k else x / 2 ^ k / 2 * 2 + 1
theorem or_one {v : Int} (h : U64 v) : bits .or .u64 v 1 = v / 2 * 2 + 1 := by
  have h0 := h.1; have h1 := h.2
  rw [u64_or _ _ h0 h1 (by decide) (by decide)]
  obtain ⟨V, rfl⟩ := Int.eq_ofNat_of_zero_le h0
  rw [Int.toNat_natCast]
  have e : V ||| (1 : Int).toNat = V / 2 * 2 + 1 := by
    have e1 : (1 : Int).toNat = 1 := rfl
    rw [e1]
    have a1 := Nat.two_pow_add_eq_or_of_lt (i := 1) (b := V % 2) (by omega) (V / 2)
    have a2 := Nat.two_pow_add_eq_or_of_lt (i := 1) (b := 1) (by omega) (V / 2)
    have a3 : V = 2 ^ 1 * (V / 2) + V % 2 := by omega
    rw [a1] at a3
    have a4 : V ||| 1 = 2 ^ 1 * (V / 2) ||| 1 := by
      have : (V % 2 ||| 1) = 1 := by rcases Nat.mod_two_eq_zero_or_one V with h | h <;> rw [h] <;> rfl
      conv => lhs; rw [a3]
      rw [Nat.or_assoc, this]
    rw [a4, ← a2]; omega
  rw [e]; push_cast; omega
theorem split_sum (n : Nat) : 64 * (n / 64) + n % 64 = n := by omega
theorem wd_mul_mod (x y : Int) : wd0 (x % wfull * y) = wd0 (x * y) ∧ wd1 (x % wfull * y) = wd1 (x * y) ∧ wd2 (x % wfull * y) = wd2 (x * y) ∧ wd3 (x % wfull * y) = wd3 (x * y) :=
  wd_congr (by rw [Int.mul_emod, Int.emod_emod_of_dvd x (Int.dvd_refl _), ← Int.mul_emod])
theorem lft_wd (x : Int) (k : Nat) : ∀ (j : Int), j = 0 ∨ j = 1 ∨ j = 2 ∨ j = 3 →
    lft (wd0 x) (wd1 x) (wd2 x) (wd3 x) ((k / 64 : Nat) : Int) (k % 64) j = (if j = 0 then wd0 (x * 2 ^ k) else if j = 1 then wd1 (x * 2 ^ k) else if j = 2 then wd2 (x * 2 ^ k) else wd3 (x * 2 ^ k)) := by
  have h := left_wd (wd0_u x) (wd1_u x) (wd2_u x) (wd3_u x) (k / 64) (p := k % 64) (by omega)
  rw [split_sum, wval_wd_mod] at h
  obtain ⟨m0, m1, m2, m3⟩ := wd_mul_mod x (2 ^ k)
  rw [m0, m1, m2, m3] at h
  obtain ⟨g0, g1, g2, g3⟩ := h
  rintro j (rfl | rfl | rfl | rfl)
  · exact g0
  · exact g1
  · exact g2
  · exact g3
theorem rgt_wd (x : Int) (k : Nat) : ∀ (j : Int), j = 0 ∨ j = 1 ∨ j = 2 ∨ j = 3 →
    rgt (wd0 x) (wd1 x) (wd2 x) (wd3 x) ((k / 64 : Nat) : Int) (k % 64) j = (if j = 0 then wd0 (x % wfull / 2 ^ k) else if j = 1 then wd1 (x % wfull / 2 ^ k) else if j = 2 then wd2 (x % wfull / 2 ^ k) else wd3 (x % wfull / 2 ^ k)) := by
  have h := right_wd (wd0_u x) (wd1_u x) (wd2_u x) (wd3_u x) (k / 64) (p := k % 64) (by omega)
  rw [split_sum, wval_wd_mod] at h
  obtain ⟨g0, g1, g2, g3⟩ := h
  rintro j (rfl | rfl | rfl | rfl)
  · exact g0
  · exact g1
  · exact g2
  · exact g3
theorem wd_full (x : Int) : wd0 (x % full) = loOf x ∧ wd1 (x % full) = hiOf x ∧ wd2 (x % full) = 0 ∧ wd3 (x % full) = 0 := by
  unfold wd0 wd1 wd2 wd3 loOf hiOf full; omega
theorem hl_mul_mod (x y : Int) : hiOf (x % full * y) = hiOf (x * y) ∧ loOf (x % full * y) = loOf (x * y) :=
  hl_congr (by rw [Int.mul_emod, Int.emod_emod_of_dvd x (Int.dvd_refl _), ← Int.mul_emod])
theorem lft2_hl (x : Int) (k : Nat) : lft2 (loOf x) (hiOf x) ((k / 64 : Nat) : Int) (k % 64) 0 = loOf (x * 2 ^ k) ∧ lft2 (loOf x) (hiOf x) ((k / 64 : Nat) : Int) (k % 64) 1 = hiOf (x * 2 ^ k) := by
  obtain ⟨f0, f1, f2, f3⟩ := wd_full x
  have h0 := lft_wd (x % full) k 0 (by simp); have h1 := lft_wd (x % full) k 1 (by simp)
  rw [f0, f1, f2, f3] at h0 h1
  rw [lft2_eq, lft2_eq, h0, h1]
  exact ⟨(hl_mul_mod x _).2, (hl_mul_mod x _).1⟩
theorem mod_full_w (x : Int) : x % full % wfull = x % full := by unfold full wfull; omega
theorem rgt2_hl (x : Int) (k : Nat) : rgt2 (loOf x) (hiOf x) ((k / 64 : Nat) : Int) (k % 64) 0 = loOf (x % full / 2 ^ k) ∧ rgt2 (loOf x) (hiOf x) ((k / 64 : Nat) : Int) (k % 64) 1 = hiOf (x % full / 2 ^ k) := by
  obtain ⟨f0, f1, f2, f3⟩ := wd_full x
  have h0 := rgt_wd (x % full) k 0 (by simp); have h1 := rgt_wd (x % full) k 1 (by simp)
  rw [f0, f1, f2, f3, mod_full_w] at h0 h1
  rw [rgt2_eq, rgt2_eq, h0, h1]
  exact ⟨rfl, rfl⟩
theorem div_back (y : Int) (k : Nat) (h0 : 0 ≤ y) : 0 ≤ y / 2 ^ k ∧ y / 2 ^ k ≤ y ∧ 0 ≤ y / 2 ^ k * 2 ^ k ∧ y / 2 ^ k * 2 ^ k ≤ y ∧ (y / 2 ^ k * 2 ^ k = y ↔ y % 2 ^ k = 0) := by
  have hp := two_pow_pos k
  have e := Int.emod_add_mul_ediv y (2 ^ k)
  have r := Int.emod_nonneg y (show (2 : Int) ^ k ≠ 0 by omega)
  have q := Int.ediv_nonneg h0 (show (0 : Int) ≤ 2 ^ k by omega)
  have q2 : y / 2 ^ k ≤ 2 ^ k * (y / 2 ^ k) := by
    have := Int.mul_le_mul_of_nonneg_right (show (1 : Int) ≤ 2 ^ k by omega) q
    omega
  rw [Int.mul_comm (y / 2 ^ k)]
  have q3 : 0 ≤ 2 ^ k * (y / 2 ^ k) := Int.mul_nonneg (by omega) q
  generalize 2 ^ k * (y / 2 ^ k) = z at *
  omega
theorem wd_inj {x y : Int} (h0 : 0 ≤ x) (h1 : x < wfull) (g0 : 0 ≤ y) (g1 : y < wfull) : (wd0 x = wd0 y ∧ wd1 x = wd1 y ∧ wd2 x = wd2 y ∧ wd3 x = wd3 y) ↔ x = y := by
  constructor
  · rintro ⟨e0, e1, e2, e3⟩
    rw [← wval_wd h0 h1, ← wval_wd g0 g1, e0, e1, e2, e3]
  · rintro rfl; exact ⟨rfl, rfl, rfl, rfl⟩
theorem hl_inj {x y : Int} (h0 : 0 ≤ x) (h1 : x < full) (g0 : 0 ≤ y) (g1 : y < full) : (loOf x = loOf y ∧ hiOf x = hiOf y) ↔ x = y := by
  constructor
  · rintro ⟨e0, e1⟩
    rw [← val_hiLo h0 h1, ← val_hiLo g0 g1, e0, e1]
  · rintro rfl; exact ⟨rfl, rfl⟩
theorem mod_w (x : Int) : 0 ≤ x % wfull ∧ x % wfull < wfull := by unfold wfull; omega
theorem mod_f (x : Int) : 0 ≤ x % full ∧ x % full < full := by unfold full; omega
section
variable (x n : Int) (n0 : -9223372036854775808 ≤ n) (n1 : n ≤ 9223372036854775807)
include n0 n1
theorem leftG (w : World) : Calls Tryz.prog 196 #[.agg #[.int .u64 (wd0 x), .int .u64 (wd1 x), .int .u64 (wd2 x), .int .u64 (wd3 x)], .int .i64 n] w fun e w' =>
    e = .returned (.agg #[.int .u64 (wd0 (x * 2 ^ n.toNat)), .int .u64 (wd1 (x * 2 ^ n.toNat)), .int .u64 (wd2 (x * 2 ^ n.toNat)), .int .u64 (wd3 (x * 2 ^ n.toNat))]) ∧ Below w.heap.size w w' := by
  have h := left4_any (wd0 x) (wd1 x) (wd2 x) (wd3 x) n (wd0_u x) (wd1_u x) (wd2_u x) (wd3_u x) n0 n1 w
  rw [lft_wd x n.toNat 0 (by simp), lft_wd x n.toNat 1 (by simp), lft_wd x n.toNat 2 (by simp), lft_wd x n.toNat 3 (by simp)] at h
  exact h
theorem rightG (w : World) : Calls Tryz.prog 205 #[.agg #[.int .u64 (wd0 x), .int .u64 (wd1 x), .int .u64 (wd2 x), .int .u64 (wd3 x)], .int .i64 n] w fun e w' =>
    e = .returned (.agg #[.int .u64 (wd0 (x % wfull / 2 ^ n.toNat)), .int .u64 (wd1 (x % wfull / 2 ^ n.toNat)), .int .u64 (wd2 (x % wfull / 2 ^ n.toNat)), .int .u64 (wd3 (x % wfull / 2 ^ n.toNat))]) ∧ Below w.heap.size w w' := by
  have h := right4_any (wd0 x) (wd1 x) (wd2 x) (wd3 x) n (wd0_u x) (wd1_u x) (wd2_u x) (wd3_u x) n0 n1 w
  rw [rgt_wd x n.toNat 0 (by simp), rgt_wd x n.toNat 1 (by simp), rgt_wd x n.toNat 2 (by simp), rgt_wd x n.toNat 3 (by simp)] at h
  exact h
theorem lostG (w : World) : Calls Tryz.prog 206 #[.agg #[.int .u64 (wd0 x), .int .u64 (wd1 x), .int .u64 (wd2 x), .int .u64 (wd3 x)], .int .i64 n] w fun e w' =>
    e = .returned (.bool (x % wfull % 2 ^ n.toNat != 0)) ∧ Below w.heap.size w w' := by
  obtain ⟨m0, m1⟩ := mod_w x
  obtain ⟨q0, q1, b0, b1, b2⟩ := div_back (x % wfull) n.toNat m0
  refine lost4_core (wd0 x) (wd1 x) (wd2 x) (wd3 x) _ _ _ _ _ _ _ _ n _ (lH (rightG x n n0 n1)) (lH (leftG (x % wfull / 2 ^ n.toNat) n n0 n1)) (fun w => ?_) w
  have h := neq_of_eql (eql_wide (wd0 (x % wfull / 2 ^ n.toNat * 2 ^ n.toNat)) (wd1 (x % wfull / 2 ^ n.toNat * 2 ^ n.toNat)) (wd2 (x % wfull / 2 ^ n.toNat * 2 ^ n.toNat)) (wd3 (x % wfull / 2 ^ n.toNat * 2 ^ n.toNat)) (wd0 x) (wd1 x) (wd2 x) (wd3 x) w)
  rw [h]
  obtain ⟨e0, e1, e2, e3⟩ := wd_mod x
  have hi := wd_inj b0 (show x % wfull / 2 ^ n.toNat * 2 ^ n.toNat < wfull by omega) m0 m1
  rw [e0, e1, e2, e3, b2] at hi
  congr 2
  rw [Bool.eq_iff_iff]
  simp only [Bool.not_eq_true', decide_eq_false_iff_not, bne_iff_ne, ne_eq, hi]
theorem jamG (w : World) : Calls Tryz.prog 186 #[.agg #[.int .u64 (wd0 x), .int .u64 (wd1 x), .int .u64 (wd2 x), .int .u64 (wd3 x)], .int .i64 n] w fun e w' =>
    e = .returned (.agg #[.int .u64 (wd0 (jamN (x % wfull) n.toNat)), .int .u64 (wd1 (jamN (x % wfull) n.toNat)), .int .u64 (wd2 (jamN (x % wfull) n.toNat)), .int .u64 (wd3 (jamN (x % wfull) n.toNat))]) ∧ Below w.heap.size w w' := by
  have H2 := lostG x n n0 n1
  have H1 := rightG x n n0 n1
  unfold jamN
  by_cases h : x % wfull % 2 ^ n.toNat = 0
  · rw [if_pos h]
    rw [show (x % wfull % 2 ^ n.toNat != 0) = false by simp [h]] at H2
    exact jam4_no _ _ _ _ _ _ _ _ n (lH H1) (lH H2) w
  · rw [if_neg h]
    rw [show (x % wfull % 2 ^ n.toNat != 0) = true by simp [h]] at H2
    have J := jam4_yes _ _ _ _ _ _ _ _ n _ rfl (lH H1) (lH H2) w
    generalize x % wfull / 2 ^ n.toNat = q at J ⊢
    rw [or_one (wd0_u q)] at J
    rw [show wd0 (q / 2 * 2 + 1) = wd0 q / 2 * 2 + 1 by unfold wd0; omega, show wd1 (q / 2 * 2 + 1) = wd1 q by unfold wd1; omega, show wd2 (q / 2 * 2 + 1) = wd2 q by unfold wd2; omega, show wd3 (q / 2 * 2 + 1) = wd3 q by unfold wd3; omega]
    exact J
theorem wleftW (w : World) : Calls Tryz.prog 180 #[.agg #[.int .u64 (wd0 x), .int .u64 (wd1 x), .int .u64 (wd2 x), .int .u64 (wd3 x)], .int .i64 n] w fun e w' =>
    e = .returned (.agg #[.int .u64 (wd0 (x * 2 ^ n.toNat)), .int .u64 (wd1 (x * 2 ^ n.toNat)), .int .u64 (wd2 (x * 2 ^ n.toNat)), .int .u64 (wd3 (x * 2 ^ n.toNat))]) ∧ Below w.heap.size w w' :=
  xwideleft_core _ _ _ _ _ _ _ _ n (lH (leftG x n n0 n1)) w
theorem wrightW (w : World) : Calls Tryz.prog 200 #[.agg #[.int .u64 (wd0 x), .int .u64 (wd1 x), .int .u64 (wd2 x), .int .u64 (wd3 x)], .int .i64 n] w fun e w' =>
    e = .returned (.agg #[.int .u64 (wd0 (x % wfull / 2 ^ n.toNat)), .int .u64 (wd1 (x % wfull / 2 ^ n.toNat)), .int .u64 (wd2 (x % wfull / 2 ^ n.toNat)), .int .u64 (wd3 (x % wfull / 2 ^ n.toNat))]) ∧ Below w.heap.size w w' :=
  xwideright_core _ _ _ _ _ _ _ _ n (lH (rightG x n n0 n1)) w
theorem wjamW (w : World) : Calls Tryz.prog 152 #[.agg #[.int .u64 (wd0 x), .int .u64 (wd1 x), .int .u64 (wd2 x), .int .u64 (wd3 x)], .int .i64 n] w fun e w' =>
    e = .returned (.agg #[.int .u64 (wd0 (jamN (x % wfull) n.toNat)), .int .u64 (wd1 (jamN (x % wfull) n.toNat)), .int .u64 (wd2 (jamN (x % wfull) n.toNat)), .int .u64 (wd3 (jamN (x % wfull) n.toNat))]) ∧ Below w.heap.size w w' :=
  xwidejam_core _ _ _ _ _ _ _ _ n (lH (jamG x n n0 n1)) w
theorem lostW (w : World) : Calls Tryz.prog 209 #[.agg #[.int .u64 (wd0 x), .int .u64 (wd1 x), .int .u64 (wd2 x), .int .u64 (wd3 x)], .int .i64 n] w fun e w' =>
    e = .returned (.bool (x % wfull % 2 ^ n.toNat != 0)) ∧ Below w.heap.size w w' :=
  xlost_core _ _ _ _ n _ (lH (lostG x n n0 n1)) w
theorem leftD (w : World) : Calls Tryz.prog 117 #[.agg #[.int .u64 (loOf x), .int .u64 (hiOf x)], .int .i64 n] w fun e w' =>
    e = .returned (.agg #[.int .u64 (loOf (x * 2 ^ n.toNat)), .int .u64 (hiOf (x * 2 ^ n.toNat))]) ∧ Below w.heap.size w w' := by
  have h := left2_any (loOf x) (hiOf x) n (loOf_u x) (hiOf_u x) n0 n1 w
  rw [(lft2_hl x n.toNat).1, (lft2_hl x n.toNat).2] at h
  exact h
theorem rightD (w : World) : Calls Tryz.prog 129 #[.agg #[.int .u64 (loOf x), .int .u64 (hiOf x)], .int .i64 n] w fun e w' =>
    e = .returned (.agg #[.int .u64 (loOf (x % full / 2 ^ n.toNat)), .int .u64 (hiOf (x % full / 2 ^ n.toNat))]) ∧ Below w.heap.size w w' := by
  have h := right2_any (loOf x) (hiOf x) n (loOf_u x) (hiOf_u x) n0 n1 w
  rw [(rgt2_hl x n.toNat).1, (rgt2_hl x n.toNat).2] at h
  exact h
theorem leftB (w : World) : Calls Tryz.prog 62 #[.agg #[.int .u64 (hiOf x), .int .u64 (loOf x)], .int .i64 n] w fun e w' =>
    e = .returned (.agg #[.int .u64 (hiOf (x * 2 ^ n.toNat)), .int .u64 (loOf (x * 2 ^ n.toNat))]) ∧ Below w.heap.size w w' :=
  xleft_core _ _ n _ _ (lH (leftD x n n0 n1)) w
theorem rightB (w : World) : Calls Tryz.prog 85 #[.agg #[.int .u64 (hiOf x), .int .u64 (loOf x)], .int .i64 n] w fun e w' =>
    e = .returned (.agg #[.int .u64 (hiOf (x % full / 2 ^ n.toNat)), .int .u64 (loOf (x % full / 2 ^ n.toNat))]) ∧ Below w.heap.size w w' :=
  xright_core _ _ n _ _ (lH (rightD x n n0 n1)) w
end
end Go.Proofs.YtjdjonekoodalaaGreatDoor
namespace Go.Proofs.YtjdjonekoodalaaGreatDoor
theorem pow_pos' (k : Nat) : (2 : Int) ^ k ≠ 0 := by have := two_pow_pos k; omega
theorem jam_div (x : Int) (k m : Nat) : x / 2 ^ k / 2 ^ m = x / 2 ^ (k + m) := by
  rw [Int.pow_add, Int.ediv_ediv_of_nonneg (by have := two_pow_pos k; omega)]
theorem mod_split (x : Int) (k m : Nat) : x % 2 ^ (k + m) = x % 2 ^ k + 2 ^ k * (x / 2 ^ k % 2 ^ m) := by
  have e1 := Int.emod_add_mul_ediv x (2 ^ k)
  have e2 := Int.emod_add_mul_ediv (x / 2 ^ k) (2 ^ m)
  have b := mul_add_lt (two_pow_pos k) (Int.emod_nonneg (x / 2 ^ k) (pow_pos' m)) (Int.emod_lt_of_pos (x / 2 ^ k) (two_pow_pos m)) (Int.emod_nonneg x (pow_pos' k)) (Int.emod_lt_of_pos x (two_pow_pos k))
  rw [← Int.pow_add] at b
  have e3 : x = (2 ^ k * (x / 2 ^ k % 2 ^ m) + x % 2 ^ k) + 2 ^ (k + m) * (x / 2 ^ k / 2 ^ m) := by
    rw [Int.pow_add, Int.mul_assoc]
    have e4 : 2 ^ k * (x / 2 ^ k) = 2 ^ k * (x / 2 ^ k % 2 ^ m) + 2 ^ k * (2 ^ m * (x / 2 ^ k / 2 ^ m)) := by rw [← Int.mul_add, e2]
    omega
  have e5 : x % 2 ^ (k + m) = 2 ^ k * (x / 2 ^ k % 2 ^ m) + x % 2 ^ k := by
    conv => lhs; rw [e3]
    rw [Int.add_mul_emod_self_left, Int.emod_eq_of_lt b.1 b.2]
  rw [e5, Int.add_comm]
theorem lost_split (x : Int) (k m : Nat) : x % 2 ^ (k + m) = 0 ↔ (x % 2 ^ k = 0 ∧ x / 2 ^ k % 2 ^ m = 0) := by
  rw [mod_split]
  have h1 := Int.emod_nonneg x (pow_pos' k)
  have h2 := Int.emod_nonneg (x / 2 ^ k) (pow_pos' m)
  have h3 : 0 ≤ 2 ^ k * (x / 2 ^ k % 2 ^ m) := Int.mul_nonneg (by have := two_pow_pos k; omega) h2
  constructor
  · intro h
    have a : x % 2 ^ k = 0 := by omega
    have b : 2 ^ k * (x / 2 ^ k % 2 ^ m) = 0 := by omega
    exact ⟨a, (Int.mul_eq_zero.1 b).resolve_left (pow_pos' k)⟩
  · rintro ⟨a, b⟩; rw [a, b]; simp
theorem jam_range {x : Int} (h0 : 0 ≤ x) (k : Nat) : x / 2 ^ k ≤ jamN x k ∧ jamN x k ≤ x / 2 ^ k + 1 ∧ 0 ≤ jamN x k ∧ jamN x k ≤ x + (if x % 2 ^ k = 0 then 0 else 1) := by
  obtain ⟨q0, q1, q2, q3, q4⟩ := div_back x k h0
  unfold jamN
  split <;> omega
theorem jam_low (x : Int) (k : Nat) : jamN x k / 2 = x / 2 ^ k / 2 ∧ (jamN x k % 2 = 0 ↔ (x % 2 ^ k = 0 ∧ x / 2 ^ k % 2 = 0)) := by
  unfold jamN
  split
  · refine ⟨rfl, ?_⟩; simp [*]
  · refine ⟨by omega, ?_⟩; simp [*]
theorem pow_succ2 (m : Nat) : (2 : Int) ^ (m + 1) = 2 * 2 ^ m := by rw [Int.pow_succ, Int.mul_comm]
theorem jam_jam (x : Int) (k m : Nat) : jamN (jamN x k) m = jamN x (k + m) := by
  cases m with
  | zero =>
    show jamN (jamN x k) 0 = jamN x k
    generalize jamN x k = y
    unfold jamN; simp
  | succ m =>
    obtain ⟨e1, e2⟩ := jam_low x k
    have d1 : jamN x k / 2 ^ (m + 1) = x / 2 ^ (k + (m + 1)) := by
      rw [pow_succ2, ← Int.ediv_ediv_of_nonneg (by omega), e1, Int.ediv_ediv_of_nonneg (by omega), ← pow_succ2, jam_div]
    have d2 : jamN x k % 2 ^ (m + 1) = 0 ↔ x % 2 ^ (k + (m + 1)) = 0 := by
      have s : ∀ y : Int, y % 2 ^ (m + 1) = 0 ↔ (y % 2 = 0 ∧ y / 2 % 2 ^ m = 0) := fun y => by
        have h := lost_split y 1 m
        rw [Int.pow_one, Nat.add_comm] at h
        exact h
      rw [s, e1, e2, lost_split x k (m + 1), s (x / 2 ^ k)]
      constructor
      · rintro ⟨⟨a, b⟩, c⟩; exact ⟨a, b, c⟩
      · rintro ⟨a, b, c⟩; exact ⟨⟨a, b⟩, c⟩
    rw [show jamN (jamN x k) (m + 1) = if jamN x k % 2 ^ (m + 1) = 0 then jamN x k / 2 ^ (m + 1) else jamN x k / 2 ^ (m + 1) / 2 * 2 + 1 from rfl, d1]
    rw [show jamN x (k + (m + 1)) = if x % 2 ^ (k + (m + 1)) = 0 then x / 2 ^ (k + (m + 1)) else x / 2 ^ (k + (m + 1)) / 2 * 2 + 1 from rfl]
    by_cases h : x % 2 ^ (k + (m + 1)) = 0
    · rw [if_pos h, if_pos (d2.2 h)]
    · rw [if_neg h, if_neg (fun h' => h (d2.1 h'))]
theorem div_mono {x y : Int} (h : x ≤ y) (k : Nat) : x / 2 ^ k ≤ y / 2 ^ k := Int.ediv_le_ediv (two_pow_pos k) h
theorem jam_mono {x y : Int} (h : x ≤ y) (k : Nat) : jamN x k ≤ jamN y k := by
  have hd := div_mono h k
  have ex := Int.emod_add_mul_ediv x (2 ^ k); have ey := Int.emod_add_mul_ediv y (2 ^ k)
  have rx := Int.emod_nonneg x (pow_pos' k); have ry := Int.emod_nonneg y (pow_pos' k)
  have hq : x / 2 ^ k = y / 2 ^ k → x % 2 ^ k ≤ y % 2 ^ k := fun e => by
    rw [e] at ex; omega
  have hm : x % 2 ^ k ≠ 0 → y % 2 ^ k = 0 → x / 2 ^ k < y / 2 ^ k := fun a b => by
    rcases Int.lt_or_eq_of_le hd with g | g
    · exact g
    · have := hq g; omega
  unfold jamN
  by_cases a : x % 2 ^ k = 0 <;> by_cases b : y % 2 ^ k = 0
  · rw [if_pos a, if_pos b]; exact hd
  · rw [if_pos a, if_neg b]; omega
  · rw [if_neg a, if_pos b]; have := hm a b; omega
  · rw [if_neg a, if_neg b]; omega
theorem jam_zero {x : Int} (h0 : 0 ≤ x) (k : Nat) : jamN x k = 0 ↔ x = 0 := by
  unfold jamN
  have e := Int.emod_add_mul_ediv x (2 ^ k)
  constructor
  · intro h
    by_cases a : x % 2 ^ k = 0
    · rw [if_pos a] at h
      rw [a, h] at e; simp at e; omega
    · rw [if_neg a] at h
      have := (div_back x k h0).1
      omega
  · rintro rfl; simp
theorem jam_lt {x B : Int} (h0 : 0 ≤ x) (h1 : x < B) (hB : B % 2 = 0) (k : Nat) : 0 ≤ jamN x k ∧ jamN x k < B := by
  obtain ⟨q0, q1, q2, q3, q4⟩ := div_back x k h0
  unfold jamN
  split <;> omega
theorem wfull_even : wfull % 2 = 0 := by decide +kernel
end Go.Proofs.YtjdjonekoodalaaGreatDoor
