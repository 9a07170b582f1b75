/-
  Contracts of package shift: closures over plain arithmetic, build.
-/
import Derived.Test.YtkhcbioohoeegaaDoorShiftC
set_option linter.unusedVariables false
set_option linter.unusedSimpArgs false
set_option maxRecDepth 100000
namespace Go.Proofs.YtkhcbioohoeegaaDoor
open Go.RowKit
attribute [local go_sem ↓] Go.wp_at_zero Go.wp_at_succ


theorem left2_fun {b1 b2 b3 : Nat} (a0 a1 i : Int) (wh p : Nat) (u0 : U64 a0) (u1 : U64 a1) (hp : p ≤ 64) (i0 : 0 ≤ i) (i1 : i ≤ 4) (wh1 : wh ≤ 1000000000000000000) (w : World)
    (cA0 : w.cell? ⟨b1, 0, none⟩ = some (.int .u64 a0)) (cA1 : w.cell? ⟨b1, 1, none⟩ = some (.int .u64 a1)) (cW : w.cell? ⟨b2, 0, none⟩ = some (.int .i64 (wh : Int))) (cP : w.cell? ⟨b3, 0, none⟩ = some (.int .i64 (p : Int))) :
    Calls Tryd.prog 66 #[.int .i64 i, .pointer (some ⟨b1, 0, none⟩), .pointer (some ⟨b2, 0, none⟩), .pointer (some ⟨b3, 0, none⟩)] w fun e w' =>
      e = .returned (.int .u64 (lft2 a0 a1 wh p i)) ∧ Below w.heap.size w w' := by
  have e1 : ((64 : Int) - (p : Int)).toNat = 64 - p := by omega
  refine left2_core a0 a1 i wh p (64 - (p : Int)) (i - (wh : Int)) (i - (wh : Int) - 1) _ _ (upLo (dg2 a0 a1 (i - (wh : Int))) p) (upHi (dg2 a0 a1 (i - (wh : Int) - 1)) p) _ (IntWalk.i64_in _ (by omega)) (IntWalk.i64_in _ (by omega)) (IntWalk.i64_in _ (by omega)) ?_ ?_ ?_ (Lib.hid fun w => digit2_any a0 a1 _ w) (Lib.hid fun w => digit2_any a0 a1 _ w) w cA0 cA1 cW cP
  · rw [shift_shl .u64 .i64 _ _ (by omega) (by show (_ : Int) ≤ 64; omega)]; rw [IntKind.wrap_u64, Int.toNat_natCast]; rfl
  · rw [shift_shr .u64 .i64 _ _ (by omega) (by show (_ : Int) ≤ 64; omega), e1]; rfl
  · exact up_or (dg2_u u0 u1 _) hp

theorem right2_fun {b1 b2 b3 : Nat} (a0 a1 i : Int) (wh p : Nat) (u0 : U64 a0) (u1 : U64 a1) (hp : p ≤ 64) (i0 : 0 ≤ i) (i1 : i ≤ 4) (wh1 : wh ≤ 1000000000000000000) (w : World)
    (cA0 : w.cell? ⟨b1, 0, none⟩ = some (.int .u64 a0)) (cA1 : w.cell? ⟨b1, 1, none⟩ = some (.int .u64 a1)) (cW : w.cell? ⟨b2, 0, none⟩ = some (.int .i64 (wh : Int))) (cP : w.cell? ⟨b3, 0, none⟩ = some (.int .i64 (p : Int))) :
    Calls Tryd.prog 63 #[.int .i64 i, .pointer (some ⟨b1, 0, none⟩), .pointer (some ⟨b2, 0, none⟩), .pointer (some ⟨b3, 0, none⟩)] w fun e w' =>
      e = .returned (.int .u64 (rgt2 a0 a1 wh p i)) ∧ Below w.heap.size w w' := by
  have e1 : ((64 : Int) - (p : Int)).toNat = 64 - p := by omega
  refine right2_core a0 a1 i wh p (64 - (p : Int)) (i + (wh : Int)) (i + (wh : Int) + 1) _ _ (dnLo (dg2 a0 a1 (i + (wh : Int))) p) (dnHi (dg2 a0 a1 (i + (wh : Int) + 1)) p) _ (IntWalk.i64_in _ (by omega)) (IntWalk.i64_in _ (by omega)) (IntWalk.i64_in _ (by omega)) ?_ ?_ ?_ (Lib.hid fun w => digit2_any a0 a1 _ w) (Lib.hid fun w => digit2_any a0 a1 _ w) w cA0 cA1 cW cP
  · rw [shift_shr .u64 .i64 _ _ (by omega) (by show (_ : Int) ≤ 64; omega)]; rw [Int.toNat_natCast]; rfl
  · rw [shift_shl .u64 .i64 _ _ (by omega) (by show (_ : Int) ≤ 64; omega), e1]; rw [IntKind.wrap_u64]; rfl
  · exact dn_or (dg2_u u0 u1 _) hp

def Bld2 (w : World) (d0 d1 : Int) (i : Value) (wr : World) : Prop :=
  ((i = .int .i64 0 ∧ HB wr (w.heap.size + 1) 69 #[.int .u64 0, .int .u64 0]) ∨ (i = .int .i64 1 ∧ HB wr (w.heap.size + 1) 69 #[.int .u64 d0, .int .u64 0]) ∨ (i = .int .i64 2 ∧ HB wr (w.heap.size + 1) 69 #[.int .u64 d0, .int .u64 d1])) ∧ HB wr w.heap.size 69 #[.int .u64 0, .int .u64 0] ∧ Below w.heap.size w wr
set_option maxHeartbeats 4000000 in
set_option maxRecDepth 100000 in
theorem build2_any (g : Nat) (hg : ∀ args w, (callFunc g args).run Tryd.prog w = .ok (.enter g args) w) {b1 b2 b3 : Nat} (d0 d1 : Int) (w : World)
    (H0 : Hid (∀ W, Below w.heap.size w W → Calls Tryd.prog g #[.int .i64 0, .pointer (some ⟨b1, 0, none⟩), .pointer (some ⟨b2, 0, none⟩), .pointer (some ⟨b3, 0, none⟩)] W fun e W' => e = .returned (.int .u64 d0) ∧ Below W.heap.size W W'))
    (H1 : Hid (∀ W, Below w.heap.size w W → Calls Tryd.prog g #[.int .i64 1, .pointer (some ⟨b1, 0, none⟩), .pointer (some ⟨b2, 0, none⟩), .pointer (some ⟨b3, 0, none⟩)] W fun e W' => e = .returned (.int .u64 d1) ∧ Below W.heap.size W W')) :
    Calls Tryd.prog 62 #[.func (.func g) #[] #[.pointer (some ⟨b1, 0, none⟩), .pointer (some ⟨b2, 0, none⟩), .pointer (some ⟨b3, 0, none⟩)]] w fun e w' => e = .returned (.agg #[.int .u64 d0, .int .u64 d1]) ∧ Below w.heap.size w w' := by
  go_enter Tryd.func62, Tryd.ntmps62
  go_wp2_with fail
  go_loopw [7] (fun i wr => Bld2 w d0 d1 i wr) (fun i _ => 2 - (intOf i).toNat)
  case atStart => exact ⟨.inl ⟨rfl, HB.newAt (by simp) _ _⟩, (HB.new w _ _).alloc _, bA (bA (Below.refl _ _) _) _⟩
  case round =>
    obtain ⟨hs, hr, kk⟩ := hrel
    rcases hs with ⟨rfl, hx⟩ | ⟨rfl, hx⟩ | ⟨rfl, hx⟩
    · go_wp2_with fail
      (with_reducible refine (H0.out _ kk).mono ?_); rintro e W1 ⟨rfl, hb⟩
      replace hx := hx.later hb; replace hr := hr.later hb; replace kk := bC kk hb
      clear hb H0 H1
      have c := hx.cell 0; have f := hx.frozen 0; have hsz := kk.size
      dsimp at c
      have hx2 : HB (W1.setCell ⟨w.heap.size + 1, 0, none⟩ (.int .u64 d0)) (w.heap.size + 1) 69 #[.int .u64 d0, .int .u64 0] := hx.set 0 (.int .u64 d0)
      have hr2 := hr.other (B' := w.heap.size + 1) (by omega) 0 (.int .u64 d0)
      have kk2 := kk.setCell (p := ⟨w.heap.size + 1, 0, none⟩) (by simp) (.int .u64 d0)
      clear hx hr kk
      go_wp2_with fail
      go_roundw
      case rel => exact ⟨.inr (.inl ⟨rfl, hx2⟩), hr2, kk2⟩
      case measure => simp [intOf]
    · go_wp2_with fail
      (with_reducible refine (H1.out _ kk).mono ?_); rintro e W1 ⟨rfl, hb⟩
      replace hx := hx.later hb; replace hr := hr.later hb; replace kk := bC kk hb
      clear hb H0 H1
      have c := hx.cell 1; have f := hx.frozen 1; have hsz := kk.size
      dsimp at c
      have hx2 : HB (W1.setCell ⟨w.heap.size + 1, 1, none⟩ (.int .u64 d1)) (w.heap.size + 1) 69 #[.int .u64 d0, .int .u64 d1] := hx.set 1 (.int .u64 d1)
      have hr2 := hr.other (B' := w.heap.size + 1) (by omega) 1 (.int .u64 d1)
      have kk2 := kk.setCell (p := ⟨w.heap.size + 1, 1, none⟩) (by simp) (.int .u64 d1)
      clear hx hr kk
      go_wp2_with fail
      go_roundw
      case rel => exact ⟨.inr (.inr (⟨rfl, hx2⟩)), hr2, kk2⟩
      case measure => simp [intOf]
    · clear H0 H1
      have KEY : Hid (HB ((wr.setCell ⟨w.heap.size, 0, none⟩ (.int .u64 d0)).setCell ⟨w.heap.size, 1, none⟩ (.int .u64 d1)) w.heap.size 69 #[.int .u64 d0, .int .u64 d1] ∧ Below w.heap.size w ((wr.setCell ⟨w.heap.size, 0, none⟩ (.int .u64 d0)).setCell ⟨w.heap.size, 1, none⟩ (.int .u64 d1))) := Lib.hid ⟨((hr.set 0 _).set 1 _), ((kk.setCell (p := ⟨w.heap.size, 0, none⟩) (Nat.le_refl _) _).setCell (p := ⟨w.heap.size, 1, none⟩) (Nat.le_refl _) _)⟩
      have hsz := kk.size
      have c0 := hx.cell 0; have c1 := hx.cell 1
      dsimp at c0 c1
      have z0 := hr.cell 0; have f0 := hr.frozen 0; dsimp at z0; have z1 := hr.cell 1; have f1 := hr.frozen 1; dsimp at z1
      clear hr hx kk
      go_wp2_with fail
      obtain ⟨hE, kb⟩ := KEY.out
      have e0 := hE.cell 0; have e1 := hE.cell 1
      dsimp at e0 e1
      refine bodyPost_ret (v := .agg #[.int .u64 d0, .int .u64 d1]) ?_ rfl ⟨rfl, kb⟩
      clear c0 z0 f0 c1 z1 f1 kb hE
      simp [results, Tryd.results62, go_sem, e0, e1]

theorem left4_fun {b1 b2 b3 : Nat} (a0 a1 a2 a3 i : Int) (wh p : Nat) (u0 : U64 a0) (u1 : U64 a1) (u2 : U64 a2) (u3 : U64 a3) (hp : p ≤ 64) (i0 : 0 ≤ i) (i1 : i ≤ 4) (wh1 : wh ≤ 1000000000000000000) (w : World)
    (cA0 : w.cell? ⟨b1, 0, none⟩ = some (.int .u64 a0)) (cA1 : w.cell? ⟨b1, 1, none⟩ = some (.int .u64 a1)) (cA2 : w.cell? ⟨b1, 2, none⟩ = some (.int .u64 a2)) (cA3 : w.cell? ⟨b1, 3, none⟩ = some (.int .u64 a3)) (cW : w.cell? ⟨b2, 0, none⟩ = some (.int .i64 (wh : Int))) (cP : w.cell? ⟨b3, 0, none⟩ = some (.int .i64 (p : Int))) :
    Calls Tryd.prog 60 #[.int .i64 i, .pointer (some ⟨b1, 0, none⟩), .pointer (some ⟨b2, 0, none⟩), .pointer (some ⟨b3, 0, none⟩)] w fun e w' =>
      e = .returned (.int .u64 (lft a0 a1 a2 a3 wh p i)) ∧ Below w.heap.size w w' := by
  have e1 : ((64 : Int) - (p : Int)).toNat = 64 - p := by omega
  refine left4_core a0 a1 a2 a3 i wh p (64 - (p : Int)) (i - (wh : Int)) (i - (wh : Int) - 1) _ _ (upLo (dg4 a0 a1 a2 a3 (i - (wh : Int))) p) (upHi (dg4 a0 a1 a2 a3 (i - (wh : Int) - 1)) p) _ (IntWalk.i64_in _ (by omega)) (IntWalk.i64_in _ (by omega)) (IntWalk.i64_in _ (by omega)) ?_ ?_ ?_ (Lib.hid fun w => digit4_any a0 a1 a2 a3 _ w) (Lib.hid fun w => digit4_any a0 a1 a2 a3 _ w) w cA0 cA1 cA2 cA3 cW cP
  · rw [shift_shl .u64 .i64 _ _ (by omega) (by show (_ : Int) ≤ 64; omega)]; rw [IntKind.wrap_u64, Int.toNat_natCast]; rfl
  · rw [shift_shr .u64 .i64 _ _ (by omega) (by show (_ : Int) ≤ 64; omega), e1]; rfl
  · exact up_or (dg4_u u0 u1 u2 u3 _) hp

theorem right4_fun {b1 b2 b3 : Nat} (a0 a1 a2 a3 i : Int) (wh p : Nat) (u0 : U64 a0) (u1 : U64 a1) (u2 : U64 a2) (u3 : U64 a3) (hp : p ≤ 64) (i0 : 0 ≤ i) (i1 : i ≤ 4) (wh1 : wh ≤ 1000000000000000000) (w : World)
    (cA0 : w.cell? ⟨b1, 0, none⟩ = some (.int .u64 a0)) (cA1 : w.cell? ⟨b1, 1, none⟩ = some (.int .u64 a1)) (cA2 : w.cell? ⟨b1, 2, none⟩ = some (.int .u64 a2)) (cA3 : w.cell? ⟨b1, 3, none⟩ = some (.int .u64 a3)) (cW : w.cell? ⟨b2, 0, none⟩ = some (.int .i64 (wh : Int))) (cP : w.cell? ⟨b3, 0, none⟩ = some (.int .i64 (p : Int))) :
    Calls Tryd.prog 65 #[.int .i64 i, .pointer (some ⟨b1, 0, none⟩), .pointer (some ⟨b2, 0, none⟩), .pointer (some ⟨b3, 0, none⟩)] w fun e w' =>
      e = .returned (.int .u64 (rgt a0 a1 a2 a3 wh p i)) ∧ Below w.heap.size w w' := by
  have e1 : ((64 : Int) - (p : Int)).toNat = 64 - p := by omega
  refine right4_core a0 a1 a2 a3 i wh p (64 - (p : Int)) (i + (wh : Int)) (i + (wh : Int) + 1) _ _ (dnLo (dg4 a0 a1 a2 a3 (i + (wh : Int))) p) (dnHi (dg4 a0 a1 a2 a3 (i + (wh : Int) + 1)) p) _ (IntWalk.i64_in _ (by omega)) (IntWalk.i64_in _ (by omega)) (IntWalk.i64_in _ (by omega)) ?_ ?_ ?_ (Lib.hid fun w => digit4_any a0 a1 a2 a3 _ w) (Lib.hid fun w => digit4_any a0 a1 a2 a3 _ w) w cA0 cA1 cA2 cA3 cW cP
  · rw [shift_shr .u64 .i64 _ _ (by omega) (by show (_ : Int) ≤ 64; omega)]; rw [Int.toNat_natCast]; rfl
  · rw [shift_shl .u64 .i64 _ _ (by omega) (by show (_ : Int) ≤ 64; omega), e1]; rw [IntKind.wrap_u64]; rfl
  · exact dn_or (dg4_u u0 u1 u2 u3 _) hp

def Bld4 (w : World) (d0 d1 d2 d3 : Int) (i : Value) (wr : World) : Prop :=
  ((i = .int .i64 0 ∧ HB wr (w.heap.size + 1) 38 #[.int .u64 0, .int .u64 0, .int .u64 0, .int .u64 0]) ∨ (i = .int .i64 1 ∧ HB wr (w.heap.size + 1) 38 #[.int .u64 d0, .int .u64 0, .int .u64 0, .int .u64 0]) ∨ (i = .int .i64 2 ∧ HB wr (w.heap.size + 1) 38 #[.int .u64 d0, .int .u64 d1, .int .u64 0, .int .u64 0]) ∨ (i = .int .i64 3 ∧ HB wr (w.heap.size + 1) 38 #[.int .u64 d0, .int .u64 d1, .int .u64 d2, .int .u64 0]) ∨ (i = .int .i64 4 ∧ HB wr (w.heap.size + 1) 38 #[.int .u64 d0, .int .u64 d1, .int .u64 d2, .int .u64 d3])) ∧ HB wr w.heap.size 38 #[.int .u64 0, .int .u64 0, .int .u64 0, .int .u64 0] ∧ Below w.heap.size w wr
set_option maxHeartbeats 4000000 in
set_option maxRecDepth 100000 in
theorem build4_any (g : Nat) (hg : ∀ args w, (callFunc g args).run Tryd.prog w = .ok (.enter g args) w) {b1 b2 b3 : Nat} (d0 d1 d2 d3 : Int) (w : World)
    (H0 : Hid (∀ W, Below w.heap.size w W → Calls Tryd.prog g #[.int .i64 0, .pointer (some ⟨b1, 0, none⟩), .pointer (some ⟨b2, 0, none⟩), .pointer (some ⟨b3, 0, none⟩)] W fun e W' => e = .returned (.int .u64 d0) ∧ Below W.heap.size W W'))
    (H1 : Hid (∀ W, Below w.heap.size w W → Calls Tryd.prog g #[.int .i64 1, .pointer (some ⟨b1, 0, none⟩), .pointer (some ⟨b2, 0, none⟩), .pointer (some ⟨b3, 0, none⟩)] W fun e W' => e = .returned (.int .u64 d1) ∧ Below W.heap.size W W'))
    (H2 : Hid (∀ W, Below w.heap.size w W → Calls Tryd.prog g #[.int .i64 2, .pointer (some ⟨b1, 0, none⟩), .pointer (some ⟨b2, 0, none⟩), .pointer (some ⟨b3, 0, none⟩)] W fun e W' => e = .returned (.int .u64 d2) ∧ Below W.heap.size W W'))
    (H3 : Hid (∀ W, Below w.heap.size w W → Calls Tryd.prog g #[.int .i64 3, .pointer (some ⟨b1, 0, none⟩), .pointer (some ⟨b2, 0, none⟩), .pointer (some ⟨b3, 0, none⟩)] W fun e W' => e = .returned (.int .u64 d3) ∧ Below W.heap.size W W')) :
    Calls Tryd.prog 59 #[.func (.func g) #[] #[.pointer (some ⟨b1, 0, none⟩), .pointer (some ⟨b2, 0, none⟩), .pointer (some ⟨b3, 0, none⟩)]] w fun e w' => e = .returned (.agg #[.int .u64 d0, .int .u64 d1, .int .u64 d2, .int .u64 d3]) ∧ Below w.heap.size w w' := by
  go_enter Tryd.func59, Tryd.ntmps59
  go_wp2_with fail
  go_loopw [7] (fun i wr => Bld4 w d0 d1 d2 d3 i wr) (fun i _ => 4 - (intOf i).toNat)
  case atStart => exact ⟨.inl ⟨rfl, HB.newAt (by simp) _ _⟩, (HB.new w _ _).alloc _, bA (bA (Below.refl _ _) _) _⟩
  case round =>
    obtain ⟨hs, hr, kk⟩ := hrel
    rcases hs with ⟨rfl, hx⟩ | ⟨rfl, hx⟩ | ⟨rfl, hx⟩ | ⟨rfl, hx⟩ | ⟨rfl, hx⟩
    · go_wp2_with fail
      (with_reducible refine (H0.out _ kk).mono ?_); rintro e W1 ⟨rfl, hb⟩
      replace hx := hx.later hb; replace hr := hr.later hb; replace kk := bC kk hb
      clear hb H0 H1 H2 H3
      have c := hx.cell 0; have f := hx.frozen 0; have hsz := kk.size
      dsimp at c
      have hx2 : HB (W1.setCell ⟨w.heap.size + 1, 0, none⟩ (.int .u64 d0)) (w.heap.size + 1) 38 #[.int .u64 d0, .int .u64 0, .int .u64 0, .int .u64 0] := hx.set 0 (.int .u64 d0)
      have hr2 := hr.other (B' := w.heap.size + 1) (by omega) 0 (.int .u64 d0)
      have kk2 := kk.setCell (p := ⟨w.heap.size + 1, 0, none⟩) (by simp) (.int .u64 d0)
      clear hx hr kk
      go_wp2_with fail
      go_roundw
      case rel => exact ⟨.inr (.inl ⟨rfl, hx2⟩), hr2, kk2⟩
      case measure => simp [intOf]
    · go_wp2_with fail
      (with_reducible refine (H1.out _ kk).mono ?_); rintro e W1 ⟨rfl, hb⟩
      replace hx := hx.later hb; replace hr := hr.later hb; replace kk := bC kk hb
      clear hb H0 H1 H2 H3
      have c := hx.cell 1; have f := hx.frozen 1; have hsz := kk.size
      dsimp at c
      have hx2 : HB (W1.setCell ⟨w.heap.size + 1, 1, none⟩ (.int .u64 d1)) (w.heap.size + 1) 38 #[.int .u64 d0, .int .u64 d1, .int .u64 0, .int .u64 0] := hx.set 1 (.int .u64 d1)
      have hr2 := hr.other (B' := w.heap.size + 1) (by omega) 1 (.int .u64 d1)
      have kk2 := kk.setCell (p := ⟨w.heap.size + 1, 1, none⟩) (by simp) (.int .u64 d1)
      clear hx hr kk
      go_wp2_with fail
      go_roundw
      case rel => exact ⟨.inr (.inr (.inl ⟨rfl, hx2⟩)), hr2, kk2⟩
      case measure => simp [intOf]
    · go_wp2_with fail
      (with_reducible refine (H2.out _ kk).mono ?_); rintro e W1 ⟨rfl, hb⟩
      replace hx := hx.later hb; replace hr := hr.later hb; replace kk := bC kk hb
      clear hb H0 H1 H2 H3
      have c := hx.cell 2; have f := hx.frozen 2; have hsz := kk.size
      dsimp at c
      have hx2 : HB (W1.setCell ⟨w.heap.size + 1, 2, none⟩ (.int .u64 d2)) (w.heap.size + 1) 38 #[.int .u64 d0, .int .u64 d1, .int .u64 d2, .int .u64 0] := hx.set 2 (.int .u64 d2)
      have hr2 := hr.other (B' := w.heap.size + 1) (by omega) 2 (.int .u64 d2)
      have kk2 := kk.setCell (p := ⟨w.heap.size + 1, 2, none⟩) (by simp) (.int .u64 d2)
      clear hx hr kk
      go_wp2_with fail
      go_roundw
      case rel => exact ⟨.inr (.inr (.inr (.inl ⟨rfl, hx2⟩))), hr2, kk2⟩
      case measure => simp [intOf]
    · go_wp2_with fail
      (with_reducible refine (H3.out _ kk).mono ?_); rintro e W1 ⟨rfl, hb⟩
      replace hx := hx.later hb; replace hr := hr.later hb; replace kk := bC kk hb
      clear hb H0 H1 H2 H3
      have c := hx.cell 3; have f := hx.frozen 3; have hsz := kk.size
      dsimp at c
      have hx2 : HB (W1.setCell ⟨w.heap.size + 1, 3, none⟩ (.int .u64 d3)) (w.heap.size + 1) 38 #[.int .u64 d0, .int .u64 d1, .int .u64 d2, .int .u64 d3] := hx.set 3 (.int .u64 d3)
      have hr2 := hr.other (B' := w.heap.size + 1) (by omega) 3 (.int .u64 d3)
      have kk2 := kk.setCell (p := ⟨w.heap.size + 1, 3, none⟩) (by simp) (.int .u64 d3)
      clear hx hr kk
      go_wp2_with fail
      go_roundw
      case rel => exact ⟨.inr (.inr (.inr (.inr (⟨rfl, hx2⟩)))), hr2, kk2⟩
      case measure => simp [intOf]
    · clear H0 H1 H2 H3
      have KEY : Hid (HB ((((wr.setCell ⟨w.heap.size, 0, none⟩ (.int .u64 d0)).setCell ⟨w.heap.size, 1, none⟩ (.int .u64 d1)).setCell ⟨w.heap.size, 2, none⟩ (.int .u64 d2)).setCell ⟨w.heap.size, 3, none⟩ (.int .u64 d3)) w.heap.size 38 #[.int .u64 d0, .int .u64 d1, .int .u64 d2, .int .u64 d3] ∧ Below w.heap.size w ((((wr.setCell ⟨w.heap.size, 0, none⟩ (.int .u64 d0)).setCell ⟨w.heap.size, 1, none⟩ (.int .u64 d1)).setCell ⟨w.heap.size, 2, none⟩ (.int .u64 d2)).setCell ⟨w.heap.size, 3, none⟩ (.int .u64 d3))) := Lib.hid ⟨((((hr.set 0 _).set 1 _).set 2 _).set 3 _), ((((kk.setCell (p := ⟨w.heap.size, 0, none⟩) (Nat.le_refl _) _).setCell (p := ⟨w.heap.size, 1, none⟩) (Nat.le_refl _) _).setCell (p := ⟨w.heap.size, 2, none⟩) (Nat.le_refl _) _).setCell (p := ⟨w.heap.size, 3, none⟩) (Nat.le_refl _) _)⟩
      have hsz := kk.size
      have c0 := hx.cell 0; have c1 := hx.cell 1; have c2 := hx.cell 2; have c3 := hx.cell 3
      dsimp at c0 c1 c2 c3
      have z0 := hr.cell 0; have f0 := hr.frozen 0; dsimp at z0; have z1 := hr.cell 1; have f1 := hr.frozen 1; dsimp at z1; have z2 := hr.cell 2; have f2 := hr.frozen 2; dsimp at z2; have z3 := hr.cell 3; have f3 := hr.frozen 3; dsimp at z3
      clear hr hx kk
      go_wp2_with fail
      obtain ⟨hE, kb⟩ := KEY.out
      have e0 := hE.cell 0; have e1 := hE.cell 1; have e2 := hE.cell 2; have e3 := hE.cell 3
      dsimp at e0 e1 e2 e3
      refine bodyPost_ret (v := .agg #[.int .u64 d0, .int .u64 d1, .int .u64 d2, .int .u64 d3]) ?_ rfl ⟨rfl, kb⟩
      clear c0 z0 f0 c1 z1 f1 c2 z2 f2 c3 z3 f3 kb hE
      simp [results, Tryd.results59, go_sem, e0, e1, e2, e3]

end Go.Proofs.YtkhcbioohoeegaaDoor
