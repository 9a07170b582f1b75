/-
  NaNs moved: the document's answer of layer 11, over numbers.
-/
import Derived.Test.YthnikhhgnogibaaDoorMath11
import Derived.Test.YthnikhhgnogibaaDoorGjA
set_option linter.unusedVariables false
set_option linter.unusedSimpArgs false
set_option maxRecDepth 100000
namespace Go.Proofs.YthnikhhgnogibaaDoor
open Go.RowKit
attribute [local go_sem ↓] Go.wp_at_zero Go.wp_at_succ

set_option maxHeartbeats 1000000 in
theorem ref11_no_f (f t bh bl : Int) (g3 : decide (3 < f) = true) (w : World) : Calls Tryd.prog 9 #[.int .u8 f, .int .u8 t, .agg #[.int .u64 (bh), .int .u64 (bl)]] w fun e w' => e = .returned (.tuple #[.agg #[.int .u64 0, .int .u64 0, .int .u8 0], .bool false]) ∧ Below w.heap.size w w' := by
  go_enter Tryd.func9, Tryd.ntmps9
  go_wp2_with fail
  refine bodyPost_ret (v := .tuple #[.agg #[.int .u64 0, .int .u64 0, .int .u8 0], .bool false]) (by simp [results, Tryd.results9, go_sem]) rfl ⟨rfl, (bA (bA (Below.refl _ _) _) _)⟩
set_option maxHeartbeats 1000000 in
theorem ref11_no_t (f t bh bl : Int) (g3 : decide (3 < f) = false) (g4 : decide (3 < t) = true) (w : World) : Calls Tryd.prog 9 #[.int .u8 f, .int .u8 t, .agg #[.int .u64 (bh), .int .u64 (bl)]] w fun e w' => e = .returned (.tuple #[.agg #[.int .u64 0, .int .u64 0, .int .u8 0], .bool false]) ∧ Below w.heap.size w w' := by
  go_enter Tryd.func9, Tryd.ntmps9
  go_wp2_with fail
  refine bodyPost_ret (v := .tuple #[.agg #[.int .u64 0, .int .u64 0, .int .u8 0], .bool false]) (by simp [results, Tryd.results9, go_sem]) rfl ⟨rfl, (bA (bA (Below.refl _ _) _) _)⟩
set_option maxHeartbeats 1000000 in
theorem ref11_no_n (f t bh bl : Int) (g3 : decide (3 < f) = false) (g4 : decide (3 < t) = false) (NN : Hid (∀ w, Calls Tryd.prog 23 #[.int .u8 f, .agg #[.int .u64 (bh), .int .u64 (bl)]] w fun e w' => e = .returned (.bool false) ∧ Below w.heap.size w w')) (w : World) : Calls Tryd.prog 9 #[.int .u8 f, .int .u8 t, .agg #[.int .u64 (bh), .int .u64 (bl)]] w fun e w' => e = .returned (.tuple #[.agg #[.int .u64 0, .int .u64 0, .int .u8 0], .bool false]) ∧ Below w.heap.size w w' := by
  go_enter Tryd.func9, Tryd.ntmps9
  go_wp2_with fail
  (with_reducible refine (NN.out _).mono ?_); rintro e w1 ⟨rfl, hb⟩
  have kk := bC (bA (bA (Below.refl _ _) _) _) hb
  have xr : HB w1 (w.heap.size + 1) 28 #[.int .u64 0, .int .u64 0, .int .u8 0] := (HB.newAt (by simp) _ _).later hb
  clear hb
  have KEY : Hid (HB (((w1.setCell ⟨w.heap.size + 1, 0, none⟩ (.int .u64 0)).setCell ⟨w.heap.size + 1, 1, none⟩ (.int .u64 0)).setCell ⟨w.heap.size + 1, 2, none⟩ (.int .u8 0)) (w.heap.size + 1) 28 #[.int .u64 0, .int .u64 0, .int .u8 0] ∧ Below w.heap.size w (((w1.setCell ⟨w.heap.size + 1, 0, none⟩ (.int .u64 0)).setCell ⟨w.heap.size + 1, 1, none⟩ (.int .u64 0)).setCell ⟨w.heap.size + 1, 2, none⟩ (.int .u8 0))) := Lib.hid ⟨(((xr.set 0 _).set 1 _).set 2 _), (((kk.setCell (p := ⟨w.heap.size + 1, 0, none⟩) (by simp) _).setCell (p := ⟨w.heap.size + 1, 1, none⟩) (by simp) _).setCell (p := ⟨w.heap.size + 1, 2, none⟩) (by simp) _)⟩
  have z0 := xr.cell 0; have f0 := xr.frozen 0; have z1 := xr.cell 1; have f1 := xr.frozen 1; have z2 := xr.cell 2; have f2 := xr.frozen 2; dsimp at z0 z1 z2
  have hl := xr.lt
  clear xr kk
  go_wp2_with fail
  obtain ⟨hE, kb⟩ := KEY.out
  have e0 := hE.cell 0; have e1 := hE.cell 1; have e2 := hE.cell 2; dsimp at e0 e1 e2
  refine bodyPost_ret (v := .tuple #[.agg #[.int .u64 0, .int .u64 0, .int .u8 0], .bool false]) ?_ rfl ⟨rfl, kb⟩
  clear KEY hE kb z0 f0 z1 f1 z2 f2
  simp [results, Tryd.results9, go_sem, e0, e1, e2]
set_option maxHeartbeats 4000000 in
set_option maxRecDepth 100000 in
theorem ref11_up_quiet (f t bh bl FR LD p q ex em x1 x2 zh zl : Int) (kp kq kd : Nat) (ng : Bool) (g3 : decide (3 < f) = false) (g4 : decide (3 < t) = false) (g5 : decide ((kp : Int) ≤ (kq : Int)) = true) (g5n : kp ≤ kq)
    (NN : Hid (∀ w, Calls Tryd.prog 23 #[.int .u8 f, .agg #[.int .u64 (bh), .int .u64 (bl)]] w fun e w' => e = .returned (.bool true) ∧ Below w.heap.size w w')) (SG : Hid (∀ w, Calls Tryd.prog 33 #[.int .u8 f, .agg #[.int .u64 (bh), .int .u64 (bl)]] w fun e w' => e = .returned (.bool false) ∧ Below w.heap.size w w'))
    (SP : Hid (∀ w, Calls Tryd.prog 24 #[.int .u8 f, .agg #[.int .u64 (bh), .int .u64 (bl)]] w fun e w' => ∃ v, e = .returned (.tuple #[.bool ng, .int .i64 ex, v]) ∧ IsNum w' v FR ∧ Below w.heap.size w w'))
    (PF : Hid (∀ w, Calls Tryd.prog 25 #[.int .u8 f] w fun e w' => e = .returned (.int .i64 p) ∧ w = w')) (PT : Hid (∀ w, Calls Tryd.prog 25 #[.int .u8 t] w fun e w' => e = .returned (.int .i64 q) ∧ w = w')) (ET : Hid (∀ w, Calls Tryd.prog 30 #[.int .u8 t] w fun e w' => e = .returned (.int .i64 em) ∧ w = w'))
    (w1_ : IntKind.i64.wrap (p - 2) = (kp : Int)) (w2_ : IntKind.i64.wrap (q - 2) = (kq : Int)) (w3_ : IntKind.i64.wrap ((kq : Int) - (kp : Int)) = (kd : Int)) (w3x : wrap64 ((kq : Int) - (kp : Int)) = (kd : Int))
    (w4_ : IntKind.i64.wrap (2 * em) = x1) (w5_ : IntKind.i64.wrap (x1 + 1) = x2) (w5x : wrap64 (x1 + 1) = x2)
    (HP : Hid (kp < 3200000)) (HQ : Hid (kq < 3200000)) (HD : Hid (kd < 3200000)) (S1 : Hid (Small FR)) (S2 : Hid (Small (FR % 2 ^ kp))) (S3 : Hid (Small LD)) (S4 : Hid (Small (2 ^ kq))) (EL : FR % 2 ^ kp * 2 ^ kd = LD)
    (MK : Hid (∀ w v, IsNum w v (LD + 2 ^ kq) → Calls Tryd.prog 29 #[.int .u8 t, .bool ng, .int .i64 x2, v] w fun e w' => e = .returned (.agg #[.int .u64 (zh), .int .u64 (zl)]) ∧ Below w.heap.size w w')) (w : World) :
    Calls Tryd.prog 9 #[.int .u8 f, .int .u8 t, .agg #[.int .u64 (bh), .int .u64 (bl)]] w fun e w' => e = .returned (.tuple #[.agg #[.int .u64 zh, .int .u64 zl, .int .u8 0], .bool true]) ∧ Below w.heap.size w w' := by
  go_enter Tryd.func9, Tryd.ntmps9
  go_wp2_with fail
  (with_reducible refine (NN.out _).mono ?_); rintro e w1 ⟨rfl, hb⟩
  have xb : HB w1 (w.heap.size) 25 #[.int .u64 bh, .int .u64 bl] := ((HB.newAt (by simp) _ _).alloc _).later hb
  have xo : HB w1 (w.heap.size + 1) 28 #[.int .u64 0, .int .u64 0, .int .u8 0] := (HB.newAt (by simp) _ _).later hb
  have kk := bC (bA (bA (Below.refl _ _) _) _) hb
  clear hb
  have b0 := xb.cell 0; have b1 := xb.cell 1; have bl_ := xb.lt; dsimp at b0 b1
  go_wp2_with fail
  (with_reducible refine (SP.out _).mono ?_); rintro e w2 ⟨vn1, rfl, n1, hb⟩
  replace xb := xb.later hb
  replace xo := xo.later hb
  replace kk := bC kk hb
  clear hb
  clear b0 b1 bl_
  go_wp2_with fail
  (with_reducible refine (PF.out _).mono ?_); rintro e wz ⟨rfl, rfl⟩
  go_wp2_with fail
  (with_reducible refine (PT.out _).mono ?_); rintro e wz ⟨rfl, rfl⟩
  go_wp2_with fail
  (with_reducible refine (cut_num n1 S1.out _ HP.out).mono ?_); rintro e w3 ⟨vn2, rfl, n2, hb⟩
  replace xb := xb.later hb
  replace xo := xo.later hb
  replace n1 := n1.later hb
  replace kk := bC kk hb
  clear hb
  clear n1
  go_wp2_with fail
  (with_reducible refine (shl_num n2 S2.out kd HD.out).mono ?_); rintro e w4 ⟨vn3, rfl, n3, hb⟩
  replace xb := xb.later hb
  replace xo := xo.later hb
  replace n2 := n2.later hb
  replace kk := bC kk hb
  clear hb
  clear n2
  rw [EL] at n3
  have hge := xo.lt
  go_wp2_with fail
  (with_reducible refine (ET.out _).mono ?_); rintro e wz ⟨rfl, rfl⟩
  go_wp2_with fail
  (with_reducible refine (fullN kq HQ.out _).mono ?_); rintro e w5 ⟨vn4, rfl, n4, hb⟩
  have xr : HB w5 (w4.heap.size) 28 #[.int .u64 0, .int .u64 0, .int .u8 0] := (HB.newAt (by simp) _ _).later hb
  replace xb := (xb.alloc _).later hb
  replace xo := (xo.alloc _).later hb
  replace n3 := (n3.later ((bA (Below.refl _ _) _))).later hb
  replace kk := bC (bA kk _) hb
  clear hb
  go_wp2_with fail
  (with_reducible refine (add_num n3 n4 S3.out S4.out).mono ?_); rintro e w6 ⟨vn5, rfl, n5, hb⟩
  replace xb := xb.later hb
  replace xo := xo.later hb
  replace xr := xr.later hb
  replace n3 := n3.later hb
  replace n4 := n4.later hb
  replace kk := bC kk hb
  clear hb
  clear n3 n4
  go_wp2_with fail
  (with_reducible refine (MK.out _ _ n5).mono ?_); rintro e w7 ⟨rfl, hb⟩
  replace xb := xb.later hb
  replace xo := xo.later hb
  replace xr := xr.later hb
  replace n5 := n5.later hb
  replace kk := bC kk hb
  clear hb
  clear n5
  have z0 := xr.cell 0; have z1 := xr.cell 1; have z2 := xr.cell 2; have y0 := xr.frozen 0; have y1 := xr.frozen 1; have zlt := xr.lt; dsimp at z0 z1 z2
  have NX : Hid (HB ((w7.setCell ⟨w4.heap.size, 0, none⟩ (.int .u64 zh)).setCell ⟨w4.heap.size, 1, none⟩ (.int .u64 zl)) (w4.heap.size) 28 #[.int .u64 zh, .int .u64 zl, .int .u8 0] ∧ HB ((w7.setCell ⟨w4.heap.size, 0, none⟩ (.int .u64 zh)).setCell ⟨w4.heap.size, 1, none⟩ (.int .u64 zl)) (w.heap.size + 1) 28 #[.int .u64 0, .int .u64 0, .int .u8 0] ∧ HB ((w7.setCell ⟨w4.heap.size, 0, none⟩ (.int .u64 zh)).setCell ⟨w4.heap.size, 1, none⟩ (.int .u64 zl)) w.heap.size 25 #[.int .u64 bh, .int .u64 bl] ∧ Below w.heap.size w ((w7.setCell ⟨w4.heap.size, 0, none⟩ (.int .u64 zh)).setCell ⟨w4.heap.size, 1, none⟩ (.int .u64 zl))) := Lib.hid ⟨(xr.set 0 _).set 1 _, (xo.other (by omega) _ _).other (by omega) _ _, (xb.other (by omega) _ _).other (by omega) _ _, (kk.setCell (p := ⟨w4.heap.size, 0, none⟩) (by show w.heap.size ≤ w4.heap.size; omega) _).setCell (p := ⟨w4.heap.size, 1, none⟩) (by show w.heap.size ≤ w4.heap.size; omega) _⟩
  have b0 := xb.cell 0; have b1 := xb.cell 1; have hxb := xb.lt; dsimp at b0 b1
  have ne1 : w.heap.size ≠ w4.heap.size := by omega
  clear xr xo xb kk
  go_wp2_with fail
  (with_reducible refine (SG.out _).mono ?_); rintro e wS ⟨rfl, hb⟩
  obtain ⟨xr, xo, xb, kk⟩ := NX.out
  have NY := Lib.hid (And.intro (HB.later xr hb) (And.intro (HB.later xo hb) (bC kk hb)))
  clear hb NX xr xo xb kk b0 b1 z0 z1 z2 y0 y1 zlt
  obtain ⟨xr, xo, kk⟩ := NY.out
  clear NY
  have KEY : Hid (HB (((wS.setCell ⟨w.heap.size + 1, 0, none⟩ (.int .u64 zh)).setCell ⟨w.heap.size + 1, 1, none⟩ (.int .u64 zl)).setCell ⟨w.heap.size + 1, 2, none⟩ (.int .u8 0)) (w.heap.size + 1) 28 #[.int .u64 zh, .int .u64 zl, .int .u8 0] ∧ Below w.heap.size w (((wS.setCell ⟨w.heap.size + 1, 0, none⟩ (.int .u64 zh)).setCell ⟨w.heap.size + 1, 1, none⟩ (.int .u64 zl)).setCell ⟨w.heap.size + 1, 2, none⟩ (.int .u8 0))) := Lib.hid ⟨(HB.set (HB.set (HB.set xo 0 _) 1 _) 2 _), (((kk.setCell (p := ⟨w.heap.size + 1, 0, none⟩) (by simp) _).setCell (p := ⟨w.heap.size + 1, 1, none⟩) (by simp) _).setCell (p := ⟨w.heap.size + 1, 2, none⟩) (by simp) _)⟩
  have o0 := HB.cell xo 0; have q0 := HB.frozen xo 0; have z0 := HB.cell xr 0; have y0 := HB.frozen xr 0; have o1 := HB.cell xo 1; have q1 := HB.frozen xo 1; have z1 := HB.cell xr 1; have y1 := HB.frozen xr 1; have o2 := HB.cell xo 2; have q2 := HB.frozen xo 2; have z2 := HB.cell xr 2; have y2 := HB.frozen xr 2; have ol := HB.lt xo; have zlt := HB.lt xr; dsimp at o0 o1 o2 z0 z1 z2
  have hne : w.heap.size + 1 ≠ w4.heap.size := by omega
  have hne2 : w4.heap.size ≠ w.heap.size + 1 := by omega
  clear xo xr kk
  go_wp2_with fail
  obtain ⟨hE, kb⟩ := KEY.out
  have e0 := hE.cell 0; have e1 := hE.cell 1; have e2 := hE.cell 2; dsimp at e0 e1 e2
  refine bodyPost_ret (v := .tuple #[.agg #[.int .u64 zh, .int .u64 zl, .int .u8 0], .bool true]) ?_ rfl ⟨rfl, kb⟩
  clear KEY hE kb z0 z1 z2 y0 y1 y2 o0 o1 o2 q0 q1 q2
  simp [results, Tryd.results9, go_sem, e0, e1, e2]

set_option maxHeartbeats 4000000 in
set_option maxRecDepth 100000 in
theorem ref11_up_sig (f t bh bl FR LD p q ex em x1 x2 zh zl : Int) (kp kq kd : Nat) (ng : Bool) (g3 : decide (3 < f) = false) (g4 : decide (3 < t) = false) (g5 : decide ((kp : Int) ≤ (kq : Int)) = true) (g5n : kp ≤ kq)
    (NN : Hid (∀ w, Calls Tryd.prog 23 #[.int .u8 f, .agg #[.int .u64 (bh), .int .u64 (bl)]] w fun e w' => e = .returned (.bool true) ∧ Below w.heap.size w w')) (SG : Hid (∀ w, Calls Tryd.prog 33 #[.int .u8 f, .agg #[.int .u64 (bh), .int .u64 (bl)]] w fun e w' => e = .returned (.bool true) ∧ Below w.heap.size w w'))
    (SP : Hid (∀ w, Calls Tryd.prog 24 #[.int .u8 f, .agg #[.int .u64 (bh), .int .u64 (bl)]] w fun e w' => ∃ v, e = .returned (.tuple #[.bool ng, .int .i64 ex, v]) ∧ IsNum w' v FR ∧ Below w.heap.size w w'))
    (PF : Hid (∀ w, Calls Tryd.prog 25 #[.int .u8 f] w fun e w' => e = .returned (.int .i64 p) ∧ w = w')) (PT : Hid (∀ w, Calls Tryd.prog 25 #[.int .u8 t] w fun e w' => e = .returned (.int .i64 q) ∧ w = w')) (ET : Hid (∀ w, Calls Tryd.prog 30 #[.int .u8 t] w fun e w' => e = .returned (.int .i64 em) ∧ w = w'))
    (w1_ : IntKind.i64.wrap (p - 2) = (kp : Int)) (w2_ : IntKind.i64.wrap (q - 2) = (kq : Int)) (w3_ : IntKind.i64.wrap ((kq : Int) - (kp : Int)) = (kd : Int)) (w3x : wrap64 ((kq : Int) - (kp : Int)) = (kd : Int))
    (w4_ : IntKind.i64.wrap (2 * em) = x1) (w5_ : IntKind.i64.wrap (x1 + 1) = x2) (w5x : wrap64 (x1 + 1) = x2)
    (HP : Hid (kp < 3200000)) (HQ : Hid (kq < 3200000)) (HD : Hid (kd < 3200000)) (S1 : Hid (Small FR)) (S2 : Hid (Small (FR % 2 ^ kp))) (S3 : Hid (Small LD)) (S4 : Hid (Small (2 ^ kq))) (EL : FR % 2 ^ kp * 2 ^ kd = LD)
    (MK : Hid (∀ w v, IsNum w v (LD + 2 ^ kq) → Calls Tryd.prog 29 #[.int .u8 t, .bool ng, .int .i64 x2, v] w fun e w' => e = .returned (.agg #[.int .u64 (zh), .int .u64 (zl)]) ∧ Below w.heap.size w w')) (w : World) :
    Calls Tryd.prog 9 #[.int .u8 f, .int .u8 t, .agg #[.int .u64 (bh), .int .u64 (bl)]] w fun e w' => e = .returned (.tuple #[.agg #[.int .u64 zh, .int .u64 zl, .int .u8 1], .bool true]) ∧ Below w.heap.size w w' := by
  go_enter Tryd.func9, Tryd.ntmps9
  go_wp2_with fail
  (with_reducible refine (NN.out _).mono ?_); rintro e w1 ⟨rfl, hb⟩
  have xb : HB w1 (w.heap.size) 25 #[.int .u64 bh, .int .u64 bl] := ((HB.newAt (by simp) _ _).alloc _).later hb
  have xo : HB w1 (w.heap.size + 1) 28 #[.int .u64 0, .int .u64 0, .int .u8 0] := (HB.newAt (by simp) _ _).later hb
  have kk := bC (bA (bA (Below.refl _ _) _) _) hb
  clear hb
  have b0 := xb.cell 0; have b1 := xb.cell 1; have bl_ := xb.lt; dsimp at b0 b1
  go_wp2_with fail
  (with_reducible refine (SP.out _).mono ?_); rintro e w2 ⟨vn1, rfl, n1, hb⟩
  replace xb := xb.later hb
  replace xo := xo.later hb
  replace kk := bC kk hb
  clear hb
  clear b0 b1 bl_
  go_wp2_with fail
  (with_reducible refine (PF.out _).mono ?_); rintro e wz ⟨rfl, rfl⟩
  go_wp2_with fail
  (with_reducible refine (PT.out _).mono ?_); rintro e wz ⟨rfl, rfl⟩
  go_wp2_with fail
  (with_reducible refine (cut_num n1 S1.out _ HP.out).mono ?_); rintro e w3 ⟨vn2, rfl, n2, hb⟩
  replace xb := xb.later hb
  replace xo := xo.later hb
  replace n1 := n1.later hb
  replace kk := bC kk hb
  clear hb
  clear n1
  go_wp2_with fail
  (with_reducible refine (shl_num n2 S2.out kd HD.out).mono ?_); rintro e w4 ⟨vn3, rfl, n3, hb⟩
  replace xb := xb.later hb
  replace xo := xo.later hb
  replace n2 := n2.later hb
  replace kk := bC kk hb
  clear hb
  clear n2
  rw [EL] at n3
  have hge := xo.lt
  go_wp2_with fail
  (with_reducible refine (ET.out _).mono ?_); rintro e wz ⟨rfl, rfl⟩
  go_wp2_with fail
  (with_reducible refine (fullN kq HQ.out _).mono ?_); rintro e w5 ⟨vn4, rfl, n4, hb⟩
  have xr : HB w5 (w4.heap.size) 28 #[.int .u64 0, .int .u64 0, .int .u8 0] := (HB.newAt (by simp) _ _).later hb
  replace xb := (xb.alloc _).later hb
  replace xo := (xo.alloc _).later hb
  replace n3 := (n3.later ((bA (Below.refl _ _) _))).later hb
  replace kk := bC (bA kk _) hb
  clear hb
  go_wp2_with fail
  (with_reducible refine (add_num n3 n4 S3.out S4.out).mono ?_); rintro e w6 ⟨vn5, rfl, n5, hb⟩
  replace xb := xb.later hb
  replace xo := xo.later hb
  replace xr := xr.later hb
  replace n3 := n3.later hb
  replace n4 := n4.later hb
  replace kk := bC kk hb
  clear hb
  clear n3 n4
  go_wp2_with fail
  (with_reducible refine (MK.out _ _ n5).mono ?_); rintro e w7 ⟨rfl, hb⟩
  replace xb := xb.later hb
  replace xo := xo.later hb
  replace xr := xr.later hb
  replace n5 := n5.later hb
  replace kk := bC kk hb
  clear hb
  clear n5
  have z0 := xr.cell 0; have z1 := xr.cell 1; have z2 := xr.cell 2; have y0 := xr.frozen 0; have y1 := xr.frozen 1; have zlt := xr.lt; dsimp at z0 z1 z2
  have NX : Hid (HB ((w7.setCell ⟨w4.heap.size, 0, none⟩ (.int .u64 zh)).setCell ⟨w4.heap.size, 1, none⟩ (.int .u64 zl)) (w4.heap.size) 28 #[.int .u64 zh, .int .u64 zl, .int .u8 0] ∧ HB ((w7.setCell ⟨w4.heap.size, 0, none⟩ (.int .u64 zh)).setCell ⟨w4.heap.size, 1, none⟩ (.int .u64 zl)) (w.heap.size + 1) 28 #[.int .u64 0, .int .u64 0, .int .u8 0] ∧ HB ((w7.setCell ⟨w4.heap.size, 0, none⟩ (.int .u64 zh)).setCell ⟨w4.heap.size, 1, none⟩ (.int .u64 zl)) w.heap.size 25 #[.int .u64 bh, .int .u64 bl] ∧ Below w.heap.size w ((w7.setCell ⟨w4.heap.size, 0, none⟩ (.int .u64 zh)).setCell ⟨w4.heap.size, 1, none⟩ (.int .u64 zl))) := Lib.hid ⟨(xr.set 0 _).set 1 _, (xo.other (by omega) _ _).other (by omega) _ _, (xb.other (by omega) _ _).other (by omega) _ _, (kk.setCell (p := ⟨w4.heap.size, 0, none⟩) (by show w.heap.size ≤ w4.heap.size; omega) _).setCell (p := ⟨w4.heap.size, 1, none⟩) (by show w.heap.size ≤ w4.heap.size; omega) _⟩
  have b0 := xb.cell 0; have b1 := xb.cell 1; have hxb := xb.lt; dsimp at b0 b1
  have ne1 : w.heap.size ≠ w4.heap.size := by omega
  clear xr xo xb kk
  go_wp2_with fail
  (with_reducible refine (SG.out _).mono ?_); rintro e wS ⟨rfl, hb⟩
  obtain ⟨xr, xo, xb, kk⟩ := NX.out
  have NY := Lib.hid (And.intro (HB.later xr hb) (And.intro (HB.later xo hb) (bC kk hb)))
  clear hb NX xr xo xb kk b0 b1 z0 z1 z2 y0 y1 zlt
  obtain ⟨xr, xo, kk⟩ := NY.out
  clear NY
  have KEY : Hid (HB ((((wS.setCell ⟨w4.heap.size, 2, none⟩ (.int .u8 1)).setCell ⟨w.heap.size + 1, 0, none⟩ (.int .u64 zh)).setCell ⟨w.heap.size + 1, 1, none⟩ (.int .u64 zl)).setCell ⟨w.heap.size + 1, 2, none⟩ (.int .u8 1)) (w.heap.size + 1) 28 #[.int .u64 zh, .int .u64 zl, .int .u8 1] ∧ Below w.heap.size w ((((wS.setCell ⟨w4.heap.size, 2, none⟩ (.int .u8 1)).setCell ⟨w.heap.size + 1, 0, none⟩ (.int .u64 zh)).setCell ⟨w.heap.size + 1, 1, none⟩ (.int .u64 zl)).setCell ⟨w.heap.size + 1, 2, none⟩ (.int .u8 1))) := Lib.hid ⟨(HB.set (HB.set (HB.set (HB.other xo (by omega) _ _) 0 _) 1 _) 2 _), ((((kk.setCell (p := ⟨w4.heap.size, 2, none⟩) (by show w.heap.size ≤ w4.heap.size; omega) _).setCell (p := ⟨w.heap.size + 1, 0, none⟩) (by simp) _).setCell (p := ⟨w.heap.size + 1, 1, none⟩) (by simp) _).setCell (p := ⟨w.heap.size + 1, 2, none⟩) (by simp) _)⟩
  have o0 := HB.cell xo 0; have q0 := HB.frozen xo 0; have z0 := HB.cell xr 0; have y0 := HB.frozen xr 0; have o1 := HB.cell xo 1; have q1 := HB.frozen xo 1; have z1 := HB.cell xr 1; have y1 := HB.frozen xr 1; have o2 := HB.cell xo 2; have q2 := HB.frozen xo 2; have z2 := HB.cell xr 2; have y2 := HB.frozen xr 2; have ol := HB.lt xo; have zlt := HB.lt xr; dsimp at o0 o1 o2 z0 z1 z2
  have hne : w.heap.size + 1 ≠ w4.heap.size := by omega
  have hne2 : w4.heap.size ≠ w.heap.size + 1 := by omega
  clear xo xr kk
  go_wp2_with fail
  obtain ⟨hE, kb⟩ := KEY.out
  have e0 := hE.cell 0; have e1 := hE.cell 1; have e2 := hE.cell 2; dsimp at e0 e1 e2
  refine bodyPost_ret (v := .tuple #[.agg #[.int .u64 zh, .int .u64 zl, .int .u8 1], .bool true]) ?_ rfl ⟨rfl, kb⟩
  clear KEY hE kb z0 z1 z2 y0 y1 y2 o0 o1 o2 q0 q1 q2
  simp [results, Tryd.results9, go_sem, e0, e1, e2]

set_option maxHeartbeats 4000000 in
set_option maxRecDepth 100000 in
theorem ref11_down_quiet (f t bh bl FR LD p q ex em x1 x2 zh zl : Int) (kp kq kd : Nat) (ng : Bool) (g3 : decide (3 < f) = false) (g4 : decide (3 < t) = false) (g5 : decide ((kp : Int) ≤ (kq : Int)) = false) (g5n : ¬ kp ≤ kq)
    (NN : Hid (∀ w, Calls Tryd.prog 23 #[.int .u8 f, .agg #[.int .u64 (bh), .int .u64 (bl)]] w fun e w' => e = .returned (.bool true) ∧ Below w.heap.size w w')) (SG : Hid (∀ w, Calls Tryd.prog 33 #[.int .u8 f, .agg #[.int .u64 (bh), .int .u64 (bl)]] w fun e w' => e = .returned (.bool false) ∧ Below w.heap.size w w'))
    (SP : Hid (∀ w, Calls Tryd.prog 24 #[.int .u8 f, .agg #[.int .u64 (bh), .int .u64 (bl)]] w fun e w' => ∃ v, e = .returned (.tuple #[.bool ng, .int .i64 ex, v]) ∧ IsNum w' v FR ∧ Below w.heap.size w w'))
    (PF : Hid (∀ w, Calls Tryd.prog 25 #[.int .u8 f] w fun e w' => e = .returned (.int .i64 p) ∧ w = w')) (PT : Hid (∀ w, Calls Tryd.prog 25 #[.int .u8 t] w fun e w' => e = .returned (.int .i64 q) ∧ w = w')) (ET : Hid (∀ w, Calls Tryd.prog 30 #[.int .u8 t] w fun e w' => e = .returned (.int .i64 em) ∧ w = w'))
    (w1_ : IntKind.i64.wrap (p - 2) = (kp : Int)) (w2_ : IntKind.i64.wrap (q - 2) = (kq : Int)) (w3_ : IntKind.i64.wrap ((kp : Int) - (kq : Int)) = (kd : Int)) (w3x : wrap64 ((kp : Int) - (kq : Int)) = (kd : Int))
    (w4_ : IntKind.i64.wrap (2 * em) = x1) (w5_ : IntKind.i64.wrap (x1 + 1) = x2) (w5x : wrap64 (x1 + 1) = x2)
    (HP : Hid (kp < 3200000)) (HQ : Hid (kq < 3200000)) (HD : Hid ((kd : Int) ≤ 9223372036854775807)) (S1 : Hid (Small FR)) (S2 : Hid (Small (FR % 2 ^ kp))) (S3 : Hid (Small LD)) (S4 : Hid (Small (2 ^ kq))) (EL : FR % 2 ^ kp / 2 ^ kd = LD)
    (MK : Hid (∀ w v, IsNum w v (LD + 2 ^ kq) → Calls Tryd.prog 29 #[.int .u8 t, .bool ng, .int .i64 x2, v] w fun e w' => e = .returned (.agg #[.int .u64 (zh), .int .u64 (zl)]) ∧ Below w.heap.size w w')) (w : World) :
    Calls Tryd.prog 9 #[.int .u8 f, .int .u8 t, .agg #[.int .u64 (bh), .int .u64 (bl)]] w fun e w' => e = .returned (.tuple #[.agg #[.int .u64 zh, .int .u64 zl, .int .u8 0], .bool true]) ∧ Below w.heap.size w w' := by
  go_enter Tryd.func9, Tryd.ntmps9
  go_wp2_with fail
  (with_reducible refine (NN.out _).mono ?_); rintro e w1 ⟨rfl, hb⟩
  have xb : HB w1 (w.heap.size) 25 #[.int .u64 bh, .int .u64 bl] := ((HB.newAt (by simp) _ _).alloc _).later hb
  have xo : HB w1 (w.heap.size + 1) 28 #[.int .u64 0, .int .u64 0, .int .u8 0] := (HB.newAt (by simp) _ _).later hb
  have kk := bC (bA (bA (Below.refl _ _) _) _) hb
  clear hb
  have b0 := xb.cell 0; have b1 := xb.cell 1; have bl_ := xb.lt; dsimp at b0 b1
  go_wp2_with fail
  (with_reducible refine (SP.out _).mono ?_); rintro e w2 ⟨vn1, rfl, n1, hb⟩
  replace xb := xb.later hb
  replace xo := xo.later hb
  replace kk := bC kk hb
  clear hb
  clear b0 b1 bl_
  go_wp2_with fail
  (with_reducible refine (PF.out _).mono ?_); rintro e wz ⟨rfl, rfl⟩
  go_wp2_with fail
  (with_reducible refine (PT.out _).mono ?_); rintro e wz ⟨rfl, rfl⟩
  go_wp2_with fail
  (with_reducible refine (cut_num n1 S1.out _ HP.out).mono ?_); rintro e w3 ⟨vn2, rfl, n2, hb⟩
  replace xb := xb.later hb
  replace xo := xo.later hb
  replace n1 := n1.later hb
  replace kk := bC kk hb
  clear hb
  clear n1
  go_wp2_with fail
  (with_reducible refine (shr_num n2 kd HD.out).mono ?_); rintro e w4 ⟨vn3, rfl, n3, hb⟩
  replace xb := xb.later hb
  replace xo := xo.later hb
  replace n2 := n2.later hb
  replace kk := bC kk hb
  clear hb
  clear n2
  rw [EL] at n3
  have hge := xo.lt
  go_wp2_with fail
  (with_reducible refine (ET.out _).mono ?_); rintro e wz ⟨rfl, rfl⟩
  go_wp2_with fail
  (with_reducible refine (fullN kq HQ.out _).mono ?_); rintro e w5 ⟨vn4, rfl, n4, hb⟩
  have xr : HB w5 (w4.heap.size) 28 #[.int .u64 0, .int .u64 0, .int .u8 0] := (HB.newAt (by simp) _ _).later hb
  replace xb := (xb.alloc _).later hb
  replace xo := (xo.alloc _).later hb
  replace n3 := (n3.later ((bA (Below.refl _ _) _))).later hb
  replace kk := bC (bA kk _) hb
  clear hb
  go_wp2_with fail
  (with_reducible refine (add_num n3 n4 S3.out S4.out).mono ?_); rintro e w6 ⟨vn5, rfl, n5, hb⟩
  replace xb := xb.later hb
  replace xo := xo.later hb
  replace xr := xr.later hb
  replace n3 := n3.later hb
  replace n4 := n4.later hb
  replace kk := bC kk hb
  clear hb
  clear n3 n4
  go_wp2_with fail
  (with_reducible refine (MK.out _ _ n5).mono ?_); rintro e w7 ⟨rfl, hb⟩
  replace xb := xb.later hb
  replace xo := xo.later hb
  replace xr := xr.later hb
  replace n5 := n5.later hb
  replace kk := bC kk hb
  clear hb
  clear n5
  have z0 := xr.cell 0; have z1 := xr.cell 1; have z2 := xr.cell 2; have y0 := xr.frozen 0; have y1 := xr.frozen 1; have zlt := xr.lt; dsimp at z0 z1 z2
  have NX : Hid (HB ((w7.setCell ⟨w4.heap.size, 0, none⟩ (.int .u64 zh)).setCell ⟨w4.heap.size, 1, none⟩ (.int .u64 zl)) (w4.heap.size) 28 #[.int .u64 zh, .int .u64 zl, .int .u8 0] ∧ HB ((w7.setCell ⟨w4.heap.size, 0, none⟩ (.int .u64 zh)).setCell ⟨w4.heap.size, 1, none⟩ (.int .u64 zl)) (w.heap.size + 1) 28 #[.int .u64 0, .int .u64 0, .int .u8 0] ∧ HB ((w7.setCell ⟨w4.heap.size, 0, none⟩ (.int .u64 zh)).setCell ⟨w4.heap.size, 1, none⟩ (.int .u64 zl)) w.heap.size 25 #[.int .u64 bh, .int .u64 bl] ∧ Below w.heap.size w ((w7.setCell ⟨w4.heap.size, 0, none⟩ (.int .u64 zh)).setCell ⟨w4.heap.size, 1, none⟩ (.int .u64 zl))) := Lib.hid ⟨(xr.set 0 _).set 1 _, (xo.other (by omega) _ _).other (by omega) _ _, (xb.other (by omega) _ _).other (by omega) _ _, (kk.setCell (p := ⟨w4.heap.size, 0, none⟩) (by show w.heap.size ≤ w4.heap.size; omega) _).setCell (p := ⟨w4.heap.size, 1, none⟩) (by show w.heap.size ≤ w4.heap.size; omega) _⟩
  have b0 := xb.cell 0; have b1 := xb.cell 1; have hxb := xb.lt; dsimp at b0 b1
  have ne1 : w.heap.size ≠ w4.heap.size := by omega
  clear xr xo xb kk
  go_wp2_with fail
  (with_reducible refine (SG.out _).mono ?_); rintro e wS ⟨rfl, hb⟩
  obtain ⟨xr, xo, xb, kk⟩ := NX.out
  have NY := Lib.hid (And.intro (HB.later xr hb) (And.intro (HB.later xo hb) (bC kk hb)))
  clear hb NX xr xo xb kk b0 b1 z0 z1 z2 y0 y1 zlt
  obtain ⟨xr, xo, kk⟩ := NY.out
  clear NY
  have KEY : Hid (HB (((wS.setCell ⟨w.heap.size + 1, 0, none⟩ (.int .u64 zh)).setCell ⟨w.heap.size + 1, 1, none⟩ (.int .u64 zl)).setCell ⟨w.heap.size + 1, 2, none⟩ (.int .u8 0)) (w.heap.size + 1) 28 #[.int .u64 zh, .int .u64 zl, .int .u8 0] ∧ Below w.heap.size w (((wS.setCell ⟨w.heap.size + 1, 0, none⟩ (.int .u64 zh)).setCell ⟨w.heap.size + 1, 1, none⟩ (.int .u64 zl)).setCell ⟨w.heap.size + 1, 2, none⟩ (.int .u8 0))) := Lib.hid ⟨(HB.set (HB.set (HB.set xo 0 _) 1 _) 2 _), (((kk.setCell (p := ⟨w.heap.size + 1, 0, none⟩) (by simp) _).setCell (p := ⟨w.heap.size + 1, 1, none⟩) (by simp) _).setCell (p := ⟨w.heap.size + 1, 2, none⟩) (by simp) _)⟩
  have o0 := HB.cell xo 0; have q0 := HB.frozen xo 0; have z0 := HB.cell xr 0; have y0 := HB.frozen xr 0; have o1 := HB.cell xo 1; have q1 := HB.frozen xo 1; have z1 := HB.cell xr 1; have y1 := HB.frozen xr 1; have o2 := HB.cell xo 2; have q2 := HB.frozen xo 2; have z2 := HB.cell xr 2; have y2 := HB.frozen xr 2; have ol := HB.lt xo; have zlt := HB.lt xr; dsimp at o0 o1 o2 z0 z1 z2
  have hne : w.heap.size + 1 ≠ w4.heap.size := by omega
  have hne2 : w4.heap.size ≠ w.heap.size + 1 := by omega
  clear xo xr kk
  go_wp2_with fail
  obtain ⟨hE, kb⟩ := KEY.out
  have e0 := hE.cell 0; have e1 := hE.cell 1; have e2 := hE.cell 2; dsimp at e0 e1 e2
  refine bodyPost_ret (v := .tuple #[.agg #[.int .u64 zh, .int .u64 zl, .int .u8 0], .bool true]) ?_ rfl ⟨rfl, kb⟩
  clear KEY hE kb z0 z1 z2 y0 y1 y2 o0 o1 o2 q0 q1 q2
  simp [results, Tryd.results9, go_sem, e0, e1, e2]

set_option maxHeartbeats 4000000 in
set_option maxRecDepth 100000 in
theorem ref11_down_sig (f t bh bl FR LD p q ex em x1 x2 zh zl : Int) (kp kq kd : Nat) (ng : Bool) (g3 : decide (3 < f) = false) (g4 : decide (3 < t) = false) (g5 : decide ((kp : Int) ≤ (kq : Int)) = false) (g5n : ¬ kp ≤ kq)
    (NN : Hid (∀ w, Calls Tryd.prog 23 #[.int .u8 f, .agg #[.int .u64 (bh), .int .u64 (bl)]] w fun e w' => e = .returned (.bool true) ∧ Below w.heap.size w w')) (SG : Hid (∀ w, Calls Tryd.prog 33 #[.int .u8 f, .agg #[.int .u64 (bh), .int .u64 (bl)]] w fun e w' => e = .returned (.bool true) ∧ Below w.heap.size w w'))
    (SP : Hid (∀ w, Calls Tryd.prog 24 #[.int .u8 f, .agg #[.int .u64 (bh), .int .u64 (bl)]] w fun e w' => ∃ v, e = .returned (.tuple #[.bool ng, .int .i64 ex, v]) ∧ IsNum w' v FR ∧ Below w.heap.size w w'))
    (PF : Hid (∀ w, Calls Tryd.prog 25 #[.int .u8 f] w fun e w' => e = .returned (.int .i64 p) ∧ w = w')) (PT : Hid (∀ w, Calls Tryd.prog 25 #[.int .u8 t] w fun e w' => e = .returned (.int .i64 q) ∧ w = w')) (ET : Hid (∀ w, Calls Tryd.prog 30 #[.int .u8 t] w fun e w' => e = .returned (.int .i64 em) ∧ w = w'))
    (w1_ : IntKind.i64.wrap (p - 2) = (kp : Int)) (w2_ : IntKind.i64.wrap (q - 2) = (kq : Int)) (w3_ : IntKind.i64.wrap ((kp : Int) - (kq : Int)) = (kd : Int)) (w3x : wrap64 ((kp : Int) - (kq : Int)) = (kd : Int))
    (w4_ : IntKind.i64.wrap (2 * em) = x1) (w5_ : IntKind.i64.wrap (x1 + 1) = x2) (w5x : wrap64 (x1 + 1) = x2)
    (HP : Hid (kp < 3200000)) (HQ : Hid (kq < 3200000)) (HD : Hid ((kd : Int) ≤ 9223372036854775807)) (S1 : Hid (Small FR)) (S2 : Hid (Small (FR % 2 ^ kp))) (S3 : Hid (Small LD)) (S4 : Hid (Small (2 ^ kq))) (EL : FR % 2 ^ kp / 2 ^ kd = LD)
    (MK : Hid (∀ w v, IsNum w v (LD + 2 ^ kq) → Calls Tryd.prog 29 #[.int .u8 t, .bool ng, .int .i64 x2, v] w fun e w' => e = .returned (.agg #[.int .u64 (zh), .int .u64 (zl)]) ∧ Below w.heap.size w w')) (w : World) :
    Calls Tryd.prog 9 #[.int .u8 f, .int .u8 t, .agg #[.int .u64 (bh), .int .u64 (bl)]] w fun e w' => e = .returned (.tuple #[.agg #[.int .u64 zh, .int .u64 zl, .int .u8 1], .bool true]) ∧ Below w.heap.size w w' := by
  go_enter Tryd.func9, Tryd.ntmps9
  go_wp2_with fail
  (with_reducible refine (NN.out _).mono ?_); rintro e w1 ⟨rfl, hb⟩
  have xb : HB w1 (w.heap.size) 25 #[.int .u64 bh, .int .u64 bl] := ((HB.newAt (by simp) _ _).alloc _).later hb
  have xo : HB w1 (w.heap.size + 1) 28 #[.int .u64 0, .int .u64 0, .int .u8 0] := (HB.newAt (by simp) _ _).later hb
  have kk := bC (bA (bA (Below.refl _ _) _) _) hb
  clear hb
  have b0 := xb.cell 0; have b1 := xb.cell 1; have bl_ := xb.lt; dsimp at b0 b1
  go_wp2_with fail
  (with_reducible refine (SP.out _).mono ?_); rintro e w2 ⟨vn1, rfl, n1, hb⟩
  replace xb := xb.later hb
  replace xo := xo.later hb
  replace kk := bC kk hb
  clear hb
  clear b0 b1 bl_
  go_wp2_with fail
  (with_reducible refine (PF.out _).mono ?_); rintro e wz ⟨rfl, rfl⟩
  go_wp2_with fail
  (with_reducible refine (PT.out _).mono ?_); rintro e wz ⟨rfl, rfl⟩
  go_wp2_with fail
  (with_reducible refine (cut_num n1 S1.out _ HP.out).mono ?_); rintro e w3 ⟨vn2, rfl, n2, hb⟩
  replace xb := xb.later hb
  replace xo := xo.later hb
  replace n1 := n1.later hb
  replace kk := bC kk hb
  clear hb
  clear n1
  go_wp2_with fail
  (with_reducible refine (shr_num n2 kd HD.out).mono ?_); rintro e w4 ⟨vn3, rfl, n3, hb⟩
  replace xb := xb.later hb
  replace xo := xo.later hb
  replace n2 := n2.later hb
  replace kk := bC kk hb
  clear hb
  clear n2
  rw [EL] at n3
  have hge := xo.lt
  go_wp2_with fail
  (with_reducible refine (ET.out _).mono ?_); rintro e wz ⟨rfl, rfl⟩
  go_wp2_with fail
  (with_reducible refine (fullN kq HQ.out _).mono ?_); rintro e w5 ⟨vn4, rfl, n4, hb⟩
  have xr : HB w5 (w4.heap.size) 28 #[.int .u64 0, .int .u64 0, .int .u8 0] := (HB.newAt (by simp) _ _).later hb
  replace xb := (xb.alloc _).later hb
  replace xo := (xo.alloc _).later hb
  replace n3 := (n3.later ((bA (Below.refl _ _) _))).later hb
  replace kk := bC (bA kk _) hb
  clear hb
  go_wp2_with fail
  (with_reducible refine (add_num n3 n4 S3.out S4.out).mono ?_); rintro e w6 ⟨vn5, rfl, n5, hb⟩
  replace xb := xb.later hb
  replace xo := xo.later hb
  replace xr := xr.later hb
  replace n3 := n3.later hb
  replace n4 := n4.later hb
  replace kk := bC kk hb
  clear hb
  clear n3 n4
  go_wp2_with fail
  (with_reducible refine (MK.out _ _ n5).mono ?_); rintro e w7 ⟨rfl, hb⟩
  replace xb := xb.later hb
  replace xo := xo.later hb
  replace xr := xr.later hb
  replace n5 := n5.later hb
  replace kk := bC kk hb
  clear hb
  clear n5
  have z0 := xr.cell 0; have z1 := xr.cell 1; have z2 := xr.cell 2; have y0 := xr.frozen 0; have y1 := xr.frozen 1; have zlt := xr.lt; dsimp at z0 z1 z2
  have NX : Hid (HB ((w7.setCell ⟨w4.heap.size, 0, none⟩ (.int .u64 zh)).setCell ⟨w4.heap.size, 1, none⟩ (.int .u64 zl)) (w4.heap.size) 28 #[.int .u64 zh, .int .u64 zl, .int .u8 0] ∧ HB ((w7.setCell ⟨w4.heap.size, 0, none⟩ (.int .u64 zh)).setCell ⟨w4.heap.size, 1, none⟩ (.int .u64 zl)) (w.heap.size + 1) 28 #[.int .u64 0, .int .u64 0, .int .u8 0] ∧ HB ((w7.setCell ⟨w4.heap.size, 0, none⟩ (.int .u64 zh)).setCell ⟨w4.heap.size, 1, none⟩ (.int .u64 zl)) w.heap.size 25 #[.int .u64 bh, .int .u64 bl] ∧ Below w.heap.size w ((w7.setCell ⟨w4.heap.size, 0, none⟩ (.int .u64 zh)).setCell ⟨w4.heap.size, 1, none⟩ (.int .u64 zl))) := Lib.hid ⟨(xr.set 0 _).set 1 _, (xo.other (by omega) _ _).other (by omega) _ _, (xb.other (by omega) _ _).other (by omega) _ _, (kk.setCell (p := ⟨w4.heap.size, 0, none⟩) (by show w.heap.size ≤ w4.heap.size; omega) _).setCell (p := ⟨w4.heap.size, 1, none⟩) (by show w.heap.size ≤ w4.heap.size; omega) _⟩
  have b0 := xb.cell 0; have b1 := xb.cell 1; have hxb := xb.lt; dsimp at b0 b1
  have ne1 : w.heap.size ≠ w4.heap.size := by omega
  clear xr xo xb kk
  go_wp2_with fail
  (with_reducible refine (SG.out _).mono ?_); rintro e wS ⟨rfl, hb⟩
  obtain ⟨xr, xo, xb, kk⟩ := NX.out
  have NY := Lib.hid (And.intro (HB.later xr hb) (And.intro (HB.later xo hb) (bC kk hb)))
  clear hb NX xr xo xb kk b0 b1 z0 z1 z2 y0 y1 zlt
  obtain ⟨xr, xo, kk⟩ := NY.out
  clear NY
  have KEY : Hid (HB ((((wS.setCell ⟨w4.heap.size, 2, none⟩ (.int .u8 1)).setCell ⟨w.heap.size + 1, 0, none⟩ (.int .u64 zh)).setCell ⟨w.heap.size + 1, 1, none⟩ (.int .u64 zl)).setCell ⟨w.heap.size + 1, 2, none⟩ (.int .u8 1)) (w.heap.size + 1) 28 #[.int .u64 zh, .int .u64 zl, .int .u8 1] ∧ Below w.heap.size w ((((wS.setCell ⟨w4.heap.size, 2, none⟩ (.int .u8 1)).setCell ⟨w.heap.size + 1, 0, none⟩ (.int .u64 zh)).setCell ⟨w.heap.size + 1, 1, none⟩ (.int .u64 zl)).setCell ⟨w.heap.size + 1, 2, none⟩ (.int .u8 1))) := Lib.hid ⟨(HB.set (HB.set (HB.set (HB.other xo (by omega) _ _) 0 _) 1 _) 2 _), ((((kk.setCell (p := ⟨w4.heap.size, 2, none⟩) (by show w.heap.size ≤ w4.heap.size; omega) _).setCell (p := ⟨w.heap.size + 1, 0, none⟩) (by simp) _).setCell (p := ⟨w.heap.size + 1, 1, none⟩) (by simp) _).setCell (p := ⟨w.heap.size + 1, 2, none⟩) (by simp) _)⟩
  have o0 := HB.cell xo 0; have q0 := HB.frozen xo 0; have z0 := HB.cell xr 0; have y0 := HB.frozen xr 0; have o1 := HB.cell xo 1; have q1 := HB.frozen xo 1; have z1 := HB.cell xr 1; have y1 := HB.frozen xr 1; have o2 := HB.cell xo 2; have q2 := HB.frozen xo 2; have z2 := HB.cell xr 2; have y2 := HB.frozen xr 2; have ol := HB.lt xo; have zlt := HB.lt xr; dsimp at o0 o1 o2 z0 z1 z2
  have hne : w.heap.size + 1 ≠ w4.heap.size := by omega
  have hne2 : w4.heap.size ≠ w.heap.size + 1 := by omega
  clear xo xr kk
  go_wp2_with fail
  obtain ⟨hE, kb⟩ := KEY.out
  have e0 := hE.cell 0; have e1 := hE.cell 1; have e2 := hE.cell 2; dsimp at e0 e1 e2
  refine bodyPost_ret (v := .tuple #[.agg #[.int .u64 zh, .int .u64 zl, .int .u8 1], .bool true]) ?_ rfl ⟨rfl, kb⟩
  clear KEY hE kb z0 z1 z2 y0 y1 y2 o0 o1 o2 q0 q1 q2
  simp [results, Tryd.results9, go_sem, e0, e1, e2]

theorem ref11_move (f t b : Int) (f0 : 0 ≤ f) (f1 : f ≤ 255) (t0 : 0 ≤ t) (t1 : t ≤ 255) (w : World) : Calls Tryd.prog 9 #[.int .u8 f, .int .u8 t, .agg #[.int .u64 (hiOf (b)), .int .u64 (loOf (b))]] w fun e w' => e = .returned (.tuple #[.agg #[.int .u64 (hiOf (moveV f t (b % full))), .int .u64 (loOf (moveV f t (b % full))), .int .u8 (moveS f t (b % full))], .bool (moveK f t (b % full))]) ∧ Below w.heap.size w w' := by
  by_cases h4 : f < 4
  · by_cases g4 : t < 4
    · have NN := ref8_nan f b f0 f1
      by_cases hn : nanF f (b % full) = true
      · rw [hn] at NN
        have hk : moveK f t (b % full) = true := by unfold moveK; simp [g4, hn]
        have hv : moveV f t (b % full) = moveB f t (b % full) := by unfold moveV; rw [hk]; rfl
        have hs : moveS f t (b % full) = if sigF f (b % full) then 1 else 0 := by unfold moveS; rw [hk]; simp
        rw [hk, hv, hs]
        obtain ⟨p0, p1, p2, p3, p4, p5, p6, p7, p8⟩ := f_nums f0 h4
        obtain ⟨q0, q1, q2, q3, q4, q5, q6, q7, q8⟩ := f_nums t0 g4
        obtain ⟨l0, l1⟩ := load_range (f := f) (b % full)
        obtain ⟨c0, c1⟩ := conv_range (q := fP t - 2) l0 l1
        have sf : ∀ k : Nat, k ≤ 128 → (2 : Int) ^ k ≤ full := fun k hk => by have := two_pow_le hk; rwa [full_pow] at this
        obtain ⟨r0, r1⟩ := frac_low (b := b % full) f0
        have s1 := sf (fP f - 2) (by omega); have s2 := sf (fP t - 2) (by omega)
        have SG := ref8_sig f b f0 f1
        have PF := ref7_prec f f0 f1; have PT := ref7_prec t t0 t1
        have SP := fun w => ref7_split f b f0 h4 w
        have MK : ∀ w v, IsNum w v (convL (fP f - 2) (fP t - 2) (loadF f (b % full)) + 2 ^ (fP t - 2)) → Calls Tryd.prog 29 #[.int .u8 t, .bool (negF f (b % full)), .int .i64 (2 * fE t + 1), v] w fun e w' => e = .returned (.agg #[.int .u64 (hiOf (moveB f t (b % full))), .int .u64 (loOf (moveB f t (b % full)))]) ∧ Below w.heap.size w w' :=
          fun w v nv => ref7_make t (2 * fE t + 1) _ _ v t0 t1 (by omega) (by omega) (small_full (by have := sf (fP t - 1) (by omega); have n2 : (2 : Int) ^ (fP t - 1) = 2 * 2 ^ (fP t - 2) := (by rw [← Int.pow_succ', show fP t - 2 + 1 = fP t - 1 by omega]); omega)) w nv
        by_cases up : fP f - 2 ≤ fP t - 2
        · have EL : fracF f (b % full) % 2 ^ (fP f - 2) * 2 ^ (fP t - 2 - (fP f - 2)) = convL (fP f - 2) (fP t - 2) (loadF f (b % full)) := by unfold convL loadF; rw [show fP f - 2 - (fP t - 2) = 0 by omega, Int.pow_zero, Int.ediv_one]
          by_cases hs : sigF f (b % full) = true
          · rw [hs] at SG ⊢
            exact ref11_up_sig f t _ _ _ _ _ _ _ _ (2 * fE t) (2 * fE t + 1) _ _ (fP f - 2) (fP t - 2) (fP t - 2 - (fP f - 2)) _ (by simp; omega) (by simp; omega) (by simp; omega) up (Lib.hid NN) (Lib.hid SG) (Lib.hid SP) (Lib.hid PF) (Lib.hid PT) (Lib.hid (ref7_emax t t0 t1)) (by rw [IntWalk.i64_in _ (by omega)]; omega) (by rw [IntWalk.i64_in _ (by omega)]; omega) (by rw [IntWalk.i64_in _ (by omega)]; omega) (by unfold wrap64; omega) (IntWalk.i64_in _ (by omega)) (IntWalk.i64_in _ (by omega)) (by unfold wrap64; omega) (Lib.hid (by omega)) (Lib.hid (by omega)) (Lib.hid (by omega)) (Lib.hid (small_full (by omega))) (Lib.hid (small_full (by unfold loadF at l1; omega))) (Lib.hid (small_full (by omega))) (Lib.hid (small_full s2)) EL (Lib.hid MK) w
          · rw [Bool.eq_false_iff.2 hs] at SG ⊢
            exact ref11_up_quiet f t _ _ _ _ _ _ _ _ (2 * fE t) (2 * fE t + 1) _ _ (fP f - 2) (fP t - 2) (fP t - 2 - (fP f - 2)) _ (by simp; omega) (by simp; omega) (by simp; omega) up (Lib.hid NN) (Lib.hid SG) (Lib.hid SP) (Lib.hid PF) (Lib.hid PT) (Lib.hid (ref7_emax t t0 t1)) (by rw [IntWalk.i64_in _ (by omega)]; omega) (by rw [IntWalk.i64_in _ (by omega)]; omega) (by rw [IntWalk.i64_in _ (by omega)]; omega) (by unfold wrap64; omega) (IntWalk.i64_in _ (by omega)) (IntWalk.i64_in _ (by omega)) (by unfold wrap64; omega) (Lib.hid (by omega)) (Lib.hid (by omega)) (Lib.hid (by omega)) (Lib.hid (small_full (by omega))) (Lib.hid (small_full (by unfold loadF at l1; omega))) (Lib.hid (small_full (by omega))) (Lib.hid (small_full s2)) EL (Lib.hid MK) w
        · have EL : fracF f (b % full) % 2 ^ (fP f - 2) / 2 ^ (fP f - 2 - (fP t - 2)) = convL (fP f - 2) (fP t - 2) (loadF f (b % full)) := by unfold convL loadF; rw [show fP t - 2 - (fP f - 2) = 0 by omega, Int.pow_zero, Int.mul_one]
          by_cases hs : sigF f (b % full) = true
          · rw [hs] at SG ⊢
            exact ref11_down_sig f t _ _ _ _ _ _ _ _ (2 * fE t) (2 * fE t + 1) _ _ (fP f - 2) (fP t - 2) (fP f - 2 - (fP t - 2)) _ (by simp; omega) (by simp; omega) (by simp; omega) up (Lib.hid NN) (Lib.hid SG) (Lib.hid SP) (Lib.hid PF) (Lib.hid PT) (Lib.hid (ref7_emax t t0 t1)) (by rw [IntWalk.i64_in _ (by omega)]; omega) (by rw [IntWalk.i64_in _ (by omega)]; omega) (by rw [IntWalk.i64_in _ (by omega)]; omega) (by unfold wrap64; omega) (IntWalk.i64_in _ (by omega)) (IntWalk.i64_in _ (by omega)) (by unfold wrap64; omega) (Lib.hid (by omega)) (Lib.hid (by omega)) (Lib.hid (by omega)) (Lib.hid (small_full (by omega))) (Lib.hid (small_full (by unfold loadF at l1; omega))) (Lib.hid (small_full (by omega))) (Lib.hid (small_full s2)) EL (Lib.hid MK) w
          · rw [Bool.eq_false_iff.2 hs] at SG ⊢
            exact ref11_down_quiet f t _ _ _ _ _ _ _ _ (2 * fE t) (2 * fE t + 1) _ _ (fP f - 2) (fP t - 2) (fP f - 2 - (fP t - 2)) _ (by simp; omega) (by simp; omega) (by simp; omega) up (Lib.hid NN) (Lib.hid SG) (Lib.hid SP) (Lib.hid PF) (Lib.hid PT) (Lib.hid (ref7_emax t t0 t1)) (by rw [IntWalk.i64_in _ (by omega)]; omega) (by rw [IntWalk.i64_in _ (by omega)]; omega) (by rw [IntWalk.i64_in _ (by omega)]; omega) (by unfold wrap64; omega) (IntWalk.i64_in _ (by omega)) (IntWalk.i64_in _ (by omega)) (by unfold wrap64; omega) (Lib.hid (by omega)) (Lib.hid (by omega)) (Lib.hid (by omega)) (Lib.hid (small_full (by omega))) (Lib.hid (small_full (by unfold loadF at l1; omega))) (Lib.hid (small_full (by omega))) (Lib.hid (small_full s2)) EL (Lib.hid MK) w
      · have hn' := Bool.eq_false_iff.2 hn
        rw [hn'] at NN
        have hk : moveK f t (b % full) = false := by unfold moveK; simp [hn']
        unfold moveV moveS; rw [hk]
        exact ref11_no_n f t _ _ (by simp; omega) (by simp; omega) (Lib.hid NN) w
    · have hk : moveK f t (b % full) = false := by unfold moveK; simp [g4]
      unfold moveV moveS; rw [hk]
      exact ref11_no_t f t _ _ (by simp; omega) (by simp; omega) w
  · have hk : moveK f t (b % full) = false := by unfold moveK nanF; rw [cls_no h4]; simp
    unfold moveV moveS; rw [hk]
    exact ref11_no_f f t _ _ (by simp; omega) w

end Go.Proofs.YthnikhhgnogibaaDoor
