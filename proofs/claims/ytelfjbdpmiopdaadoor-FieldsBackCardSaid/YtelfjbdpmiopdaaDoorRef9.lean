/-
  Numbers taken apart: the document's answers of layer 9, over numbers.
-/
import Derived.Test.YtelfjbdpmiopdaaDoorMath9
import Derived.Test.YtelfjbdpmiopdaaDoorNumS
import Derived.Test.YtelfjbdpmiopdaaDoorLater4
set_option linter.unusedVariables false
set_option linter.unusedSimpArgs false
set_option maxRecDepth 100000
namespace Go.Proofs.YtelfjbdpmiopdaaDoor
open Go.RowKit
attribute [local go_sem ↓] Go.wp_at_zero Go.wp_at_succ

set_option maxHeartbeats 4000000 in
set_option maxRecDepth 100000 in
theorem ref9_of_sub (f bh bl FR ex p em x1 x2 x3 : Int) (kp : Nat) (sg : Bool)
    (RS : Hid (∀ w, Calls Tryd.prog 55 #[.int .u8 f, .agg #[.int .u64 (bh), .int .u64 (bl)]] w fun e w' => ∃ v, e = .returned (.tuple #[.bool sg, .int .i64 ex, v]) ∧ IsNum w' v FR ∧ Below w.heap.size w w'))
    (PF : Hid (∀ w, Calls Tryd.prog 39 #[.int .u8 f] w fun e w' => e = .returned (.int .i64 p) ∧ w = w')) (EF : Hid (∀ w, Calls Tryd.prog 40 #[.int .u8 f] w fun e w' => e = .returned (.int .i64 em) ∧ w = w')) (w1_ : IntKind.i64.wrap (1 - em) = x1) (w2_ : IntKind.i64.wrap (p - 1) = x2) (w3_ : IntKind.i64.wrap (x1 - x2) = x3) (hx : ex = 0) (w : World) :
    Calls Tryd.prog 30 #[.int .u8 f, .agg #[.int .u64 (bh), .int .u64 (bl)]] w fun e w' => ∃ v, e = .returned (.agg #[.bool sg, v, .int .i64 x3]) ∧ IsNum w' v (FR) ∧ Below w.heap.size w w' := by
  subst hx
  go_enter Tryd.func30, Tryd.ntmps30
  go_wp2_with fail
  (with_reducible refine (RS.out _).mono ?_); rintro e w1 ⟨v, rfl, nv, hb⟩
  have kk := bC (bA (bA (Below.refl _ _) _) _) hb
  have xr : HB w1 (w.heap.size + 1) 58 #[.bool false, .slice none 0 0, .int .i64 0] := (HB.newAt (by simp) _ _).later hb
  clear hb
  go_wp2_with fail
  (with_reducible refine (PF.out _).mono ?_); rintro e wz ⟨rfl, rfl⟩
  go_wp2_with fail
  (with_reducible refine (EF.out _).mono ?_); rintro e wz ⟨rfl, rfl⟩
  obtain ⟨ao, k, cap, ds, rfl, hnv⟩ : ∃ ao k cap ds, v = .slice ao k cap ∧ (Dig w1 ao k cap ds ∧ num ds = FR ∧ Norm ds) := nv
  have NV : IsNum w1 (.slice ao k cap) FR := ⟨ao, k, cap, ds, rfl, hnv⟩
  clear hnv
  have KEY : Hid (HB (((w1.setCell ⟨w.heap.size + 1, 0, none⟩ (.bool sg)).setCell ⟨w.heap.size + 1, 1, none⟩ (.slice ao k cap)).setCell ⟨w.heap.size + 1, 2, none⟩ (.int .i64 x3)) (w.heap.size + 1) 58 #[.bool sg, .slice ao k cap, .int .i64 x3] ∧ Below w.heap.size w (((w1.setCell ⟨w.heap.size + 1, 0, none⟩ (.bool sg)).setCell ⟨w.heap.size + 1, 1, none⟩ (.slice ao k cap)).setCell ⟨w.heap.size + 1, 2, none⟩ (.int .i64 x3)) ∧ IsNum (((w1.setCell ⟨w.heap.size + 1, 0, none⟩ (.bool sg)).setCell ⟨w.heap.size + 1, 1, none⟩ (.slice ao k cap)).setCell ⟨w.heap.size + 1, 2, none⟩ (.int .i64 x3)) (.slice ao k cap) FR) := Lib.hid ⟨(((xr.set 0 _).set 1 _).set 2 _), (((kk.setCell (p := ⟨w.heap.size + 1, 0, none⟩) (by simp) _).setCell (p := ⟨w.heap.size + 1, 1, none⟩) (by simp) _).setCell (p := ⟨w.heap.size + 1, 2, none⟩) (by simp) _), (((NV.setHB xr (by intro d; simp) 0 _).setHB (xr.set 0 _) (by intro d; simp) 1 _).setHB ((xr.set 0 _).set 1 _) (by intro d; simp) 2 _)⟩
  have z0 := xr.cell 0; have f0 := xr.frozen 0; have z1 := xr.cell 1; have f1 := xr.frozen 1; have z2 := xr.cell 2; have f2 := xr.frozen 2; dsimp at z0 z1 z2
  have hl := xr.lt
  clear xr kk NV
  go_wp2_with fail
  obtain ⟨hE, kb, m0⟩ := KEY.out
  have e0 := hE.cell 0; have e1 := hE.cell 1; have e2 := hE.cell 2; dsimp at e0 e1 e2
  refine bodyPost_ret (v := .agg #[.bool sg, .slice ao k cap, .int .i64 x3]) ?_ rfl ⟨_, rfl, m0, kb⟩
  clear KEY hE kb z0 f0 z1 f1 z2 f2
  simp [results, Tryd.results30, go_sem, e0, e1, e2]

set_option maxHeartbeats 4000000 in
set_option maxRecDepth 100000 in
theorem ref9_of_nor (f bh bl FR ex p em x1 x2 x3 : Int) (kp : Nat) (sg : Bool)
    (RS : Hid (∀ w, Calls Tryd.prog 55 #[.int .u8 f, .agg #[.int .u64 (bh), .int .u64 (bl)]] w fun e w' => ∃ v, e = .returned (.tuple #[.bool sg, .int .i64 ex, v]) ∧ IsNum w' v FR ∧ Below w.heap.size w w'))
    (PF : Hid (∀ w, Calls Tryd.prog 39 #[.int .u8 f] w fun e w' => e = .returned (.int .i64 p) ∧ w = w')) (EF : Hid (∀ w, Calls Tryd.prog 40 #[.int .u8 f] w fun e w' => e = .returned (.int .i64 em) ∧ w = w')) (w1_ : IntKind.i64.wrap (ex - em) = x1) (w2_ : IntKind.i64.wrap (p - 1) = (kp : Int)) (w3_ : IntKind.i64.wrap (x1 - (kp : Int)) = x3) (hx : (ex == 0) = false) (HP : Hid (kp < 3200000)) (S1 : Hid (Small FR)) (S2 : Hid (Small (2 ^ kp))) (w : World) :
    Calls Tryd.prog 30 #[.int .u8 f, .agg #[.int .u64 (bh), .int .u64 (bl)]] w fun e w' => ∃ v, e = .returned (.agg #[.bool sg, v, .int .i64 x3]) ∧ IsNum w' v (FR + 2 ^ kp) ∧ Below w.heap.size w w' := by
  go_enter Tryd.func30, Tryd.ntmps30
  go_wp2_with fail
  (with_reducible refine (RS.out _).mono ?_); rintro e w1 ⟨v, rfl, nv, hb⟩
  have kk := bC (bA (bA (Below.refl _ _) _) _) hb
  have xr : HB w1 (w.heap.size + 1) 58 #[.bool false, .slice none 0 0, .int .i64 0] := (HB.newAt (by simp) _ _).later hb
  clear hb
  go_wp2_with fail
  (with_reducible refine (PF.out _).mono ?_); rintro e wz ⟨rfl, rfl⟩
  go_wp2_with fail
  (with_reducible refine (fullN kp HP.out _).mono ?_); rintro e w2 ⟨v2, rfl, n2, hb⟩
  have n1 := nv.later hb; replace kk := bC kk hb; replace xr := xr.later hb; clear hb nv
  go_wp2_with fail
  (with_reducible refine (add_num n1 n2 S1.out S2.out).mono ?_); rintro e w3 ⟨v3, rfl, n3, hb⟩
  replace kk := bC kk hb; replace xr := xr.later hb; clear hb n1 n2
  go_wp2_with fail
  (with_reducible refine (EF.out _).mono ?_); rintro e wz ⟨rfl, rfl⟩
  obtain ⟨ao, k, cap, ds, rfl, hnv⟩ : ∃ ao k cap ds, v3 = .slice ao k cap ∧ (Dig w3 ao k cap ds ∧ num ds = FR + 2 ^ kp ∧ Norm ds) := n3
  have NV : IsNum w3 (.slice ao k cap) (FR + 2 ^ kp) := ⟨ao, k, cap, ds, rfl, hnv⟩
  clear hnv
  have KEY : Hid (HB (((w3.setCell ⟨w.heap.size + 1, 0, none⟩ (.bool sg)).setCell ⟨w.heap.size + 1, 1, none⟩ (.slice ao k cap)).setCell ⟨w.heap.size + 1, 2, none⟩ (.int .i64 x3)) (w.heap.size + 1) 58 #[.bool sg, .slice ao k cap, .int .i64 x3] ∧ Below w.heap.size w (((w3.setCell ⟨w.heap.size + 1, 0, none⟩ (.bool sg)).setCell ⟨w.heap.size + 1, 1, none⟩ (.slice ao k cap)).setCell ⟨w.heap.size + 1, 2, none⟩ (.int .i64 x3)) ∧ IsNum (((w3.setCell ⟨w.heap.size + 1, 0, none⟩ (.bool sg)).setCell ⟨w.heap.size + 1, 1, none⟩ (.slice ao k cap)).setCell ⟨w.heap.size + 1, 2, none⟩ (.int .i64 x3)) (.slice ao k cap) (FR + 2 ^ kp)) := Lib.hid ⟨(((xr.set 0 _).set 1 _).set 2 _), (((kk.setCell (p := ⟨w.heap.size + 1, 0, none⟩) (by simp) _).setCell (p := ⟨w.heap.size + 1, 1, none⟩) (by simp) _).setCell (p := ⟨w.heap.size + 1, 2, none⟩) (by simp) _), (((NV.setHB xr (by intro d; simp) 0 _).setHB (xr.set 0 _) (by intro d; simp) 1 _).setHB ((xr.set 0 _).set 1 _) (by intro d; simp) 2 _)⟩
  have z0 := xr.cell 0; have f0 := xr.frozen 0; have z1 := xr.cell 1; have f1 := xr.frozen 1; have z2 := xr.cell 2; have f2 := xr.frozen 2; dsimp at z0 z1 z2
  have hl := xr.lt
  clear xr kk NV
  go_wp2_with fail
  obtain ⟨hE, kb, m0⟩ := KEY.out
  have e0 := hE.cell 0; have e1 := hE.cell 1; have e2 := hE.cell 2; dsimp at e0 e1 e2
  refine bodyPost_ret (v := .agg #[.bool sg, .slice ao k cap, .int .i64 x3]) ?_ rfl ⟨_, rfl, m0, kb⟩
  clear KEY hE kb z0 f0 z1 f1 z2 f2
  simp [results, Tryd.results30, go_sem, e0, e1, e2]

/-- The document's finite number. -/
theorem ref9_of (f b : Int) (f0 : 0 ≤ f) (h : f < 4) (w : World) : Calls Tryd.prog 30 #[.int .u8 f, .agg #[.int .u64 (hiOf (b)), .int .u64 (loOf (b))]] w fun e w' => ∃ v, e = .returned (.agg #[.bool (negF f (b % full)), v, .int .i64 (uX f (b % full))]) ∧ IsNum w' v (uM f (b % full)) ∧ Below w.heap.size w w' := by
  obtain ⟨p0, p1, p2, p3, p4, p5, p6, p7, p8⟩ := f_nums f0 h
  obtain ⟨x0, x1, x2, x3⟩ := exp_range (B := b % full) f0 h (mod_f b).1
  have RS := Lib.hid (ref7_split f b f0 h)
  have PF := Lib.hid (ref7_prec f f0 (by omega))
  have EF := Lib.hid (ref7_emax f f0 (by omega))
  have fr := frac_full (b := b % full) f0 h
  unfold uX uM
  by_cases z : expF f (b % full) = 0
  · rw [if_pos z, if_pos z]
    exact ref9_of_sub f _ _ _ _ _ _ (1 - fE f) ((fP f - 1 : Nat) : Int) _ 0 _ RS PF EF (IntWalk.i64_in _ (by omega)) (by rw [IntWalk.i64_in _ (by omega)]; omega) (IntWalk.i64_in _ (by omega)) z w
  · rw [if_neg z, if_neg z]
    have sp : (2 : Int) ^ (fP f - 1) ≤ full := by have := two_pow_le (show fP f - 1 ≤ 128 by omega); rwa [full_pow] at this
    exact ref9_of_nor f _ _ _ _ _ _ (expF f (b % full) - fE f) 0 _ (fP f - 1) _ RS PF EF (IntWalk.i64_in _ (by omega)) (by rw [IntWalk.i64_in _ (by omega)]; omega) (IntWalk.i64_in _ (by omega)) (by simp [z]) (Lib.hid (by omega)) (Lib.hid (small_full (by omega))) (Lib.hid (small_full sp)) w

set_option maxHeartbeats 4000000 in
set_option maxRecDepth 100000 in
theorem ref9_unpack_no (f bh bl c : Int) (sg : Bool) (OF : Hid (∀ w, Calls Tryd.prog 29 #[.int .u8 f, .agg #[.int .u64 (bh), .int .u64 (bl)]] w fun e w' => e = .returned (.tuple #[.int .u8 c, .bool sg]) ∧ Below w.heap.size w w')) (c2 : (c != 2) = true) (c1 : (c != 1) = true) (w : World) :
    Calls Tryd.prog 11 #[.int .u8 f, .agg #[.int .u64 (bh), .int .u64 (bl)]] w fun e w' => e = .returned (.agg #[.bool sg, .int .u8 c, .int .i64 0, .int .u64 0, .int .u64 0]) ∧ Below w.heap.size w w' := by
  go_enter Tryd.func11, Tryd.ntmps11
  go_wp2_with fail
  (with_reducible refine (OF.out _).mono ?_); rintro e w1 ⟨rfl, hb⟩
  have kk := bC (bA (bA (Below.refl _ _) _) _) hb
  have xr : HB w1 (w.heap.size + 1) 28 #[.bool false, .int .u8 0, .int .i64 0, .int .u64 0, .int .u64 0] := (HB.newAt (by simp) _ _).later hb
  have xb : HB w1 w.heap.size 25 #[.int .u64 bh, .int .u64 bl] := ((HB.new w _ _).alloc _).later hb
  have b0 := xb.cell 0; have b1 := xb.cell 1; have bl_ := xb.lt; dsimp at b0 b1
  clear hb
  have KEY : Hid (HB ((((((w1.setCell ⟨w.heap.size + 1, 0, none⟩ (.bool sg)).setCell ⟨w.heap.size + 1, 1, none⟩ (.int .u8 c)).setCell ⟨w.heap.size + 1, 2, none⟩ (.int .i64 0)).setCell ⟨w.heap.size + 1, 3, none⟩ (.int .u64 0)).setCell ⟨w.heap.size + 1, 4, none⟩ (.int .u64 0)).alloc (.cells #[.bool sg, .int .u8 c, .int .i64 0, .int .u64 0, .int .u64 0] 28)) (w.heap.size + 1) 28 #[.bool sg, .int .u8 c, .int .i64 0, .int .u64 0, .int .u64 0] ∧ Below w.heap.size w ((((((w1.setCell ⟨w.heap.size + 1, 0, none⟩ (.bool sg)).setCell ⟨w.heap.size + 1, 1, none⟩ (.int .u8 c)).setCell ⟨w.heap.size + 1, 2, none⟩ (.int .i64 0)).setCell ⟨w.heap.size + 1, 3, none⟩ (.int .u64 0)).setCell ⟨w.heap.size + 1, 4, none⟩ (.int .u64 0)).alloc (.cells #[.bool sg, .int .u8 c, .int .i64 0, .int .u64 0, .int .u64 0] 28))) := Lib.hid ⟨(((((xr.set 0 _).set 1 _).set 2 _).set 3 _).set 4 _).alloc _, bA (((((kk.setCell (p := ⟨w.heap.size + 1, 0, none⟩) (by simp) _).setCell (p := ⟨w.heap.size + 1, 1, none⟩) (by simp) _).setCell (p := ⟨w.heap.size + 1, 2, none⟩) (by simp) _).setCell (p := ⟨w.heap.size + 1, 3, none⟩) (by simp) _).setCell (p := ⟨w.heap.size + 1, 4, none⟩) (by simp) _) _⟩
  have z0 := xr.cell 0; have f0 := xr.frozen 0; have z1 := xr.cell 1; have f1 := xr.frozen 1; have z2 := xr.cell 2; have f2 := xr.frozen 2; have z3 := xr.cell 3; have f3 := xr.frozen 3; have z4 := xr.cell 4; have f4 := xr.frozen 4; dsimp at z0 z1 z2 z3 z4
  have hl := xr.lt
  clear xr kk
  go_wp2_with fail
  obtain ⟨hE, kb⟩ := KEY.out
  have e0 := hE.cell 0; have e1 := hE.cell 1; have e2 := hE.cell 2; have e3 := hE.cell 3; have e4 := hE.cell 4; dsimp at e0 e1 e2 e3 e4
  refine bodyPost_ret (v := .agg #[.bool sg, .int .u8 c, .int .i64 0, .int .u64 0, .int .u64 0]) ?_ rfl ⟨rfl, kb⟩
  clear KEY hE kb z0 f0 z1 f1 z2 f2 z3 f3 z4 f4
  simp [results, Tryd.results11, go_sem, e0, e1, e2, e3, e4]

set_option maxHeartbeats 4000000 in
set_option maxRecDepth 100000 in
theorem ref9_unpack_yes1 (f bh bl M x y z Z : Int) (l : Nat) (sg : Bool) (OF : Hid (∀ w, Calls Tryd.prog 29 #[.int .u8 f, .agg #[.int .u64 (bh), .int .u64 (bl)]] w fun e w' => e = .returned (.tuple #[.int .u8 1, .bool sg]) ∧ Below w.heap.size w w'))
    (OV : Hid (∀ w, Calls Tryd.prog 30 #[.int .u8 f, .agg #[.int .u64 (bh), .int .u64 (bl)]] w fun e w' => ∃ v, e = .returned (.agg #[.bool sg, v, .int .i64 x]) ∧ IsNum w' v M ∧ Below w.heap.size w w'))
    (hl_ : blen M = l) (hx : IntKind.i64.wrap (x + (l : Int)) = z) (hy : IntKind.i64.wrap (z - 1) = y) (hyx : wrap64 (z - 1) = y) (sh : Nat) (hs : IntKind.i64.wrap (128 - (l : Int)) = (sh : Int)) (SM : Hid (Small M)) (HK : Hid (sh < 3200000)) (HZ : M * 2 ^ sh = Z) (w : World) :
    Calls Tryd.prog 11 #[.int .u8 f, .agg #[.int .u64 (bh), .int .u64 (bl)]] w fun e w' => e = .returned (.agg #[.bool sg, .int .u8 1, .int .i64 y, .int .u64 (hiOf Z), .int .u64 (loOf Z)]) ∧ Below w.heap.size w w' := by
  go_enter Tryd.func11, Tryd.ntmps11
  go_wp2_with fail
  (with_reducible refine (OF.out _).mono ?_); rintro e w1 ⟨rfl, hb⟩
  have kk := bC (bA (bA (Below.refl _ _) _) _) hb
  have xr : HB w1 (w.heap.size + 1) 28 #[.bool false, .int .u8 0, .int .i64 0, .int .u64 0, .int .u64 0] := (HB.newAt (by simp) _ _).later hb
  have xb : HB w1 w.heap.size 25 #[.int .u64 bh, .int .u64 bl] := ((HB.new w _ _).alloc _).later hb
  have b0 := xb.cell 0; have b1 := xb.cell 1; have bl_ := xb.lt; dsimp at b0 b1
  clear hb
  have HB0 := xr.lt
  go_wp2_with fail
  (with_reducible refine (OV.out _).mono ?_); rintro e w2 ⟨v, rfl, nv, hb⟩
  replace kk := bC (bA kk _) hb; replace xr := (xr.alloc _).later hb
  have xn : HB w2 w1.heap.size 28 #[.bool sg, .int .u8 1, .int .i64 0, .int .u64 0, .int .u64 0] := (HB.new w1 _ _).later hb
  have hn : w.heap.size + 1 < w1.heap.size := HB0
  clear hb b0 b1 bl_ xb
  obtain ⟨ao, k, cap, ds, rfl, hnv⟩ : ∃ ao k cap ds, v = .slice ao k cap ∧ (Dig w2 ao k cap ds ∧ num ds = M ∧ Norm ds) := nv
  have NV : IsNum w2 (.slice ao k cap) M := ⟨ao, k, cap, ds, rfl, hnv⟩
  clear hnv
  have c0 := xn.cell 0; have c1 := xn.cell 1; have c2 := xn.cell 2; have c3 := xn.cell 3; have c4 := xn.cell 4; have g2 := xn.frozen 2; have g3 := xn.frozen 3; have g4 := xn.frozen 4; have hl := xn.lt; dsimp at c0 c1 c2 c3 c4
  go_wp2_with fail
  have NV1 := NV.later (bA (Below.refl _ _) (.cells #[.bool sg, .slice ao k cap, .int .i64 x] 58))
  (with_reducible refine (len_num NV1).mono ?_); rintro e wz ⟨rfl, hw⟩
  have W3 : wz = w2.alloc (.cells #[.bool sg, .slice ao k cap, .int .i64 x] 58) := hw.symm
  subst W3
  clear hw
  obtain ⟨WW, hWW⟩ : ∃ WW, (w2.setCell ⟨w1.heap.size, 2, none⟩ (.int .i64 y)).alloc (.cells #[.bool sg, .slice ao k cap, .int .i64 x] 58) = WW := ⟨_, rfl⟩
  have ka : Below w.heap.size w WW := by subst hWW; exact bA (kk.setCell (p := ⟨w1.heap.size, 2, none⟩) (by show w.heap.size ≤ w1.heap.size; omega) _) _
  have na : IsNum WW (.slice ao k cap) M := by subst hWW; exact (NV.setHB xn (by intro d; simp) 2 _).later (bA (Below.refl _ _) _)
  have xra : HB WW (w.heap.size + 1) 28 #[.bool false, .int .u8 0, .int .i64 0, .int .u64 0, .int .u64 0] := by subst hWW; exact (xr.other (by omega) _ _).alloc _
  have xna : HB WW w1.heap.size 28 #[.bool sg, .int .u8 1, .int .i64 y, .int .u64 0, .int .u64 0] := by subst hWW; exact (xn.set 2 _).alloc _
  have va : HB WW w2.heap.size 58 #[.bool sg, .slice ao k cap, .int .i64 x] := by subst hWW; exact HB.newAt (by simp) _ _
  have q0 := va.cell 0; have q1 := va.cell 1; have q2 := va.cell 2; have ql := va.lt; dsimp at q0 q1 q2
  clear NV NV1 xn xr kk va
  go_wp2_with fail
  (with_reducible refine (shl_num na SM.out _ HK.out).mono ?_); rintro e w3 ⟨v3, rfl, n3, hb⟩
  replace ka := bC ka hb; replace xra := xra.later hb; replace xna := xna.later hb; clear hb na q0 q1 q2 ql hWW c0 c1 c2 c3 c4 g2 g3 g4 hl
  rw [HZ] at n3
  go_wp2_with fail
  (with_reducible refine (bits_num2 n3).mono ?_); rintro e w4 ⟨rfl, hb⟩
  replace ka := bC ka hb; replace xra := xra.later hb; replace xna := xna.later hb; clear hb n3
  have c0 := xna.cell 0; have c1 := xna.cell 1; have c2 := xna.cell 2; have c3 := xna.cell 3; have c4 := xna.cell 4; have g3 := xna.frozen 3; have g4 := xna.frozen 4; have hl := xna.lt; dsimp at c0 c1 c2 c3 c4
  have KEY : Hid (HB (((((((w4.setCell ⟨w1.heap.size, 3, none⟩ (.int .u64 (hiOf Z))).setCell ⟨w1.heap.size, 4, none⟩ (.int .u64 (loOf Z))).setCell ⟨w.heap.size + 1, 0, none⟩ (.bool sg)).setCell ⟨w.heap.size + 1, 1, none⟩ (.int .u8 1)).setCell ⟨w.heap.size + 1, 2, none⟩ (.int .i64 y)).setCell ⟨w.heap.size + 1, 3, none⟩ (.int .u64 (hiOf Z))).setCell ⟨w.heap.size + 1, 4, none⟩ (.int .u64 (loOf Z))) (w.heap.size + 1) 28 #[.bool sg, .int .u8 1, .int .i64 y, .int .u64 (hiOf Z), .int .u64 (loOf Z)] ∧ Below w.heap.size w (((((((w4.setCell ⟨w1.heap.size, 3, none⟩ (.int .u64 (hiOf Z))).setCell ⟨w1.heap.size, 4, none⟩ (.int .u64 (loOf Z))).setCell ⟨w.heap.size + 1, 0, none⟩ (.bool sg)).setCell ⟨w.heap.size + 1, 1, none⟩ (.int .u8 1)).setCell ⟨w.heap.size + 1, 2, none⟩ (.int .i64 y)).setCell ⟨w.heap.size + 1, 3, none⟩ (.int .u64 (hiOf Z))).setCell ⟨w.heap.size + 1, 4, none⟩ (.int .u64 (loOf Z)))) := Lib.hid ⟨(((((((xra.other (by omega) _ _).other (by omega) _ _).set 0 _).set 1 _).set 2 _).set 3 _).set 4 _), (((((((ka.setCell (p := ⟨w1.heap.size, 3, none⟩) (by show w.heap.size ≤ w1.heap.size; omega) _).setCell (p := ⟨w1.heap.size, 4, none⟩) (by show w.heap.size ≤ w1.heap.size; omega) _).setCell (p := ⟨w.heap.size + 1, 0, none⟩) (by simp) _).setCell (p := ⟨w.heap.size + 1, 1, none⟩) (by simp) _).setCell (p := ⟨w.heap.size + 1, 2, none⟩) (by simp) _).setCell (p := ⟨w.heap.size + 1, 3, none⟩) (by simp) _).setCell (p := ⟨w.heap.size + 1, 4, none⟩) (by simp) _)⟩
  have z0 := xra.cell 0; have f0 := xra.frozen 0; have z1 := xra.cell 1; have f1 := xra.frozen 1; have z2 := xra.cell 2; have f2 := xra.frozen 2; have z3 := xra.cell 3; have f3 := xra.frozen 3; have z4 := xra.cell 4; have f4 := xra.frozen 4; dsimp at z0 z1 z2 z3 z4
  have hr := xra.lt
  have hne : w1.heap.size ≠ w.heap.size + 1 := by omega
  have hne2 : w.heap.size + 1 ≠ w1.heap.size := by omega
  clear xra xna ka
  go_wp2_with fail
  obtain ⟨hE, kb⟩ := KEY.out
  have e0 := hE.cell 0; have e1 := hE.cell 1; have e2 := hE.cell 2; have e3 := hE.cell 3; have e4 := hE.cell 4; dsimp at e0 e1 e2 e3 e4
  refine bodyPost_ret (v := .agg #[.bool sg, .int .u8 1, .int .i64 y, .int .u64 (hiOf Z), .int .u64 (loOf Z)]) ?_ rfl ⟨rfl, kb⟩
  clear KEY hE kb z0 f0 z1 f1 z2 f2 z3 f3 z4 f4
  simp [results, Tryd.results11, go_sem, e0, e1, e2, e3, e4]

set_option maxHeartbeats 4000000 in
set_option maxRecDepth 100000 in
theorem ref9_unpack_yes2 (f bh bl M x y z Z : Int) (l : Nat) (sg : Bool) (OF : Hid (∀ w, Calls Tryd.prog 29 #[.int .u8 f, .agg #[.int .u64 (bh), .int .u64 (bl)]] w fun e w' => e = .returned (.tuple #[.int .u8 2, .bool sg]) ∧ Below w.heap.size w w'))
    (OV : Hid (∀ w, Calls Tryd.prog 30 #[.int .u8 f, .agg #[.int .u64 (bh), .int .u64 (bl)]] w fun e w' => ∃ v, e = .returned (.agg #[.bool sg, v, .int .i64 x]) ∧ IsNum w' v M ∧ Below w.heap.size w w'))
    (hl_ : blen M = l) (hx : IntKind.i64.wrap (x + (l : Int)) = z) (hy : IntKind.i64.wrap (z - 1) = y) (hyx : wrap64 (z - 1) = y) (sh : Nat) (hs : IntKind.i64.wrap (128 - (l : Int)) = (sh : Int)) (SM : Hid (Small M)) (HK : Hid (sh < 3200000)) (HZ : M * 2 ^ sh = Z) (w : World) :
    Calls Tryd.prog 11 #[.int .u8 f, .agg #[.int .u64 (bh), .int .u64 (bl)]] w fun e w' => e = .returned (.agg #[.bool sg, .int .u8 2, .int .i64 y, .int .u64 (hiOf Z), .int .u64 (loOf Z)]) ∧ Below w.heap.size w w' := by
  go_enter Tryd.func11, Tryd.ntmps11
  go_wp2_with fail
  (with_reducible refine (OF.out _).mono ?_); rintro e w1 ⟨rfl, hb⟩
  have kk := bC (bA (bA (Below.refl _ _) _) _) hb
  have xr : HB w1 (w.heap.size + 1) 28 #[.bool false, .int .u8 0, .int .i64 0, .int .u64 0, .int .u64 0] := (HB.newAt (by simp) _ _).later hb
  have xb : HB w1 w.heap.size 25 #[.int .u64 bh, .int .u64 bl] := ((HB.new w _ _).alloc _).later hb
  have b0 := xb.cell 0; have b1 := xb.cell 1; have bl_ := xb.lt; dsimp at b0 b1
  clear hb
  have HB0 := xr.lt
  go_wp2_with fail
  (with_reducible refine (OV.out _).mono ?_); rintro e w2 ⟨v, rfl, nv, hb⟩
  replace kk := bC (bA kk _) hb; replace xr := (xr.alloc _).later hb
  have xn : HB w2 w1.heap.size 28 #[.bool sg, .int .u8 2, .int .i64 0, .int .u64 0, .int .u64 0] := (HB.new w1 _ _).later hb
  have hn : w.heap.size + 1 < w1.heap.size := HB0
  clear hb b0 b1 bl_ xb
  obtain ⟨ao, k, cap, ds, rfl, hnv⟩ : ∃ ao k cap ds, v = .slice ao k cap ∧ (Dig w2 ao k cap ds ∧ num ds = M ∧ Norm ds) := nv
  have NV : IsNum w2 (.slice ao k cap) M := ⟨ao, k, cap, ds, rfl, hnv⟩
  clear hnv
  have c0 := xn.cell 0; have c1 := xn.cell 1; have c2 := xn.cell 2; have c3 := xn.cell 3; have c4 := xn.cell 4; have g2 := xn.frozen 2; have g3 := xn.frozen 3; have g4 := xn.frozen 4; have hl := xn.lt; dsimp at c0 c1 c2 c3 c4
  go_wp2_with fail
  have NV1 := NV.later (bA (Below.refl _ _) (.cells #[.bool sg, .slice ao k cap, .int .i64 x] 58))
  (with_reducible refine (len_num NV1).mono ?_); rintro e wz ⟨rfl, hw⟩
  have W3 : wz = w2.alloc (.cells #[.bool sg, .slice ao k cap, .int .i64 x] 58) := hw.symm
  subst W3
  clear hw
  obtain ⟨WW, hWW⟩ : ∃ WW, (w2.setCell ⟨w1.heap.size, 2, none⟩ (.int .i64 y)).alloc (.cells #[.bool sg, .slice ao k cap, .int .i64 x] 58) = WW := ⟨_, rfl⟩
  have ka : Below w.heap.size w WW := by subst hWW; exact bA (kk.setCell (p := ⟨w1.heap.size, 2, none⟩) (by show w.heap.size ≤ w1.heap.size; omega) _) _
  have na : IsNum WW (.slice ao k cap) M := by subst hWW; exact (NV.setHB xn (by intro d; simp) 2 _).later (bA (Below.refl _ _) _)
  have xra : HB WW (w.heap.size + 1) 28 #[.bool false, .int .u8 0, .int .i64 0, .int .u64 0, .int .u64 0] := by subst hWW; exact (xr.other (by omega) _ _).alloc _
  have xna : HB WW w1.heap.size 28 #[.bool sg, .int .u8 2, .int .i64 y, .int .u64 0, .int .u64 0] := by subst hWW; exact (xn.set 2 _).alloc _
  have va : HB WW w2.heap.size 58 #[.bool sg, .slice ao k cap, .int .i64 x] := by subst hWW; exact HB.newAt (by simp) _ _
  have q0 := va.cell 0; have q1 := va.cell 1; have q2 := va.cell 2; have ql := va.lt; dsimp at q0 q1 q2
  clear NV NV1 xn xr kk va
  go_wp2_with fail
  (with_reducible refine (shl_num na SM.out _ HK.out).mono ?_); rintro e w3 ⟨v3, rfl, n3, hb⟩
  replace ka := bC ka hb; replace xra := xra.later hb; replace xna := xna.later hb; clear hb na q0 q1 q2 ql hWW c0 c1 c2 c3 c4 g2 g3 g4 hl
  rw [HZ] at n3
  go_wp2_with fail
  (with_reducible refine (bits_num2 n3).mono ?_); rintro e w4 ⟨rfl, hb⟩
  replace ka := bC ka hb; replace xra := xra.later hb; replace xna := xna.later hb; clear hb n3
  have c0 := xna.cell 0; have c1 := xna.cell 1; have c2 := xna.cell 2; have c3 := xna.cell 3; have c4 := xna.cell 4; have g3 := xna.frozen 3; have g4 := xna.frozen 4; have hl := xna.lt; dsimp at c0 c1 c2 c3 c4
  have KEY : Hid (HB (((((((w4.setCell ⟨w1.heap.size, 3, none⟩ (.int .u64 (hiOf Z))).setCell ⟨w1.heap.size, 4, none⟩ (.int .u64 (loOf Z))).setCell ⟨w.heap.size + 1, 0, none⟩ (.bool sg)).setCell ⟨w.heap.size + 1, 1, none⟩ (.int .u8 2)).setCell ⟨w.heap.size + 1, 2, none⟩ (.int .i64 y)).setCell ⟨w.heap.size + 1, 3, none⟩ (.int .u64 (hiOf Z))).setCell ⟨w.heap.size + 1, 4, none⟩ (.int .u64 (loOf Z))) (w.heap.size + 1) 28 #[.bool sg, .int .u8 2, .int .i64 y, .int .u64 (hiOf Z), .int .u64 (loOf Z)] ∧ Below w.heap.size w (((((((w4.setCell ⟨w1.heap.size, 3, none⟩ (.int .u64 (hiOf Z))).setCell ⟨w1.heap.size, 4, none⟩ (.int .u64 (loOf Z))).setCell ⟨w.heap.size + 1, 0, none⟩ (.bool sg)).setCell ⟨w.heap.size + 1, 1, none⟩ (.int .u8 2)).setCell ⟨w.heap.size + 1, 2, none⟩ (.int .i64 y)).setCell ⟨w.heap.size + 1, 3, none⟩ (.int .u64 (hiOf Z))).setCell ⟨w.heap.size + 1, 4, none⟩ (.int .u64 (loOf Z)))) := Lib.hid ⟨(((((((xra.other (by omega) _ _).other (by omega) _ _).set 0 _).set 1 _).set 2 _).set 3 _).set 4 _), (((((((ka.setCell (p := ⟨w1.heap.size, 3, none⟩) (by show w.heap.size ≤ w1.heap.size; omega) _).setCell (p := ⟨w1.heap.size, 4, none⟩) (by show w.heap.size ≤ w1.heap.size; omega) _).setCell (p := ⟨w.heap.size + 1, 0, none⟩) (by simp) _).setCell (p := ⟨w.heap.size + 1, 1, none⟩) (by simp) _).setCell (p := ⟨w.heap.size + 1, 2, none⟩) (by simp) _).setCell (p := ⟨w.heap.size + 1, 3, none⟩) (by simp) _).setCell (p := ⟨w.heap.size + 1, 4, none⟩) (by simp) _)⟩
  have z0 := xra.cell 0; have f0 := xra.frozen 0; have z1 := xra.cell 1; have f1 := xra.frozen 1; have z2 := xra.cell 2; have f2 := xra.frozen 2; have z3 := xra.cell 3; have f3 := xra.frozen 3; have z4 := xra.cell 4; have f4 := xra.frozen 4; dsimp at z0 z1 z2 z3 z4
  have hr := xra.lt
  have hne : w1.heap.size ≠ w.heap.size + 1 := by omega
  have hne2 : w.heap.size + 1 ≠ w1.heap.size := by omega
  clear xra xna ka
  go_wp2_with fail
  obtain ⟨hE, kb⟩ := KEY.out
  have e0 := hE.cell 0; have e1 := hE.cell 1; have e2 := hE.cell 2; have e3 := hE.cell 3; have e4 := hE.cell 4; dsimp at e0 e1 e2 e3 e4
  refine bodyPost_ret (v := .agg #[.bool sg, .int .u8 2, .int .i64 y, .int .u64 (hiOf Z), .int .u64 (loOf Z)]) ?_ rfl ⟨rfl, kb⟩
  clear KEY hE kb z0 f0 z1 f1 z2 f2 z3 f3 z4 f4
  simp [results, Tryd.results11, go_sem, e0, e1, e2, e3, e4]

/-- The document's Unpack. -/
theorem ref9_unpack (f b : Int) (f0 : 0 ≤ f) (f1 : f ≤ 255) (w : World) : Calls Tryd.prog 11 #[.int .u8 f, .agg #[.int .u64 (hiOf (b)), .int .u64 (loOf (b))]] w fun e w' => e = .returned (.agg #[.bool (negF f (b % full)), .int .u8 (clsF f (b % full)), .int .i64 (uE f (b % full)), .int .u64 (hiOf (uS f (b % full))), .int .u64 (loOf (uS f (b % full)))]) ∧ Below w.heap.size w w' := by
  have OF := ref8_of f b f0 f1
  by_cases c : clsF f (b % full) = 1 ∨ clsF f (b % full) = 2
  · have h : f < 4 := by
      rcases Int.lt_or_le f 4 with h | h
      · exact h
      · exfalso; have := cls_no (show ¬ f < 4 by omega) (b % full); omega
    obtain ⟨m0, m1⟩ := mod_f b
    obtain ⟨p0, p1, p2, p3, p4, p5, p6, p7, p8⟩ := f_nums f0 h
    obtain ⟨r0, r1⟩ := frac_range (b := b % full) f0 h
    obtain ⟨x0, x1, x2, x3⟩ := exp_range (B := b % full) f0 h m0
    have sp := two_pow_le (show fP f - 1 ≤ 126 by omega)
    have eM : uM f (b % full) < 2 ^ 127 := by
      have e : (2 : Int) ^ 127 = 2 ^ 126 + 2 ^ 126 := by decide
      unfold uM; split <;> omega
    have nM : 0 ≤ uM f (b % full) := by have := two_pow_pos (fP f - 1); unfold uM; split <;> omega
    have lM := blen_le nM eM
    have xr : -17000 ≤ uX f (b % full) ∧ uX f (b % full) ≤ 33000 := by unfold uX; split <;> omega
    have sM : Small (uM f (b % full)) := small_full (by have : (2 : Int) ^ 127 ≤ full := by decide
                                                        omega)
    have uE_ : uE f (b % full) = uX f (b % full) + blen (uM f (b % full)) - 1 := by unfold uE; rw [if_pos c]
    have uS_ : uS f (b % full) = uM f (b % full) * 2 ^ (128 - blen (uM f (b % full))) := by unfold uS; rw [if_pos c]
    have a1 : IntKind.i64.wrap (uX f (b % full) + (blen (uM f (b % full)) : Int)) = uX f (b % full) + blen (uM f (b % full)) := IntWalk.i64_in _ (by omega)
    have a2 : IntKind.i64.wrap (uX f (b % full) + (blen (uM f (b % full)) : Int) - 1) = uX f (b % full) + blen (uM f (b % full)) - 1 := IntWalk.i64_in _ (by omega)
    have a3 : wrap64 (uX f (b % full) + (blen (uM f (b % full)) : Int) - 1) = uX f (b % full) + blen (uM f (b % full)) - 1 := by unfold wrap64; omega
    have a4 : IntKind.i64.wrap (128 - (blen (uM f (b % full)) : Int)) = ((128 - blen (uM f (b % full)) : Nat) : Int) := by rw [IntWalk.i64_in _ (by omega)]; omega
    have OV := Lib.hid (ref9_of f b f0 h)
    rw [uE_, uS_]
    rcases c with c | c
    · rw [c] at OF ⊢
      exact ref9_unpack_yes1 f _ _ _ _ _ _ _ _ _ (Lib.hid OF) OV rfl a1 a2 a3 _ a4 (Lib.hid sM) (Lib.hid (by omega)) rfl w
    · rw [c] at OF ⊢
      exact ref9_unpack_yes2 f _ _ _ _ _ _ _ _ _ (Lib.hid OF) OV rfl a1 a2 a3 _ a4 (Lib.hid sM) (Lib.hid (by omega)) rfl w
  · rw [show uE f (b % full) = 0 by unfold uE; rw [if_neg c], show uS f (b % full) = 0 by unfold uS; rw [if_neg c]]
    exact ref9_unpack_no f _ _ _ _ (Lib.hid OF) (by simp; omega) (by simp; omega) w

set_option maxHeartbeats 4000000 in
set_option maxRecDepth 100000 in
theorem ref9_pack_no1 (f c ne nh nl : Int) (ng : Bool)
    (g3 : decide (3 < f) = true) (w : World) :
    Calls Tryd.prog 14 #[.int .u8 f, .agg #[.bool ng, .int .u8 c, .int .i64 ne, .int .u64 nh, .int .u64 nl]] w fun e w' => e = .returned (.tuple #[.agg #[.int .u64 0, .int .u64 0], .bool false]) ∧ Below w.heap.size w w' := by
  go_enter Tryd.func14, Tryd.ntmps14
  go_wp2_with fail
  exact bodyPost_ret (v := .tuple #[.agg #[.int .u64 0, .int .u64 0], .bool false]) (by simp [results, Tryd.results14, go_sem]) rfl ⟨rfl, bA (bA (Below.refl _ _) _) _⟩

set_option maxHeartbeats 4000000 in
set_option maxRecDepth 100000 in
theorem ref9_pack_no2 (f c ne nh nl : Int) (ng : Bool)
    (g3 : decide (3 < f) = false) (gc : decide (3 < c) = true) (w : World) :
    Calls Tryd.prog 14 #[.int .u8 f, .agg #[.bool ng, .int .u8 c, .int .i64 ne, .int .u64 nh, .int .u64 nl]] w fun e w' => e = .returned (.tuple #[.agg #[.int .u64 0, .int .u64 0], .bool false]) ∧ Below w.heap.size w w' := by
  go_enter Tryd.func14, Tryd.ntmps14
  go_wp2_with fail
  exact bodyPost_ret (v := .tuple #[.agg #[.int .u64 0, .int .u64 0], .bool false]) (by simp [results, Tryd.results14, go_sem]) rfl ⟨rfl, bA (bA (Below.refl _ _) _) _⟩

set_option maxHeartbeats 4000000 in
set_option maxRecDepth 100000 in
theorem ref9_pack_zero (f ne nh nl zh zl : Int) (ng : Bool)
    (g3 : decide (3 < f) = false) (MK : Hid (∀ w, Calls Tryd.prog 37 #[.int .u8 f, .bool ng, .int .i64 0, .slice none 0 0] w fun e w' => e = .returned (.agg #[.int .u64 (zh), .int .u64 (zl)]) ∧ Below w.heap.size w w')) (w : World) :
    Calls Tryd.prog 14 #[.int .u8 f, .agg #[.bool ng, .int .u8 0, .int .i64 ne, .int .u64 nh, .int .u64 nl]] w fun e w' => e = .returned (.tuple #[.agg #[.int .u64 (zh), .int .u64 (zl)], .bool true]) ∧ Below w.heap.size w w' := by
  go_enter Tryd.func14, Tryd.ntmps14
  go_wp2_with fail
  (with_reducible refine (MK.out _).mono ?_); rintro e w1 ⟨rfl, hb⟩
  have kk := bC (bA (bA (Below.refl _ _) _) _) hb
  have xr : HB w1 (w.heap.size + 1) 25 #[.int .u64 0, .int .u64 0] := (HB.newAt (by simp) _ _).later hb
  clear hb
  have KEY : Hid (HB ((w1.setCell ⟨w.heap.size + 1, 0, none⟩ (.int .u64 zh)).setCell ⟨w.heap.size + 1, 1, none⟩ (.int .u64 zl)) (w.heap.size + 1) 25 #[.int .u64 zh, .int .u64 zl] ∧ Below w.heap.size w ((w1.setCell ⟨w.heap.size + 1, 0, none⟩ (.int .u64 zh)).setCell ⟨w.heap.size + 1, 1, none⟩ (.int .u64 zl))) := Lib.hid ⟨((xr.set 0 _).set 1 _), ((kk.setCell (p := ⟨w.heap.size + 1, 0, none⟩) (by simp) _).setCell (p := ⟨w.heap.size + 1, 1, none⟩) (by simp) _)⟩
  have z0 := xr.cell 0; have f0 := xr.frozen 0; have z1 := xr.cell 1; have f1 := xr.frozen 1; dsimp at z0 z1
  have hl := xr.lt
  clear xr kk
  go_wp2_with fail
  obtain ⟨hE, kb⟩ := KEY.out
  have e0 := hE.cell 0; have e1 := hE.cell 1; dsimp at e0 e1
  refine bodyPost_ret (v := .tuple #[.agg #[.int .u64 (zh), .int .u64 (zl)], .bool true]) ?_ rfl ⟨rfl, kb⟩
  clear KEY hE kb z0 f0 z1 f1
  simp [results, Tryd.results14, go_sem, e0, e1]

set_option maxHeartbeats 4000000 in
set_option maxRecDepth 100000 in
theorem ref9_pack_inf (f ne nh nl zh zl : Int) (ng : Bool)
    (g3 : decide (3 < f) = false) (MK : Hid (∀ w, Calls Tryd.prog 38 #[.int .u8 f, .bool ng] w fun e w' => e = .returned (.agg #[.int .u64 (zh), .int .u64 (zl)]) ∧ Below w.heap.size w w')) (w : World) :
    Calls Tryd.prog 14 #[.int .u8 f, .agg #[.bool ng, .int .u8 3, .int .i64 ne, .int .u64 nh, .int .u64 nl]] w fun e w' => e = .returned (.tuple #[.agg #[.int .u64 (zh), .int .u64 (zl)], .bool true]) ∧ Below w.heap.size w w' := by
  go_enter Tryd.func14, Tryd.ntmps14
  go_wp2_with fail
  (with_reducible refine (MK.out _).mono ?_); rintro e w1 ⟨rfl, hb⟩
  have kk := bC (bA (bA (Below.refl _ _) _) _) hb
  have xr : HB w1 (w.heap.size + 1) 25 #[.int .u64 0, .int .u64 0] := (HB.newAt (by simp) _ _).later hb
  clear hb
  have KEY : Hid (HB ((w1.setCell ⟨w.heap.size + 1, 0, none⟩ (.int .u64 zh)).setCell ⟨w.heap.size + 1, 1, none⟩ (.int .u64 zl)) (w.heap.size + 1) 25 #[.int .u64 zh, .int .u64 zl] ∧ Below w.heap.size w ((w1.setCell ⟨w.heap.size + 1, 0, none⟩ (.int .u64 zh)).setCell ⟨w.heap.size + 1, 1, none⟩ (.int .u64 zl))) := Lib.hid ⟨((xr.set 0 _).set 1 _), ((kk.setCell (p := ⟨w.heap.size + 1, 0, none⟩) (by simp) _).setCell (p := ⟨w.heap.size + 1, 1, none⟩) (by simp) _)⟩
  have z0 := xr.cell 0; have f0 := xr.frozen 0; have z1 := xr.cell 1; have f1 := xr.frozen 1; dsimp at z0 z1
  have hl := xr.lt
  clear xr kk
  go_wp2_with fail
  obtain ⟨hE, kb⟩ := KEY.out
  have e0 := hE.cell 0; have e1 := hE.cell 1; dsimp at e0 e1
  refine bodyPost_ret (v := .tuple #[.agg #[.int .u64 (zh), .int .u64 (zl)], .bool true]) ?_ rfl ⟨rfl, kb⟩
  clear KEY hE kb z0 f0 z1 f1
  simp [results, Tryd.results14, go_sem, e0, e1]

set_option maxHeartbeats 4000000 in
set_option maxRecDepth 100000 in
theorem ref9_pack_far (f c ne nh nl p em : Int) (ng : Bool)
    (g3 : decide (3 < f) = false) (gc : decide (3 < c) = false) (cz : (c == 0) = false) (c3 : (c == 3) = false)
    (PF : Hid (∀ w, Calls Tryd.prog 39 #[.int .u8 f] w fun e w' => e = .returned (.int .i64 p) ∧ w = w'))
    (EF : Hid (∀ w, Calls Tryd.prog 40 #[.int .u8 f] w fun e w' => e = .returned (.int .i64 em) ∧ w = w')) (d1 : decide (em < ne) = true) (w : World) :
    Calls Tryd.prog 14 #[.int .u8 f, .agg #[.bool ng, .int .u8 c, .int .i64 ne, .int .u64 nh, .int .u64 nl]] w fun e w' => e = .returned (.tuple #[.agg #[.int .u64 0, .int .u64 0], .bool false]) ∧ Below w.heap.size w w' := by
  go_enter Tryd.func14, Tryd.ntmps14
  go_wp2_with fail
  (with_reducible refine (PF.out _).mono ?_); rintro e wz ⟨rfl, rfl⟩
  go_wp2_with fail
  (with_reducible refine (EF.out _).mono ?_); rintro e wz ⟨rfl, rfl⟩
  go_wp2_with fail
  exact bodyPost_ret (v := .tuple #[.agg #[.int .u64 0, .int .u64 0], .bool false]) (by simp [results, Tryd.results14, go_sem]) rfl ⟨rfl, bA (bA (Below.refl _ _) _) _⟩

set_option maxHeartbeats 4000000 in
set_option maxRecDepth 100000 in
theorem ref9_pack_near (f c ne nh nl p em x1 x2 x3 : Int) (ng : Bool)
    (g3 : decide (3 < f) = false) (gc : decide (3 < c) = false) (cz : (c == 0) = false) (c3 : (c == 3) = false)
    (PF : Hid (∀ w, Calls Tryd.prog 39 #[.int .u8 f] w fun e w' => e = .returned (.int .i64 p) ∧ w = w'))
    (EF : Hid (∀ w, Calls Tryd.prog 40 #[.int .u8 f] w fun e w' => e = .returned (.int .i64 em) ∧ w = w')) (d1 : decide (em < ne) = false) (w1_ : IntKind.i64.wrap (1 - em) = x1) (w2_ : IntKind.i64.wrap (p - 1) = x2) (w3_ : IntKind.i64.wrap (x1 - x2) = x3) (d2 : decide (ne < x3) = true) (w : World) :
    Calls Tryd.prog 14 #[.int .u8 f, .agg #[.bool ng, .int .u8 c, .int .i64 ne, .int .u64 nh, .int .u64 nl]] w fun e w' => e = .returned (.tuple #[.agg #[.int .u64 0, .int .u64 0], .bool false]) ∧ Below w.heap.size w w' := by
  go_enter Tryd.func14, Tryd.ntmps14
  go_wp2_with fail
  (with_reducible refine (PF.out _).mono ?_); rintro e wz ⟨rfl, rfl⟩
  go_wp2_with fail
  (with_reducible refine (EF.out _).mono ?_); rintro e wz ⟨rfl, rfl⟩
  go_wp2_with fail
  exact bodyPost_ret (v := .tuple #[.agg #[.int .u64 0, .int .u64 0], .bool false]) (by simp [results, Tryd.results14, go_sem]) rfl ⟨rfl, bA (bA (Below.refl _ _) _) _⟩

set_option maxHeartbeats 4000000 in
set_option maxRecDepth 100000 in
theorem ref9_pack_sub_exp (f c ne nh nl p em x1 x2 x3 S fl o1 o2 Q bh bl mc me mh ml : Int) (ng : Bool)
    (g3 : decide (3 < f) = false) (gc : decide (3 < c) = false) (cz : (c == 0) = false) (c3 : (c == 3) = false)
    (PF : Hid (∀ w, Calls Tryd.prog 39 #[.int .u8 f] w fun e w' => e = .returned (.int .i64 p) ∧ w = w'))
    (EF : Hid (∀ w, Calls Tryd.prog 40 #[.int .u8 f] w fun e w' => e = .returned (.int .i64 em) ∧ w = w')) (d1 : decide (em < ne) = false) (w1_ : IntKind.i64.wrap (1 - em) = x1) (w2_ : IntKind.i64.wrap (p - 1) = x2) (w3_ : IntKind.i64.wrap (x1 - x2) = x3) (d2 : decide (ne < x3) = false) (BN : Hid (∀ w, Calls Tryd.prog 41 #[.agg #[.int .u64 nh, .int .u64 nl]] w (RetNum w S))) (w4_ : IntKind.i64.wrap (ne + em) = fl) (off : Nat) (w5_ : IntKind.i64.wrap (128 - p) = o1) (d3 : decide (fl < 1) = true) (w6_ : IntKind.i64.wrap (o1 + 1) = o2) (w7_ : IntKind.i64.wrap (o2 - fl) = (off : Int))
    (HO : Hid ((off : Int) ≤ 9223372036854775807)) (HQ : S / 2 ^ off = Q) (MK : Hid (∀ w v, IsNum w v Q → Calls Tryd.prog 37 #[.int .u8 f, .bool ng, .int .i64 0, v] w fun e w' => e = .returned (.agg #[.int .u64 (bh), .int .u64 (bl)]) ∧ Below w.heap.size w w'))
    (UN : Hid (∀ w, Calls Tryd.prog 11 #[.int .u8 f, .agg #[.int .u64 (bh), .int .u64 (bl)]] w fun e w' => e = .returned (.agg #[.bool ng, .int .u8 mc, .int .i64 me, .int .u64 mh, .int .u64 ml]) ∧ Below w.heap.size w w')) (t1 : (me != ne) = true) (w : World) :
    Calls Tryd.prog 14 #[.int .u8 f, .agg #[.bool ng, .int .u8 c, .int .i64 ne, .int .u64 nh, .int .u64 nl]] w fun e w' => e = .returned (.tuple #[.agg #[.int .u64 0, .int .u64 0], .bool false]) ∧ Below w.heap.size w w' := by
  go_enter Tryd.func14, Tryd.ntmps14
  go_wp2_with fail
  (with_reducible refine (PF.out _).mono ?_); rintro e wz ⟨rfl, rfl⟩
  go_wp2_with fail
  (with_reducible refine (EF.out _).mono ?_); rintro e wz ⟨rfl, rfl⟩
  go_wp2_with fail
  (with_reducible refine (BN.out _).mono ?_); rintro e w1 ⟨v8, rfl, n8, hb⟩
  have kk := bC (bA (bA (Below.refl _ _) _) _) hb
  have xn : HB w1 w.heap.size 28 #[.bool ng, .int .u8 c, .int .i64 ne, .int .u64 nh, .int .u64 nl] := ((HB.new w _ _).alloc _).later hb
  have xr : HB w1 (w.heap.size + 1) 25 #[.int .u64 0, .int .u64 0] := (HB.newAt (by simp) _ _).later hb
  have c0 := xn.cell 0; have c1 := xn.cell 1; have c2 := xn.cell 2; have c3_ := xn.cell 3; have c4 := xn.cell 4; have cl := xn.lt; dsimp at c0 c1 c2 c3_ c4
  clear hb
  go_wp2_with fail
  clear c1 c2 c3_ c4 cl
  refine wp_region_noPanic ?_
  refine wp_region_held_drew (S := fun w' => w'.cell? ⟨w.heap.size, 0, none⟩ = some (.bool ng) ∧ True) (by kernel_rfl) ⟨cell_later (Below.refl _ _).drew c0, trivial⟩ (fun hHeld => ?_)
  replace kk := bC kk (Below.refl _ _).drew; replace xn := xn.later (Below.refl _ _).drew; replace xr := xr.later (Below.refl _ _).drew; replace n8 := n8.later (Below.refl _ _).drew; clear c0
  generalize w1.drew = W at *; clear w1
  refine wpAnyH_take (i := 0) (v := ?vq1) rfl (by kernel_rfl) (by kernel_rfl) (by kernel_rfl) (fun _ _ _ h => h) (Or.inl ⟨by rfl, ?yq1⟩) hHeld ?rq1
  case yq1 => (intro wq hb; obtain ⟨lq0, _⟩ := hb; go_simp; try (with_reducible rfl))
  try simp only [List.getElem_toArray, List.getElem_cons_zero, List.getElem_cons_succ, Act.put, List.setIfInBounds_toArray, List.set_cons_zero, List.set_cons_succ]
  refine wpAnyH_take (i := 1) (v := ?vq2) rfl (by kernel_rfl) (by kernel_rfl) (by kernel_rfl) (fun _ _ _ h => h) (Or.inl ⟨by rfl, ?yq2⟩) hHeld ?rq2
  case yq2 => (intro wq hb; obtain ⟨lq0, _⟩ := hb; go_simp; try (with_reducible rfl))
  try simp only [List.getElem_toArray, List.getElem_cons_zero, List.getElem_cons_succ, Act.put, List.setIfInBounds_toArray, List.set_cons_zero, List.set_cons_succ]
  refine wpAnyH_take (i := 2) (v := ?vq3) rfl (by kernel_rfl) (by kernel_rfl) (by kernel_rfl) (fun _ _ _ h => h) (Or.inl ⟨by rfl, ?yq3⟩) hHeld ?rq3
  case yq3 => (intro wq hb; obtain ⟨lq0, _⟩ := hb; go_simp; try (with_reducible rfl))
  try simp only [List.getElem_toArray, List.getElem_cons_zero, List.getElem_cons_succ, Act.put, List.setIfInBounds_toArray, List.set_cons_zero, List.set_cons_succ]
  refine wpAnyH_take (i := 3) (v := ?vq4) rfl (by kernel_rfl) (by kernel_rfl) (by kernel_rfl) (fun _ _ _ h => h) (Or.inl ⟨by rfl, ?yq4⟩) hHeld ?rq4
  case yq4 => (intro wq hb; obtain ⟨lq0, _⟩ := hb; go_simp; try (with_reducible rfl))
  try simp only [List.getElem_toArray, List.getElem_cons_zero, List.getElem_cons_succ, Act.put, List.setIfInBounds_toArray, List.set_cons_zero, List.set_cons_succ]
  refine wpAnyH_take (i := 4) (v := ?vq5) rfl (by kernel_rfl) (by kernel_rfl) (by kernel_rfl) (fun _ _ _ h => h) (Or.inl ⟨by rfl, ?yq5⟩) hHeld ?rq5
  case yq5 => (intro wq hb; obtain ⟨lq0, _⟩ := hb; go_simp; try (with_reducible rfl))
  try simp only [List.getElem_toArray, List.getElem_cons_zero, List.getElem_cons_succ, Act.put, List.setIfInBounds_toArray, List.set_cons_zero, List.set_cons_succ]
  refine wpAnyH_take (i := 5) (v := ?vq6) rfl (by kernel_rfl) (by kernel_rfl) (by kernel_rfl) (fun _ _ _ h => h) (Or.inl ⟨by rfl, ?yq6⟩) hHeld ?rq6
  case yq6 => (intro wq hb; obtain ⟨lq0, _⟩ := hb; go_simp; try (with_reducible rfl))
  try simp only [List.getElem_toArray, List.getElem_cons_zero, List.getElem_cons_succ, Act.put, List.setIfInBounds_toArray, List.set_cons_zero, List.set_cons_succ]
  clear hHeld
  refine wpAnyH_ready (rs := [6, 8]) (by kernel_rfl) (by simp) ?_
  refine AllReadyH.cons rfl (fun K hK => ?_) (AllReadyH.cons rfl (fun K hK => ?_) AllReadyH.nil)
  go_simp
  (with_reducible refine (shr_num n8 off HO.out).mono ?_); rintro e Wa ⟨v2, rfl, n2, hb⟩
  replace kk := bC kk hb; replace xn := xn.later hb; replace xr := xr.later hb
  rw [HQ] at n2
  clear hb n8
  refine hK.out _ _ ⟨xn.cell 0, trivial⟩ (fun hHeld => ?_)
  clear hK K
  try simp only [List.getElem_toArray, List.getElem_cons_zero, List.getElem_cons_succ, Act.put, List.setIfInBounds_toArray, List.set_cons_zero, List.set_cons_succ]
  clear W
  clear hHeld
  refine wpAnyH_ready (rs := [7, 8]) (by kernel_rfl) (by simp) ?_
  refine AllReadyH.cons rfl (fun K hK => ?_) (AllReadyH.cons rfl (fun K hK => ?_) AllReadyH.nil)
  go_simp
  (with_reducible refine (MK.out _ _ n2).mono ?_); rintro e Waa ⟨rfl, hb⟩
  replace kk := bC kk hb; replace xn := xn.later hb; replace xr := xr.later hb
  clear hb n2
  refine hK.out _ _ ⟨xn.cell 0, trivial⟩ (fun hHeld => ?_)
  clear hK K
  try simp only [List.getElem_toArray, List.getElem_cons_zero, List.getElem_cons_succ, Act.put, List.setIfInBounds_toArray, List.set_cons_zero, List.set_cons_succ]
  clear Wa
  clear hHeld
  refine wpAnyH_ready (rs := [8]) (by kernel_rfl) (by simp) ?_
  refine AllReadyH.cons rfl (fun K hK => ?_) AllReadyH.nil
  go_simp
  have ha := bA (Below.refl _ Waa) (.cells #[.int .u64 0, .int .u64 0] 25)
  have hq : w.heap.size + 2 ≤ Waa.heap.size := by have := xr.lt; omega
  have xq := HB.new Waa 25 #[.int .u64 0, .int .u64 0]
  replace kk := bC kk ha; replace xn := xn.later ha; replace xr := xr.later ha
  clear ha
  refine hK.out _ _ ⟨xn.cell 0, trivial⟩ (fun hHeld => ?_)
  clear hK K
  generalize Waa.alloc (.cells #[.int .u64 0, .int .u64 0] 25) = Waab at *
  generalize Waa.heap.size = q at *
  try simp only [List.getElem_toArray, List.getElem_cons_zero, List.getElem_cons_succ, Act.put, List.setIfInBounds_toArray, List.set_cons_zero, List.set_cons_succ]
  clear Waa
  clear hHeld
  refine wpAnyH_ready (rs := [9]) (by kernel_rfl) (by simp) ?_
  refine AllReadyH.cons rfl (fun K hK => ?_) AllReadyH.nil
  have KEY := Lib.hid (show HB ((Waab.setCell ⟨q, 0, none⟩ (.int .u64 bh)).setCell ⟨q, 1, none⟩ (.int .u64 bl)) q 25 #[.int .u64 bh, .int .u64 bl] ∧ Below w.heap.size w ((Waab.setCell ⟨q, 0, none⟩ (.int .u64 bh)).setCell ⟨q, 1, none⟩ (.int .u64 bl)) ∧ HB ((Waab.setCell ⟨q, 0, none⟩ (.int .u64 bh)).setCell ⟨q, 1, none⟩ (.int .u64 bl)) w.heap.size 28 #[.bool ng, .int .u8 c, .int .i64 ne, .int .u64 nh, .int .u64 nl] ∧ HB ((Waab.setCell ⟨q, 0, none⟩ (.int .u64 bh)).setCell ⟨q, 1, none⟩ (.int .u64 bl)) (w.heap.size + 1) 25 #[.int .u64 0, .int .u64 0] from ⟨(xq.set 0 _).set 1 _, (kk.setCell (p := ⟨q, 0, none⟩) (by show w.heap.size ≤ q; omega) _).setCell (p := ⟨q, 1, none⟩) (by show w.heap.size ≤ q; omega) _, (xn.other (by omega) _ _).other (by omega) _ _, (xr.other (by omega) _ _).other (by omega) _ _⟩)
  have z0 := xq.cell 0; have z1 := xq.cell 1; have y0 := xq.frozen 0; have y1 := xq.frozen 1; have yl := xq.lt; dsimp at z0 z1
  go_simp
  obtain ⟨k1, k2, k3, k4⟩ := KEY.out
  refine hK.out _ _ ⟨k3.cell 0, trivial⟩ (fun hHeld => ?_)
  clear hK K z0 z1 y0 y1 yl KEY xq kk xn xr
  try simp only [List.getElem_toArray, List.getElem_cons_zero, List.getElem_cons_succ, Act.put, List.setIfInBounds_toArray, List.set_cons_zero, List.set_cons_succ]
  refine wpAnyH_done (by kernel_rfl) ?_ _
  refine NoPanic.normal ?_
  clear hHeld
  generalize ((Waab.setCell ⟨q, 0, none⟩ (.int .u64 bh)).setCell ⟨q, 1, none⟩ (.int .u64 bl)) = V at *
  clear Waab
  revert V
  revert hq
  revert q
  revert v2
  refine ?rest
  rotate_left
  go_simp
  have ha := bA (Below.refl _ Wa) (.cells #[.int .u64 0, .int .u64 0] 25)
  have hq : w.heap.size + 2 ≤ Wa.heap.size := by have := xr.lt; omega
  have xq := HB.new Wa 25 #[.int .u64 0, .int .u64 0]
  have n2x := n2.later ha; clear n2
  replace kk := bC kk ha; replace xn := xn.later ha; replace xr := xr.later ha
  clear ha
  refine hK.out _ _ ⟨xn.cell 0, trivial⟩ (fun hHeld => ?_)
  clear hK K
  generalize Wa.alloc (.cells #[.int .u64 0, .int .u64 0] 25) = Wab at *
  generalize Wa.heap.size = q at *
  try simp only [List.getElem_toArray, List.getElem_cons_zero, List.getElem_cons_succ, Act.put, List.setIfInBounds_toArray, List.set_cons_zero, List.set_cons_succ]
  clear Wa
  clear hHeld
  refine wpAnyH_ready (rs := [7]) (by kernel_rfl) (by simp) ?_
  refine AllReadyH.cons rfl (fun K hK => ?_) AllReadyH.nil
  go_simp
  (with_reducible refine (MK.out _ _ n2x).mono ?_); rintro e Waba ⟨rfl, hb⟩
  replace kk := bC kk hb; replace xn := xn.later hb; replace xr := xr.later hb
  replace xq := xq.later hb
  clear hb n2x
  refine hK.out _ _ ⟨xn.cell 0, trivial⟩ (fun hHeld => ?_)
  clear hK K
  try simp only [List.getElem_toArray, List.getElem_cons_zero, List.getElem_cons_succ, Act.put, List.setIfInBounds_toArray, List.set_cons_zero, List.set_cons_succ]
  clear Wab
  clear hHeld
  refine wpAnyH_ready (rs := [9]) (by kernel_rfl) (by simp) ?_
  refine AllReadyH.cons rfl (fun K hK => ?_) AllReadyH.nil
  have KEY := Lib.hid (show HB ((Waba.setCell ⟨q, 0, none⟩ (.int .u64 bh)).setCell ⟨q, 1, none⟩ (.int .u64 bl)) q 25 #[.int .u64 bh, .int .u64 bl] ∧ Below w.heap.size w ((Waba.setCell ⟨q, 0, none⟩ (.int .u64 bh)).setCell ⟨q, 1, none⟩ (.int .u64 bl)) ∧ HB ((Waba.setCell ⟨q, 0, none⟩ (.int .u64 bh)).setCell ⟨q, 1, none⟩ (.int .u64 bl)) w.heap.size 28 #[.bool ng, .int .u8 c, .int .i64 ne, .int .u64 nh, .int .u64 nl] ∧ HB ((Waba.setCell ⟨q, 0, none⟩ (.int .u64 bh)).setCell ⟨q, 1, none⟩ (.int .u64 bl)) (w.heap.size + 1) 25 #[.int .u64 0, .int .u64 0] from ⟨(xq.set 0 _).set 1 _, (kk.setCell (p := ⟨q, 0, none⟩) (by show w.heap.size ≤ q; omega) _).setCell (p := ⟨q, 1, none⟩) (by show w.heap.size ≤ q; omega) _, (xn.other (by omega) _ _).other (by omega) _ _, (xr.other (by omega) _ _).other (by omega) _ _⟩)
  have z0 := xq.cell 0; have z1 := xq.cell 1; have y0 := xq.frozen 0; have y1 := xq.frozen 1; have yl := xq.lt; dsimp at z0 z1
  go_simp
  obtain ⟨k1, k2, k3, k4⟩ := KEY.out
  refine hK.out _ _ ⟨k3.cell 0, trivial⟩ (fun hHeld => ?_)
  clear hK K z0 z1 y0 y1 yl KEY xq kk xn xr
  try simp only [List.getElem_toArray, List.getElem_cons_zero, List.getElem_cons_succ, Act.put, List.setIfInBounds_toArray, List.set_cons_zero, List.set_cons_succ]
  refine wpAnyH_done (by kernel_rfl) ?_ _
  refine NoPanic.normal ?_
  clear hHeld
  generalize ((Waba.setCell ⟨q, 0, none⟩ (.int .u64 bh)).setCell ⟨q, 1, none⟩ (.int .u64 bl)) = V at *
  clear Waba
  revert V
  revert hq
  revert q
  revert v2
  exact ?rest
  go_simp
  have ha := bA (Below.refl _ W) (.cells #[.int .u64 0, .int .u64 0] 25)
  have hq : w.heap.size + 2 ≤ W.heap.size := by have := xr.lt; omega
  have xq := HB.new W 25 #[.int .u64 0, .int .u64 0]
  have n8x := n8.later ha; clear n8
  replace kk := bC kk ha; replace xn := xn.later ha; replace xr := xr.later ha
  clear ha
  refine hK.out _ _ ⟨xn.cell 0, trivial⟩ (fun hHeld => ?_)
  clear hK K
  generalize W.alloc (.cells #[.int .u64 0, .int .u64 0] 25) = Wb at *
  generalize W.heap.size = q at *
  try simp only [List.getElem_toArray, List.getElem_cons_zero, List.getElem_cons_succ, Act.put, List.setIfInBounds_toArray, List.set_cons_zero, List.set_cons_succ]
  clear W
  clear hHeld
  refine wpAnyH_ready (rs := [6]) (by kernel_rfl) (by simp) ?_
  refine AllReadyH.cons rfl (fun K hK => ?_) AllReadyH.nil
  go_simp
  (with_reducible refine (shr_num n8x off HO.out).mono ?_); rintro e Wba ⟨v2, rfl, n2, hb⟩
  replace kk := bC kk hb; replace xn := xn.later hb; replace xr := xr.later hb
  replace xq := xq.later hb
  rw [HQ] at n2
  clear hb n8x
  refine hK.out _ _ ⟨xn.cell 0, trivial⟩ (fun hHeld => ?_)
  clear hK K
  try simp only [List.getElem_toArray, List.getElem_cons_zero, List.getElem_cons_succ, Act.put, List.setIfInBounds_toArray, List.set_cons_zero, List.set_cons_succ]
  clear Wb
  clear hHeld
  refine wpAnyH_ready (rs := [7]) (by kernel_rfl) (by simp) ?_
  refine AllReadyH.cons rfl (fun K hK => ?_) AllReadyH.nil
  go_simp
  (with_reducible refine (MK.out _ _ n2).mono ?_); rintro e Wbaa ⟨rfl, hb⟩
  replace kk := bC kk hb; replace xn := xn.later hb; replace xr := xr.later hb
  replace xq := xq.later hb
  clear hb n2
  refine hK.out _ _ ⟨xn.cell 0, trivial⟩ (fun hHeld => ?_)
  clear hK K
  try simp only [List.getElem_toArray, List.getElem_cons_zero, List.getElem_cons_succ, Act.put, List.setIfInBounds_toArray, List.set_cons_zero, List.set_cons_succ]
  clear Wba
  clear hHeld
  refine wpAnyH_ready (rs := [9]) (by kernel_rfl) (by simp) ?_
  refine AllReadyH.cons rfl (fun K hK => ?_) AllReadyH.nil
  have KEY := Lib.hid (show HB ((Wbaa.setCell ⟨q, 0, none⟩ (.int .u64 bh)).setCell ⟨q, 1, none⟩ (.int .u64 bl)) q 25 #[.int .u64 bh, .int .u64 bl] ∧ Below w.heap.size w ((Wbaa.setCell ⟨q, 0, none⟩ (.int .u64 bh)).setCell ⟨q, 1, none⟩ (.int .u64 bl)) ∧ HB ((Wbaa.setCell ⟨q, 0, none⟩ (.int .u64 bh)).setCell ⟨q, 1, none⟩ (.int .u64 bl)) w.heap.size 28 #[.bool ng, .int .u8 c, .int .i64 ne, .int .u64 nh, .int .u64 nl] ∧ HB ((Wbaa.setCell ⟨q, 0, none⟩ (.int .u64 bh)).setCell ⟨q, 1, none⟩ (.int .u64 bl)) (w.heap.size + 1) 25 #[.int .u64 0, .int .u64 0] from ⟨(xq.set 0 _).set 1 _, (kk.setCell (p := ⟨q, 0, none⟩) (by show w.heap.size ≤ q; omega) _).setCell (p := ⟨q, 1, none⟩) (by show w.heap.size ≤ q; omega) _, (xn.other (by omega) _ _).other (by omega) _ _, (xr.other (by omega) _ _).other (by omega) _ _⟩)
  have z0 := xq.cell 0; have z1 := xq.cell 1; have y0 := xq.frozen 0; have y1 := xq.frozen 1; have yl := xq.lt; dsimp at z0 z1
  go_simp
  obtain ⟨k1, k2, k3, k4⟩ := KEY.out
  refine hK.out _ _ ⟨k3.cell 0, trivial⟩ (fun hHeld => ?_)
  clear hK K z0 z1 y0 y1 yl KEY xq kk xn xr
  try simp only [List.getElem_toArray, List.getElem_cons_zero, List.getElem_cons_succ, Act.put, List.setIfInBounds_toArray, List.set_cons_zero, List.set_cons_succ]
  refine wpAnyH_done (by kernel_rfl) ?_ _
  refine NoPanic.normal ?_
  clear hHeld
  generalize ((Wbaa.setCell ⟨q, 0, none⟩ (.int .u64 bh)).setCell ⟨q, 1, none⟩ (.int .u64 bl)) = V at *
  clear Wbaa
  revert V
  revert hq
  revert q
  revert v2
  exact ?rest
  case rest =>
    intro v2 q hq V k1 k2 k3 k4
    have q0 := k1.cell 0; have q1 := k1.cell 1; have ql := k1.lt; dsimp at q0 q1
    go_wp2_with fail
    (with_reducible refine (UN.out _).mono ?_); rintro e w5 ⟨rfl, hb⟩
    replace k1 := k1.later hb; replace k2 := bC k2 hb; replace k3 := k3.later hb; replace k4 := k4.later hb
    clear hb q0 q1 ql
    have q0 := k1.cell 0; have q1 := k1.cell 1; have ql := k1.lt; have c0 := k3.cell 0; have c1 := k3.cell 1; have c2 := k3.cell 2; have c3_ := k3.cell 3; have c4 := k3.cell 4; have cl := k3.lt; dsimp at q0 q1 c0 c1 c2 c3_ c4
    have KEY : Hid (HB (((w5.setCell ⟨w.heap.size + 1, 0, none⟩ (.int .u64 0)).setCell ⟨w.heap.size + 1, 1, none⟩ (.int .u64 0)).alloc (.cells #[.bool ng, .int .u8 mc, .int .i64 me, .int .u64 mh, .int .u64 ml] 28)) (w.heap.size + 1) 25 #[.int .u64 0, .int .u64 0] ∧ Below w.heap.size w (((w5.setCell ⟨w.heap.size + 1, 0, none⟩ (.int .u64 0)).setCell ⟨w.heap.size + 1, 1, none⟩ (.int .u64 0)).alloc (.cells #[.bool ng, .int .u8 mc, .int .i64 me, .int .u64 mh, .int .u64 ml] 28))) := Lib.hid ⟨((k4.set 0 _).set 1 _).alloc _, bA ((k2.setCell (p := ⟨w.heap.size + 1, 0, none⟩) (by simp) _).setCell (p := ⟨w.heap.size + 1, 1, none⟩) (by simp) _) _⟩
    have z0 := k4.cell 0; have z1 := k4.cell 1; have y0 := k4.frozen 0; have y1 := k4.frozen 1; have yl := k4.lt; dsimp at z0 z1
    clear k1 k2 k3 k4
    go_wp2_with fail
    obtain ⟨hE, kb⟩ := KEY.out
    have e0 := hE.cell 0; have e1 := hE.cell 1; dsimp at e0 e1
    refine bodyPost_ret (v := .tuple #[.agg #[.int .u64 0, .int .u64 0], .bool false]) ?_ rfl ⟨rfl, kb⟩
    clear KEY hE kb z0 z1 y0 y1 q0 q1 c0 c1 c2 c3_ c4
    simp [results, Tryd.results14, go_sem, e0, e1]

set_option maxHeartbeats 4000000 in
set_option maxRecDepth 100000 in
theorem ref9_pack_sub_sig (f c ne nh nl p em x1 x2 x3 S fl o1 o2 Q bh bl mc mh ml : Int) (ng : Bool)
    (g3 : decide (3 < f) = false) (gc : decide (3 < c) = false) (cz : (c == 0) = false) (c3 : (c == 3) = false)
    (PF : Hid (∀ w, Calls Tryd.prog 39 #[.int .u8 f] w fun e w' => e = .returned (.int .i64 p) ∧ w = w'))
    (EF : Hid (∀ w, Calls Tryd.prog 40 #[.int .u8 f] w fun e w' => e = .returned (.int .i64 em) ∧ w = w')) (d1 : decide (em < ne) = false) (w1_ : IntKind.i64.wrap (1 - em) = x1) (w2_ : IntKind.i64.wrap (p - 1) = x2) (w3_ : IntKind.i64.wrap (x1 - x2) = x3) (d2 : decide (ne < x3) = false) (BN : Hid (∀ w, Calls Tryd.prog 41 #[.agg #[.int .u64 nh, .int .u64 nl]] w (RetNum w S))) (w4_ : IntKind.i64.wrap (ne + em) = fl) (off : Nat) (w5_ : IntKind.i64.wrap (128 - p) = o1) (d3 : decide (fl < 1) = true) (w6_ : IntKind.i64.wrap (o1 + 1) = o2) (w7_ : IntKind.i64.wrap (o2 - fl) = (off : Int))
    (HO : Hid ((off : Int) ≤ 9223372036854775807)) (HQ : S / 2 ^ off = Q) (MK : Hid (∀ w v, IsNum w v Q → Calls Tryd.prog 37 #[.int .u8 f, .bool ng, .int .i64 0, v] w fun e w' => e = .returned (.agg #[.int .u64 (bh), .int .u64 (bl)]) ∧ Below w.heap.size w w'))
    (UN : Hid (∀ w, Calls Tryd.prog 11 #[.int .u8 f, .agg #[.int .u64 (bh), .int .u64 (bl)]] w fun e w' => e = .returned (.agg #[.bool ng, .int .u8 mc, .int .i64 ne, .int .u64 mh, .int .u64 ml]) ∧ Below w.heap.size w w')) (t2 : ∀ w, (binOp .neq 25 (.agg #[.int .u64 mh, .int .u64 ml]) (.agg #[.int .u64 nh, .int .u64 nl])).run Tryd.prog w = .ok (.bool true) w) (w : World) :
    Calls Tryd.prog 14 #[.int .u8 f, .agg #[.bool ng, .int .u8 c, .int .i64 ne, .int .u64 nh, .int .u64 nl]] w fun e w' => e = .returned (.tuple #[.agg #[.int .u64 0, .int .u64 0], .bool false]) ∧ Below w.heap.size w w' := by
  go_enter Tryd.func14, Tryd.ntmps14
  go_wp2_with fail
  (with_reducible refine (PF.out _).mono ?_); rintro e wz ⟨rfl, rfl⟩
  go_wp2_with fail
  (with_reducible refine (EF.out _).mono ?_); rintro e wz ⟨rfl, rfl⟩
  go_wp2_with fail
  (with_reducible refine (BN.out _).mono ?_); rintro e w1 ⟨v8, rfl, n8, hb⟩
  have kk := bC (bA (bA (Below.refl _ _) _) _) hb
  have xn : HB w1 w.heap.size 28 #[.bool ng, .int .u8 c, .int .i64 ne, .int .u64 nh, .int .u64 nl] := ((HB.new w _ _).alloc _).later hb
  have xr : HB w1 (w.heap.size + 1) 25 #[.int .u64 0, .int .u64 0] := (HB.newAt (by simp) _ _).later hb
  have c0 := xn.cell 0; have c1 := xn.cell 1; have c2 := xn.cell 2; have c3_ := xn.cell 3; have c4 := xn.cell 4; have cl := xn.lt; dsimp at c0 c1 c2 c3_ c4
  clear hb
  go_wp2_with fail
  clear c1 c2 c3_ c4 cl
  refine wp_region_noPanic ?_
  refine wp_region_held_drew (S := fun w' => w'.cell? ⟨w.heap.size, 0, none⟩ = some (.bool ng) ∧ True) (by kernel_rfl) ⟨cell_later (Below.refl _ _).drew c0, trivial⟩ (fun hHeld => ?_)
  replace kk := bC kk (Below.refl _ _).drew; replace xn := xn.later (Below.refl _ _).drew; replace xr := xr.later (Below.refl _ _).drew; replace n8 := n8.later (Below.refl _ _).drew; clear c0
  generalize w1.drew = W at *; clear w1
  refine wpAnyH_take (i := 0) (v := ?vq7) rfl (by kernel_rfl) (by kernel_rfl) (by kernel_rfl) (fun _ _ _ h => h) (Or.inl ⟨by rfl, ?yq7⟩) hHeld ?rq7
  case yq7 => (intro wq hb; obtain ⟨lq0, _⟩ := hb; go_simp; try (with_reducible rfl))
  try simp only [List.getElem_toArray, List.getElem_cons_zero, List.getElem_cons_succ, Act.put, List.setIfInBounds_toArray, List.set_cons_zero, List.set_cons_succ]
  refine wpAnyH_take (i := 1) (v := ?vq8) rfl (by kernel_rfl) (by kernel_rfl) (by kernel_rfl) (fun _ _ _ h => h) (Or.inl ⟨by rfl, ?yq8⟩) hHeld ?rq8
  case yq8 => (intro wq hb; obtain ⟨lq0, _⟩ := hb; go_simp; try (with_reducible rfl))
  try simp only [List.getElem_toArray, List.getElem_cons_zero, List.getElem_cons_succ, Act.put, List.setIfInBounds_toArray, List.set_cons_zero, List.set_cons_succ]
  refine wpAnyH_take (i := 2) (v := ?vq9) rfl (by kernel_rfl) (by kernel_rfl) (by kernel_rfl) (fun _ _ _ h => h) (Or.inl ⟨by rfl, ?yq9⟩) hHeld ?rq9
  case yq9 => (intro wq hb; obtain ⟨lq0, _⟩ := hb; go_simp; try (with_reducible rfl))
  try simp only [List.getElem_toArray, List.getElem_cons_zero, List.getElem_cons_succ, Act.put, List.setIfInBounds_toArray, List.set_cons_zero, List.set_cons_succ]
  refine wpAnyH_take (i := 3) (v := ?vq10) rfl (by kernel_rfl) (by kernel_rfl) (by kernel_rfl) (fun _ _ _ h => h) (Or.inl ⟨by rfl, ?yq10⟩) hHeld ?rq10
  case yq10 => (intro wq hb; obtain ⟨lq0, _⟩ := hb; go_simp; try (with_reducible rfl))
  try simp only [List.getElem_toArray, List.getElem_cons_zero, List.getElem_cons_succ, Act.put, List.setIfInBounds_toArray, List.set_cons_zero, List.set_cons_succ]
  refine wpAnyH_take (i := 4) (v := ?vq11) rfl (by kernel_rfl) (by kernel_rfl) (by kernel_rfl) (fun _ _ _ h => h) (Or.inl ⟨by rfl, ?yq11⟩) hHeld ?rq11
  case yq11 => (intro wq hb; obtain ⟨lq0, _⟩ := hb; go_simp; try (with_reducible rfl))
  try simp only [List.getElem_toArray, List.getElem_cons_zero, List.getElem_cons_succ, Act.put, List.setIfInBounds_toArray, List.set_cons_zero, List.set_cons_succ]
  refine wpAnyH_take (i := 5) (v := ?vq12) rfl (by kernel_rfl) (by kernel_rfl) (by kernel_rfl) (fun _ _ _ h => h) (Or.inl ⟨by rfl, ?yq12⟩) hHeld ?rq12
  case yq12 => (intro wq hb; obtain ⟨lq0, _⟩ := hb; go_simp; try (with_reducible rfl))
  try simp only [List.getElem_toArray, List.getElem_cons_zero, List.getElem_cons_succ, Act.put, List.setIfInBounds_toArray, List.set_cons_zero, List.set_cons_succ]
  clear hHeld
  refine wpAnyH_ready (rs := [6, 8]) (by kernel_rfl) (by simp) ?_
  refine AllReadyH.cons rfl (fun K hK => ?_) (AllReadyH.cons rfl (fun K hK => ?_) AllReadyH.nil)
  go_simp
  (with_reducible refine (shr_num n8 off HO.out).mono ?_); rintro e Wa ⟨v2, rfl, n2, hb⟩
  replace kk := bC kk hb; replace xn := xn.later hb; replace xr := xr.later hb
  rw [HQ] at n2
  clear hb n8
  refine hK.out _ _ ⟨xn.cell 0, trivial⟩ (fun hHeld => ?_)
  clear hK K
  try simp only [List.getElem_toArray, List.getElem_cons_zero, List.getElem_cons_succ, Act.put, List.setIfInBounds_toArray, List.set_cons_zero, List.set_cons_succ]
  clear W
  clear hHeld
  refine wpAnyH_ready (rs := [7, 8]) (by kernel_rfl) (by simp) ?_
  refine AllReadyH.cons rfl (fun K hK => ?_) (AllReadyH.cons rfl (fun K hK => ?_) AllReadyH.nil)
  go_simp
  (with_reducible refine (MK.out _ _ n2).mono ?_); rintro e Waa ⟨rfl, hb⟩
  replace kk := bC kk hb; replace xn := xn.later hb; replace xr := xr.later hb
  clear hb n2
  refine hK.out _ _ ⟨xn.cell 0, trivial⟩ (fun hHeld => ?_)
  clear hK K
  try simp only [List.getElem_toArray, List.getElem_cons_zero, List.getElem_cons_succ, Act.put, List.setIfInBounds_toArray, List.set_cons_zero, List.set_cons_succ]
  clear Wa
  clear hHeld
  refine wpAnyH_ready (rs := [8]) (by kernel_rfl) (by simp) ?_
  refine AllReadyH.cons rfl (fun K hK => ?_) AllReadyH.nil
  go_simp
  have ha := bA (Below.refl _ Waa) (.cells #[.int .u64 0, .int .u64 0] 25)
  have hq : w.heap.size + 2 ≤ Waa.heap.size := by have := xr.lt; omega
  have xq := HB.new Waa 25 #[.int .u64 0, .int .u64 0]
  replace kk := bC kk ha; replace xn := xn.later ha; replace xr := xr.later ha
  clear ha
  refine hK.out _ _ ⟨xn.cell 0, trivial⟩ (fun hHeld => ?_)
  clear hK K
  generalize Waa.alloc (.cells #[.int .u64 0, .int .u64 0] 25) = Waab at *
  generalize Waa.heap.size = q at *
  try simp only [List.getElem_toArray, List.getElem_cons_zero, List.getElem_cons_succ, Act.put, List.setIfInBounds_toArray, List.set_cons_zero, List.set_cons_succ]
  clear Waa
  clear hHeld
  refine wpAnyH_ready (rs := [9]) (by kernel_rfl) (by simp) ?_
  refine AllReadyH.cons rfl (fun K hK => ?_) AllReadyH.nil
  have KEY := Lib.hid (show HB ((Waab.setCell ⟨q, 0, none⟩ (.int .u64 bh)).setCell ⟨q, 1, none⟩ (.int .u64 bl)) q 25 #[.int .u64 bh, .int .u64 bl] ∧ Below w.heap.size w ((Waab.setCell ⟨q, 0, none⟩ (.int .u64 bh)).setCell ⟨q, 1, none⟩ (.int .u64 bl)) ∧ HB ((Waab.setCell ⟨q, 0, none⟩ (.int .u64 bh)).setCell ⟨q, 1, none⟩ (.int .u64 bl)) w.heap.size 28 #[.bool ng, .int .u8 c, .int .i64 ne, .int .u64 nh, .int .u64 nl] ∧ HB ((Waab.setCell ⟨q, 0, none⟩ (.int .u64 bh)).setCell ⟨q, 1, none⟩ (.int .u64 bl)) (w.heap.size + 1) 25 #[.int .u64 0, .int .u64 0] from ⟨(xq.set 0 _).set 1 _, (kk.setCell (p := ⟨q, 0, none⟩) (by show w.heap.size ≤ q; omega) _).setCell (p := ⟨q, 1, none⟩) (by show w.heap.size ≤ q; omega) _, (xn.other (by omega) _ _).other (by omega) _ _, (xr.other (by omega) _ _).other (by omega) _ _⟩)
  have z0 := xq.cell 0; have z1 := xq.cell 1; have y0 := xq.frozen 0; have y1 := xq.frozen 1; have yl := xq.lt; dsimp at z0 z1
  go_simp
  obtain ⟨k1, k2, k3, k4⟩ := KEY.out
  refine hK.out _ _ ⟨k3.cell 0, trivial⟩ (fun hHeld => ?_)
  clear hK K z0 z1 y0 y1 yl KEY xq kk xn xr
  try simp only [List.getElem_toArray, List.getElem_cons_zero, List.getElem_cons_succ, Act.put, List.setIfInBounds_toArray, List.set_cons_zero, List.set_cons_succ]
  refine wpAnyH_done (by kernel_rfl) ?_ _
  refine NoPanic.normal ?_
  clear hHeld
  generalize ((Waab.setCell ⟨q, 0, none⟩ (.int .u64 bh)).setCell ⟨q, 1, none⟩ (.int .u64 bl)) = V at *
  clear Waab
  revert V
  revert hq
  revert q
  revert v2
  refine ?rest
  rotate_left
  go_simp
  have ha := bA (Below.refl _ Wa) (.cells #[.int .u64 0, .int .u64 0] 25)
  have hq : w.heap.size + 2 ≤ Wa.heap.size := by have := xr.lt; omega
  have xq := HB.new Wa 25 #[.int .u64 0, .int .u64 0]
  have n2x := n2.later ha; clear n2
  replace kk := bC kk ha; replace xn := xn.later ha; replace xr := xr.later ha
  clear ha
  refine hK.out _ _ ⟨xn.cell 0, trivial⟩ (fun hHeld => ?_)
  clear hK K
  generalize Wa.alloc (.cells #[.int .u64 0, .int .u64 0] 25) = Wab at *
  generalize Wa.heap.size = q at *
  try simp only [List.getElem_toArray, List.getElem_cons_zero, List.getElem_cons_succ, Act.put, List.setIfInBounds_toArray, List.set_cons_zero, List.set_cons_succ]
  clear Wa
  clear hHeld
  refine wpAnyH_ready (rs := [7]) (by kernel_rfl) (by simp) ?_
  refine AllReadyH.cons rfl (fun K hK => ?_) AllReadyH.nil
  go_simp
  (with_reducible refine (MK.out _ _ n2x).mono ?_); rintro e Waba ⟨rfl, hb⟩
  replace kk := bC kk hb; replace xn := xn.later hb; replace xr := xr.later hb
  replace xq := xq.later hb
  clear hb n2x
  refine hK.out _ _ ⟨xn.cell 0, trivial⟩ (fun hHeld => ?_)
  clear hK K
  try simp only [List.getElem_toArray, List.getElem_cons_zero, List.getElem_cons_succ, Act.put, List.setIfInBounds_toArray, List.set_cons_zero, List.set_cons_succ]
  clear Wab
  clear hHeld
  refine wpAnyH_ready (rs := [9]) (by kernel_rfl) (by simp) ?_
  refine AllReadyH.cons rfl (fun K hK => ?_) AllReadyH.nil
  have KEY := Lib.hid (show HB ((Waba.setCell ⟨q, 0, none⟩ (.int .u64 bh)).setCell ⟨q, 1, none⟩ (.int .u64 bl)) q 25 #[.int .u64 bh, .int .u64 bl] ∧ Below w.heap.size w ((Waba.setCell ⟨q, 0, none⟩ (.int .u64 bh)).setCell ⟨q, 1, none⟩ (.int .u64 bl)) ∧ HB ((Waba.setCell ⟨q, 0, none⟩ (.int .u64 bh)).setCell ⟨q, 1, none⟩ (.int .u64 bl)) w.heap.size 28 #[.bool ng, .int .u8 c, .int .i64 ne, .int .u64 nh, .int .u64 nl] ∧ HB ((Waba.setCell ⟨q, 0, none⟩ (.int .u64 bh)).setCell ⟨q, 1, none⟩ (.int .u64 bl)) (w.heap.size + 1) 25 #[.int .u64 0, .int .u64 0] from ⟨(xq.set 0 _).set 1 _, (kk.setCell (p := ⟨q, 0, none⟩) (by show w.heap.size ≤ q; omega) _).setCell (p := ⟨q, 1, none⟩) (by show w.heap.size ≤ q; omega) _, (xn.other (by omega) _ _).other (by omega) _ _, (xr.other (by omega) _ _).other (by omega) _ _⟩)
  have z0 := xq.cell 0; have z1 := xq.cell 1; have y0 := xq.frozen 0; have y1 := xq.frozen 1; have yl := xq.lt; dsimp at z0 z1
  go_simp
  obtain ⟨k1, k2, k3, k4⟩ := KEY.out
  refine hK.out _ _ ⟨k3.cell 0, trivial⟩ (fun hHeld => ?_)
  clear hK K z0 z1 y0 y1 yl KEY xq kk xn xr
  try simp only [List.getElem_toArray, List.getElem_cons_zero, List.getElem_cons_succ, Act.put, List.setIfInBounds_toArray, List.set_cons_zero, List.set_cons_succ]
  refine wpAnyH_done (by kernel_rfl) ?_ _
  refine NoPanic.normal ?_
  clear hHeld
  generalize ((Waba.setCell ⟨q, 0, none⟩ (.int .u64 bh)).setCell ⟨q, 1, none⟩ (.int .u64 bl)) = V at *
  clear Waba
  revert V
  revert hq
  revert q
  revert v2
  exact ?rest
  go_simp
  have ha := bA (Below.refl _ W) (.cells #[.int .u64 0, .int .u64 0] 25)
  have hq : w.heap.size + 2 ≤ W.heap.size := by have := xr.lt; omega
  have xq := HB.new W 25 #[.int .u64 0, .int .u64 0]
  have n8x := n8.later ha; clear n8
  replace kk := bC kk ha; replace xn := xn.later ha; replace xr := xr.later ha
  clear ha
  refine hK.out _ _ ⟨xn.cell 0, trivial⟩ (fun hHeld => ?_)
  clear hK K
  generalize W.alloc (.cells #[.int .u64 0, .int .u64 0] 25) = Wb at *
  generalize W.heap.size = q at *
  try simp only [List.getElem_toArray, List.getElem_cons_zero, List.getElem_cons_succ, Act.put, List.setIfInBounds_toArray, List.set_cons_zero, List.set_cons_succ]
  clear W
  clear hHeld
  refine wpAnyH_ready (rs := [6]) (by kernel_rfl) (by simp) ?_
  refine AllReadyH.cons rfl (fun K hK => ?_) AllReadyH.nil
  go_simp
  (with_reducible refine (shr_num n8x off HO.out).mono ?_); rintro e Wba ⟨v2, rfl, n2, hb⟩
  replace kk := bC kk hb; replace xn := xn.later hb; replace xr := xr.later hb
  replace xq := xq.later hb
  rw [HQ] at n2
  clear hb n8x
  refine hK.out _ _ ⟨xn.cell 0, trivial⟩ (fun hHeld => ?_)
  clear hK K
  try simp only [List.getElem_toArray, List.getElem_cons_zero, List.getElem_cons_succ, Act.put, List.setIfInBounds_toArray, List.set_cons_zero, List.set_cons_succ]
  clear Wb
  clear hHeld
  refine wpAnyH_ready (rs := [7]) (by kernel_rfl) (by simp) ?_
  refine AllReadyH.cons rfl (fun K hK => ?_) AllReadyH.nil
  go_simp
  (with_reducible refine (MK.out _ _ n2).mono ?_); rintro e Wbaa ⟨rfl, hb⟩
  replace kk := bC kk hb; replace xn := xn.later hb; replace xr := xr.later hb
  replace xq := xq.later hb
  clear hb n2
  refine hK.out _ _ ⟨xn.cell 0, trivial⟩ (fun hHeld => ?_)
  clear hK K
  try simp only [List.getElem_toArray, List.getElem_cons_zero, List.getElem_cons_succ, Act.put, List.setIfInBounds_toArray, List.set_cons_zero, List.set_cons_succ]
  clear Wba
  clear hHeld
  refine wpAnyH_ready (rs := [9]) (by kernel_rfl) (by simp) ?_
  refine AllReadyH.cons rfl (fun K hK => ?_) AllReadyH.nil
  have KEY := Lib.hid (show HB ((Wbaa.setCell ⟨q, 0, none⟩ (.int .u64 bh)).setCell ⟨q, 1, none⟩ (.int .u64 bl)) q 25 #[.int .u64 bh, .int .u64 bl] ∧ Below w.heap.size w ((Wbaa.setCell ⟨q, 0, none⟩ (.int .u64 bh)).setCell ⟨q, 1, none⟩ (.int .u64 bl)) ∧ HB ((Wbaa.setCell ⟨q, 0, none⟩ (.int .u64 bh)).setCell ⟨q, 1, none⟩ (.int .u64 bl)) w.heap.size 28 #[.bool ng, .int .u8 c, .int .i64 ne, .int .u64 nh, .int .u64 nl] ∧ HB ((Wbaa.setCell ⟨q, 0, none⟩ (.int .u64 bh)).setCell ⟨q, 1, none⟩ (.int .u64 bl)) (w.heap.size + 1) 25 #[.int .u64 0, .int .u64 0] from ⟨(xq.set 0 _).set 1 _, (kk.setCell (p := ⟨q, 0, none⟩) (by show w.heap.size ≤ q; omega) _).setCell (p := ⟨q, 1, none⟩) (by show w.heap.size ≤ q; omega) _, (xn.other (by omega) _ _).other (by omega) _ _, (xr.other (by omega) _ _).other (by omega) _ _⟩)
  have z0 := xq.cell 0; have z1 := xq.cell 1; have y0 := xq.frozen 0; have y1 := xq.frozen 1; have yl := xq.lt; dsimp at z0 z1
  go_simp
  obtain ⟨k1, k2, k3, k4⟩ := KEY.out
  refine hK.out _ _ ⟨k3.cell 0, trivial⟩ (fun hHeld => ?_)
  clear hK K z0 z1 y0 y1 yl KEY xq kk xn xr
  try simp only [List.getElem_toArray, List.getElem_cons_zero, List.getElem_cons_succ, Act.put, List.setIfInBounds_toArray, List.set_cons_zero, List.set_cons_succ]
  refine wpAnyH_done (by kernel_rfl) ?_ _
  refine NoPanic.normal ?_
  clear hHeld
  generalize ((Wbaa.setCell ⟨q, 0, none⟩ (.int .u64 bh)).setCell ⟨q, 1, none⟩ (.int .u64 bl)) = V at *
  clear Wbaa
  revert V
  revert hq
  revert q
  revert v2
  exact ?rest
  case rest =>
    intro v2 q hq V k1 k2 k3 k4
    have q0 := k1.cell 0; have q1 := k1.cell 1; have ql := k1.lt; dsimp at q0 q1
    go_wp2_with fail
    (with_reducible refine (UN.out _).mono ?_); rintro e w5 ⟨rfl, hb⟩
    replace k1 := k1.later hb; replace k2 := bC k2 hb; replace k3 := k3.later hb; replace k4 := k4.later hb
    clear hb q0 q1 ql
    have q0 := k1.cell 0; have q1 := k1.cell 1; have ql := k1.lt; have c0 := k3.cell 0; have c1 := k3.cell 1; have c2 := k3.cell 2; have c3_ := k3.cell 3; have c4 := k3.cell 4; have cl := k3.lt; dsimp at q0 q1 c0 c1 c2 c3_ c4
    have KEY : Hid (HB (((w5.setCell ⟨w.heap.size + 1, 0, none⟩ (.int .u64 0)).setCell ⟨w.heap.size + 1, 1, none⟩ (.int .u64 0)).alloc (.cells #[.bool ng, .int .u8 mc, .int .i64 ne, .int .u64 mh, .int .u64 ml] 28)) (w.heap.size + 1) 25 #[.int .u64 0, .int .u64 0] ∧ Below w.heap.size w (((w5.setCell ⟨w.heap.size + 1, 0, none⟩ (.int .u64 0)).setCell ⟨w.heap.size + 1, 1, none⟩ (.int .u64 0)).alloc (.cells #[.bool ng, .int .u8 mc, .int .i64 ne, .int .u64 mh, .int .u64 ml] 28))) := Lib.hid ⟨((k4.set 0 _).set 1 _).alloc _, bA ((k2.setCell (p := ⟨w.heap.size + 1, 0, none⟩) (by simp) _).setCell (p := ⟨w.heap.size + 1, 1, none⟩) (by simp) _) _⟩
    have z0 := k4.cell 0; have z1 := k4.cell 1; have y0 := k4.frozen 0; have y1 := k4.frozen 1; have yl := k4.lt; dsimp at z0 z1
    clear k1 k2 k3 k4
    go_wp2_with fail
    obtain ⟨hE, kb⟩ := KEY.out
    have e0 := hE.cell 0; have e1 := hE.cell 1; dsimp at e0 e1
    refine bodyPost_ret (v := .tuple #[.agg #[.int .u64 0, .int .u64 0], .bool false]) ?_ rfl ⟨rfl, kb⟩
    clear KEY hE kb z0 z1 y0 y1 q0 q1 c0 c1 c2 c3_ c4
    simp [results, Tryd.results14, go_sem, e0, e1]

set_option maxHeartbeats 4000000 in
set_option maxRecDepth 100000 in
theorem ref9_pack_sub_ok (f c ne nh nl p em x1 x2 x3 S fl o1 o2 Q bh bl mc : Int) (ng : Bool)
    (g3 : decide (3 < f) = false) (gc : decide (3 < c) = false) (cz : (c == 0) = false) (c3 : (c == 3) = false)
    (PF : Hid (∀ w, Calls Tryd.prog 39 #[.int .u8 f] w fun e w' => e = .returned (.int .i64 p) ∧ w = w'))
    (EF : Hid (∀ w, Calls Tryd.prog 40 #[.int .u8 f] w fun e w' => e = .returned (.int .i64 em) ∧ w = w')) (d1 : decide (em < ne) = false) (w1_ : IntKind.i64.wrap (1 - em) = x1) (w2_ : IntKind.i64.wrap (p - 1) = x2) (w3_ : IntKind.i64.wrap (x1 - x2) = x3) (d2 : decide (ne < x3) = false) (BN : Hid (∀ w, Calls Tryd.prog 41 #[.agg #[.int .u64 nh, .int .u64 nl]] w (RetNum w S))) (w4_ : IntKind.i64.wrap (ne + em) = fl) (off : Nat) (w5_ : IntKind.i64.wrap (128 - p) = o1) (d3 : decide (fl < 1) = true) (w6_ : IntKind.i64.wrap (o1 + 1) = o2) (w7_ : IntKind.i64.wrap (o2 - fl) = (off : Int))
    (HO : Hid ((off : Int) ≤ 9223372036854775807)) (HQ : S / 2 ^ off = Q) (MK : Hid (∀ w v, IsNum w v Q → Calls Tryd.prog 37 #[.int .u8 f, .bool ng, .int .i64 0, v] w fun e w' => e = .returned (.agg #[.int .u64 (bh), .int .u64 (bl)]) ∧ Below w.heap.size w w'))
    (UN : Hid (∀ w, Calls Tryd.prog 11 #[.int .u8 f, .agg #[.int .u64 (bh), .int .u64 (bl)]] w fun e w' => e = .returned (.agg #[.bool ng, .int .u8 mc, .int .i64 ne, .int .u64 nh, .int .u64 nl]) ∧ Below w.heap.size w w')) (t2 : ∀ w, (binOp .neq 25 (.agg #[.int .u64 nh, .int .u64 nl]) (.agg #[.int .u64 nh, .int .u64 nl])).run Tryd.prog w = .ok (.bool false) w) (w : World) :
    Calls Tryd.prog 14 #[.int .u8 f, .agg #[.bool ng, .int .u8 c, .int .i64 ne, .int .u64 nh, .int .u64 nl]] w fun e w' => e = .returned (.tuple #[.agg #[.int .u64 bh, .int .u64 bl], .bool true]) ∧ Below w.heap.size w w' := by
  go_enter Tryd.func14, Tryd.ntmps14
  go_wp2_with fail
  (with_reducible refine (PF.out _).mono ?_); rintro e wz ⟨rfl, rfl⟩
  go_wp2_with fail
  (with_reducible refine (EF.out _).mono ?_); rintro e wz ⟨rfl, rfl⟩
  go_wp2_with fail
  (with_reducible refine (BN.out _).mono ?_); rintro e w1 ⟨v8, rfl, n8, hb⟩
  have kk := bC (bA (bA (Below.refl _ _) _) _) hb
  have xn : HB w1 w.heap.size 28 #[.bool ng, .int .u8 c, .int .i64 ne, .int .u64 nh, .int .u64 nl] := ((HB.new w _ _).alloc _).later hb
  have xr : HB w1 (w.heap.size + 1) 25 #[.int .u64 0, .int .u64 0] := (HB.newAt (by simp) _ _).later hb
  have c0 := xn.cell 0; have c1 := xn.cell 1; have c2 := xn.cell 2; have c3_ := xn.cell 3; have c4 := xn.cell 4; have cl := xn.lt; dsimp at c0 c1 c2 c3_ c4
  clear hb
  go_wp2_with fail
  clear c1 c2 c3_ c4 cl
  refine wp_region_noPanic ?_
  refine wp_region_held_drew (S := fun w' => w'.cell? ⟨w.heap.size, 0, none⟩ = some (.bool ng) ∧ True) (by kernel_rfl) ⟨cell_later (Below.refl _ _).drew c0, trivial⟩ (fun hHeld => ?_)
  replace kk := bC kk (Below.refl _ _).drew; replace xn := xn.later (Below.refl _ _).drew; replace xr := xr.later (Below.refl _ _).drew; replace n8 := n8.later (Below.refl _ _).drew; clear c0
  generalize w1.drew = W at *; clear w1
  refine wpAnyH_take (i := 0) (v := ?vq13) rfl (by kernel_rfl) (by kernel_rfl) (by kernel_rfl) (fun _ _ _ h => h) (Or.inl ⟨by rfl, ?yq13⟩) hHeld ?rq13
  case yq13 => (intro wq hb; obtain ⟨lq0, _⟩ := hb; go_simp; try (with_reducible rfl))
  try simp only [List.getElem_toArray, List.getElem_cons_zero, List.getElem_cons_succ, Act.put, List.setIfInBounds_toArray, List.set_cons_zero, List.set_cons_succ]
  refine wpAnyH_take (i := 1) (v := ?vq14) rfl (by kernel_rfl) (by kernel_rfl) (by kernel_rfl) (fun _ _ _ h => h) (Or.inl ⟨by rfl, ?yq14⟩) hHeld ?rq14
  case yq14 => (intro wq hb; obtain ⟨lq0, _⟩ := hb; go_simp; try (with_reducible rfl))
  try simp only [List.getElem_toArray, List.getElem_cons_zero, List.getElem_cons_succ, Act.put, List.setIfInBounds_toArray, List.set_cons_zero, List.set_cons_succ]
  refine wpAnyH_take (i := 2) (v := ?vq15) rfl (by kernel_rfl) (by kernel_rfl) (by kernel_rfl) (fun _ _ _ h => h) (Or.inl ⟨by rfl, ?yq15⟩) hHeld ?rq15
  case yq15 => (intro wq hb; obtain ⟨lq0, _⟩ := hb; go_simp; try (with_reducible rfl))
  try simp only [List.getElem_toArray, List.getElem_cons_zero, List.getElem_cons_succ, Act.put, List.setIfInBounds_toArray, List.set_cons_zero, List.set_cons_succ]
  refine wpAnyH_take (i := 3) (v := ?vq16) rfl (by kernel_rfl) (by kernel_rfl) (by kernel_rfl) (fun _ _ _ h => h) (Or.inl ⟨by rfl, ?yq16⟩) hHeld ?rq16
  case yq16 => (intro wq hb; obtain ⟨lq0, _⟩ := hb; go_simp; try (with_reducible rfl))
  try simp only [List.getElem_toArray, List.getElem_cons_zero, List.getElem_cons_succ, Act.put, List.setIfInBounds_toArray, List.set_cons_zero, List.set_cons_succ]
  refine wpAnyH_take (i := 4) (v := ?vq17) rfl (by kernel_rfl) (by kernel_rfl) (by kernel_rfl) (fun _ _ _ h => h) (Or.inl ⟨by rfl, ?yq17⟩) hHeld ?rq17
  case yq17 => (intro wq hb; obtain ⟨lq0, _⟩ := hb; go_simp; try (with_reducible rfl))
  try simp only [List.getElem_toArray, List.getElem_cons_zero, List.getElem_cons_succ, Act.put, List.setIfInBounds_toArray, List.set_cons_zero, List.set_cons_succ]
  refine wpAnyH_take (i := 5) (v := ?vq18) rfl (by kernel_rfl) (by kernel_rfl) (by kernel_rfl) (fun _ _ _ h => h) (Or.inl ⟨by rfl, ?yq18⟩) hHeld ?rq18
  case yq18 => (intro wq hb; obtain ⟨lq0, _⟩ := hb; go_simp; try (with_reducible rfl))
  try simp only [List.getElem_toArray, List.getElem_cons_zero, List.getElem_cons_succ, Act.put, List.setIfInBounds_toArray, List.set_cons_zero, List.set_cons_succ]
  clear hHeld
  refine wpAnyH_ready (rs := [6, 8]) (by kernel_rfl) (by simp) ?_
  refine AllReadyH.cons rfl (fun K hK => ?_) (AllReadyH.cons rfl (fun K hK => ?_) AllReadyH.nil)
  go_simp
  (with_reducible refine (shr_num n8 off HO.out).mono ?_); rintro e Wa ⟨v2, rfl, n2, hb⟩
  replace kk := bC kk hb; replace xn := xn.later hb; replace xr := xr.later hb
  rw [HQ] at n2
  clear hb n8
  refine hK.out _ _ ⟨xn.cell 0, trivial⟩ (fun hHeld => ?_)
  clear hK K
  try simp only [List.getElem_toArray, List.getElem_cons_zero, List.getElem_cons_succ, Act.put, List.setIfInBounds_toArray, List.set_cons_zero, List.set_cons_succ]
  clear W
  clear hHeld
  refine wpAnyH_ready (rs := [7, 8]) (by kernel_rfl) (by simp) ?_
  refine AllReadyH.cons rfl (fun K hK => ?_) (AllReadyH.cons rfl (fun K hK => ?_) AllReadyH.nil)
  go_simp
  (with_reducible refine (MK.out _ _ n2).mono ?_); rintro e Waa ⟨rfl, hb⟩
  replace kk := bC kk hb; replace xn := xn.later hb; replace xr := xr.later hb
  clear hb n2
  refine hK.out _ _ ⟨xn.cell 0, trivial⟩ (fun hHeld => ?_)
  clear hK K
  try simp only [List.getElem_toArray, List.getElem_cons_zero, List.getElem_cons_succ, Act.put, List.setIfInBounds_toArray, List.set_cons_zero, List.set_cons_succ]
  clear Wa
  clear hHeld
  refine wpAnyH_ready (rs := [8]) (by kernel_rfl) (by simp) ?_
  refine AllReadyH.cons rfl (fun K hK => ?_) AllReadyH.nil
  go_simp
  have ha := bA (Below.refl _ Waa) (.cells #[.int .u64 0, .int .u64 0] 25)
  have hq : w.heap.size + 2 ≤ Waa.heap.size := by have := xr.lt; omega
  have xq := HB.new Waa 25 #[.int .u64 0, .int .u64 0]
  replace kk := bC kk ha; replace xn := xn.later ha; replace xr := xr.later ha
  clear ha
  refine hK.out _ _ ⟨xn.cell 0, trivial⟩ (fun hHeld => ?_)
  clear hK K
  generalize Waa.alloc (.cells #[.int .u64 0, .int .u64 0] 25) = Waab at *
  generalize Waa.heap.size = q at *
  try simp only [List.getElem_toArray, List.getElem_cons_zero, List.getElem_cons_succ, Act.put, List.setIfInBounds_toArray, List.set_cons_zero, List.set_cons_succ]
  clear Waa
  clear hHeld
  refine wpAnyH_ready (rs := [9]) (by kernel_rfl) (by simp) ?_
  refine AllReadyH.cons rfl (fun K hK => ?_) AllReadyH.nil
  have KEY := Lib.hid (show HB ((Waab.setCell ⟨q, 0, none⟩ (.int .u64 bh)).setCell ⟨q, 1, none⟩ (.int .u64 bl)) q 25 #[.int .u64 bh, .int .u64 bl] ∧ Below w.heap.size w ((Waab.setCell ⟨q, 0, none⟩ (.int .u64 bh)).setCell ⟨q, 1, none⟩ (.int .u64 bl)) ∧ HB ((Waab.setCell ⟨q, 0, none⟩ (.int .u64 bh)).setCell ⟨q, 1, none⟩ (.int .u64 bl)) w.heap.size 28 #[.bool ng, .int .u8 c, .int .i64 ne, .int .u64 nh, .int .u64 nl] ∧ HB ((Waab.setCell ⟨q, 0, none⟩ (.int .u64 bh)).setCell ⟨q, 1, none⟩ (.int .u64 bl)) (w.heap.size + 1) 25 #[.int .u64 0, .int .u64 0] from ⟨(xq.set 0 _).set 1 _, (kk.setCell (p := ⟨q, 0, none⟩) (by show w.heap.size ≤ q; omega) _).setCell (p := ⟨q, 1, none⟩) (by show w.heap.size ≤ q; omega) _, (xn.other (by omega) _ _).other (by omega) _ _, (xr.other (by omega) _ _).other (by omega) _ _⟩)
  have z0 := xq.cell 0; have z1 := xq.cell 1; have y0 := xq.frozen 0; have y1 := xq.frozen 1; have yl := xq.lt; dsimp at z0 z1
  go_simp
  obtain ⟨k1, k2, k3, k4⟩ := KEY.out
  refine hK.out _ _ ⟨k3.cell 0, trivial⟩ (fun hHeld => ?_)
  clear hK K z0 z1 y0 y1 yl KEY xq kk xn xr
  try simp only [List.getElem_toArray, List.getElem_cons_zero, List.getElem_cons_succ, Act.put, List.setIfInBounds_toArray, List.set_cons_zero, List.set_cons_succ]
  refine wpAnyH_done (by kernel_rfl) ?_ _
  refine NoPanic.normal ?_
  clear hHeld
  generalize ((Waab.setCell ⟨q, 0, none⟩ (.int .u64 bh)).setCell ⟨q, 1, none⟩ (.int .u64 bl)) = V at *
  clear Waab
  revert V
  revert hq
  revert q
  revert v2
  refine ?rest
  rotate_left
  go_simp
  have ha := bA (Below.refl _ Wa) (.cells #[.int .u64 0, .int .u64 0] 25)
  have hq : w.heap.size + 2 ≤ Wa.heap.size := by have := xr.lt; omega
  have xq := HB.new Wa 25 #[.int .u64 0, .int .u64 0]
  have n2x := n2.later ha; clear n2
  replace kk := bC kk ha; replace xn := xn.later ha; replace xr := xr.later ha
  clear ha
  refine hK.out _ _ ⟨xn.cell 0, trivial⟩ (fun hHeld => ?_)
  clear hK K
  generalize Wa.alloc (.cells #[.int .u64 0, .int .u64 0] 25) = Wab at *
  generalize Wa.heap.size = q at *
  try simp only [List.getElem_toArray, List.getElem_cons_zero, List.getElem_cons_succ, Act.put, List.setIfInBounds_toArray, List.set_cons_zero, List.set_cons_succ]
  clear Wa
  clear hHeld
  refine wpAnyH_ready (rs := [7]) (by kernel_rfl) (by simp) ?_
  refine AllReadyH.cons rfl (fun K hK => ?_) AllReadyH.nil
  go_simp
  (with_reducible refine (MK.out _ _ n2x).mono ?_); rintro e Waba ⟨rfl, hb⟩
  replace kk := bC kk hb; replace xn := xn.later hb; replace xr := xr.later hb
  replace xq := xq.later hb
  clear hb n2x
  refine hK.out _ _ ⟨xn.cell 0, trivial⟩ (fun hHeld => ?_)
  clear hK K
  try simp only [List.getElem_toArray, List.getElem_cons_zero, List.getElem_cons_succ, Act.put, List.setIfInBounds_toArray, List.set_cons_zero, List.set_cons_succ]
  clear Wab
  clear hHeld
  refine wpAnyH_ready (rs := [9]) (by kernel_rfl) (by simp) ?_
  refine AllReadyH.cons rfl (fun K hK => ?_) AllReadyH.nil
  have KEY := Lib.hid (show HB ((Waba.setCell ⟨q, 0, none⟩ (.int .u64 bh)).setCell ⟨q, 1, none⟩ (.int .u64 bl)) q 25 #[.int .u64 bh, .int .u64 bl] ∧ Below w.heap.size w ((Waba.setCell ⟨q, 0, none⟩ (.int .u64 bh)).setCell ⟨q, 1, none⟩ (.int .u64 bl)) ∧ HB ((Waba.setCell ⟨q, 0, none⟩ (.int .u64 bh)).setCell ⟨q, 1, none⟩ (.int .u64 bl)) w.heap.size 28 #[.bool ng, .int .u8 c, .int .i64 ne, .int .u64 nh, .int .u64 nl] ∧ HB ((Waba.setCell ⟨q, 0, none⟩ (.int .u64 bh)).setCell ⟨q, 1, none⟩ (.int .u64 bl)) (w.heap.size + 1) 25 #[.int .u64 0, .int .u64 0] from ⟨(xq.set 0 _).set 1 _, (kk.setCell (p := ⟨q, 0, none⟩) (by show w.heap.size ≤ q; omega) _).setCell (p := ⟨q, 1, none⟩) (by show w.heap.size ≤ q; omega) _, (xn.other (by omega) _ _).other (by omega) _ _, (xr.other (by omega) _ _).other (by omega) _ _⟩)
  have z0 := xq.cell 0; have z1 := xq.cell 1; have y0 := xq.frozen 0; have y1 := xq.frozen 1; have yl := xq.lt; dsimp at z0 z1
  go_simp
  obtain ⟨k1, k2, k3, k4⟩ := KEY.out
  refine hK.out _ _ ⟨k3.cell 0, trivial⟩ (fun hHeld => ?_)
  clear hK K z0 z1 y0 y1 yl KEY xq kk xn xr
  try simp only [List.getElem_toArray, List.getElem_cons_zero, List.getElem_cons_succ, Act.put, List.setIfInBounds_toArray, List.set_cons_zero, List.set_cons_succ]
  refine wpAnyH_done (by kernel_rfl) ?_ _
  refine NoPanic.normal ?_
  clear hHeld
  generalize ((Waba.setCell ⟨q, 0, none⟩ (.int .u64 bh)).setCell ⟨q, 1, none⟩ (.int .u64 bl)) = V at *
  clear Waba
  revert V
  revert hq
  revert q
  revert v2
  exact ?rest
  go_simp
  have ha := bA (Below.refl _ W) (.cells #[.int .u64 0, .int .u64 0] 25)
  have hq : w.heap.size + 2 ≤ W.heap.size := by have := xr.lt; omega
  have xq := HB.new W 25 #[.int .u64 0, .int .u64 0]
  have n8x := n8.later ha; clear n8
  replace kk := bC kk ha; replace xn := xn.later ha; replace xr := xr.later ha
  clear ha
  refine hK.out _ _ ⟨xn.cell 0, trivial⟩ (fun hHeld => ?_)
  clear hK K
  generalize W.alloc (.cells #[.int .u64 0, .int .u64 0] 25) = Wb at *
  generalize W.heap.size = q at *
  try simp only [List.getElem_toArray, List.getElem_cons_zero, List.getElem_cons_succ, Act.put, List.setIfInBounds_toArray, List.set_cons_zero, List.set_cons_succ]
  clear W
  clear hHeld
  refine wpAnyH_ready (rs := [6]) (by kernel_rfl) (by simp) ?_
  refine AllReadyH.cons rfl (fun K hK => ?_) AllReadyH.nil
  go_simp
  (with_reducible refine (shr_num n8x off HO.out).mono ?_); rintro e Wba ⟨v2, rfl, n2, hb⟩
  replace kk := bC kk hb; replace xn := xn.later hb; replace xr := xr.later hb
  replace xq := xq.later hb
  rw [HQ] at n2
  clear hb n8x
  refine hK.out _ _ ⟨xn.cell 0, trivial⟩ (fun hHeld => ?_)
  clear hK K
  try simp only [List.getElem_toArray, List.getElem_cons_zero, List.getElem_cons_succ, Act.put, List.setIfInBounds_toArray, List.set_cons_zero, List.set_cons_succ]
  clear Wb
  clear hHeld
  refine wpAnyH_ready (rs := [7]) (by kernel_rfl) (by simp) ?_
  refine AllReadyH.cons rfl (fun K hK => ?_) AllReadyH.nil
  go_simp
  (with_reducible refine (MK.out _ _ n2).mono ?_); rintro e Wbaa ⟨rfl, hb⟩
  replace kk := bC kk hb; replace xn := xn.later hb; replace xr := xr.later hb
  replace xq := xq.later hb
  clear hb n2
  refine hK.out _ _ ⟨xn.cell 0, trivial⟩ (fun hHeld => ?_)
  clear hK K
  try simp only [List.getElem_toArray, List.getElem_cons_zero, List.getElem_cons_succ, Act.put, List.setIfInBounds_toArray, List.set_cons_zero, List.set_cons_succ]
  clear Wba
  clear hHeld
  refine wpAnyH_ready (rs := [9]) (by kernel_rfl) (by simp) ?_
  refine AllReadyH.cons rfl (fun K hK => ?_) AllReadyH.nil
  have KEY := Lib.hid (show HB ((Wbaa.setCell ⟨q, 0, none⟩ (.int .u64 bh)).setCell ⟨q, 1, none⟩ (.int .u64 bl)) q 25 #[.int .u64 bh, .int .u64 bl] ∧ Below w.heap.size w ((Wbaa.setCell ⟨q, 0, none⟩ (.int .u64 bh)).setCell ⟨q, 1, none⟩ (.int .u64 bl)) ∧ HB ((Wbaa.setCell ⟨q, 0, none⟩ (.int .u64 bh)).setCell ⟨q, 1, none⟩ (.int .u64 bl)) w.heap.size 28 #[.bool ng, .int .u8 c, .int .i64 ne, .int .u64 nh, .int .u64 nl] ∧ HB ((Wbaa.setCell ⟨q, 0, none⟩ (.int .u64 bh)).setCell ⟨q, 1, none⟩ (.int .u64 bl)) (w.heap.size + 1) 25 #[.int .u64 0, .int .u64 0] from ⟨(xq.set 0 _).set 1 _, (kk.setCell (p := ⟨q, 0, none⟩) (by show w.heap.size ≤ q; omega) _).setCell (p := ⟨q, 1, none⟩) (by show w.heap.size ≤ q; omega) _, (xn.other (by omega) _ _).other (by omega) _ _, (xr.other (by omega) _ _).other (by omega) _ _⟩)
  have z0 := xq.cell 0; have z1 := xq.cell 1; have y0 := xq.frozen 0; have y1 := xq.frozen 1; have yl := xq.lt; dsimp at z0 z1
  go_simp
  obtain ⟨k1, k2, k3, k4⟩ := KEY.out
  refine hK.out _ _ ⟨k3.cell 0, trivial⟩ (fun hHeld => ?_)
  clear hK K z0 z1 y0 y1 yl KEY xq kk xn xr
  try simp only [List.getElem_toArray, List.getElem_cons_zero, List.getElem_cons_succ, Act.put, List.setIfInBounds_toArray, List.set_cons_zero, List.set_cons_succ]
  refine wpAnyH_done (by kernel_rfl) ?_ _
  refine NoPanic.normal ?_
  clear hHeld
  generalize ((Wbaa.setCell ⟨q, 0, none⟩ (.int .u64 bh)).setCell ⟨q, 1, none⟩ (.int .u64 bl)) = V at *
  clear Wbaa
  revert V
  revert hq
  revert q
  revert v2
  exact ?rest
  case rest =>
    intro v2 q hq V k1 k2 k3 k4
    have q0 := k1.cell 0; have q1 := k1.cell 1; have ql := k1.lt; dsimp at q0 q1
    go_wp2_with fail
    (with_reducible refine (UN.out _).mono ?_); rintro e w5 ⟨rfl, hb⟩
    replace k1 := k1.later hb; replace k2 := bC k2 hb; replace k3 := k3.later hb; replace k4 := k4.later hb
    clear hb q0 q1 ql
    have q0 := k1.cell 0; have q1 := k1.cell 1; have ql := k1.lt; have c0 := k3.cell 0; have c1 := k3.cell 1; have c2 := k3.cell 2; have c3_ := k3.cell 3; have c4 := k3.cell 4; have cl := k3.lt; dsimp at q0 q1 c0 c1 c2 c3_ c4
    have KEY : Hid (HB (((w5.setCell ⟨w.heap.size + 1, 0, none⟩ (.int .u64 bh)).setCell ⟨w.heap.size + 1, 1, none⟩ (.int .u64 bl)).alloc (.cells #[.bool ng, .int .u8 mc, .int .i64 ne, .int .u64 nh, .int .u64 nl] 28)) (w.heap.size + 1) 25 #[.int .u64 bh, .int .u64 bl] ∧ Below w.heap.size w (((w5.setCell ⟨w.heap.size + 1, 0, none⟩ (.int .u64 bh)).setCell ⟨w.heap.size + 1, 1, none⟩ (.int .u64 bl)).alloc (.cells #[.bool ng, .int .u8 mc, .int .i64 ne, .int .u64 nh, .int .u64 nl] 28))) := Lib.hid ⟨((k4.set 0 _).set 1 _).alloc _, bA ((k2.setCell (p := ⟨w.heap.size + 1, 0, none⟩) (by simp) _).setCell (p := ⟨w.heap.size + 1, 1, none⟩) (by simp) _) _⟩
    have z0 := k4.cell 0; have z1 := k4.cell 1; have y0 := k4.frozen 0; have y1 := k4.frozen 1; have yl := k4.lt; dsimp at z0 z1
    clear k1 k2 k3 k4
    go_wp2_with fail
    obtain ⟨hE, kb⟩ := KEY.out
    have e0 := hE.cell 0; have e1 := hE.cell 1; dsimp at e0 e1
    refine bodyPost_ret (v := .tuple #[.agg #[.int .u64 bh, .int .u64 bl], .bool true]) ?_ rfl ⟨rfl, kb⟩
    clear KEY hE kb z0 z1 y0 y1 q0 q1 c0 c1 c2 c3_ c4
    simp [results, Tryd.results14, go_sem, e0, e1]

set_option maxHeartbeats 4000000 in
set_option maxRecDepth 100000 in
theorem ref9_pack_nor_exp (f c ne nh nl p em x1 x2 x3 S fl o1 o2 Q bh bl mc me mh ml : Int) (ng : Bool)
    (g3 : decide (3 < f) = false) (gc : decide (3 < c) = false) (cz : (c == 0) = false) (c3 : (c == 3) = false)
    (PF : Hid (∀ w, Calls Tryd.prog 39 #[.int .u8 f] w fun e w' => e = .returned (.int .i64 p) ∧ w = w'))
    (EF : Hid (∀ w, Calls Tryd.prog 40 #[.int .u8 f] w fun e w' => e = .returned (.int .i64 em) ∧ w = w')) (d1 : decide (em < ne) = false) (w1_ : IntKind.i64.wrap (1 - em) = x1) (w2_ : IntKind.i64.wrap (p - 1) = x2) (w3_ : IntKind.i64.wrap (x1 - x2) = x3) (d2 : decide (ne < x3) = false) (BN : Hid (∀ w, Calls Tryd.prog 41 #[.agg #[.int .u64 nh, .int .u64 nl]] w (RetNum w S))) (w4_ : IntKind.i64.wrap (ne + em) = fl) (off : Nat) (w5_ : IntKind.i64.wrap (128 - p) = (off : Int)) (d3 : decide (fl < 1) = false)
    (HO : Hid ((off : Int) ≤ 9223372036854775807)) (HQ : S / 2 ^ off = Q) (MK : Hid (∀ w v, IsNum w v Q → Calls Tryd.prog 37 #[.int .u8 f, .bool ng, .int .i64 fl, v] w fun e w' => e = .returned (.agg #[.int .u64 (bh), .int .u64 (bl)]) ∧ Below w.heap.size w w'))
    (UN : Hid (∀ w, Calls Tryd.prog 11 #[.int .u8 f, .agg #[.int .u64 (bh), .int .u64 (bl)]] w fun e w' => e = .returned (.agg #[.bool ng, .int .u8 mc, .int .i64 me, .int .u64 mh, .int .u64 ml]) ∧ Below w.heap.size w w')) (t1 : (me != ne) = true) (w : World) :
    Calls Tryd.prog 14 #[.int .u8 f, .agg #[.bool ng, .int .u8 c, .int .i64 ne, .int .u64 nh, .int .u64 nl]] w fun e w' => e = .returned (.tuple #[.agg #[.int .u64 0, .int .u64 0], .bool false]) ∧ Below w.heap.size w w' := by
  go_enter Tryd.func14, Tryd.ntmps14
  go_wp2_with fail
  (with_reducible refine (PF.out _).mono ?_); rintro e wz ⟨rfl, rfl⟩
  go_wp2_with fail
  (with_reducible refine (EF.out _).mono ?_); rintro e wz ⟨rfl, rfl⟩
  go_wp2_with fail
  (with_reducible refine (BN.out _).mono ?_); rintro e w1 ⟨v8, rfl, n8, hb⟩
  have kk := bC (bA (bA (Below.refl _ _) _) _) hb
  have xn : HB w1 w.heap.size 28 #[.bool ng, .int .u8 c, .int .i64 ne, .int .u64 nh, .int .u64 nl] := ((HB.new w _ _).alloc _).later hb
  have xr : HB w1 (w.heap.size + 1) 25 #[.int .u64 0, .int .u64 0] := (HB.newAt (by simp) _ _).later hb
  have c0 := xn.cell 0; have c1 := xn.cell 1; have c2 := xn.cell 2; have c3_ := xn.cell 3; have c4 := xn.cell 4; have cl := xn.lt; dsimp at c0 c1 c2 c3_ c4
  clear hb
  go_wp2_with fail
  clear c1 c2 c3_ c4 cl
  refine wp_region_noPanic ?_
  refine wp_region_held_drew (S := fun w' => w'.cell? ⟨w.heap.size, 0, none⟩ = some (.bool ng) ∧ True) (by kernel_rfl) ⟨cell_later (Below.refl _ _).drew c0, trivial⟩ (fun hHeld => ?_)
  replace kk := bC kk (Below.refl _ _).drew; replace xn := xn.later (Below.refl _ _).drew; replace xr := xr.later (Below.refl _ _).drew; replace n8 := n8.later (Below.refl _ _).drew; clear c0
  generalize w1.drew = W at *; clear w1
  refine wpAnyH_take (i := 0) (v := ?vq19) rfl (by kernel_rfl) (by kernel_rfl) (by kernel_rfl) (fun _ _ _ h => h) (Or.inl ⟨by rfl, ?yq19⟩) hHeld ?rq19
  case yq19 => (intro wq hb; obtain ⟨lq0, _⟩ := hb; go_simp; try (with_reducible rfl))
  try simp only [List.getElem_toArray, List.getElem_cons_zero, List.getElem_cons_succ, Act.put, List.setIfInBounds_toArray, List.set_cons_zero, List.set_cons_succ]
  refine wpAnyH_take (i := 1) (v := ?vq20) rfl (by kernel_rfl) (by kernel_rfl) (by kernel_rfl) (fun _ _ _ h => h) (Or.inl ⟨by rfl, ?yq20⟩) hHeld ?rq20
  case yq20 => (intro wq hb; obtain ⟨lq0, _⟩ := hb; go_simp; try (with_reducible rfl))
  try simp only [List.getElem_toArray, List.getElem_cons_zero, List.getElem_cons_succ, Act.put, List.setIfInBounds_toArray, List.set_cons_zero, List.set_cons_succ]
  refine wpAnyH_take (i := 2) (v := ?vq21) rfl (by kernel_rfl) (by kernel_rfl) (by kernel_rfl) (fun _ _ _ h => h) (Or.inl ⟨by rfl, ?yq21⟩) hHeld ?rq21
  case yq21 => (intro wq hb; obtain ⟨lq0, _⟩ := hb; go_simp; try (with_reducible rfl))
  try simp only [List.getElem_toArray, List.getElem_cons_zero, List.getElem_cons_succ, Act.put, List.setIfInBounds_toArray, List.set_cons_zero, List.set_cons_succ]
  refine wpAnyH_take (i := 3) (v := ?vq22) rfl (by kernel_rfl) (by kernel_rfl) (by kernel_rfl) (fun _ _ _ h => h) (Or.inl ⟨by rfl, ?yq22⟩) hHeld ?rq22
  case yq22 => (intro wq hb; obtain ⟨lq0, _⟩ := hb; go_simp; try (with_reducible rfl))
  try simp only [List.getElem_toArray, List.getElem_cons_zero, List.getElem_cons_succ, Act.put, List.setIfInBounds_toArray, List.set_cons_zero, List.set_cons_succ]
  refine wpAnyH_take (i := 4) (v := ?vq23) rfl (by kernel_rfl) (by kernel_rfl) (by kernel_rfl) (fun _ _ _ h => h) (Or.inl ⟨by rfl, ?yq23⟩) hHeld ?rq23
  case yq23 => (intro wq hb; obtain ⟨lq0, _⟩ := hb; go_simp; try (with_reducible rfl))
  try simp only [List.getElem_toArray, List.getElem_cons_zero, List.getElem_cons_succ, Act.put, List.setIfInBounds_toArray, List.set_cons_zero, List.set_cons_succ]
  refine wpAnyH_take (i := 5) (v := ?vq24) rfl (by kernel_rfl) (by kernel_rfl) (by kernel_rfl) (fun _ _ _ h => h) (Or.inl ⟨by rfl, ?yq24⟩) hHeld ?rq24
  case yq24 => (intro wq hb; obtain ⟨lq0, _⟩ := hb; go_simp; try (with_reducible rfl))
  try simp only [List.getElem_toArray, List.getElem_cons_zero, List.getElem_cons_succ, Act.put, List.setIfInBounds_toArray, List.set_cons_zero, List.set_cons_succ]
  clear hHeld
  refine wpAnyH_ready (rs := [6, 8]) (by kernel_rfl) (by simp) ?_
  refine AllReadyH.cons rfl (fun K hK => ?_) (AllReadyH.cons rfl (fun K hK => ?_) AllReadyH.nil)
  go_simp
  (with_reducible refine (shr_num n8 off HO.out).mono ?_); rintro e Wa ⟨v2, rfl, n2, hb⟩
  replace kk := bC kk hb; replace xn := xn.later hb; replace xr := xr.later hb
  rw [HQ] at n2
  clear hb n8
  refine hK.out _ _ ⟨xn.cell 0, trivial⟩ (fun hHeld => ?_)
  clear hK K
  try simp only [List.getElem_toArray, List.getElem_cons_zero, List.getElem_cons_succ, Act.put, List.setIfInBounds_toArray, List.set_cons_zero, List.set_cons_succ]
  clear W
  clear hHeld
  refine wpAnyH_ready (rs := [7, 8]) (by kernel_rfl) (by simp) ?_
  refine AllReadyH.cons rfl (fun K hK => ?_) (AllReadyH.cons rfl (fun K hK => ?_) AllReadyH.nil)
  go_simp
  (with_reducible refine (MK.out _ _ n2).mono ?_); rintro e Waa ⟨rfl, hb⟩
  replace kk := bC kk hb; replace xn := xn.later hb; replace xr := xr.later hb
  clear hb n2
  refine hK.out _ _ ⟨xn.cell 0, trivial⟩ (fun hHeld => ?_)
  clear hK K
  try simp only [List.getElem_toArray, List.getElem_cons_zero, List.getElem_cons_succ, Act.put, List.setIfInBounds_toArray, List.set_cons_zero, List.set_cons_succ]
  clear Wa
  clear hHeld
  refine wpAnyH_ready (rs := [8]) (by kernel_rfl) (by simp) ?_
  refine AllReadyH.cons rfl (fun K hK => ?_) AllReadyH.nil
  go_simp
  have ha := bA (Below.refl _ Waa) (.cells #[.int .u64 0, .int .u64 0] 25)
  have hq : w.heap.size + 2 ≤ Waa.heap.size := by have := xr.lt; omega
  have xq := HB.new Waa 25 #[.int .u64 0, .int .u64 0]
  replace kk := bC kk ha; replace xn := xn.later ha; replace xr := xr.later ha
  clear ha
  refine hK.out _ _ ⟨xn.cell 0, trivial⟩ (fun hHeld => ?_)
  clear hK K
  generalize Waa.alloc (.cells #[.int .u64 0, .int .u64 0] 25) = Waab at *
  generalize Waa.heap.size = q at *
  try simp only [List.getElem_toArray, List.getElem_cons_zero, List.getElem_cons_succ, Act.put, List.setIfInBounds_toArray, List.set_cons_zero, List.set_cons_succ]
  clear Waa
  clear hHeld
  refine wpAnyH_ready (rs := [9]) (by kernel_rfl) (by simp) ?_
  refine AllReadyH.cons rfl (fun K hK => ?_) AllReadyH.nil
  have KEY := Lib.hid (show HB ((Waab.setCell ⟨q, 0, none⟩ (.int .u64 bh)).setCell ⟨q, 1, none⟩ (.int .u64 bl)) q 25 #[.int .u64 bh, .int .u64 bl] ∧ Below w.heap.size w ((Waab.setCell ⟨q, 0, none⟩ (.int .u64 bh)).setCell ⟨q, 1, none⟩ (.int .u64 bl)) ∧ HB ((Waab.setCell ⟨q, 0, none⟩ (.int .u64 bh)).setCell ⟨q, 1, none⟩ (.int .u64 bl)) w.heap.size 28 #[.bool ng, .int .u8 c, .int .i64 ne, .int .u64 nh, .int .u64 nl] ∧ HB ((Waab.setCell ⟨q, 0, none⟩ (.int .u64 bh)).setCell ⟨q, 1, none⟩ (.int .u64 bl)) (w.heap.size + 1) 25 #[.int .u64 0, .int .u64 0] from ⟨(xq.set 0 _).set 1 _, (kk.setCell (p := ⟨q, 0, none⟩) (by show w.heap.size ≤ q; omega) _).setCell (p := ⟨q, 1, none⟩) (by show w.heap.size ≤ q; omega) _, (xn.other (by omega) _ _).other (by omega) _ _, (xr.other (by omega) _ _).other (by omega) _ _⟩)
  have z0 := xq.cell 0; have z1 := xq.cell 1; have y0 := xq.frozen 0; have y1 := xq.frozen 1; have yl := xq.lt; dsimp at z0 z1
  go_simp
  obtain ⟨k1, k2, k3, k4⟩ := KEY.out
  refine hK.out _ _ ⟨k3.cell 0, trivial⟩ (fun hHeld => ?_)
  clear hK K z0 z1 y0 y1 yl KEY xq kk xn xr
  try simp only [List.getElem_toArray, List.getElem_cons_zero, List.getElem_cons_succ, Act.put, List.setIfInBounds_toArray, List.set_cons_zero, List.set_cons_succ]
  refine wpAnyH_done (by kernel_rfl) ?_ _
  refine NoPanic.normal ?_
  clear hHeld
  generalize ((Waab.setCell ⟨q, 0, none⟩ (.int .u64 bh)).setCell ⟨q, 1, none⟩ (.int .u64 bl)) = V at *
  clear Waab
  revert V
  revert hq
  revert q
  revert v2
  refine ?rest
  rotate_left
  go_simp
  have ha := bA (Below.refl _ Wa) (.cells #[.int .u64 0, .int .u64 0] 25)
  have hq : w.heap.size + 2 ≤ Wa.heap.size := by have := xr.lt; omega
  have xq := HB.new Wa 25 #[.int .u64 0, .int .u64 0]
  have n2x := n2.later ha; clear n2
  replace kk := bC kk ha; replace xn := xn.later ha; replace xr := xr.later ha
  clear ha
  refine hK.out _ _ ⟨xn.cell 0, trivial⟩ (fun hHeld => ?_)
  clear hK K
  generalize Wa.alloc (.cells #[.int .u64 0, .int .u64 0] 25) = Wab at *
  generalize Wa.heap.size = q at *
  try simp only [List.getElem_toArray, List.getElem_cons_zero, List.getElem_cons_succ, Act.put, List.setIfInBounds_toArray, List.set_cons_zero, List.set_cons_succ]
  clear Wa
  clear hHeld
  refine wpAnyH_ready (rs := [7]) (by kernel_rfl) (by simp) ?_
  refine AllReadyH.cons rfl (fun K hK => ?_) AllReadyH.nil
  go_simp
  (with_reducible refine (MK.out _ _ n2x).mono ?_); rintro e Waba ⟨rfl, hb⟩
  replace kk := bC kk hb; replace xn := xn.later hb; replace xr := xr.later hb
  replace xq := xq.later hb
  clear hb n2x
  refine hK.out _ _ ⟨xn.cell 0, trivial⟩ (fun hHeld => ?_)
  clear hK K
  try simp only [List.getElem_toArray, List.getElem_cons_zero, List.getElem_cons_succ, Act.put, List.setIfInBounds_toArray, List.set_cons_zero, List.set_cons_succ]
  clear Wab
  clear hHeld
  refine wpAnyH_ready (rs := [9]) (by kernel_rfl) (by simp) ?_
  refine AllReadyH.cons rfl (fun K hK => ?_) AllReadyH.nil
  have KEY := Lib.hid (show HB ((Waba.setCell ⟨q, 0, none⟩ (.int .u64 bh)).setCell ⟨q, 1, none⟩ (.int .u64 bl)) q 25 #[.int .u64 bh, .int .u64 bl] ∧ Below w.heap.size w ((Waba.setCell ⟨q, 0, none⟩ (.int .u64 bh)).setCell ⟨q, 1, none⟩ (.int .u64 bl)) ∧ HB ((Waba.setCell ⟨q, 0, none⟩ (.int .u64 bh)).setCell ⟨q, 1, none⟩ (.int .u64 bl)) w.heap.size 28 #[.bool ng, .int .u8 c, .int .i64 ne, .int .u64 nh, .int .u64 nl] ∧ HB ((Waba.setCell ⟨q, 0, none⟩ (.int .u64 bh)).setCell ⟨q, 1, none⟩ (.int .u64 bl)) (w.heap.size + 1) 25 #[.int .u64 0, .int .u64 0] from ⟨(xq.set 0 _).set 1 _, (kk.setCell (p := ⟨q, 0, none⟩) (by show w.heap.size ≤ q; omega) _).setCell (p := ⟨q, 1, none⟩) (by show w.heap.size ≤ q; omega) _, (xn.other (by omega) _ _).other (by omega) _ _, (xr.other (by omega) _ _).other (by omega) _ _⟩)
  have z0 := xq.cell 0; have z1 := xq.cell 1; have y0 := xq.frozen 0; have y1 := xq.frozen 1; have yl := xq.lt; dsimp at z0 z1
  go_simp
  obtain ⟨k1, k2, k3, k4⟩ := KEY.out
  refine hK.out _ _ ⟨k3.cell 0, trivial⟩ (fun hHeld => ?_)
  clear hK K z0 z1 y0 y1 yl KEY xq kk xn xr
  try simp only [List.getElem_toArray, List.getElem_cons_zero, List.getElem_cons_succ, Act.put, List.setIfInBounds_toArray, List.set_cons_zero, List.set_cons_succ]
  refine wpAnyH_done (by kernel_rfl) ?_ _
  refine NoPanic.normal ?_
  clear hHeld
  generalize ((Waba.setCell ⟨q, 0, none⟩ (.int .u64 bh)).setCell ⟨q, 1, none⟩ (.int .u64 bl)) = V at *
  clear Waba
  revert V
  revert hq
  revert q
  revert v2
  exact ?rest
  go_simp
  have ha := bA (Below.refl _ W) (.cells #[.int .u64 0, .int .u64 0] 25)
  have hq : w.heap.size + 2 ≤ W.heap.size := by have := xr.lt; omega
  have xq := HB.new W 25 #[.int .u64 0, .int .u64 0]
  have n8x := n8.later ha; clear n8
  replace kk := bC kk ha; replace xn := xn.later ha; replace xr := xr.later ha
  clear ha
  refine hK.out _ _ ⟨xn.cell 0, trivial⟩ (fun hHeld => ?_)
  clear hK K
  generalize W.alloc (.cells #[.int .u64 0, .int .u64 0] 25) = Wb at *
  generalize W.heap.size = q at *
  try simp only [List.getElem_toArray, List.getElem_cons_zero, List.getElem_cons_succ, Act.put, List.setIfInBounds_toArray, List.set_cons_zero, List.set_cons_succ]
  clear W
  clear hHeld
  refine wpAnyH_ready (rs := [6]) (by kernel_rfl) (by simp) ?_
  refine AllReadyH.cons rfl (fun K hK => ?_) AllReadyH.nil
  go_simp
  (with_reducible refine (shr_num n8x off HO.out).mono ?_); rintro e Wba ⟨v2, rfl, n2, hb⟩
  replace kk := bC kk hb; replace xn := xn.later hb; replace xr := xr.later hb
  replace xq := xq.later hb
  rw [HQ] at n2
  clear hb n8x
  refine hK.out _ _ ⟨xn.cell 0, trivial⟩ (fun hHeld => ?_)
  clear hK K
  try simp only [List.getElem_toArray, List.getElem_cons_zero, List.getElem_cons_succ, Act.put, List.setIfInBounds_toArray, List.set_cons_zero, List.set_cons_succ]
  clear Wb
  clear hHeld
  refine wpAnyH_ready (rs := [7]) (by kernel_rfl) (by simp) ?_
  refine AllReadyH.cons rfl (fun K hK => ?_) AllReadyH.nil
  go_simp
  (with_reducible refine (MK.out _ _ n2).mono ?_); rintro e Wbaa ⟨rfl, hb⟩
  replace kk := bC kk hb; replace xn := xn.later hb; replace xr := xr.later hb
  replace xq := xq.later hb
  clear hb n2
  refine hK.out _ _ ⟨xn.cell 0, trivial⟩ (fun hHeld => ?_)
  clear hK K
  try simp only [List.getElem_toArray, List.getElem_cons_zero, List.getElem_cons_succ, Act.put, List.setIfInBounds_toArray, List.set_cons_zero, List.set_cons_succ]
  clear Wba
  clear hHeld
  refine wpAnyH_ready (rs := [9]) (by kernel_rfl) (by simp) ?_
  refine AllReadyH.cons rfl (fun K hK => ?_) AllReadyH.nil
  have KEY := Lib.hid (show HB ((Wbaa.setCell ⟨q, 0, none⟩ (.int .u64 bh)).setCell ⟨q, 1, none⟩ (.int .u64 bl)) q 25 #[.int .u64 bh, .int .u64 bl] ∧ Below w.heap.size w ((Wbaa.setCell ⟨q, 0, none⟩ (.int .u64 bh)).setCell ⟨q, 1, none⟩ (.int .u64 bl)) ∧ HB ((Wbaa.setCell ⟨q, 0, none⟩ (.int .u64 bh)).setCell ⟨q, 1, none⟩ (.int .u64 bl)) w.heap.size 28 #[.bool ng, .int .u8 c, .int .i64 ne, .int .u64 nh, .int .u64 nl] ∧ HB ((Wbaa.setCell ⟨q, 0, none⟩ (.int .u64 bh)).setCell ⟨q, 1, none⟩ (.int .u64 bl)) (w.heap.size + 1) 25 #[.int .u64 0, .int .u64 0] from ⟨(xq.set 0 _).set 1 _, (kk.setCell (p := ⟨q, 0, none⟩) (by show w.heap.size ≤ q; omega) _).setCell (p := ⟨q, 1, none⟩) (by show w.heap.size ≤ q; omega) _, (xn.other (by omega) _ _).other (by omega) _ _, (xr.other (by omega) _ _).other (by omega) _ _⟩)
  have z0 := xq.cell 0; have z1 := xq.cell 1; have y0 := xq.frozen 0; have y1 := xq.frozen 1; have yl := xq.lt; dsimp at z0 z1
  go_simp
  obtain ⟨k1, k2, k3, k4⟩ := KEY.out
  refine hK.out _ _ ⟨k3.cell 0, trivial⟩ (fun hHeld => ?_)
  clear hK K z0 z1 y0 y1 yl KEY xq kk xn xr
  try simp only [List.getElem_toArray, List.getElem_cons_zero, List.getElem_cons_succ, Act.put, List.setIfInBounds_toArray, List.set_cons_zero, List.set_cons_succ]
  refine wpAnyH_done (by kernel_rfl) ?_ _
  refine NoPanic.normal ?_
  clear hHeld
  generalize ((Wbaa.setCell ⟨q, 0, none⟩ (.int .u64 bh)).setCell ⟨q, 1, none⟩ (.int .u64 bl)) = V at *
  clear Wbaa
  revert V
  revert hq
  revert q
  revert v2
  exact ?rest
  case rest =>
    intro v2 q hq V k1 k2 k3 k4
    have q0 := k1.cell 0; have q1 := k1.cell 1; have ql := k1.lt; dsimp at q0 q1
    go_wp2_with fail
    (with_reducible refine (UN.out _).mono ?_); rintro e w5 ⟨rfl, hb⟩
    replace k1 := k1.later hb; replace k2 := bC k2 hb; replace k3 := k3.later hb; replace k4 := k4.later hb
    clear hb q0 q1 ql
    have q0 := k1.cell 0; have q1 := k1.cell 1; have ql := k1.lt; have c0 := k3.cell 0; have c1 := k3.cell 1; have c2 := k3.cell 2; have c3_ := k3.cell 3; have c4 := k3.cell 4; have cl := k3.lt; dsimp at q0 q1 c0 c1 c2 c3_ c4
    have KEY : Hid (HB (((w5.setCell ⟨w.heap.size + 1, 0, none⟩ (.int .u64 0)).setCell ⟨w.heap.size + 1, 1, none⟩ (.int .u64 0)).alloc (.cells #[.bool ng, .int .u8 mc, .int .i64 me, .int .u64 mh, .int .u64 ml] 28)) (w.heap.size + 1) 25 #[.int .u64 0, .int .u64 0] ∧ Below w.heap.size w (((w5.setCell ⟨w.heap.size + 1, 0, none⟩ (.int .u64 0)).setCell ⟨w.heap.size + 1, 1, none⟩ (.int .u64 0)).alloc (.cells #[.bool ng, .int .u8 mc, .int .i64 me, .int .u64 mh, .int .u64 ml] 28))) := Lib.hid ⟨((k4.set 0 _).set 1 _).alloc _, bA ((k2.setCell (p := ⟨w.heap.size + 1, 0, none⟩) (by simp) _).setCell (p := ⟨w.heap.size + 1, 1, none⟩) (by simp) _) _⟩
    have z0 := k4.cell 0; have z1 := k4.cell 1; have y0 := k4.frozen 0; have y1 := k4.frozen 1; have yl := k4.lt; dsimp at z0 z1
    clear k1 k2 k3 k4
    go_wp2_with fail
    obtain ⟨hE, kb⟩ := KEY.out
    have e0 := hE.cell 0; have e1 := hE.cell 1; dsimp at e0 e1
    refine bodyPost_ret (v := .tuple #[.agg #[.int .u64 0, .int .u64 0], .bool false]) ?_ rfl ⟨rfl, kb⟩
    clear KEY hE kb z0 z1 y0 y1 q0 q1 c0 c1 c2 c3_ c4
    simp [results, Tryd.results14, go_sem, e0, e1]

set_option maxHeartbeats 4000000 in
set_option maxRecDepth 100000 in
theorem ref9_pack_nor_sig (f c ne nh nl p em x1 x2 x3 S fl o1 o2 Q bh bl mc mh ml : Int) (ng : Bool)
    (g3 : decide (3 < f) = false) (gc : decide (3 < c) = false) (cz : (c == 0) = false) (c3 : (c == 3) = false)
    (PF : Hid (∀ w, Calls Tryd.prog 39 #[.int .u8 f] w fun e w' => e = .returned (.int .i64 p) ∧ w = w'))
    (EF : Hid (∀ w, Calls Tryd.prog 40 #[.int .u8 f] w fun e w' => e = .returned (.int .i64 em) ∧ w = w')) (d1 : decide (em < ne) = false) (w1_ : IntKind.i64.wrap (1 - em) = x1) (w2_ : IntKind.i64.wrap (p - 1) = x2) (w3_ : IntKind.i64.wrap (x1 - x2) = x3) (d2 : decide (ne < x3) = false) (BN : Hid (∀ w, Calls Tryd.prog 41 #[.agg #[.int .u64 nh, .int .u64 nl]] w (RetNum w S))) (w4_ : IntKind.i64.wrap (ne + em) = fl) (off : Nat) (w5_ : IntKind.i64.wrap (128 - p) = (off : Int)) (d3 : decide (fl < 1) = false)
    (HO : Hid ((off : Int) ≤ 9223372036854775807)) (HQ : S / 2 ^ off = Q) (MK : Hid (∀ w v, IsNum w v Q → Calls Tryd.prog 37 #[.int .u8 f, .bool ng, .int .i64 fl, v] w fun e w' => e = .returned (.agg #[.int .u64 (bh), .int .u64 (bl)]) ∧ Below w.heap.size w w'))
    (UN : Hid (∀ w, Calls Tryd.prog 11 #[.int .u8 f, .agg #[.int .u64 (bh), .int .u64 (bl)]] w fun e w' => e = .returned (.agg #[.bool ng, .int .u8 mc, .int .i64 ne, .int .u64 mh, .int .u64 ml]) ∧ Below w.heap.size w w')) (t2 : ∀ w, (binOp .neq 25 (.agg #[.int .u64 mh, .int .u64 ml]) (.agg #[.int .u64 nh, .int .u64 nl])).run Tryd.prog w = .ok (.bool true) w) (w : World) :
    Calls Tryd.prog 14 #[.int .u8 f, .agg #[.bool ng, .int .u8 c, .int .i64 ne, .int .u64 nh, .int .u64 nl]] w fun e w' => e = .returned (.tuple #[.agg #[.int .u64 0, .int .u64 0], .bool false]) ∧ Below w.heap.size w w' := by
  go_enter Tryd.func14, Tryd.ntmps14
  go_wp2_with fail
  (with_reducible refine (PF.out _).mono ?_); rintro e wz ⟨rfl, rfl⟩
  go_wp2_with fail
  (with_reducible refine (EF.out _).mono ?_); rintro e wz ⟨rfl, rfl⟩
  go_wp2_with fail
  (with_reducible refine (BN.out _).mono ?_); rintro e w1 ⟨v8, rfl, n8, hb⟩
  have kk := bC (bA (bA (Below.refl _ _) _) _) hb
  have xn : HB w1 w.heap.size 28 #[.bool ng, .int .u8 c, .int .i64 ne, .int .u64 nh, .int .u64 nl] := ((HB.new w _ _).alloc _).later hb
  have xr : HB w1 (w.heap.size + 1) 25 #[.int .u64 0, .int .u64 0] := (HB.newAt (by simp) _ _).later hb
  have c0 := xn.cell 0; have c1 := xn.cell 1; have c2 := xn.cell 2; have c3_ := xn.cell 3; have c4 := xn.cell 4; have cl := xn.lt; dsimp at c0 c1 c2 c3_ c4
  clear hb
  go_wp2_with fail
  clear c1 c2 c3_ c4 cl
  refine wp_region_noPanic ?_
  refine wp_region_held_drew (S := fun w' => w'.cell? ⟨w.heap.size, 0, none⟩ = some (.bool ng) ∧ True) (by kernel_rfl) ⟨cell_later (Below.refl _ _).drew c0, trivial⟩ (fun hHeld => ?_)
  replace kk := bC kk (Below.refl _ _).drew; replace xn := xn.later (Below.refl _ _).drew; replace xr := xr.later (Below.refl _ _).drew; replace n8 := n8.later (Below.refl _ _).drew; clear c0
  generalize w1.drew = W at *; clear w1
  refine wpAnyH_take (i := 0) (v := ?vq25) rfl (by kernel_rfl) (by kernel_rfl) (by kernel_rfl) (fun _ _ _ h => h) (Or.inl ⟨by rfl, ?yq25⟩) hHeld ?rq25
  case yq25 => (intro wq hb; obtain ⟨lq0, _⟩ := hb; go_simp; try (with_reducible rfl))
  try simp only [List.getElem_toArray, List.getElem_cons_zero, List.getElem_cons_succ, Act.put, List.setIfInBounds_toArray, List.set_cons_zero, List.set_cons_succ]
  refine wpAnyH_take (i := 1) (v := ?vq26) rfl (by kernel_rfl) (by kernel_rfl) (by kernel_rfl) (fun _ _ _ h => h) (Or.inl ⟨by rfl, ?yq26⟩) hHeld ?rq26
  case yq26 => (intro wq hb; obtain ⟨lq0, _⟩ := hb; go_simp; try (with_reducible rfl))
  try simp only [List.getElem_toArray, List.getElem_cons_zero, List.getElem_cons_succ, Act.put, List.setIfInBounds_toArray, List.set_cons_zero, List.set_cons_succ]
  refine wpAnyH_take (i := 2) (v := ?vq27) rfl (by kernel_rfl) (by kernel_rfl) (by kernel_rfl) (fun _ _ _ h => h) (Or.inl ⟨by rfl, ?yq27⟩) hHeld ?rq27
  case yq27 => (intro wq hb; obtain ⟨lq0, _⟩ := hb; go_simp; try (with_reducible rfl))
  try simp only [List.getElem_toArray, List.getElem_cons_zero, List.getElem_cons_succ, Act.put, List.setIfInBounds_toArray, List.set_cons_zero, List.set_cons_succ]
  refine wpAnyH_take (i := 3) (v := ?vq28) rfl (by kernel_rfl) (by kernel_rfl) (by kernel_rfl) (fun _ _ _ h => h) (Or.inl ⟨by rfl, ?yq28⟩) hHeld ?rq28
  case yq28 => (intro wq hb; obtain ⟨lq0, _⟩ := hb; go_simp; try (with_reducible rfl))
  try simp only [List.getElem_toArray, List.getElem_cons_zero, List.getElem_cons_succ, Act.put, List.setIfInBounds_toArray, List.set_cons_zero, List.set_cons_succ]
  refine wpAnyH_take (i := 4) (v := ?vq29) rfl (by kernel_rfl) (by kernel_rfl) (by kernel_rfl) (fun _ _ _ h => h) (Or.inl ⟨by rfl, ?yq29⟩) hHeld ?rq29
  case yq29 => (intro wq hb; obtain ⟨lq0, _⟩ := hb; go_simp; try (with_reducible rfl))
  try simp only [List.getElem_toArray, List.getElem_cons_zero, List.getElem_cons_succ, Act.put, List.setIfInBounds_toArray, List.set_cons_zero, List.set_cons_succ]
  refine wpAnyH_take (i := 5) (v := ?vq30) rfl (by kernel_rfl) (by kernel_rfl) (by kernel_rfl) (fun _ _ _ h => h) (Or.inl ⟨by rfl, ?yq30⟩) hHeld ?rq30
  case yq30 => (intro wq hb; obtain ⟨lq0, _⟩ := hb; go_simp; try (with_reducible rfl))
  try simp only [List.getElem_toArray, List.getElem_cons_zero, List.getElem_cons_succ, Act.put, List.setIfInBounds_toArray, List.set_cons_zero, List.set_cons_succ]
  clear hHeld
  refine wpAnyH_ready (rs := [6, 8]) (by kernel_rfl) (by simp) ?_
  refine AllReadyH.cons rfl (fun K hK => ?_) (AllReadyH.cons rfl (fun K hK => ?_) AllReadyH.nil)
  go_simp
  (with_reducible refine (shr_num n8 off HO.out).mono ?_); rintro e Wa ⟨v2, rfl, n2, hb⟩
  replace kk := bC kk hb; replace xn := xn.later hb; replace xr := xr.later hb
  rw [HQ] at n2
  clear hb n8
  refine hK.out _ _ ⟨xn.cell 0, trivial⟩ (fun hHeld => ?_)
  clear hK K
  try simp only [List.getElem_toArray, List.getElem_cons_zero, List.getElem_cons_succ, Act.put, List.setIfInBounds_toArray, List.set_cons_zero, List.set_cons_succ]
  clear W
  clear hHeld
  refine wpAnyH_ready (rs := [7, 8]) (by kernel_rfl) (by simp) ?_
  refine AllReadyH.cons rfl (fun K hK => ?_) (AllReadyH.cons rfl (fun K hK => ?_) AllReadyH.nil)
  go_simp
  (with_reducible refine (MK.out _ _ n2).mono ?_); rintro e Waa ⟨rfl, hb⟩
  replace kk := bC kk hb; replace xn := xn.later hb; replace xr := xr.later hb
  clear hb n2
  refine hK.out _ _ ⟨xn.cell 0, trivial⟩ (fun hHeld => ?_)
  clear hK K
  try simp only [List.getElem_toArray, List.getElem_cons_zero, List.getElem_cons_succ, Act.put, List.setIfInBounds_toArray, List.set_cons_zero, List.set_cons_succ]
  clear Wa
  clear hHeld
  refine wpAnyH_ready (rs := [8]) (by kernel_rfl) (by simp) ?_
  refine AllReadyH.cons rfl (fun K hK => ?_) AllReadyH.nil
  go_simp
  have ha := bA (Below.refl _ Waa) (.cells #[.int .u64 0, .int .u64 0] 25)
  have hq : w.heap.size + 2 ≤ Waa.heap.size := by have := xr.lt; omega
  have xq := HB.new Waa 25 #[.int .u64 0, .int .u64 0]
  replace kk := bC kk ha; replace xn := xn.later ha; replace xr := xr.later ha
  clear ha
  refine hK.out _ _ ⟨xn.cell 0, trivial⟩ (fun hHeld => ?_)
  clear hK K
  generalize Waa.alloc (.cells #[.int .u64 0, .int .u64 0] 25) = Waab at *
  generalize Waa.heap.size = q at *
  try simp only [List.getElem_toArray, List.getElem_cons_zero, List.getElem_cons_succ, Act.put, List.setIfInBounds_toArray, List.set_cons_zero, List.set_cons_succ]
  clear Waa
  clear hHeld
  refine wpAnyH_ready (rs := [9]) (by kernel_rfl) (by simp) ?_
  refine AllReadyH.cons rfl (fun K hK => ?_) AllReadyH.nil
  have KEY := Lib.hid (show HB ((Waab.setCell ⟨q, 0, none⟩ (.int .u64 bh)).setCell ⟨q, 1, none⟩ (.int .u64 bl)) q 25 #[.int .u64 bh, .int .u64 bl] ∧ Below w.heap.size w ((Waab.setCell ⟨q, 0, none⟩ (.int .u64 bh)).setCell ⟨q, 1, none⟩ (.int .u64 bl)) ∧ HB ((Waab.setCell ⟨q, 0, none⟩ (.int .u64 bh)).setCell ⟨q, 1, none⟩ (.int .u64 bl)) w.heap.size 28 #[.bool ng, .int .u8 c, .int .i64 ne, .int .u64 nh, .int .u64 nl] ∧ HB ((Waab.setCell ⟨q, 0, none⟩ (.int .u64 bh)).setCell ⟨q, 1, none⟩ (.int .u64 bl)) (w.heap.size + 1) 25 #[.int .u64 0, .int .u64 0] from ⟨(xq.set 0 _).set 1 _, (kk.setCell (p := ⟨q, 0, none⟩) (by show w.heap.size ≤ q; omega) _).setCell (p := ⟨q, 1, none⟩) (by show w.heap.size ≤ q; omega) _, (xn.other (by omega) _ _).other (by omega) _ _, (xr.other (by omega) _ _).other (by omega) _ _⟩)
  have z0 := xq.cell 0; have z1 := xq.cell 1; have y0 := xq.frozen 0; have y1 := xq.frozen 1; have yl := xq.lt; dsimp at z0 z1
  go_simp
  obtain ⟨k1, k2, k3, k4⟩ := KEY.out
  refine hK.out _ _ ⟨k3.cell 0, trivial⟩ (fun hHeld => ?_)
  clear hK K z0 z1 y0 y1 yl KEY xq kk xn xr
  try simp only [List.getElem_toArray, List.getElem_cons_zero, List.getElem_cons_succ, Act.put, List.setIfInBounds_toArray, List.set_cons_zero, List.set_cons_succ]
  refine wpAnyH_done (by kernel_rfl) ?_ _
  refine NoPanic.normal ?_
  clear hHeld
  generalize ((Waab.setCell ⟨q, 0, none⟩ (.int .u64 bh)).setCell ⟨q, 1, none⟩ (.int .u64 bl)) = V at *
  clear Waab
  revert V
  revert hq
  revert q
  revert v2
  refine ?rest
  rotate_left
  go_simp
  have ha := bA (Below.refl _ Wa) (.cells #[.int .u64 0, .int .u64 0] 25)
  have hq : w.heap.size + 2 ≤ Wa.heap.size := by have := xr.lt; omega
  have xq := HB.new Wa 25 #[.int .u64 0, .int .u64 0]
  have n2x := n2.later ha; clear n2
  replace kk := bC kk ha; replace xn := xn.later ha; replace xr := xr.later ha
  clear ha
  refine hK.out _ _ ⟨xn.cell 0, trivial⟩ (fun hHeld => ?_)
  clear hK K
  generalize Wa.alloc (.cells #[.int .u64 0, .int .u64 0] 25) = Wab at *
  generalize Wa.heap.size = q at *
  try simp only [List.getElem_toArray, List.getElem_cons_zero, List.getElem_cons_succ, Act.put, List.setIfInBounds_toArray, List.set_cons_zero, List.set_cons_succ]
  clear Wa
  clear hHeld
  refine wpAnyH_ready (rs := [7]) (by kernel_rfl) (by simp) ?_
  refine AllReadyH.cons rfl (fun K hK => ?_) AllReadyH.nil
  go_simp
  (with_reducible refine (MK.out _ _ n2x).mono ?_); rintro e Waba ⟨rfl, hb⟩
  replace kk := bC kk hb; replace xn := xn.later hb; replace xr := xr.later hb
  replace xq := xq.later hb
  clear hb n2x
  refine hK.out _ _ ⟨xn.cell 0, trivial⟩ (fun hHeld => ?_)
  clear hK K
  try simp only [List.getElem_toArray, List.getElem_cons_zero, List.getElem_cons_succ, Act.put, List.setIfInBounds_toArray, List.set_cons_zero, List.set_cons_succ]
  clear Wab
  clear hHeld
  refine wpAnyH_ready (rs := [9]) (by kernel_rfl) (by simp) ?_
  refine AllReadyH.cons rfl (fun K hK => ?_) AllReadyH.nil
  have KEY := Lib.hid (show HB ((Waba.setCell ⟨q, 0, none⟩ (.int .u64 bh)).setCell ⟨q, 1, none⟩ (.int .u64 bl)) q 25 #[.int .u64 bh, .int .u64 bl] ∧ Below w.heap.size w ((Waba.setCell ⟨q, 0, none⟩ (.int .u64 bh)).setCell ⟨q, 1, none⟩ (.int .u64 bl)) ∧ HB ((Waba.setCell ⟨q, 0, none⟩ (.int .u64 bh)).setCell ⟨q, 1, none⟩ (.int .u64 bl)) w.heap.size 28 #[.bool ng, .int .u8 c, .int .i64 ne, .int .u64 nh, .int .u64 nl] ∧ HB ((Waba.setCell ⟨q, 0, none⟩ (.int .u64 bh)).setCell ⟨q, 1, none⟩ (.int .u64 bl)) (w.heap.size + 1) 25 #[.int .u64 0, .int .u64 0] from ⟨(xq.set 0 _).set 1 _, (kk.setCell (p := ⟨q, 0, none⟩) (by show w.heap.size ≤ q; omega) _).setCell (p := ⟨q, 1, none⟩) (by show w.heap.size ≤ q; omega) _, (xn.other (by omega) _ _).other (by omega) _ _, (xr.other (by omega) _ _).other (by omega) _ _⟩)
  have z0 := xq.cell 0; have z1 := xq.cell 1; have y0 := xq.frozen 0; have y1 := xq.frozen 1; have yl := xq.lt; dsimp at z0 z1
  go_simp
  obtain ⟨k1, k2, k3, k4⟩ := KEY.out
  refine hK.out _ _ ⟨k3.cell 0, trivial⟩ (fun hHeld => ?_)
  clear hK K z0 z1 y0 y1 yl KEY xq kk xn xr
  try simp only [List.getElem_toArray, List.getElem_cons_zero, List.getElem_cons_succ, Act.put, List.setIfInBounds_toArray, List.set_cons_zero, List.set_cons_succ]
  refine wpAnyH_done (by kernel_rfl) ?_ _
  refine NoPanic.normal ?_
  clear hHeld
  generalize ((Waba.setCell ⟨q, 0, none⟩ (.int .u64 bh)).setCell ⟨q, 1, none⟩ (.int .u64 bl)) = V at *
  clear Waba
  revert V
  revert hq
  revert q
  revert v2
  exact ?rest
  go_simp
  have ha := bA (Below.refl _ W) (.cells #[.int .u64 0, .int .u64 0] 25)
  have hq : w.heap.size + 2 ≤ W.heap.size := by have := xr.lt; omega
  have xq := HB.new W 25 #[.int .u64 0, .int .u64 0]
  have n8x := n8.later ha; clear n8
  replace kk := bC kk ha; replace xn := xn.later ha; replace xr := xr.later ha
  clear ha
  refine hK.out _ _ ⟨xn.cell 0, trivial⟩ (fun hHeld => ?_)
  clear hK K
  generalize W.alloc (.cells #[.int .u64 0, .int .u64 0] 25) = Wb at *
  generalize W.heap.size = q at *
  try simp only [List.getElem_toArray, List.getElem_cons_zero, List.getElem_cons_succ, Act.put, List.setIfInBounds_toArray, List.set_cons_zero, List.set_cons_succ]
  clear W
  clear hHeld
  refine wpAnyH_ready (rs := [6]) (by kernel_rfl) (by simp) ?_
  refine AllReadyH.cons rfl (fun K hK => ?_) AllReadyH.nil
  go_simp
  (with_reducible refine (shr_num n8x off HO.out).mono ?_); rintro e Wba ⟨v2, rfl, n2, hb⟩
  replace kk := bC kk hb; replace xn := xn.later hb; replace xr := xr.later hb
  replace xq := xq.later hb
  rw [HQ] at n2
  clear hb n8x
  refine hK.out _ _ ⟨xn.cell 0, trivial⟩ (fun hHeld => ?_)
  clear hK K
  try simp only [List.getElem_toArray, List.getElem_cons_zero, List.getElem_cons_succ, Act.put, List.setIfInBounds_toArray, List.set_cons_zero, List.set_cons_succ]
  clear Wb
  clear hHeld
  refine wpAnyH_ready (rs := [7]) (by kernel_rfl) (by simp) ?_
  refine AllReadyH.cons rfl (fun K hK => ?_) AllReadyH.nil
  go_simp
  (with_reducible refine (MK.out _ _ n2).mono ?_); rintro e Wbaa ⟨rfl, hb⟩
  replace kk := bC kk hb; replace xn := xn.later hb; replace xr := xr.later hb
  replace xq := xq.later hb
  clear hb n2
  refine hK.out _ _ ⟨xn.cell 0, trivial⟩ (fun hHeld => ?_)
  clear hK K
  try simp only [List.getElem_toArray, List.getElem_cons_zero, List.getElem_cons_succ, Act.put, List.setIfInBounds_toArray, List.set_cons_zero, List.set_cons_succ]
  clear Wba
  clear hHeld
  refine wpAnyH_ready (rs := [9]) (by kernel_rfl) (by simp) ?_
  refine AllReadyH.cons rfl (fun K hK => ?_) AllReadyH.nil
  have KEY := Lib.hid (show HB ((Wbaa.setCell ⟨q, 0, none⟩ (.int .u64 bh)).setCell ⟨q, 1, none⟩ (.int .u64 bl)) q 25 #[.int .u64 bh, .int .u64 bl] ∧ Below w.heap.size w ((Wbaa.setCell ⟨q, 0, none⟩ (.int .u64 bh)).setCell ⟨q, 1, none⟩ (.int .u64 bl)) ∧ HB ((Wbaa.setCell ⟨q, 0, none⟩ (.int .u64 bh)).setCell ⟨q, 1, none⟩ (.int .u64 bl)) w.heap.size 28 #[.bool ng, .int .u8 c, .int .i64 ne, .int .u64 nh, .int .u64 nl] ∧ HB ((Wbaa.setCell ⟨q, 0, none⟩ (.int .u64 bh)).setCell ⟨q, 1, none⟩ (.int .u64 bl)) (w.heap.size + 1) 25 #[.int .u64 0, .int .u64 0] from ⟨(xq.set 0 _).set 1 _, (kk.setCell (p := ⟨q, 0, none⟩) (by show w.heap.size ≤ q; omega) _).setCell (p := ⟨q, 1, none⟩) (by show w.heap.size ≤ q; omega) _, (xn.other (by omega) _ _).other (by omega) _ _, (xr.other (by omega) _ _).other (by omega) _ _⟩)
  have z0 := xq.cell 0; have z1 := xq.cell 1; have y0 := xq.frozen 0; have y1 := xq.frozen 1; have yl := xq.lt; dsimp at z0 z1
  go_simp
  obtain ⟨k1, k2, k3, k4⟩ := KEY.out
  refine hK.out _ _ ⟨k3.cell 0, trivial⟩ (fun hHeld => ?_)
  clear hK K z0 z1 y0 y1 yl KEY xq kk xn xr
  try simp only [List.getElem_toArray, List.getElem_cons_zero, List.getElem_cons_succ, Act.put, List.setIfInBounds_toArray, List.set_cons_zero, List.set_cons_succ]
  refine wpAnyH_done (by kernel_rfl) ?_ _
  refine NoPanic.normal ?_
  clear hHeld
  generalize ((Wbaa.setCell ⟨q, 0, none⟩ (.int .u64 bh)).setCell ⟨q, 1, none⟩ (.int .u64 bl)) = V at *
  clear Wbaa
  revert V
  revert hq
  revert q
  revert v2
  exact ?rest
  case rest =>
    intro v2 q hq V k1 k2 k3 k4
    have q0 := k1.cell 0; have q1 := k1.cell 1; have ql := k1.lt; dsimp at q0 q1
    go_wp2_with fail
    (with_reducible refine (UN.out _).mono ?_); rintro e w5 ⟨rfl, hb⟩
    replace k1 := k1.later hb; replace k2 := bC k2 hb; replace k3 := k3.later hb; replace k4 := k4.later hb
    clear hb q0 q1 ql
    have q0 := k1.cell 0; have q1 := k1.cell 1; have ql := k1.lt; have c0 := k3.cell 0; have c1 := k3.cell 1; have c2 := k3.cell 2; have c3_ := k3.cell 3; have c4 := k3.cell 4; have cl := k3.lt; dsimp at q0 q1 c0 c1 c2 c3_ c4
    have KEY : Hid (HB (((w5.setCell ⟨w.heap.size + 1, 0, none⟩ (.int .u64 0)).setCell ⟨w.heap.size + 1, 1, none⟩ (.int .u64 0)).alloc (.cells #[.bool ng, .int .u8 mc, .int .i64 ne, .int .u64 mh, .int .u64 ml] 28)) (w.heap.size + 1) 25 #[.int .u64 0, .int .u64 0] ∧ Below w.heap.size w (((w5.setCell ⟨w.heap.size + 1, 0, none⟩ (.int .u64 0)).setCell ⟨w.heap.size + 1, 1, none⟩ (.int .u64 0)).alloc (.cells #[.bool ng, .int .u8 mc, .int .i64 ne, .int .u64 mh, .int .u64 ml] 28))) := Lib.hid ⟨((k4.set 0 _).set 1 _).alloc _, bA ((k2.setCell (p := ⟨w.heap.size + 1, 0, none⟩) (by simp) _).setCell (p := ⟨w.heap.size + 1, 1, none⟩) (by simp) _) _⟩
    have z0 := k4.cell 0; have z1 := k4.cell 1; have y0 := k4.frozen 0; have y1 := k4.frozen 1; have yl := k4.lt; dsimp at z0 z1
    clear k1 k2 k3 k4
    go_wp2_with fail
    obtain ⟨hE, kb⟩ := KEY.out
    have e0 := hE.cell 0; have e1 := hE.cell 1; dsimp at e0 e1
    refine bodyPost_ret (v := .tuple #[.agg #[.int .u64 0, .int .u64 0], .bool false]) ?_ rfl ⟨rfl, kb⟩
    clear KEY hE kb z0 z1 y0 y1 q0 q1 c0 c1 c2 c3_ c4
    simp [results, Tryd.results14, go_sem, e0, e1]

set_option maxHeartbeats 4000000 in
set_option maxRecDepth 100000 in
theorem ref9_pack_nor_ok (f c ne nh nl p em x1 x2 x3 S fl o1 o2 Q bh bl mc : Int) (ng : Bool)
    (g3 : decide (3 < f) = false) (gc : decide (3 < c) = false) (cz : (c == 0) = false) (c3 : (c == 3) = false)
    (PF : Hid (∀ w, Calls Tryd.prog 39 #[.int .u8 f] w fun e w' => e = .returned (.int .i64 p) ∧ w = w'))
    (EF : Hid (∀ w, Calls Tryd.prog 40 #[.int .u8 f] w fun e w' => e = .returned (.int .i64 em) ∧ w = w')) (d1 : decide (em < ne) = false) (w1_ : IntKind.i64.wrap (1 - em) = x1) (w2_ : IntKind.i64.wrap (p - 1) = x2) (w3_ : IntKind.i64.wrap (x1 - x2) = x3) (d2 : decide (ne < x3) = false) (BN : Hid (∀ w, Calls Tryd.prog 41 #[.agg #[.int .u64 nh, .int .u64 nl]] w (RetNum w S))) (w4_ : IntKind.i64.wrap (ne + em) = fl) (off : Nat) (w5_ : IntKind.i64.wrap (128 - p) = (off : Int)) (d3 : decide (fl < 1) = false)
    (HO : Hid ((off : Int) ≤ 9223372036854775807)) (HQ : S / 2 ^ off = Q) (MK : Hid (∀ w v, IsNum w v Q → Calls Tryd.prog 37 #[.int .u8 f, .bool ng, .int .i64 fl, v] w fun e w' => e = .returned (.agg #[.int .u64 (bh), .int .u64 (bl)]) ∧ Below w.heap.size w w'))
    (UN : Hid (∀ w, Calls Tryd.prog 11 #[.int .u8 f, .agg #[.int .u64 (bh), .int .u64 (bl)]] w fun e w' => e = .returned (.agg #[.bool ng, .int .u8 mc, .int .i64 ne, .int .u64 nh, .int .u64 nl]) ∧ Below w.heap.size w w')) (t2 : ∀ w, (binOp .neq 25 (.agg #[.int .u64 nh, .int .u64 nl]) (.agg #[.int .u64 nh, .int .u64 nl])).run Tryd.prog w = .ok (.bool false) w) (w : World) :
    Calls Tryd.prog 14 #[.int .u8 f, .agg #[.bool ng, .int .u8 c, .int .i64 ne, .int .u64 nh, .int .u64 nl]] w fun e w' => e = .returned (.tuple #[.agg #[.int .u64 bh, .int .u64 bl], .bool true]) ∧ Below w.heap.size w w' := by
  go_enter Tryd.func14, Tryd.ntmps14
  go_wp2_with fail
  (with_reducible refine (PF.out _).mono ?_); rintro e wz ⟨rfl, rfl⟩
  go_wp2_with fail
  (with_reducible refine (EF.out _).mono ?_); rintro e wz ⟨rfl, rfl⟩
  go_wp2_with fail
  (with_reducible refine (BN.out _).mono ?_); rintro e w1 ⟨v8, rfl, n8, hb⟩
  have kk := bC (bA (bA (Below.refl _ _) _) _) hb
  have xn : HB w1 w.heap.size 28 #[.bool ng, .int .u8 c, .int .i64 ne, .int .u64 nh, .int .u64 nl] := ((HB.new w _ _).alloc _).later hb
  have xr : HB w1 (w.heap.size + 1) 25 #[.int .u64 0, .int .u64 0] := (HB.newAt (by simp) _ _).later hb
  have c0 := xn.cell 0; have c1 := xn.cell 1; have c2 := xn.cell 2; have c3_ := xn.cell 3; have c4 := xn.cell 4; have cl := xn.lt; dsimp at c0 c1 c2 c3_ c4
  clear hb
  go_wp2_with fail
  clear c1 c2 c3_ c4 cl
  refine wp_region_noPanic ?_
  refine wp_region_held_drew (S := fun w' => w'.cell? ⟨w.heap.size, 0, none⟩ = some (.bool ng) ∧ True) (by kernel_rfl) ⟨cell_later (Below.refl _ _).drew c0, trivial⟩ (fun hHeld => ?_)
  replace kk := bC kk (Below.refl _ _).drew; replace xn := xn.later (Below.refl _ _).drew; replace xr := xr.later (Below.refl _ _).drew; replace n8 := n8.later (Below.refl _ _).drew; clear c0
  generalize w1.drew = W at *; clear w1
  refine wpAnyH_take (i := 0) (v := ?vq31) rfl (by kernel_rfl) (by kernel_rfl) (by kernel_rfl) (fun _ _ _ h => h) (Or.inl ⟨by rfl, ?yq31⟩) hHeld ?rq31
  case yq31 => (intro wq hb; obtain ⟨lq0, _⟩ := hb; go_simp; try (with_reducible rfl))
  try simp only [List.getElem_toArray, List.getElem_cons_zero, List.getElem_cons_succ, Act.put, List.setIfInBounds_toArray, List.set_cons_zero, List.set_cons_succ]
  refine wpAnyH_take (i := 1) (v := ?vq32) rfl (by kernel_rfl) (by kernel_rfl) (by kernel_rfl) (fun _ _ _ h => h) (Or.inl ⟨by rfl, ?yq32⟩) hHeld ?rq32
  case yq32 => (intro wq hb; obtain ⟨lq0, _⟩ := hb; go_simp; try (with_reducible rfl))
  try simp only [List.getElem_toArray, List.getElem_cons_zero, List.getElem_cons_succ, Act.put, List.setIfInBounds_toArray, List.set_cons_zero, List.set_cons_succ]
  refine wpAnyH_take (i := 2) (v := ?vq33) rfl (by kernel_rfl) (by kernel_rfl) (by kernel_rfl) (fun _ _ _ h => h) (Or.inl ⟨by rfl, ?yq33⟩) hHeld ?rq33
  case yq33 => (intro wq hb; obtain ⟨lq0, _⟩ := hb; go_simp; try (with_reducible rfl))
  try simp only [List.getElem_toArray, List.getElem_cons_zero, List.getElem_cons_succ, Act.put, List.setIfInBounds_toArray, List.set_cons_zero, List.set_cons_succ]
  refine wpAnyH_take (i := 3) (v := ?vq34) rfl (by kernel_rfl) (by kernel_rfl) (by kernel_rfl) (fun _ _ _ h => h) (Or.inl ⟨by rfl, ?yq34⟩) hHeld ?rq34
  case yq34 => (intro wq hb; obtain ⟨lq0, _⟩ := hb; go_simp; try (with_reducible rfl))
  try simp only [List.getElem_toArray, List.getElem_cons_zero, List.getElem_cons_succ, Act.put, List.setIfInBounds_toArray, List.set_cons_zero, List.set_cons_succ]
  refine wpAnyH_take (i := 4) (v := ?vq35) rfl (by kernel_rfl) (by kernel_rfl) (by kernel_rfl) (fun _ _ _ h => h) (Or.inl ⟨by rfl, ?yq35⟩) hHeld ?rq35
  case yq35 => (intro wq hb; obtain ⟨lq0, _⟩ := hb; go_simp; try (with_reducible rfl))
  try simp only [List.getElem_toArray, List.getElem_cons_zero, List.getElem_cons_succ, Act.put, List.setIfInBounds_toArray, List.set_cons_zero, List.set_cons_succ]
  refine wpAnyH_take (i := 5) (v := ?vq36) rfl (by kernel_rfl) (by kernel_rfl) (by kernel_rfl) (fun _ _ _ h => h) (Or.inl ⟨by rfl, ?yq36⟩) hHeld ?rq36
  case yq36 => (intro wq hb; obtain ⟨lq0, _⟩ := hb; go_simp; try (with_reducible rfl))
  try simp only [List.getElem_toArray, List.getElem_cons_zero, List.getElem_cons_succ, Act.put, List.setIfInBounds_toArray, List.set_cons_zero, List.set_cons_succ]
  clear hHeld
  refine wpAnyH_ready (rs := [6, 8]) (by kernel_rfl) (by simp) ?_
  refine AllReadyH.cons rfl (fun K hK => ?_) (AllReadyH.cons rfl (fun K hK => ?_) AllReadyH.nil)
  go_simp
  (with_reducible refine (shr_num n8 off HO.out).mono ?_); rintro e Wa ⟨v2, rfl, n2, hb⟩
  replace kk := bC kk hb; replace xn := xn.later hb; replace xr := xr.later hb
  rw [HQ] at n2
  clear hb n8
  refine hK.out _ _ ⟨xn.cell 0, trivial⟩ (fun hHeld => ?_)
  clear hK K
  try simp only [List.getElem_toArray, List.getElem_cons_zero, List.getElem_cons_succ, Act.put, List.setIfInBounds_toArray, List.set_cons_zero, List.set_cons_succ]
  clear W
  clear hHeld
  refine wpAnyH_ready (rs := [7, 8]) (by kernel_rfl) (by simp) ?_
  refine AllReadyH.cons rfl (fun K hK => ?_) (AllReadyH.cons rfl (fun K hK => ?_) AllReadyH.nil)
  go_simp
  (with_reducible refine (MK.out _ _ n2).mono ?_); rintro e Waa ⟨rfl, hb⟩
  replace kk := bC kk hb; replace xn := xn.later hb; replace xr := xr.later hb
  clear hb n2
  refine hK.out _ _ ⟨xn.cell 0, trivial⟩ (fun hHeld => ?_)
  clear hK K
  try simp only [List.getElem_toArray, List.getElem_cons_zero, List.getElem_cons_succ, Act.put, List.setIfInBounds_toArray, List.set_cons_zero, List.set_cons_succ]
  clear Wa
  clear hHeld
  refine wpAnyH_ready (rs := [8]) (by kernel_rfl) (by simp) ?_
  refine AllReadyH.cons rfl (fun K hK => ?_) AllReadyH.nil
  go_simp
  have ha := bA (Below.refl _ Waa) (.cells #[.int .u64 0, .int .u64 0] 25)
  have hq : w.heap.size + 2 ≤ Waa.heap.size := by have := xr.lt; omega
  have xq := HB.new Waa 25 #[.int .u64 0, .int .u64 0]
  replace kk := bC kk ha; replace xn := xn.later ha; replace xr := xr.later ha
  clear ha
  refine hK.out _ _ ⟨xn.cell 0, trivial⟩ (fun hHeld => ?_)
  clear hK K
  generalize Waa.alloc (.cells #[.int .u64 0, .int .u64 0] 25) = Waab at *
  generalize Waa.heap.size = q at *
  try simp only [List.getElem_toArray, List.getElem_cons_zero, List.getElem_cons_succ, Act.put, List.setIfInBounds_toArray, List.set_cons_zero, List.set_cons_succ]
  clear Waa
  clear hHeld
  refine wpAnyH_ready (rs := [9]) (by kernel_rfl) (by simp) ?_
  refine AllReadyH.cons rfl (fun K hK => ?_) AllReadyH.nil
  have KEY := Lib.hid (show HB ((Waab.setCell ⟨q, 0, none⟩ (.int .u64 bh)).setCell ⟨q, 1, none⟩ (.int .u64 bl)) q 25 #[.int .u64 bh, .int .u64 bl] ∧ Below w.heap.size w ((Waab.setCell ⟨q, 0, none⟩ (.int .u64 bh)).setCell ⟨q, 1, none⟩ (.int .u64 bl)) ∧ HB ((Waab.setCell ⟨q, 0, none⟩ (.int .u64 bh)).setCell ⟨q, 1, none⟩ (.int .u64 bl)) w.heap.size 28 #[.bool ng, .int .u8 c, .int .i64 ne, .int .u64 nh, .int .u64 nl] ∧ HB ((Waab.setCell ⟨q, 0, none⟩ (.int .u64 bh)).setCell ⟨q, 1, none⟩ (.int .u64 bl)) (w.heap.size + 1) 25 #[.int .u64 0, .int .u64 0] from ⟨(xq.set 0 _).set 1 _, (kk.setCell (p := ⟨q, 0, none⟩) (by show w.heap.size ≤ q; omega) _).setCell (p := ⟨q, 1, none⟩) (by show w.heap.size ≤ q; omega) _, (xn.other (by omega) _ _).other (by omega) _ _, (xr.other (by omega) _ _).other (by omega) _ _⟩)
  have z0 := xq.cell 0; have z1 := xq.cell 1; have y0 := xq.frozen 0; have y1 := xq.frozen 1; have yl := xq.lt; dsimp at z0 z1
  go_simp
  obtain ⟨k1, k2, k3, k4⟩ := KEY.out
  refine hK.out _ _ ⟨k3.cell 0, trivial⟩ (fun hHeld => ?_)
  clear hK K z0 z1 y0 y1 yl KEY xq kk xn xr
  try simp only [List.getElem_toArray, List.getElem_cons_zero, List.getElem_cons_succ, Act.put, List.setIfInBounds_toArray, List.set_cons_zero, List.set_cons_succ]
  refine wpAnyH_done (by kernel_rfl) ?_ _
  refine NoPanic.normal ?_
  clear hHeld
  generalize ((Waab.setCell ⟨q, 0, none⟩ (.int .u64 bh)).setCell ⟨q, 1, none⟩ (.int .u64 bl)) = V at *
  clear Waab
  revert V
  revert hq
  revert q
  revert v2
  refine ?rest
  rotate_left
  go_simp
  have ha := bA (Below.refl _ Wa) (.cells #[.int .u64 0, .int .u64 0] 25)
  have hq : w.heap.size + 2 ≤ Wa.heap.size := by have := xr.lt; omega
  have xq := HB.new Wa 25 #[.int .u64 0, .int .u64 0]
  have n2x := n2.later ha; clear n2
  replace kk := bC kk ha; replace xn := xn.later ha; replace xr := xr.later ha
  clear ha
  refine hK.out _ _ ⟨xn.cell 0, trivial⟩ (fun hHeld => ?_)
  clear hK K
  generalize Wa.alloc (.cells #[.int .u64 0, .int .u64 0] 25) = Wab at *
  generalize Wa.heap.size = q at *
  try simp only [List.getElem_toArray, List.getElem_cons_zero, List.getElem_cons_succ, Act.put, List.setIfInBounds_toArray, List.set_cons_zero, List.set_cons_succ]
  clear Wa
  clear hHeld
  refine wpAnyH_ready (rs := [7]) (by kernel_rfl) (by simp) ?_
  refine AllReadyH.cons rfl (fun K hK => ?_) AllReadyH.nil
  go_simp
  (with_reducible refine (MK.out _ _ n2x).mono ?_); rintro e Waba ⟨rfl, hb⟩
  replace kk := bC kk hb; replace xn := xn.later hb; replace xr := xr.later hb
  replace xq := xq.later hb
  clear hb n2x
  refine hK.out _ _ ⟨xn.cell 0, trivial⟩ (fun hHeld => ?_)
  clear hK K
  try simp only [List.getElem_toArray, List.getElem_cons_zero, List.getElem_cons_succ, Act.put, List.setIfInBounds_toArray, List.set_cons_zero, List.set_cons_succ]
  clear Wab
  clear hHeld
  refine wpAnyH_ready (rs := [9]) (by kernel_rfl) (by simp) ?_
  refine AllReadyH.cons rfl (fun K hK => ?_) AllReadyH.nil
  have KEY := Lib.hid (show HB ((Waba.setCell ⟨q, 0, none⟩ (.int .u64 bh)).setCell ⟨q, 1, none⟩ (.int .u64 bl)) q 25 #[.int .u64 bh, .int .u64 bl] ∧ Below w.heap.size w ((Waba.setCell ⟨q, 0, none⟩ (.int .u64 bh)).setCell ⟨q, 1, none⟩ (.int .u64 bl)) ∧ HB ((Waba.setCell ⟨q, 0, none⟩ (.int .u64 bh)).setCell ⟨q, 1, none⟩ (.int .u64 bl)) w.heap.size 28 #[.bool ng, .int .u8 c, .int .i64 ne, .int .u64 nh, .int .u64 nl] ∧ HB ((Waba.setCell ⟨q, 0, none⟩ (.int .u64 bh)).setCell ⟨q, 1, none⟩ (.int .u64 bl)) (w.heap.size + 1) 25 #[.int .u64 0, .int .u64 0] from ⟨(xq.set 0 _).set 1 _, (kk.setCell (p := ⟨q, 0, none⟩) (by show w.heap.size ≤ q; omega) _).setCell (p := ⟨q, 1, none⟩) (by show w.heap.size ≤ q; omega) _, (xn.other (by omega) _ _).other (by omega) _ _, (xr.other (by omega) _ _).other (by omega) _ _⟩)
  have z0 := xq.cell 0; have z1 := xq.cell 1; have y0 := xq.frozen 0; have y1 := xq.frozen 1; have yl := xq.lt; dsimp at z0 z1
  go_simp
  obtain ⟨k1, k2, k3, k4⟩ := KEY.out
  refine hK.out _ _ ⟨k3.cell 0, trivial⟩ (fun hHeld => ?_)
  clear hK K z0 z1 y0 y1 yl KEY xq kk xn xr
  try simp only [List.getElem_toArray, List.getElem_cons_zero, List.getElem_cons_succ, Act.put, List.setIfInBounds_toArray, List.set_cons_zero, List.set_cons_succ]
  refine wpAnyH_done (by kernel_rfl) ?_ _
  refine NoPanic.normal ?_
  clear hHeld
  generalize ((Waba.setCell ⟨q, 0, none⟩ (.int .u64 bh)).setCell ⟨q, 1, none⟩ (.int .u64 bl)) = V at *
  clear Waba
  revert V
  revert hq
  revert q
  revert v2
  exact ?rest
  go_simp
  have ha := bA (Below.refl _ W) (.cells #[.int .u64 0, .int .u64 0] 25)
  have hq : w.heap.size + 2 ≤ W.heap.size := by have := xr.lt; omega
  have xq := HB.new W 25 #[.int .u64 0, .int .u64 0]
  have n8x := n8.later ha; clear n8
  replace kk := bC kk ha; replace xn := xn.later ha; replace xr := xr.later ha
  clear ha
  refine hK.out _ _ ⟨xn.cell 0, trivial⟩ (fun hHeld => ?_)
  clear hK K
  generalize W.alloc (.cells #[.int .u64 0, .int .u64 0] 25) = Wb at *
  generalize W.heap.size = q at *
  try simp only [List.getElem_toArray, List.getElem_cons_zero, List.getElem_cons_succ, Act.put, List.setIfInBounds_toArray, List.set_cons_zero, List.set_cons_succ]
  clear W
  clear hHeld
  refine wpAnyH_ready (rs := [6]) (by kernel_rfl) (by simp) ?_
  refine AllReadyH.cons rfl (fun K hK => ?_) AllReadyH.nil
  go_simp
  (with_reducible refine (shr_num n8x off HO.out).mono ?_); rintro e Wba ⟨v2, rfl, n2, hb⟩
  replace kk := bC kk hb; replace xn := xn.later hb; replace xr := xr.later hb
  replace xq := xq.later hb
  rw [HQ] at n2
  clear hb n8x
  refine hK.out _ _ ⟨xn.cell 0, trivial⟩ (fun hHeld => ?_)
  clear hK K
  try simp only [List.getElem_toArray, List.getElem_cons_zero, List.getElem_cons_succ, Act.put, List.setIfInBounds_toArray, List.set_cons_zero, List.set_cons_succ]
  clear Wb
  clear hHeld
  refine wpAnyH_ready (rs := [7]) (by kernel_rfl) (by simp) ?_
  refine AllReadyH.cons rfl (fun K hK => ?_) AllReadyH.nil
  go_simp
  (with_reducible refine (MK.out _ _ n2).mono ?_); rintro e Wbaa ⟨rfl, hb⟩
  replace kk := bC kk hb; replace xn := xn.later hb; replace xr := xr.later hb
  replace xq := xq.later hb
  clear hb n2
  refine hK.out _ _ ⟨xn.cell 0, trivial⟩ (fun hHeld => ?_)
  clear hK K
  try simp only [List.getElem_toArray, List.getElem_cons_zero, List.getElem_cons_succ, Act.put, List.setIfInBounds_toArray, List.set_cons_zero, List.set_cons_succ]
  clear Wba
  clear hHeld
  refine wpAnyH_ready (rs := [9]) (by kernel_rfl) (by simp) ?_
  refine AllReadyH.cons rfl (fun K hK => ?_) AllReadyH.nil
  have KEY := Lib.hid (show HB ((Wbaa.setCell ⟨q, 0, none⟩ (.int .u64 bh)).setCell ⟨q, 1, none⟩ (.int .u64 bl)) q 25 #[.int .u64 bh, .int .u64 bl] ∧ Below w.heap.size w ((Wbaa.setCell ⟨q, 0, none⟩ (.int .u64 bh)).setCell ⟨q, 1, none⟩ (.int .u64 bl)) ∧ HB ((Wbaa.setCell ⟨q, 0, none⟩ (.int .u64 bh)).setCell ⟨q, 1, none⟩ (.int .u64 bl)) w.heap.size 28 #[.bool ng, .int .u8 c, .int .i64 ne, .int .u64 nh, .int .u64 nl] ∧ HB ((Wbaa.setCell ⟨q, 0, none⟩ (.int .u64 bh)).setCell ⟨q, 1, none⟩ (.int .u64 bl)) (w.heap.size + 1) 25 #[.int .u64 0, .int .u64 0] from ⟨(xq.set 0 _).set 1 _, (kk.setCell (p := ⟨q, 0, none⟩) (by show w.heap.size ≤ q; omega) _).setCell (p := ⟨q, 1, none⟩) (by show w.heap.size ≤ q; omega) _, (xn.other (by omega) _ _).other (by omega) _ _, (xr.other (by omega) _ _).other (by omega) _ _⟩)
  have z0 := xq.cell 0; have z1 := xq.cell 1; have y0 := xq.frozen 0; have y1 := xq.frozen 1; have yl := xq.lt; dsimp at z0 z1
  go_simp
  obtain ⟨k1, k2, k3, k4⟩ := KEY.out
  refine hK.out _ _ ⟨k3.cell 0, trivial⟩ (fun hHeld => ?_)
  clear hK K z0 z1 y0 y1 yl KEY xq kk xn xr
  try simp only [List.getElem_toArray, List.getElem_cons_zero, List.getElem_cons_succ, Act.put, List.setIfInBounds_toArray, List.set_cons_zero, List.set_cons_succ]
  refine wpAnyH_done (by kernel_rfl) ?_ _
  refine NoPanic.normal ?_
  clear hHeld
  generalize ((Wbaa.setCell ⟨q, 0, none⟩ (.int .u64 bh)).setCell ⟨q, 1, none⟩ (.int .u64 bl)) = V at *
  clear Wbaa
  revert V
  revert hq
  revert q
  revert v2
  exact ?rest
  case rest =>
    intro v2 q hq V k1 k2 k3 k4
    have q0 := k1.cell 0; have q1 := k1.cell 1; have ql := k1.lt; dsimp at q0 q1
    go_wp2_with fail
    (with_reducible refine (UN.out _).mono ?_); rintro e w5 ⟨rfl, hb⟩
    replace k1 := k1.later hb; replace k2 := bC k2 hb; replace k3 := k3.later hb; replace k4 := k4.later hb
    clear hb q0 q1 ql
    have q0 := k1.cell 0; have q1 := k1.cell 1; have ql := k1.lt; have c0 := k3.cell 0; have c1 := k3.cell 1; have c2 := k3.cell 2; have c3_ := k3.cell 3; have c4 := k3.cell 4; have cl := k3.lt; dsimp at q0 q1 c0 c1 c2 c3_ c4
    have KEY : Hid (HB (((w5.setCell ⟨w.heap.size + 1, 0, none⟩ (.int .u64 bh)).setCell ⟨w.heap.size + 1, 1, none⟩ (.int .u64 bl)).alloc (.cells #[.bool ng, .int .u8 mc, .int .i64 ne, .int .u64 nh, .int .u64 nl] 28)) (w.heap.size + 1) 25 #[.int .u64 bh, .int .u64 bl] ∧ Below w.heap.size w (((w5.setCell ⟨w.heap.size + 1, 0, none⟩ (.int .u64 bh)).setCell ⟨w.heap.size + 1, 1, none⟩ (.int .u64 bl)).alloc (.cells #[.bool ng, .int .u8 mc, .int .i64 ne, .int .u64 nh, .int .u64 nl] 28))) := Lib.hid ⟨((k4.set 0 _).set 1 _).alloc _, bA ((k2.setCell (p := ⟨w.heap.size + 1, 0, none⟩) (by simp) _).setCell (p := ⟨w.heap.size + 1, 1, none⟩) (by simp) _) _⟩
    have z0 := k4.cell 0; have z1 := k4.cell 1; have y0 := k4.frozen 0; have y1 := k4.frozen 1; have yl := k4.lt; dsimp at z0 z1
    clear k1 k2 k3 k4
    go_wp2_with fail
    obtain ⟨hE, kb⟩ := KEY.out
    have e0 := hE.cell 0; have e1 := hE.cell 1; dsimp at e0 e1
    refine bodyPost_ret (v := .tuple #[.agg #[.int .u64 bh, .int .u64 bl], .bool true]) ?_ rfl ⟨rfl, kb⟩
    clear KEY hE kb z0 z1 y0 y1 q0 q1 c0 c1 c2 c3_ c4
    simp [results, Tryd.results14, go_sem, e0, e1]


end Go.Proofs.YtelfjbdpmiopdaaDoor
