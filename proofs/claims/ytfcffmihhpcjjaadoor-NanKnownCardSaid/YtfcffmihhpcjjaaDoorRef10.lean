/-
  NaNs made quiet and picked: the document's answers of layer 10, over numbers.
-/
import Derived.Test.YtfcffmihhpcjjaaDoorMath10
import Derived.Test.YtfcffmihhpcjjaaDoorBsA
set_option linter.unusedVariables false
set_option linter.unusedSimpArgs false
set_option maxRecDepth 100000
namespace Go.Proofs.YtfcffmihhpcjjaaDoor
open Go.RowKit
attribute [local go_sem ↓] Go.wp_at_zero Go.wp_at_succ

theorem ref10_default_no (f : Int) (g3 : decide (3 < f) = true) (w : World) : Calls Tryd.prog 12 #[.int .u8 f] w fun e w' => e = .returned (.agg #[.int .u64 0, .int .u64 0]) ∧ Below w.heap.size w w' := by
  go_enter Tryd.func12, Tryd.ntmps12
  go_wp2_with fail
  exact bodyPost_ret (v := .agg #[.int .u64 0, .int .u64 0]) (by simp [results, Tryd.results12, go_sem]) rfl ⟨rfl, bA (Below.refl _ _) _⟩
set_option maxHeartbeats 4000000 in
theorem ref10_default_yes (f p em x1 x2 zh zl : Int) (kp : Nat) (g3 : decide (3 < f) = false) (PF : Hid (∀ w, Calls Tryd.prog 32 #[.int .u8 f] w fun e w' => e = .returned (.int .i64 p) ∧ w = w'))
    (EF : Hid (∀ w, Calls Tryd.prog 36 #[.int .u8 f] w fun e w' => e = .returned (.int .i64 em) ∧ w = w')) (HP : Hid (kp < 3200000)) (w1_ : IntKind.i64.wrap (2 * em) = x1) (w2_ : IntKind.i64.wrap (x1 + 1) = x2) (w2x : wrap64 (x1 + 1) = x2) (w3_ : IntKind.i64.wrap (p - 2) = (kp : Int))
    (MK : Hid (∀ w v, IsNum w v (2 ^ kp) → Calls Tryd.prog 35 #[.int .u8 f, .bool false, .int .i64 x2, v] w fun e w' => e = .returned (.agg #[.int .u64 (zh), .int .u64 (zl)]) ∧ Below w.heap.size w w')) (w : World) :
    Calls Tryd.prog 12 #[.int .u8 f] w fun e w' => e = .returned (.agg #[.int .u64 (zh), .int .u64 (zl)]) ∧ Below w.heap.size w w' := by
  go_enter Tryd.func12, Tryd.ntmps12
  go_wp2_with fail
  (with_reducible refine (EF.out _).mono ?_); rintro e wz ⟨rfl, rfl⟩
  go_wp2_with fail
  (with_reducible refine (PF.out _).mono ?_); rintro e wz ⟨rfl, rfl⟩
  go_wp2_with fail
  (with_reducible refine (fullN kp HP.out _).mono ?_); rintro e w1 ⟨v1, rfl, n1, hb⟩
  have kk := bC (bA (Below.refl _ _) _) hb
  have xr : HB w1 w.heap.size 25 #[.int .u64 0, .int .u64 0] := (HB.new w _ _).later hb
  clear hb
  go_wp2_with fail
  (with_reducible refine (MK.out _ _ n1).mono ?_); rintro e w2 ⟨rfl, hb⟩
  replace kk := bC kk hb; replace xr := xr.later hb
  clear hb n1
  have KEY : Hid (HB ((w2.setCell ⟨w.heap.size, 0, none⟩ (.int .u64 zh)).setCell ⟨w.heap.size, 1, none⟩ (.int .u64 zl)) (w.heap.size) 25 #[.int .u64 zh, .int .u64 zl] ∧ Below w.heap.size w ((w2.setCell ⟨w.heap.size, 0, none⟩ (.int .u64 zh)).setCell ⟨w.heap.size, 1, none⟩ (.int .u64 zl))) := Lib.hid ⟨((xr.set 0 _).set 1 _), ((kk.setCell (p := ⟨w.heap.size, 0, none⟩) (Nat.le_refl _) _).setCell (p := ⟨w.heap.size, 1, none⟩) (Nat.le_refl _) _)⟩
  have z0 := xr.cell 0; have f0 := xr.frozen 0; have z1 := xr.cell 1; have f1 := xr.frozen 1; dsimp at z0 z1
  have hl := xr.lt
  clear xr kk
  go_wp2_with fail
  obtain ⟨hE, kb⟩ := KEY.out
  have e0 := hE.cell 0; have e1 := hE.cell 1; dsimp at e0 e1
  refine bodyPost_ret (v := .agg #[.int .u64 (zh), .int .u64 (zl)]) ?_ rfl ⟨rfl, kb⟩
  clear KEY hE kb z0 f0 z1 f1
  simp [results, Tryd.results12, go_sem, e0, e1]
theorem ref10_default (f : Int) (f0 : 0 ≤ f) (f1 : f ≤ 255) (w : World) : Calls Tryd.prog 12 #[.int .u8 f] w fun e w' => e = .returned (.agg #[.int .u64 (hiOf (defF f)), .int .u64 (loOf (defF f))]) ∧ Below w.heap.size w w' := by
  by_cases h : f < 4
  · obtain ⟨p0, p1, p2, p3, p4, p5, p6, p7, p8⟩ := f_nums f0 h
    have PF := Lib.hid (ref7_prec f f0 f1)
    have EF := Lib.hid (ref7_emax f f0 f1)
    have sp : (2 : Int) ^ (fP f - 2) ≤ full := by have := two_pow_le (show fP f - 2 ≤ 128 by omega); rwa [full_pow] at this
    exact ref10_default_yes f _ _ (2 * fE f) (2 * fE f + 1) _ _ (fP f - 2) (by simp; omega) PF EF (Lib.hid (by omega)) (IntWalk.i64_in _ (by omega)) (IntWalk.i64_in _ (by omega)) (by unfold wrap64; omega) (by rw [IntWalk.i64_in _ (by omega)]; omega)
      (Lib.hid fun w v nv => ref7_make f (2 * fE f + 1) _ false v f0 f1 (by omega) (by omega) (small_full sp) w nv) w
  · rw [show defF f = 0 from makeF_zero h _ _ _, hl_zero.1, hl_zero.2]
    exact ref10_default_no f (by simp; omega) w
set_option maxHeartbeats 4000000 in
theorem ref10_quiet_not (f bh bl C Z p : Int) (kp : Nat) (CT : Hid (∀ w, Calls Tryd.prog 28 #[.int .u8 f, .agg #[.int .u64 (bh), .int .u64 (bl)]] w (RetNum w C))) (SG : Hid (∀ w, Calls Tryd.prog 29 #[.int .u8 f, .agg #[.int .u64 (bh), .int .u64 (bl)]] w fun e w' => e = .returned (.bool false) ∧ Below w.heap.size w w')) (HZ : C = Z) (w : World) :
    Calls Tryd.prog 10 #[.int .u8 f, .agg #[.int .u64 (bh), .int .u64 (bl)]] w fun e w' => e = .returned (.agg #[.int .u64 (hiOf (Z)), .int .u64 (loOf (Z))]) ∧ Below w.heap.size w w' := by
  go_enter Tryd.func10, Tryd.ntmps10
  go_wp2_with fail
  (with_reducible refine (CT.out _).mono ?_); rintro e w1 ⟨v1, rfl, n1, hb⟩
  have kk := bC (bA (bA (Below.refl _ _) _) _) hb
  have xr : HB w1 (w.heap.size + 1) 25 #[.int .u64 0, .int .u64 0] := (HB.newAt (by simp) _ _).later hb
  have xb : HB w1 w.heap.size 25 #[.int .u64 bh, .int .u64 bl] := ((HB.new w _ _).alloc _).later hb
  have b0 := xb.cell 0; have b1 := xb.cell 1; have bl_ := xb.lt; dsimp at b0 b1
  clear hb xb
  go_wp2_with fail
  (with_reducible refine (SG.out _).mono ?_); rintro e w2 ⟨rfl, hb⟩
  replace kk := bC kk hb; replace xr := xr.later hb; replace n1 := n1.later hb
  clear hb b0 b1 bl_
  rw [HZ] at n1
  go_wp2_with fail
  (with_reducible refine (bits_num2 n1).mono ?_); rintro e w5 ⟨rfl, hb⟩
  replace kk := bC kk hb; replace xr := xr.later hb
  clear hb n1
  have KEY : Hid (HB ((w5.setCell ⟨w.heap.size + 1, 0, none⟩ (.int .u64 (hiOf Z))).setCell ⟨w.heap.size + 1, 1, none⟩ (.int .u64 (loOf Z))) (w.heap.size + 1) 25 #[.int .u64 (hiOf Z), .int .u64 (loOf Z)] ∧ Below w.heap.size w ((w5.setCell ⟨w.heap.size + 1, 0, none⟩ (.int .u64 (hiOf Z))).setCell ⟨w.heap.size + 1, 1, none⟩ (.int .u64 (loOf Z)))) := Lib.hid ⟨((xr.set 0 _).set 1 _), ((kk.setCell (p := ⟨w.heap.size + 1, 0, none⟩) (by simp) _).setCell (p := ⟨w.heap.size + 1, 1, none⟩) (by simp) _)⟩
  have z0 := xr.cell 0; have f0 := xr.frozen 0; have z1 := xr.cell 1; have f1 := xr.frozen 1; dsimp at z0 z1
  have hl := xr.lt
  clear xr kk
  go_wp2_with fail
  obtain ⟨hE, kb⟩ := KEY.out
  have e0 := hE.cell 0; have e1 := hE.cell 1; dsimp at e0 e1
  refine bodyPost_ret (v := .agg #[.int .u64 (hiOf (Z)), .int .u64 (loOf (Z))]) ?_ rfl ⟨rfl, kb⟩
  clear KEY hE kb z0 f0 z1 f1
  simp [results, Tryd.results10, go_sem, e0, e1]
set_option maxHeartbeats 4000000 in
theorem ref10_quiet_sig (f bh bl C Z p : Int) (kp : Nat) (CT : Hid (∀ w, Calls Tryd.prog 28 #[.int .u8 f, .agg #[.int .u64 (bh), .int .u64 (bl)]] w (RetNum w C))) (SG : Hid (∀ w, Calls Tryd.prog 29 #[.int .u8 f, .agg #[.int .u64 (bh), .int .u64 (bl)]] w fun e w' => e = .returned (.bool true) ∧ Below w.heap.size w w')) (PF : Hid (∀ w, Calls Tryd.prog 32 #[.int .u8 f] w fun e w' => e = .returned (.int .i64 p) ∧ w = w')) (HP : Hid (kp < 3200000)) (w3_ : IntKind.i64.wrap (p - 2) = (kp : Int)) (S1 : Hid (Small C)) (S2 : Hid (Small (2 ^ kp))) (HZ : C + 2 ^ kp = Z) (w : World) :
    Calls Tryd.prog 10 #[.int .u8 f, .agg #[.int .u64 (bh), .int .u64 (bl)]] w fun e w' => e = .returned (.agg #[.int .u64 (hiOf (Z)), .int .u64 (loOf (Z))]) ∧ Below w.heap.size w w' := by
  go_enter Tryd.func10, Tryd.ntmps10
  go_wp2_with fail
  (with_reducible refine (CT.out _).mono ?_); rintro e w1 ⟨v1, rfl, n1, hb⟩
  have kk := bC (bA (bA (Below.refl _ _) _) _) hb
  have xr : HB w1 (w.heap.size + 1) 25 #[.int .u64 0, .int .u64 0] := (HB.newAt (by simp) _ _).later hb
  have xb : HB w1 w.heap.size 25 #[.int .u64 bh, .int .u64 bl] := ((HB.new w _ _).alloc _).later hb
  have b0 := xb.cell 0; have b1 := xb.cell 1; have bl_ := xb.lt; dsimp at b0 b1
  clear hb xb
  go_wp2_with fail
  (with_reducible refine (SG.out _).mono ?_); rintro e w2 ⟨rfl, hb⟩
  replace kk := bC kk hb; replace xr := xr.later hb; replace n1 := n1.later hb
  clear hb b0 b1 bl_
  go_wp2_with fail
  (with_reducible refine (PF.out _).mono ?_); rintro e wz ⟨rfl, rfl⟩
  go_wp2_with fail
  (with_reducible refine (fullN kp HP.out _).mono ?_); rintro e w3 ⟨v3, rfl, n3, hb⟩
  replace kk := bC kk hb; replace xr := xr.later hb; replace n1 := n1.later hb; clear hb
  go_wp2_with fail
  (with_reducible refine (add_num n1 n3 S1.out S2.out).mono ?_); rintro e w4 ⟨v4, rfl, n4, hb⟩
  replace kk := bC kk hb; replace xr := xr.later hb; clear hb n1 n3
  rw [HZ] at n4
  go_wp2_with fail
  (with_reducible refine (bits_num2 n4).mono ?_); rintro e w5 ⟨rfl, hb⟩
  replace kk := bC kk hb; replace xr := xr.later hb
  clear hb n4
  have KEY : Hid (HB ((w5.setCell ⟨w.heap.size + 1, 0, none⟩ (.int .u64 (hiOf Z))).setCell ⟨w.heap.size + 1, 1, none⟩ (.int .u64 (loOf Z))) (w.heap.size + 1) 25 #[.int .u64 (hiOf Z), .int .u64 (loOf Z)] ∧ Below w.heap.size w ((w5.setCell ⟨w.heap.size + 1, 0, none⟩ (.int .u64 (hiOf Z))).setCell ⟨w.heap.size + 1, 1, none⟩ (.int .u64 (loOf Z)))) := Lib.hid ⟨((xr.set 0 _).set 1 _), ((kk.setCell (p := ⟨w.heap.size + 1, 0, none⟩) (by simp) _).setCell (p := ⟨w.heap.size + 1, 1, none⟩) (by simp) _)⟩
  have z0 := xr.cell 0; have f0 := xr.frozen 0; have z1 := xr.cell 1; have f1 := xr.frozen 1; dsimp at z0 z1
  have hl := xr.lt
  clear xr kk
  go_wp2_with fail
  obtain ⟨hE, kb⟩ := KEY.out
  have e0 := hE.cell 0; have e1 := hE.cell 1; dsimp at e0 e1
  refine bodyPost_ret (v := .agg #[.int .u64 (hiOf (Z)), .int .u64 (loOf (Z))]) ?_ rfl ⟨rfl, kb⟩
  clear KEY hE kb z0 f0 z1 f1
  simp [results, Tryd.results10, go_sem, e0, e1]
theorem ref10_quiet (f b : Int) (f0 : 0 ≤ f) (f1 : f ≤ 255) (w : World) : Calls Tryd.prog 10 #[.int .u8 f, .agg #[.int .u64 (hiOf (b)), .int .u64 (loOf (b))]] w fun e w' => e = .returned (.agg #[.int .u64 (hiOf (quietF f (b % full))), .int .u64 (loOf (quietF f (b % full)))]) ∧ Below w.heap.size w w' := by
  have CT := Lib.hid (ref7_cut f b f0 f1)
  have SG := ref8_sig f b f0 f1
  by_cases h : sigF f (b % full) = true
  · obtain ⟨h4, _⟩ := sig_parts h
    obtain ⟨p0, p1, p2, p3, p4, p5, p6, p7, p8⟩ := f_nums f0 h4
    have sp : (2 : Int) ^ (fP f - 2) ≤ full := by have := two_pow_le (show fP f - 2 ≤ 128 by omega); rwa [full_pow] at this
    rw [h] at SG
    exact ref10_quiet_sig f _ _ _ _ _ (fP f - 2) CT (Lib.hid SG) (Lib.hid (ref7_prec f f0 f1)) (Lib.hid (by omega)) (by rw [IntWalk.i64_in _ (by omega)]; omega) (Lib.hid (small_cut f b)) (Lib.hid (small_full sp)) (by unfold quietF; rw [h, if_pos rfl]) w
  · have h' : sigF f (b % full) = false := by simpa using h
    rw [h'] at SG
    exact ref10_quiet_not f _ _ _ _ 0 0 CT (Lib.hid SG) (quiet_not h').symm w

end Go.Proofs.YtfcffmihhpcjjaaDoor
