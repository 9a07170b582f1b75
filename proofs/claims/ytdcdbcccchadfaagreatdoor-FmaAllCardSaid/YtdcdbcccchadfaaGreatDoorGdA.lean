import Derived.Laws.OwnMore
import Derived.Laws.AppendOwnNone
import Derived.Deep.AppendLies
import Derived.Test.YtdcdbcccchadfaaGreatDoorGkA
import Derived.Test.YtdcdbcccchadfaaGreatDoorGhA
set_option maxHeartbeats 4000000
set_option linter.unusedVariables false
set_option linter.unusedSimpArgs false
set_option maxRecDepth 100000
namespace Go.Proofs.YtdcdbcccchadfaaGreatDoor
open Go.RowKit
def uM (f b : Int) : Int := if expF f b = 0 then fracF f b else fracF f b + 2 ^ (fP f - 1)
def uX (f b : Int) : Int := (if expF f b = 0 then 1 else expF f b) - fE f - (fP f - 1 : Nat)
def uE (f b : Int) : Int := if clsF f b = 1 ∨ clsF f b = 2 then uX f b + blen (uM f b) - 1 else 0
def uS (f b : Int) : Int := if clsF f b = 1 ∨ clsF f b = 2 then uM f b * 2 ^ (128 - blen (uM f b)) else 0
def offF (f e : Int) : Nat := if e + fE f < 1 then (129 - fP f - (e + fE f)).toNat else 128 - fP f
def fitK (f e s : Int) : Prop := e ≤ fE f ∧ 2 - fE f - fP f ≤ e ∧ 2 ^ 127 ≤ s ∧ s % 2 ^ offF f e = 0
instance (f e s : Int) : Decidable (fitK f e s) := by unfold fitK; infer_instance
theorem cls_0 {f b : Int} (h : f < 4) : clsF f b = 0 ↔ expF f b = 0 ∧ fracF f b = 0 := by unfold clsF; rw [if_pos h]; repeat' split
                                                                                          all_goals omega
theorem cls_1 {f b : Int} (h : f < 4) : clsF f b = 1 ↔ expF f b = 0 ∧ fracF f b ≠ 0 := by unfold clsF; rw [if_pos h]; repeat' split
                                                                                          all_goals omega
theorem cls_2 {f b : Int} (h : f < 4) : clsF f b = 2 ↔ expF f b ≠ 0 ∧ expF f b ≠ 2 * fE f + 1 := by unfold clsF; rw [if_pos h]; repeat' split
                                                                                                    all_goals omega
theorem un_sub {f b : Int} (h0 : 0 ≤ f) (h : f < 4) (c : clsF f b = 1) : expF f b = 0 ∧ 0 < fracF f b ∧ 1 ≤ blen (fracF f b) ∧ blen (fracF f b) ≤ fP f - 1 ∧ uE f b = 1 - fE f - fP f + blen (fracF f b) ∧ uS f b = fracF f b * 2 ^ (128 - blen (fracF f b)) := by
  obtain ⟨e0, fr⟩ := (cls_1 h).1 c
  obtain ⟨r0, r1⟩ := frac_range (b := b) h0 h
  obtain ⟨p0, p1, p2, p3, p4, p5, p6, p7, p8⟩ := f_nums h0 h
  have m : uM f b = fracF f b := by unfold uM; rw [if_pos e0]
  have x : uX f b = 1 - fE f - (fP f - 1 : Nat) := by unfold uX; rw [if_pos e0]
  have l1 := blen_pos (show 0 < fracF f b by omega)
  have l2 := blen_le r0 r1
  refine ⟨e0, by omega, l1, l2, ?_, ?_⟩
  · unfold uE; rw [if_pos (Or.inl c), m, x]; omega
  · unfold uS; rw [if_pos (Or.inl c), m]
theorem un_nor {f b : Int} (h0 : 0 ≤ f) (h : f < 4) (hb : 0 ≤ b) (c : clsF f b = 2) : 1 ≤ expF f b ∧ expF f b ≤ 2 * fE f ∧ uE f b = expF f b - fE f ∧ uS f b = (fracF f b + 2 ^ (fP f - 1)) * 2 ^ (128 - fP f) := by
  obtain ⟨e0, e1⟩ := (cls_2 h).1 c
  obtain ⟨r0, r1⟩ := frac_range (b := b) h0 h
  obtain ⟨x0, x1, x2, x3⟩ := exp_range h0 h hb
  obtain ⟨p0, p1, p2, p3, p4, p5, p6, p7, p8⟩ := f_nums h0 h
  have m : uM f b = fracF f b + 2 ^ (fP f - 1) := by unfold uM; rw [if_neg e0]
  have x : uX f b = expF f b - fE f - (fP f - 1 : Nat) := by unfold uX; rw [if_neg e0]
  have l : blen (fracF f b + 2 ^ (fP f - 1)) = fP f := by
    rw [show fP f = (fP f - 1) + 1 by omega]
    refine blen_of ?_ ?_
    · rw [show fP f - 1 + 1 - 1 = fP f - 1 by omega]; omega
    · rw [show fP f - 1 + 1 - 1 = fP f - 1 by omega, Int.pow_succ]; omega
  refine ⟨by omega, by omega, ?_, ?_⟩
  · unfold uE; rw [if_pos (Or.inr c), m, x, l]; omega
  · unfold uS; rw [if_pos (Or.inr c), m, l]
theorem pow_le_mul {x y : Int} (k : Nat) (h : x ≤ y) : x * 2 ^ k ≤ y * 2 ^ k := Int.mul_le_mul_of_nonneg_right h (by have := two_pow_pos k; omega)
theorem pow_lt_mul {x y : Int} (k : Nat) (h : x < y) : x * 2 ^ k < y * 2 ^ k := Int.mul_lt_mul_of_pos_right h (two_pow_pos k)
theorem pow_top {n : Nat} (h : 1 ≤ n) : (2 : Int) ^ n = 2 ^ (n - 1) * 2 := by
  obtain ⟨m, rfl⟩ : ∃ m, n = m + 1 := ⟨n - 1, by omega⟩
  rw [Int.pow_succ, Nat.add_sub_cancel]
theorem full_digits {m : Int} (h : 0 < m) (l : blen m ≤ 128) : 2 ^ 127 ≤ m * 2 ^ (128 - blen m) ∧ m * 2 ^ (128 - blen m) < full := by
  have l1 := blen_pos h
  have a := pow_le_mul (128 - blen m) (blen_low h)
  obtain ⟨j, e, b1, b2⟩ := blen_bounds h
  have b := pow_lt_mul (128 - blen m) (show m < 2 ^ blen m by rw [e]; exact b2)
  rw [← Int.pow_add, show blen m - 1 + (128 - blen m) = 127 by omega] at a
  rw [← Int.pow_add, show blen m + (128 - blen m) = 128 by omega, full_pow] at b
  exact ⟨a, b⟩
theorem nor_digits {f b : Int} (h0 : 0 ≤ f) (h : f < 4) : 2 ^ 127 ≤ (fracF f b + 2 ^ (fP f - 1)) * 2 ^ (128 - fP f) ∧ (fracF f b + 2 ^ (fP f - 1)) * 2 ^ (128 - fP f) < full := by
  obtain ⟨r0, r1⟩ := frac_range (b := b) h0 h
  obtain ⟨p0, p1, p2, p3, p4, p5, p6, p7, p8⟩ := f_nums h0 h
  have a := pow_le_mul (128 - fP f) (show 2 ^ (fP f - 1) ≤ fracF f b + 2 ^ (fP f - 1) by omega)
  have b' := pow_lt_mul (128 - fP f) (show fracF f b + 2 ^ (fP f - 1) < 2 ^ fP f by rw [pow_top (show 1 ≤ fP f by omega)]; omega)
  rw [← Int.pow_add, show fP f - 1 + (128 - fP f) = 127 by omega] at a
  rw [← Int.pow_add, show fP f + (128 - fP f) = 128 by omega, full_pow] at b'
  exact ⟨a, b'⟩
theorem un_range {f b : Int} (h0 : 0 ≤ f) (h : f < 4) (hb : 0 ≤ b) (c : clsF f b = 1 ∨ clsF f b = 2) : uE f b ≤ fE f ∧ 2 - fE f - fP f ≤ uE f b ∧ 2 ^ 127 ≤ uS f b ∧ uS f b < full ∧ uS f b % 2 ^ (128 - fP f) = 0 ∧ (clsF f b = 1 ↔ uE f b < 1 - fE f) := by
  obtain ⟨p0, p1, p2, p3, p4, p5, p6, p7, p8⟩ := f_nums h0 h
  rcases c with c | c
  · obtain ⟨e0, fr, l1, l2, ue, us⟩ := un_sub h0 h c
    have d := full_digits fr (by omega)
    rw [ue, us]
    refine ⟨by omega, by omega, d.1, d.2, ?_, by constructor <;> intro _ <;> omega⟩
    rw [show 128 - blen (fracF f b) = (fP f - blen (fracF f b)) + (128 - fP f) by omega, Int.pow_add, ← Int.mul_assoc, Int.mul_emod_left]
  · obtain ⟨e1, e2, ue, us⟩ := un_nor h0 h hb c
    have d := nor_digits (b := b) h0 h
    rw [ue, us]
    exact ⟨by omega, by omega, d.1, d.2, Int.mul_emod_left .., by constructor <;> intro _ <;> omega⟩
theorem uS_range {f b : Int} (h0 : 0 ≤ f) (hb : 0 ≤ b) : 0 ≤ uS f b ∧ uS f b < full := by
  by_cases h : f < 4
  · by_cases c : clsF f b = 1 ∨ clsF f b = 2
    · have := un_range h0 h hb c; have : (0 : Int) < 2 ^ 127 := by decide
      omega
    · unfold uS; rw [if_neg c]; exact ⟨Int.le_refl _, by decide⟩
  · unfold uS clsF; rw [if_neg h, if_neg (by decide)]; exact ⟨Int.le_refl _, by decide⟩
theorem uE_range {f b : Int} (h0 : 0 ≤ f) (hb : 0 ≤ b) : -16600 ≤ uE f b ∧ uE f b ≤ 16383 := by
  by_cases h : f < 4
  · obtain ⟨p0, p1, p2, p3, p4, p5, p6, p7, p8⟩ := f_nums h0 h
    by_cases c : clsF f b = 1 ∨ clsF f b = 2
    · have := un_range h0 h hb c; omega
    · unfold uE; rw [if_neg c]; decide
  · unfold uE clsF; rw [if_neg h, if_neg (by decide)]; decide
end Go.Proofs.YtdcdbcccchadfaaGreatDoor
namespace Go.Proofs.YtdcdbcccchadfaaGreatDoor
open Go.RowKit
attribute [local go_sem ↓] Go.wp_at_zero Go.wp_at_succ
theorem ref9_of_sub (f bh bl FR ex p em x1 x2 x3 : Int) (kp : Nat) (sg : Bool)
    (RS : Hid (∀ w, Calls Tryz.prog 82 #[.int .u8 f, .agg #[.int .u64 (bh), .int .u64 (bl)]] w fun e w' => ∃ v, e = .returned (.tuple #[.bool sg, .int .i64 ex, v]) ∧ IsNum w' v FR ∧ Below w.heap.size w w'))
    (PF : Hid (∀ w, Calls Tryz.prog 86 #[.int .u8 f] w fun e w' => e = .returned (.int .i64 p) ∧ w = w')) (EF : Hid (∀ w, Calls Tryz.prog 83 #[.int .u8 f] w fun e w' => e = .returned (.int .i64 em) ∧ w = w')) (w1_ : IntKind.i64.wrap (1 - em) = x1) (w2_ : IntKind.i64.wrap (p - 1) = x2) (w3_ : IntKind.i64.wrap (x1 - x2) = x3) (hx : ex = 0) (w : World) :
    Calls Tryz.prog 45 #[.int .u8 f, .agg #[.int .u64 (bh), .int .u64 (bl)]] w fun e w' => ∃ v, e = .returned (.agg #[.bool sg, v, .int .i64 x3]) ∧ IsNum w' v (FR) ∧ Below w.heap.size w w' := by
  subst hx
  go_enter Tryz.func45, Tryz.ntmps45
  go_wp2_with fail
  (with_reducible refine (RS.out _).mono ?_); rintro e w1 ⟨v, rfl, nv, hb⟩
  have kk := bC (bA (bA bR _) _) hb
  have xr : HB w1 (w.heap.size + 1) 82 #[.bool false, .slice none 0 0, .int .i64 0] := (HB.newAt (by simp) _ _).later hb
  clear hb
  go_wp2_with fail
  (with_reducible refine (PF.out _).mono ?_); rintro e wz ⟨rfl, rfl⟩
  go_wp2_with fail
  (with_reducible refine (EF.out _).mono ?_); rintro e wz ⟨rfl, rfl⟩
  obtain ⟨ao, k, cap, ds, rfl, hnv⟩ : ∃ ao k cap ds, v = .slice ao k cap ∧ (Dig w1 ao k cap ds ∧ num ds = FR ∧ Norm ds) := nv
  have NV : IsNum w1 (.slice ao k cap) FR := ⟨ao, k, cap, ds, rfl, hnv⟩
  clear hnv
  have KEY : Hid (HB (((w1.setCell ⟨w.heap.size + 1, 0, none⟩ (.bool sg)).setCell ⟨w.heap.size + 1, 1, none⟩ (.slice ao k cap)).setCell ⟨w.heap.size + 1, 2, none⟩ (.int .i64 x3)) (w.heap.size + 1) 82 #[.bool sg, .slice ao k cap, .int .i64 x3] ∧ Below w.heap.size w (((w1.setCell ⟨w.heap.size + 1, 0, none⟩ (.bool sg)).setCell ⟨w.heap.size + 1, 1, none⟩ (.slice ao k cap)).setCell ⟨w.heap.size + 1, 2, none⟩ (.int .i64 x3)) ∧ IsNum (((w1.setCell ⟨w.heap.size + 1, 0, none⟩ (.bool sg)).setCell ⟨w.heap.size + 1, 1, none⟩ (.slice ao k cap)).setCell ⟨w.heap.size + 1, 2, none⟩ (.int .i64 x3)) (.slice ao k cap) FR) := lH ⟨(((xr.set 0 _).set 1 _).set 2 _), (((kk.setCell (p := ⟨w.heap.size + 1, 0, none⟩) (by simp) _).setCell (p := ⟨w.heap.size + 1, 1, none⟩) (by simp) _).setCell (p := ⟨w.heap.size + 1, 2, none⟩) (by simp) _), (((NV.setHB xr (by intro d; simp) 0 _).setHB (xr.set 0 _) (by intro d; simp) 1 _).setHB ((xr.set 0 _).set 1 _) (by intro d; simp) 2 _)⟩
  have z0 := xr.cell 0; have f0 := xr.frozen 0; have z1 := xr.cell 1; have f1 := xr.frozen 1; have z2 := xr.cell 2; have f2 := xr.frozen 2; dsimp at z0 z1 z2
  have hl := xr.lt
  clear xr kk NV
  go_wp2_with fail
  obtain ⟨hE, kb, m0⟩ := KEY.out
  have e0 := hE.cell 0; have e1 := hE.cell 1; have e2 := hE.cell 2; dsimp at e0 e1 e2
  refine bodyPost_ret (v := .agg #[.bool sg, .slice ao k cap, .int .i64 x3]) ?_ rfl ⟨_, rfl, m0, kb⟩
  clear KEY hE kb z0 f0 z1 f1 z2 f2
  simp [results, Tryz.results45, go_sem, e0, e1, e2]
theorem ref9_of_nor (f bh bl FR ex p em x1 x2 x3 : Int) (kp : Nat) (sg : Bool)
    (RS : Hid (∀ w, Calls Tryz.prog 82 #[.int .u8 f, .agg #[.int .u64 (bh), .int .u64 (bl)]] w fun e w' => ∃ v, e = .returned (.tuple #[.bool sg, .int .i64 ex, v]) ∧ IsNum w' v FR ∧ Below w.heap.size w w'))
    (PF : Hid (∀ w, Calls Tryz.prog 86 #[.int .u8 f] w fun e w' => e = .returned (.int .i64 p) ∧ w = w')) (EF : Hid (∀ w, Calls Tryz.prog 83 #[.int .u8 f] w fun e w' => e = .returned (.int .i64 em) ∧ w = w')) (w1_ : IntKind.i64.wrap (ex - em) = x1) (w2_ : IntKind.i64.wrap (p - 1) = (kp : Int)) (w3_ : IntKind.i64.wrap (x1 - (kp : Int)) = x3) (hx : (ex == 0) = false) (HP : Hid (kp < 3200000)) (S1 : Hid (Small FR)) (S2 : Hid (Small (2 ^ kp))) (w : World) :
    Calls Tryz.prog 45 #[.int .u8 f, .agg #[.int .u64 (bh), .int .u64 (bl)]] w fun e w' => ∃ v, e = .returned (.agg #[.bool sg, v, .int .i64 x3]) ∧ IsNum w' v (FR + 2 ^ kp) ∧ Below w.heap.size w w' := by
  go_enter Tryz.func45, Tryz.ntmps45
  go_wp2_with fail
  (with_reducible refine (RS.out _).mono ?_); rintro e w1 ⟨v, rfl, nv, hb⟩
  have kk := bC (bA (bA bR _) _) hb
  have xr : HB w1 (w.heap.size + 1) 82 #[.bool false, .slice none 0 0, .int .i64 0] := (HB.newAt (by simp) _ _).later hb
  clear hb
  go_wp2_with fail
  (with_reducible refine (PF.out _).mono ?_); rintro e wz ⟨rfl, rfl⟩
  go_wp2_with fail
  (with_reducible refine (fullN kp HP.out _).mono ?_); rintro e w2 ⟨v2, rfl, n2, hb⟩
  have n1 := nv.later hb; replace kk := bC kk hb; replace xr := xr.later hb; clear hb nv
  go_wp2_with fail
  (with_reducible refine (add_num n1 n2 S1.out S2.out).mono ?_); rintro e w3 ⟨v3, rfl, n3, hb⟩
  replace kk := bC kk hb; replace xr := xr.later hb; clear hb n1 n2
  go_wp2_with fail
  (with_reducible refine (EF.out _).mono ?_); rintro e wz ⟨rfl, rfl⟩
  obtain ⟨ao, k, cap, ds, rfl, hnv⟩ : ∃ ao k cap ds, v3 = .slice ao k cap ∧ (Dig w3 ao k cap ds ∧ num ds = FR + 2 ^ kp ∧ Norm ds) := n3
  have NV : IsNum w3 (.slice ao k cap) (FR + 2 ^ kp) := ⟨ao, k, cap, ds, rfl, hnv⟩
  clear hnv
  have KEY : Hid (HB (((w3.setCell ⟨w.heap.size + 1, 0, none⟩ (.bool sg)).setCell ⟨w.heap.size + 1, 1, none⟩ (.slice ao k cap)).setCell ⟨w.heap.size + 1, 2, none⟩ (.int .i64 x3)) (w.heap.size + 1) 82 #[.bool sg, .slice ao k cap, .int .i64 x3] ∧ Below w.heap.size w (((w3.setCell ⟨w.heap.size + 1, 0, none⟩ (.bool sg)).setCell ⟨w.heap.size + 1, 1, none⟩ (.slice ao k cap)).setCell ⟨w.heap.size + 1, 2, none⟩ (.int .i64 x3)) ∧ IsNum (((w3.setCell ⟨w.heap.size + 1, 0, none⟩ (.bool sg)).setCell ⟨w.heap.size + 1, 1, none⟩ (.slice ao k cap)).setCell ⟨w.heap.size + 1, 2, none⟩ (.int .i64 x3)) (.slice ao k cap) (FR + 2 ^ kp)) := lH ⟨(((xr.set 0 _).set 1 _).set 2 _), (((kk.setCell (p := ⟨w.heap.size + 1, 0, none⟩) (by simp) _).setCell (p := ⟨w.heap.size + 1, 1, none⟩) (by simp) _).setCell (p := ⟨w.heap.size + 1, 2, none⟩) (by simp) _), (((NV.setHB xr (by intro d; simp) 0 _).setHB (xr.set 0 _) (by intro d; simp) 1 _).setHB ((xr.set 0 _).set 1 _) (by intro d; simp) 2 _)⟩
  have z0 := xr.cell 0; have f0 := xr.frozen 0; have z1 := xr.cell 1; have f1 := xr.frozen 1; have z2 := xr.cell 2; have f2 := xr.frozen 2; dsimp at z0 z1 z2
  have hl := xr.lt
  clear xr kk NV
  go_wp2_with fail
  obtain ⟨hE, kb, m0⟩ := KEY.out
  have e0 := hE.cell 0; have e1 := hE.cell 1; have e2 := hE.cell 2; dsimp at e0 e1 e2
  refine bodyPost_ret (v := .agg #[.bool sg, .slice ao k cap, .int .i64 x3]) ?_ rfl ⟨_, rfl, m0, kb⟩
  clear KEY hE kb z0 f0 z1 f1 z2 f2
  simp [results, Tryz.results45, go_sem, e0, e1, e2]
theorem ref9_of (f b : Int) (f0 : 0 ≤ f) (h : f < 4) (w : World) : Calls Tryz.prog 45 #[.int .u8 f, .agg #[.int .u64 (hiOf (b)), .int .u64 (loOf (b))]] w fun e w' => ∃ v, e = .returned (.agg #[.bool (negF f (b % full)), v, .int .i64 (uX f (b % full))]) ∧ IsNum w' v (uM f (b % full)) ∧ Below w.heap.size w w' := by
  obtain ⟨p0, p1, p2, p3, p4, p5, p6, p7, p8⟩ := f_nums f0 h
  obtain ⟨x0, x1, x2, x3⟩ := exp_range (B := b % full) f0 h (mod_f b).1
  have RS := lH (ref7_split f b f0 h)
  have PF := lH (ref7_prec f f0 (by omega))
  have EF := lH (ref7_emax f f0 (by omega))
  have fr := frac_full (b := b % full) f0 h
  unfold uX uM
  by_cases z : expF f (b % full) = 0
  · rw [if_pos z, if_pos z]
    exact ref9_of_sub f _ _ _ _ _ _ (1 - fE f) ((fP f - 1 : Nat) : Int) _ 0 _ RS PF EF (IntWalk.i64_in _ (by omega)) (by rw [IntWalk.i64_in _ (by omega)]; omega) (IntWalk.i64_in _ (by omega)) z w
  · rw [if_neg z, if_neg z]
    have sp : (2 : Int) ^ (fP f - 1) ≤ full := by have := two_pow_le (show fP f - 1 ≤ 128 by omega); rwa [full_pow] at this
    exact ref9_of_nor f _ _ _ _ _ _ (expF f (b % full) - fE f) 0 _ (fP f - 1) _ RS PF EF (IntWalk.i64_in _ (by omega)) (by rw [IntWalk.i64_in _ (by omega)]; omega) (IntWalk.i64_in _ (by omega)) (by simp [z]) (lH (by omega)) (lH (small_full (by omega))) (lH (small_full sp)) w
end Go.Proofs.YtdcdbcccchadfaaGreatDoor
namespace Go.Proofs.YtdcdbcccchadfaaGreatDoor
open Go.RowKit
attribute [local go_sem ↓] Go.wp_at_zero Go.wp_at_succ
theorem u_none {f b : Int} (h : ¬ (clsF f b = 1 ∨ clsF f b = 2)) : uE f b = 0 ∧ uS f b = 0 := ⟨by unfold uE; rw [if_neg h], by unfold uS; rw [if_neg h]⟩
end Go.Proofs.YtdcdbcccchadfaaGreatDoor
namespace Go.Proofs.YtdcdbcccchadfaaGreatDoor
open Go.RowKit
attribute [local go_sem ↓] Go.wp_at_zero Go.wp_at_succ
def cellsOfB (xs : List Int) : List Value := xs.flatMap fun b => [.int .u64 (hiOf b), .int .u64 (loOf b)]
theorem cellsOfB_len (xs : List Int) : (cellsOfB xs).length = xs.length * 2 := by
  induction xs with
  | nil => rfl
  | cons x xs ih => simp [cellsOfB] at ih ⊢; omega
theorem cellsOfB_at (xs : List Int) : ∀ k, k < xs.length → (cellsOfB xs)[k * 2]? = some (.int .u64 (hiOf (xs.getD k 0))) ∧ (cellsOfB xs)[k * 2 + 1]? = some (.int .u64 (loOf (xs.getD k 0))) := by
  induction xs with
  | nil => intro k hk; simp at hk
  | cons x xs ih =>
    intro k hk
    have e : cellsOfB (x :: xs) = Value.int .u64 (hiOf x) :: Value.int .u64 (loOf x) :: cellsOfB xs := rfl
    rw [e]
    cases k with
    | zero => exact ⟨rfl, rfl⟩
    | succ k =>
      obtain ⟨h1, h2⟩ := ih k (by simp at hk; omega)
      rw [show (k + 1) * 2 = k * 2 + 1 + 1 by omega]
      simpa using ⟨h1, h2⟩
theorem Bs.cells {w : World} {a : Addr} {n cap : Nat} {xs : List Int} (x : Bs w (some a) n cap xs) : ∀ j u, (cellsOfB xs)[j]? = some u → w.cell? (a.add j) = some u := by
  intro j u hu
  have hj : j < xs.length * 2 := by
    have := (List.getElem?_eq_some_iff.1 hu).1
    rwa [cellsOfB_len] at this
  obtain ⟨h1, _, _, h4⟩ := x
  obtain ⟨k, r, hr, rfl⟩ : ∃ k r, r < 2 ∧ j = k * 2 + r := ⟨j / 2, j % 2, by omega, by omega⟩
  obtain ⟨a', e, c0, c1⟩ := h4 k (by omega)
  obtain rfl := Option.some.inj e
  obtain ⟨g0, g1⟩ := cellsOfB_at xs k (by omega)
  obtain rfl | rfl : r = 0 ∨ r = 1 := by omega
  · rw [Nat.add_zero] at hu ⊢; rw [g0] at hu; cases hu; exact c0
  · rw [g1] at hu; cases hu
    rw [show a.add (k * 2 + 1) = ⟨(a.add (k * 2)).block, (a.add (k * 2)).off + 1, none⟩ by unfold Addr.add; by_cases h : k * 2 = 0 <;> simp [h] <;> omega]
    exact c1
end Go.Proofs.YtdcdbcccchadfaaGreatDoor
