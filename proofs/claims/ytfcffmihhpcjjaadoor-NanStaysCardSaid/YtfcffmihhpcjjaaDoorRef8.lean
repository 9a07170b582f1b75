/-
  Classes of numbers: by definition, over numbers; the document's answers of layer 8.
-/
import Derived.Test.YtfcffmihhpcjjaaDoorRef7
import Derived.Test.YtfcffmihhpcjjaaDoorGnA
set_option linter.unusedVariables false
set_option linter.unusedSimpArgs false
set_option maxRecDepth 100000
namespace Go.Proofs.YtfcffmihhpcjjaaDoor
open Go.RowKit
attribute [local go_sem ↓] Go.wp_at_zero Go.wp_at_succ

/-- The class: 0 nought, 1 subnormal, 2 normal, 3 infinite, 4 a quiet NaN, 5 a signaling one. -/
def clsF (f b : Int) : Int := if f < 4 then (if expF f b = 0 then (if fracF f b = 0 then 0 else 1) else if expF f b = 2 * fE f + 1 then (if fracF f b = 0 then 3 else if 2 ^ (fP f - 2) ≤ fracF f b then 4 else 5) else 2) else 0
def nanF (f b : Int) : Bool := decide (4 ≤ clsF f b)
def sigF (f b : Int) : Bool := decide (clsF f b = 5)
def finF (f b : Int) : Bool := decide (f < 4) && decide (clsF f b ≤ 2)
theorem cls_range (f b : Int) : 0 ≤ clsF f b ∧ clsF f b ≤ 5 := by unfold clsF; repeat' split <;> omega

set_option maxHeartbeats 1000000 in
theorem ref8_of_0 (f bh bl FR ex ei x2 x3 pi : Int) (kp : Nat) (sg : Bool) (g3 : decide (3 < f) = false) (RS : Hid (∀ w, Calls Tryd.prog 75 #[.int .u8 f, .agg #[.int .u64 (bh), .int .u64 (bl)]] w fun e w' => ∃ v, e = .returned (.tuple #[.bool sg, .int .i64 ex, v]) ∧ IsNum w' v FR ∧ Below w.heap.size w w')) (hx : ex = 0) (hfr : FR = 0) (w : World) :
    Calls Tryd.prog 57 #[.int .u8 f, .agg #[.int .u64 (bh), .int .u64 (bl)]] w fun e w' => e = .returned (.tuple #[.int .u8 0, .bool sg]) ∧ Below w.heap.size w w' := by
  subst hx
  go_enter Tryd.func57, Tryd.ntmps57
  go_wp2_with fail
  (with_reducible refine (RS.out _).mono ?_); rintro e w1 ⟨v, rfl, nv, hb⟩
  have kk := bC (bA (Below.refl _ _) _) hb
  clear hb
  have NV := Lib.hid nv
  obtain ⟨ao, k, cap, ds, rfl, hd, hnum, hnorm⟩ := nv
  have hz := zero_len hd hnorm
  rw [hnum] at hz
  clear hd hnum hnorm
  have hk : k = 0 := hz.2 hfr
  subst hk
  clear hz hfr
  go_wp2_with fail
  exact bodyPost_ret (v := .tuple #[.int .u8 0, .bool sg]) (by simp [results, Tryd.results57, go_sem]) rfl ⟨rfl, kk⟩

set_option maxHeartbeats 1000000 in
theorem ref8_of_1 (f bh bl FR ex ei x2 x3 pi : Int) (kp : Nat) (sg : Bool) (g3 : decide (3 < f) = false) (RS : Hid (∀ w, Calls Tryd.prog 75 #[.int .u8 f, .agg #[.int .u64 (bh), .int .u64 (bl)]] w fun e w' => ∃ v, e = .returned (.tuple #[.bool sg, .int .i64 ex, v]) ∧ IsNum w' v FR ∧ Below w.heap.size w w')) (hx : ex = 0) (hfr : FR ≠ 0) (w : World) :
    Calls Tryd.prog 57 #[.int .u8 f, .agg #[.int .u64 (bh), .int .u64 (bl)]] w fun e w' => e = .returned (.tuple #[.int .u8 1, .bool sg]) ∧ Below w.heap.size w w' := by
  subst hx
  go_enter Tryd.func57, Tryd.ntmps57
  go_wp2_with fail
  (with_reducible refine (RS.out _).mono ?_); rintro e w1 ⟨v, rfl, nv, hb⟩
  have kk := bC (bA (Below.refl _ _) _) hb
  clear hb
  have NV := Lib.hid nv
  obtain ⟨ao, k, cap, ds, rfl, hd, hnum, hnorm⟩ := nv
  have hz := zero_len hd hnorm
  rw [hnum] at hz
  clear hd hnum hnorm
  have hk : ((k : Int) == 0) = false := by have : k ≠ 0 := fun h => hfr (hz.1 h); simp; exact this
  clear hz hfr
  go_wp2_with fail
  exact bodyPost_ret (v := .tuple #[.int .u8 1, .bool sg]) (by simp [results, Tryd.results57, go_sem]) rfl ⟨rfl, kk⟩

set_option maxHeartbeats 1000000 in
theorem ref8_of_2 (f bh bl FR ex ei x2 x3 pi : Int) (kp : Nat) (sg : Bool) (g3 : decide (3 < f) = false) (RS : Hid (∀ w, Calls Tryd.prog 75 #[.int .u8 f, .agg #[.int .u64 (bh), .int .u64 (bl)]] w fun e w' => ∃ v, e = .returned (.tuple #[.bool sg, .int .i64 ex, v]) ∧ IsNum w' v FR ∧ Below w.heap.size w w')) (hx : (ex == 0) = false) (hx2 : (ex == x3) = false) (EF : Hid (∀ w, Calls Tryd.prog 36 #[.int .u8 f] w fun e w' => e = .returned (.int .i64 ei) ∧ w = w')) (w2_ : IntKind.i64.wrap (2 * ei) = x2) (w3_ : IntKind.i64.wrap (x2 + 1) = x3) (w3x : wrap64 (x2 + 1) = x3) (w : World) :
    Calls Tryd.prog 57 #[.int .u8 f, .agg #[.int .u64 (bh), .int .u64 (bl)]] w fun e w' => e = .returned (.tuple #[.int .u8 2, .bool sg]) ∧ Below w.heap.size w w' := by
  go_enter Tryd.func57, Tryd.ntmps57
  go_wp2_with fail
  (with_reducible refine (RS.out _).mono ?_); rintro e w1 ⟨v, rfl, nv, hb⟩
  have kk := bC (bA (Below.refl _ _) _) hb
  clear hb
  have NV := Lib.hid nv
  obtain ⟨ao, k, cap, ds, rfl, hd, hnum, hnorm⟩ := nv
  have hz := zero_len hd hnorm
  rw [hnum] at hz
  clear hd hnum hnorm
  clear hz
  go_wp2_with fail
  (with_reducible refine (EF.out _).mono ?_); rintro e wz ⟨rfl, rfl⟩
  go_wp2_with fail
  exact bodyPost_ret (v := .tuple #[.int .u8 2, .bool sg]) (by simp [results, Tryd.results57, go_sem]) rfl ⟨rfl, kk⟩

set_option maxHeartbeats 1000000 in
theorem ref8_of_3 (f bh bl FR ex ei x2 x3 pi : Int) (kp : Nat) (sg : Bool) (g3 : decide (3 < f) = false) (RS : Hid (∀ w, Calls Tryd.prog 75 #[.int .u8 f, .agg #[.int .u64 (bh), .int .u64 (bl)]] w fun e w' => ∃ v, e = .returned (.tuple #[.bool sg, .int .i64 ex, v]) ∧ IsNum w' v FR ∧ Below w.heap.size w w')) (hx : (ex == 0) = false) (hx2 : ex = x3) (hfr : FR = 0) (EF : Hid (∀ w, Calls Tryd.prog 36 #[.int .u8 f] w fun e w' => e = .returned (.int .i64 ei) ∧ w = w')) (w2_ : IntKind.i64.wrap (2 * ei) = x2) (w3_ : IntKind.i64.wrap (x2 + 1) = x3) (w3x : wrap64 (x2 + 1) = x3) (w : World) :
    Calls Tryd.prog 57 #[.int .u8 f, .agg #[.int .u64 (bh), .int .u64 (bl)]] w fun e w' => e = .returned (.tuple #[.int .u8 3, .bool sg]) ∧ Below w.heap.size w w' := by
  subst hx2
  go_enter Tryd.func57, Tryd.ntmps57
  go_wp2_with fail
  (with_reducible refine (RS.out _).mono ?_); rintro e w1 ⟨v, rfl, nv, hb⟩
  have kk := bC (bA (Below.refl _ _) _) hb
  clear hb
  have NV := Lib.hid nv
  obtain ⟨ao, k, cap, ds, rfl, hd, hnum, hnorm⟩ := nv
  have hz := zero_len hd hnorm
  rw [hnum] at hz
  clear hd hnum hnorm
  have hk : k = 0 := hz.2 hfr
  subst hk
  clear hz hfr
  go_wp2_with fail
  (with_reducible refine (EF.out _).mono ?_); rintro e wz ⟨rfl, rfl⟩
  go_wp2_with fail
  exact bodyPost_ret (v := .tuple #[.int .u8 3, .bool sg]) (by simp [results, Tryd.results57, go_sem]) rfl ⟨rfl, kk⟩

set_option maxHeartbeats 1000000 in
theorem ref8_of_4 (f bh bl FR ex ei x2 x3 pi : Int) (kp : Nat) (sg : Bool) (g3 : decide (3 < f) = false) (RS : Hid (∀ w, Calls Tryd.prog 75 #[.int .u8 f, .agg #[.int .u64 (bh), .int .u64 (bl)]] w fun e w' => ∃ v, e = .returned (.tuple #[.bool sg, .int .i64 ex, v]) ∧ IsNum w' v FR ∧ Below w.heap.size w w')) (hx : (ex == 0) = false) (hx2 : ex = x3) (hfr : FR ≠ 0) (EF : Hid (∀ w, Calls Tryd.prog 36 #[.int .u8 f] w fun e w' => e = .returned (.int .i64 ei) ∧ w = w')) (w2_ : IntKind.i64.wrap (2 * ei) = x2) (w3_ : IntKind.i64.wrap (x2 + 1) = x3) (w3x : wrap64 (x2 + 1) = x3) (PF : Hid (∀ w, Calls Tryd.prog 32 #[.int .u8 f] w fun e w' => e = .returned (.int .i64 pi) ∧ w = w')) (wp_ : IntKind.i64.wrap (pi - 2) = (kp : Int)) (HP : Hid (kp < 3200000)) (hcm : decide (0 ≤ cmpI FR (2 ^ kp)) = true) (w : World) :
    Calls Tryd.prog 57 #[.int .u8 f, .agg #[.int .u64 (bh), .int .u64 (bl)]] w fun e w' => e = .returned (.tuple #[.int .u8 4, .bool sg]) ∧ Below w.heap.size w w' := by
  subst hx2
  go_enter Tryd.func57, Tryd.ntmps57
  go_wp2_with fail
  (with_reducible refine (RS.out _).mono ?_); rintro e w1 ⟨v, rfl, nv, hb⟩
  have kk := bC (bA (Below.refl _ _) _) hb
  clear hb
  have NV := Lib.hid nv
  obtain ⟨ao, k, cap, ds, rfl, hd, hnum, hnorm⟩ := nv
  have hz := zero_len hd hnorm
  rw [hnum] at hz
  clear hd hnum hnorm
  have hk : ((k : Int) == 0) = false := by have : k ≠ 0 := fun h => hfr (hz.1 h); simp; exact this
  clear hz hfr
  go_wp2_with fail
  (with_reducible refine (EF.out _).mono ?_); rintro e wz ⟨rfl, rfl⟩
  go_wp2_with fail
  (with_reducible refine (PF.out _).mono ?_); rintro e wz ⟨rfl, rfl⟩
  go_wp2_with fail
  (with_reducible refine (fullN kp HP.out _).mono ?_); rintro e w2 ⟨v2, rfl, n2, hb⟩
  have n1 := NV.out.later hb; replace kk := bC kk hb; clear hb NV
  go_wp2_with fail
  (with_reducible refine (cmp_num n1 n2).mono ?_); rintro e w3 ⟨rfl, hb⟩
  replace kk := bC kk hb; clear hb n1 n2
  go_wp2_with fail
  exact bodyPost_ret (v := .tuple #[.int .u8 4, .bool sg]) (by simp [results, Tryd.results57, go_sem]) rfl ⟨rfl, kk⟩

set_option maxHeartbeats 1000000 in
theorem ref8_of_5 (f bh bl FR ex ei x2 x3 pi : Int) (kp : Nat) (sg : Bool) (g3 : decide (3 < f) = false) (RS : Hid (∀ w, Calls Tryd.prog 75 #[.int .u8 f, .agg #[.int .u64 (bh), .int .u64 (bl)]] w fun e w' => ∃ v, e = .returned (.tuple #[.bool sg, .int .i64 ex, v]) ∧ IsNum w' v FR ∧ Below w.heap.size w w')) (hx : (ex == 0) = false) (hx2 : ex = x3) (hfr : FR ≠ 0) (EF : Hid (∀ w, Calls Tryd.prog 36 #[.int .u8 f] w fun e w' => e = .returned (.int .i64 ei) ∧ w = w')) (w2_ : IntKind.i64.wrap (2 * ei) = x2) (w3_ : IntKind.i64.wrap (x2 + 1) = x3) (w3x : wrap64 (x2 + 1) = x3) (PF : Hid (∀ w, Calls Tryd.prog 32 #[.int .u8 f] w fun e w' => e = .returned (.int .i64 pi) ∧ w = w')) (wp_ : IntKind.i64.wrap (pi - 2) = (kp : Int)) (HP : Hid (kp < 3200000)) (hcm : decide (0 ≤ cmpI FR (2 ^ kp)) = false) (w : World) :
    Calls Tryd.prog 57 #[.int .u8 f, .agg #[.int .u64 (bh), .int .u64 (bl)]] w fun e w' => e = .returned (.tuple #[.int .u8 5, .bool sg]) ∧ Below w.heap.size w w' := by
  subst hx2
  go_enter Tryd.func57, Tryd.ntmps57
  go_wp2_with fail
  (with_reducible refine (RS.out _).mono ?_); rintro e w1 ⟨v, rfl, nv, hb⟩
  have kk := bC (bA (Below.refl _ _) _) hb
  clear hb
  have NV := Lib.hid nv
  obtain ⟨ao, k, cap, ds, rfl, hd, hnum, hnorm⟩ := nv
  have hz := zero_len hd hnorm
  rw [hnum] at hz
  clear hd hnum hnorm
  have hk : ((k : Int) == 0) = false := by have : k ≠ 0 := fun h => hfr (hz.1 h); simp; exact this
  clear hz hfr
  go_wp2_with fail
  (with_reducible refine (EF.out _).mono ?_); rintro e wz ⟨rfl, rfl⟩
  go_wp2_with fail
  (with_reducible refine (PF.out _).mono ?_); rintro e wz ⟨rfl, rfl⟩
  go_wp2_with fail
  (with_reducible refine (fullN kp HP.out _).mono ?_); rintro e w2 ⟨v2, rfl, n2, hb⟩
  have n1 := NV.out.later hb; replace kk := bC kk hb; clear hb NV
  go_wp2_with fail
  (with_reducible refine (cmp_num n1 n2).mono ?_); rintro e w3 ⟨rfl, hb⟩
  replace kk := bC kk hb; clear hb n1 n2
  go_wp2_with fail
  exact bodyPost_ret (v := .tuple #[.int .u8 5, .bool sg]) (by simp [results, Tryd.results57, go_sem]) rfl ⟨rfl, kk⟩

theorem ref8_of_no (f bh bl : Int) (g3 : decide (3 < f) = true) (w : World) : Calls Tryd.prog 57 #[.int .u8 f, .agg #[.int .u64 (bh), .int .u64 (bl)]] w fun e w' => e = .returned (.tuple #[.int .u8 0, .bool false]) ∧ Below w.heap.size w w' := by
  go_enter Tryd.func57, Tryd.ntmps57
  go_wp2_with fail
  exact bodyPost_ret (v := .tuple #[.int .u8 0, .bool false]) (by simp [results, Tryd.results57, go_sem]) rfl ⟨rfl, bA (Below.refl _ _) _⟩
theorem neg_no {f : Int} (h : ¬ f < 4) (b : Int) : negF f b = false := by unfold negF; rw [show decide (f < 4) = false by simp [h], Bool.and_false]
theorem cls_no {f : Int} (h : ¬ f < 4) (b : Int) : clsF f b = 0 := by unfold clsF; rw [if_neg h]
/-- The document's class. -/
theorem ref8_of (f b : Int) (f0 : 0 ≤ f) (f1 : f ≤ 255) (w : World) : Calls Tryd.prog 57 #[.int .u8 f, .agg #[.int .u64 (hiOf (b)), .int .u64 (loOf (b))]] w fun e w' => e = .returned (.tuple #[.int .u8 (clsF f (b % full)), .bool (negF f (b % full))]) ∧ Below w.heap.size w w' := by
  by_cases h4 : f < 4
  · have g3 : decide (3 < f) = false := by simp; omega
    obtain ⟨p0, p1, p2, p3, p4, p5, p6, p7, p8⟩ := f_nums f0 h4
    obtain ⟨x0, x1, x2, x3⟩ := exp_range (B := b % full) f0 h4 (mod_f b).1
    have RS := Lib.hid (ref7_split f b f0 h4)
    have EF := Lib.hid (ref7_emax f f0 f1)
    have PF := Lib.hid (ref7_prec f f0 f1)
    have wp : IntKind.i64.wrap ((fP f : Int) - 2) = ((fP f - 2 : Nat) : Int) := by rw [IntWalk.i64_in _ (by omega)]; omega
    have w2 : IntKind.i64.wrap (2 * (fE f : Int)) = 2 * fE f := IntWalk.i64_in _ (by omega)
    have w3 : IntKind.i64.wrap (2 * (fE f : Int) + 1) = 2 * fE f + 1 := IntWalk.i64_in _ (by omega)
    have w3x : wrap64 (2 * (fE f : Int) + 1) = 2 * fE f + 1 := by unfold wrap64; omega
    have hc : ∀ y : Int, decide (0 ≤ cmpI (fracF f (b % full)) y) = decide (y ≤ fracF f (b % full)) := fun y => by
      unfold cmpI; rw [decide_eq_decide]; split <;> (try split) <;> omega
    unfold clsF
    rw [if_pos h4]
    by_cases hx : expF f (b % full) = 0
    · rw [if_pos hx]
      by_cases hf : fracF f (b % full) = 0
      · rw [if_pos hf]; exact ref8_of_0 f _ _ _ _ 0 0 0 0 0 _ g3 RS hx hf w
      · rw [if_neg hf]; exact ref8_of_1 f _ _ _ _ 0 0 0 0 0 _ g3 RS hx hf w
    · rw [if_neg hx]
      by_cases hy : expF f (b % full) = 2 * fE f + 1
      · rw [if_pos hy]
        by_cases hf : fracF f (b % full) = 0
        · rw [if_pos hf]; exact ref8_of_3 f _ _ _ _ _ _ _ 0 0 _ g3 RS (by simp [hx]) hy hf EF w2 w3 w3x w
        · rw [if_neg hf]
          by_cases hq : 2 ^ (fP f - 2) ≤ fracF f (b % full)
          · rw [if_pos hq]; exact ref8_of_4 f _ _ _ _ _ _ _ _ _ _ g3 RS (by simp [hx]) hy hf EF w2 w3 w3x PF wp (Lib.hid (by omega)) (by rw [hc]; simp [hq]) w
          · rw [if_neg hq]; exact ref8_of_5 f _ _ _ _ _ _ _ _ _ _ g3 RS (by simp [hx]) hy hf EF w2 w3 w3x PF wp (Lib.hid (by omega)) (by rw [hc]; simp; omega) w
      · rw [if_neg hy]; exact ref8_of_2 f _ _ _ _ _ _ _ 0 0 _ g3 RS (by simp [hx]) (by simp [hy]) EF w2 w3 w3x w
  · rw [neg_no h4, cls_no h4]
    exact ref8_of_no f _ _ (by simp; omega) w
theorem ref8_nan_core (f bh bl c : Int) (sg nn : Bool) (OF : Hid (∀ w, Calls Tryd.prog 57 #[.int .u8 f, .agg #[.int .u64 (bh), .int .u64 (bl)]] w fun e w' => e = .returned (.tuple #[.int .u8 c, .bool sg]) ∧ Below w.heap.size w w')) (h : (c = 4 ∧ nn = true) ∨ ((c == 4) = false ∧ (c == 5) = nn)) (w : World) :
    Calls Tryd.prog 39 #[.int .u8 f, .agg #[.int .u64 (bh), .int .u64 (bl)]] w fun e w' => e = .returned (.bool nn) ∧ Below w.heap.size w w' := by
  rcases h with ⟨h1, h2⟩ | ⟨h1, h2⟩
  · subst h1 h2
    go_enter Tryd.func39, Tryd.ntmps39
    go_wp2_with fail
    (with_reducible refine (OF.out _).mono ?_); rintro e w1 ⟨rfl, hb⟩
    go_wp2_with fail
    go_ret
    exact ⟨rfl, bC (bA (Below.refl _ _) _) hb⟩
  · go_enter Tryd.func39, Tryd.ntmps39
    go_wp2_with fail
    (with_reducible refine (OF.out _).mono ?_); rintro e w1 ⟨rfl, hb⟩
    go_wp2_with fail
    go_ret
    exact ⟨rfl, bC (bA (Below.refl _ _) _) hb⟩
theorem ref8_sig_core (f bh bl c : Int) (sg nn : Bool) (OF : Hid (∀ w, Calls Tryd.prog 57 #[.int .u8 f, .agg #[.int .u64 (bh), .int .u64 (bl)]] w fun e w' => e = .returned (.tuple #[.int .u8 c, .bool sg]) ∧ Below w.heap.size w w')) (h2 : (c == 5) = nn) (w : World) :
    Calls Tryd.prog 29 #[.int .u8 f, .agg #[.int .u64 (bh), .int .u64 (bl)]] w fun e w' => e = .returned (.bool nn) ∧ Below w.heap.size w w' := by
  go_enter Tryd.func29, Tryd.ntmps29
  go_wp2_with fail
  (with_reducible refine (OF.out _).mono ?_); rintro e w1 ⟨rfl, hb⟩
  go_wp2_with fail
  go_ret
  exact ⟨rfl, bC (bA (Below.refl _ _) _) hb⟩
theorem ref8_nan (f b : Int) (f0 : 0 ≤ f) (f1 : f ≤ 255) (w : World) : Calls Tryd.prog 39 #[.int .u8 f, .agg #[.int .u64 (hiOf (b)), .int .u64 (loOf (b))]] w fun e w' => e = .returned (.bool (nanF f (b % full))) ∧ Below w.heap.size w w' := by
  refine ref8_nan_core f _ _ _ _ _ (Lib.hid (ref8_of f b f0 f1)) ?_ w
  have := cls_range f (b % full)
  unfold nanF
  generalize clsF f (b % full) = c at *
  by_cases h : c = 4
  · exact .inl ⟨h, by simp [h]⟩
  · refine .inr ⟨by simp [h], ?_⟩
    rw [Bool.eq_iff_iff, beq_iff_eq, decide_eq_true_eq]; omega
theorem ref8_sig (f b : Int) (f0 : 0 ≤ f) (f1 : f ≤ 255) (w : World) : Calls Tryd.prog 29 #[.int .u8 f, .agg #[.int .u64 (hiOf (b)), .int .u64 (loOf (b))]] w fun e w' => e = .returned (.bool (sigF f (b % full))) ∧ Below w.heap.size w w' := by
  refine ref8_sig_core f _ _ _ _ _ (Lib.hid (ref8_of f b f0 f1)) ?_ w
  unfold sigF
  rw [Bool.eq_iff_iff, beq_iff_eq, decide_eq_true_eq]

end Go.Proofs.YtfcffmihhpcjjaaDoor
