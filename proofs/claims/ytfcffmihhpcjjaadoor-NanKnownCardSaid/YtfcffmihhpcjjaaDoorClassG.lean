/-
  Package class keeps what the document asks.
-/
import Derived.Test.YtfcffmihhpcjjaaDoorClassI
import Derived.Test.YtfcffmihhpcjjaaDoorAny8L
set_option linter.unusedVariables false
set_option linter.unusedSimpArgs false
set_option maxRecDepth 100000
namespace Go.Proofs.YtfcffmihhpcjjaaDoor
open Go.RowKit
attribute [local go_sem ↓] Go.wp_at_zero Go.wp_at_succ

theorem ones_cls {f : Int} (h0 : 0 ≤ f) (h : f < 4) (w : World) (ft : FTab w) : Calls Tryd.prog 66 #[.int .u8 f] w fun e w' => e = .returned (.int .i64 (2 * fE f + 1)) ∧ Below w.heap.size w w' := by
  have W := formOK.width; have P := formOK.prec
  rcases f_cases h0 h with rfl | rfl | rfl | rfl
  · exact cls_ones_0 (Lib.hid (W 0 (by decide) (by decide))) (Lib.hid (P 0 (by decide) (by decide))) w ft
  · exact cls_ones_1 (Lib.hid (W 1 (by decide) (by decide))) (Lib.hid (P 1 (by decide) (by decide))) w ft
  · exact cls_ones_2 (Lib.hid (W 2 (by decide) (by decide))) (Lib.hid (P 2 (by decide) (by decide))) w ft
  · exact cls_ones_3 (Lib.hid (W 3 (by decide) (by decide))) (Lib.hid (P 3 (by decide) (by decide))) w ft
/-- The quiet bit of a fraction: its highest. -/
theorem quiet_bit {f b : Int} (h0 : 0 ≤ f) (h : f < 4) : bitI (fracF f b) ((fP f - 2 : Nat) : Int) = decide ((2 : Int) ^ (fP f - 2) ≤ fracF f b) := by
  obtain ⟨p0, p1, p2, _⟩ := f_nums h0 h
  obtain ⟨r0, r1⟩ := frac_range (b := b) h0 h
  have n2 : (2 : Int) ^ (fP f - 1) = 2 * 2 ^ (fP f - 2) := by rw [← Int.pow_succ', show fP f - 2 + 1 = fP f - 1 by omega]
  have hp := two_pow_pos (fP f - 2)
  unfold bitI
  rw [Int.toNat_natCast, show decide (0 ≤ ((fP f - 2 : Nat) : Int)) = true by simp, show decide (((fP f - 2 : Nat) : Int) < 128) = true by simp; omega, Bool.true_and, Bool.true_and]
  rw [n2] at r1
  generalize (2 : Int) ^ (fP f - 2) = q at *
  generalize fracF f b = r at *
  by_cases c : q ≤ r
  · have : r / q = 1 := by
      have d := Int.emod_add_mul_ediv r q
      have m0 := Int.emod_nonneg r (show q ≠ 0 by omega); have m1 := Int.emod_lt_of_pos r hp
      rw [show r = (r - q) + 1 * q by omega, Int.add_mul_ediv_right _ _ (by omega), Int.ediv_eq_zero_of_lt (by omega) (by omega)]; rfl
    rw [this]; simp [c]
  · rw [Int.ediv_eq_zero_of_lt r0 (by omega)]; simp [c]
theorem fields_cls {f b : Int} (h0 : 0 ≤ f) (h : f < 4) (hb : 0 ≤ b) (w : World) (ft : FTab w) : Calls Tryd.prog 44 #[.int .u8 f, .int .i64 (expF f b), .agg #[.int .u64 (hiOf (fracF f b)), .int .u64 (loOf (fracF f b))]] w fun e w' => e = .returned (.int .u8 (clsF f b)) ∧ Below w.heap.size w w' := by
  obtain ⟨p0, p1, p2, p3, p4, p5, p6, p7, p8⟩ := f_nums h0 h
  obtain ⟨r0, r1⟩ := frac_range (b := b) h0 h
  have fl := fW_full f
  have rm : fracF f b % full = fracF f b := by
    have e1 : (2 : Int) ^ (fP f - 1) ≤ 2 ^ fW f := two_pow_le (by omega)
    exact Int.emod_eq_of_lt r0 (by omega)
  have hz := zeroB (fracF f b)
  rw [rm] at hz
  have on := ones_cls h0 h
  have bt := bit_any (hiOf (fracF f b)) (loOf (fracF f b)) ((fP f - 2 : Nat) : Int) (hiOf_u _) (loOf_u _)
  rw [val_hiLo_mod, rm, quiet_bit h0 h] at bt
  have pr := formOK.prec f h0 (by omega)
  have wr : IntKind.i64.wrap ((fP f : Int) - 2) = ((fP f - 2 : Nat) : Int) := by rw [IntWalk.i64_in _ (by omega)]; omega
  unfold clsF; rw [if_pos h]
  by_cases ez : fracF f b = 0
  · rw [show (fracF f b == 0) = true by simp [ez]] at hz
    by_cases c0 : expF f b = 0
    · rw [if_pos c0, if_pos ez]; exact cls_f0 f (expF f b) _ _ (Lib.hid hz) (by simp [c0]) w
    · rw [if_neg c0]
      by_cases c1 : expF f b = 2 * fE f + 1
      · rw [if_pos c1, if_pos ez]; exact cls_f3 f _ _ _ _ (Lib.hid on) (Lib.hid hz) (by simp [c0]) (by simp [c1]) w ft
      · rw [if_neg c1]; exact cls_f2 f _ _ _ _ (Lib.hid on) (by simp [c0]) (by simp [c1]) w ft
  · rw [show (fracF f b == 0) = false by simp [ez]] at hz
    by_cases c0 : expF f b = 0
    · rw [if_pos c0, if_neg ez]; exact cls_f1 f (expF f b) _ _ (Lib.hid hz) (by simp [c0]) w
    · rw [if_neg c0]
      by_cases c1 : expF f b = 2 * fE f + 1
      · rw [if_pos c1, if_neg ez]
        by_cases cq : (2 : Int) ^ (fP f - 2) ≤ fracF f b
        · rw [if_pos cq]; rw [show decide ((2 : Int) ^ (fP f - 2) ≤ fracF f b) = true by simp [cq]] at bt
          exact cls_f4 f _ _ _ _ _ _ (Lib.hid on) (Lib.hid hz) (Lib.hid pr) (Lib.hid bt) (by simp [c0]) (by simp [c1]) wr w ft
        · rw [if_neg cq]; rw [show decide ((2 : Int) ^ (fP f - 2) ≤ fracF f b) = false by simp [cq]] at bt
          exact cls_f5 f _ _ _ _ _ _ (Lib.hid on) (Lib.hid hz) (Lib.hid pr) (Lib.hid bt) (by simp [c0]) (by simp [c1]) wr w ft
      · rw [if_neg c1]; exact cls_f2 f _ _ _ _ (Lib.hid on) (by simp [c0]) (by simp [c1]) w ft
theorem of_cls (f b : Int) (f0 : 0 ≤ f) (f1 : f ≤ 255) (w : World) (ft : FTab w) : Calls Tryd.prog 19 #[.int .u8 f, .agg #[.int .u64 (hiOf b), .int .u64 (loOf b)]] w fun e w' => e = .returned (.tuple #[.int .u8 (clsF f (b % full)), .bool (negF f (b % full))]) ∧ Below w.heap.size w w' := by
  have K := formOK.known f f0 f1
  by_cases h : f < 4
  · rw [show decide (f < 4) = true by simp [h]] at K
    exact cls_of_yes f _ _ _ _ _ _ _ (Lib.hid K) (Lib.hid (formOK.split f b f0 f1)) (Lib.hid (fields_cls f0 h (mod_f b).1)) w ft
  · rw [show decide (f < 4) = false by simp [h]] at K
    rw [show clsF f (b % full) = 0 by unfold clsF; rw [if_neg h], show negF f (b % full) = false by unfold negF; simp [h]]
    exact cls_of_no f _ _ (Lib.hid K) w ft

set_option maxRecDepth 100000 in
set_option maxHeartbeats 1000000 in
theorem among_cls (f b : Int) (a : Addr) (n cap : Nat) (xs : List Int) (hn : n = xs.length) (hm : n ≤ 9223372036854775807) (f0 : 0 ≤ f) (f1 : f ≤ 255) (w : World) (ft : FTab w) (x : Us w a xs) :
    Calls Tryd.prog 43 #[.int .u8 f, .agg #[.int .u64 (hiOf b), .int .u64 (loOf b)], .slice (some a) n cap] w fun e w' => e = .returned (.bool (decide (f < 4) && xs.any fun y => clsF f (b % full) == y)) ∧ Below w.heap.size w w' := by
  have K := Lib.hid (formOK.known f f0 f1)
  have O := Lib.hid (of_cls f b f0 f1)
  have FT := Lib.hid ft
  have HX := Lib.hid x
  have HC := Lib.hid (fun w x => contains_u8 a n cap xs (clsF f (b % full)) hn hm w x)
  clear x ft hn hm f0 f1
  obtain ⟨q, hq⟩ : ∃ q, clsF f (b % full) = q := ⟨_, rfl⟩
  obtain ⟨ng, hng⟩ : ∃ q, negF f (b % full) = q := ⟨_, rfl⟩
  rw [hq] at HC ⊢
  rw [hq, hng] at O
  clear hq hng
  cases hd : decide (f < 4)
  · rw [hd] at K
    clear hd
    go_enter Tryd.func43, Tryd.ntmps43
    go_wp2_with fail
    (with_reducible refine (K.out _ (FT.out.later (bA (Below.refl _ _) _))).mono ?_); rintro e w1 ⟨rfl, hb⟩
    have KK := Lib.hid (bC (bA (Below.refl _ _) _) hb)
    clear hb
    go_wp2_with fail
    go_ret
    exact ⟨rfl, KK.out⟩
  · rw [hd] at K
    clear hd
    rw [Bool.true_and]
    go_enter Tryd.func43, Tryd.ntmps43
    go_wp2_with fail
    (with_reducible refine (K.out _ (FT.out.later (bA (Below.refl _ _) _))).mono ?_); rintro e w1 ⟨rfl, hb⟩
    have c0 := cell_later hb (a := ⟨w.heap.size, 0, none⟩) (v := .int .u64 (hiOf b)) (by go_simp)
    have c1 := cell_later hb (a := ⟨w.heap.size, 1, none⟩) (v := .int .u64 (loOf b)) (by go_simp)
    have KK := Lib.hid (bC (bA (Below.refl _ _) _) hb)
    clear hb
    go_wp2_with fail
    (with_reducible refine (O.out _ (FT.out.later KK.out)).mono ?_); rintro e w2 ⟨rfl, hb⟩
    clear c0 c1
    have K2 := Lib.hid (bC KK.out hb)
    clear hb
    go_wp2_with fail
    (with_reducible refine (HC.out _ (HX.out.later K2.out)).mono ?_); rintro e w3 ⟨rfl, hb⟩
    have K3 := Lib.hid (bC K2.out hb)
    clear hb
    go_wp2_with fail
    go_ret
    exact ⟨rfl, K3.out⟩

theorem nan_in (f b : Int) (h0 : 0 ≤ f) : (decide (f < 4) && [4, 5].any fun y => clsF f b == y) = nanF f b := by
  obtain ⟨c0, c1⟩ := cls_range f b
  unfold nanF
  by_cases h : f < 4
  · generalize clsF f b = c at *
    rw [Bool.eq_iff_iff]
    simp [h]
    omega
  · simp [h, clsF]
set_option maxRecDepth 100000 in
set_option maxHeartbeats 1000000 in
theorem nan_cls (f b : Int) (f0 : 0 ≤ f) (f1 : f ≤ 255) (w : World) (ft : FTab w) : Calls Tryd.prog 18 #[.int .u8 f, .agg #[.int .u64 (hiOf b), .int .u64 (loOf b)]] w fun e w' => e = .returned (.bool (nanF f (b % full))) ∧ Below w.heap.size w w' := by
  have H := Lib.hid (fun a w ft x => among_cls f b a 2 2 [4, 5] rfl (by decide) f0 f1 w ft x)
  have FT := Lib.hid ft
  rw [nan_in f (b % full) f0] at H
  clear ft f0 f1
  go_enter Tryd.func18, Tryd.ntmps18
  go_wp2_with fail
  (with_reducible refine (H.out ⟨w.heap.size + 1, 0, none⟩ _ (FT.out.later (bA (bA (Below.refl _ _) _) _)) ?_).mono ?_)
  · intro k hk
    match k, hk with
    | 0, _ => show World.cell? _ ⟨w.heap.size + 1, 0, none⟩ = some (.int .u8 4); go_simp
    | 1, _ => show World.cell? _ ⟨w.heap.size + 1, 1, none⟩ = some (.int .u8 5); go_simp
  rintro e w1 ⟨rfl, hb⟩
  have KK := Lib.hid (bC (bA (bA (Below.refl _ _) _) _) hb)
  clear hb
  go_wp2_with fail
  go_ret
  exact ⟨rfl, KK.out⟩

theorem sig_in (f b : Int) (h0 : 0 ≤ f) : (decide (f < 4) && [5].any fun y => clsF f b == y) = sigF f b := by
  obtain ⟨c0, c1⟩ := cls_range f b
  unfold sigF
  by_cases h : f < 4
  · generalize clsF f b = c at *
    rw [Bool.eq_iff_iff]
    simp [h]
    done
  · simp [h, clsF]
set_option maxRecDepth 100000 in
set_option maxHeartbeats 1000000 in
theorem sig_cls (f b : Int) (f0 : 0 ≤ f) (f1 : f ≤ 255) (w : World) (ft : FTab w) : Calls Tryd.prog 21 #[.int .u8 f, .agg #[.int .u64 (hiOf b), .int .u64 (loOf b)]] w fun e w' => e = .returned (.bool (sigF f (b % full))) ∧ Below w.heap.size w w' := by
  have H := Lib.hid (fun a w ft x => among_cls f b a 1 1 [5] rfl (by decide) f0 f1 w ft x)
  have FT := Lib.hid ft
  rw [sig_in f (b % full) f0] at H
  clear ft f0 f1
  go_enter Tryd.func21, Tryd.ntmps21
  go_wp2_with fail
  (with_reducible refine (H.out ⟨w.heap.size + 1, 0, none⟩ _ (FT.out.later (bA (bA (Below.refl _ _) _) _)) ?_).mono ?_)
  · intro k hk
    match k, hk with
    | 0, _ => show World.cell? _ ⟨w.heap.size + 1, 0, none⟩ = some (.int .u8 5); go_simp
  rintro e w1 ⟨rfl, hb⟩
  have KK := Lib.hid (bC (bA (bA (Below.refl _ _) _) _) hb)
  clear hb
  go_wp2_with fail
  go_ret
  exact ⟨rfl, KK.out⟩

theorem fin_in (f b : Int) (h0 : 0 ≤ f) : (decide (f < 4) && [0, 1, 2].any fun y => clsF f b == y) = finF f b := by
  obtain ⟨c0, c1⟩ := cls_range f b
  unfold finF
  by_cases h : f < 4
  · generalize clsF f b = c at *
    rw [Bool.eq_iff_iff]
    simp [h]
    omega
  · simp [h]
/-- Package class keeps what the document asks. -/
theorem classOK : ClassOK where
  of f b f0 f1 w ft := of_cls f b f0 f1 w ft
  nan f b f0 f1 w ft := nan_cls f b f0 f1 w ft
  sig f b f0 f1 w ft := sig_cls f b f0 f1 w ft
/-- class.Any keeps what the document asks, at the functions that the statements hand it. -/
theorem anyOK : AnyOK where
  nan f ao n cap xs f0 f1 w ft x := any_fun 18 (enter_of Tryd.func18 (by kernel_rfl) (by kernel_rfl)) (fun b => nanF f (b % full)) f ao n cap xs w ft x (Lib.hid fun b w ft => nan_cls f b f0 f1 w ft)
  sig f ao n cap xs f0 f1 w ft x := any_fun 21 (enter_of Tryd.func21 (by kernel_rfl) (by kernel_rfl)) (fun b => sigF f (b % full)) f ao n cap xs w ft x (Lib.hid fun b w ft => sig_cls f b f0 f1 w ft)
  none f ao n cap f0 f1 w := any_nil f ao n cap w

end Go.Proofs.YtfcffmihhpcjjaaDoor
