/-
  Package pack keeps what the document asks: a closure rounds the number itself, and what was shifted.
-/
import Derived.Test.YtjnohbpebdnngaaGreatDoorPackC
set_option linter.unusedVariables false
set_option linter.unusedSimpArgs false
set_option maxRecDepth 100000
namespace Go.Proofs.YtjnohbpebdnngaaGreatDoor
open Go.RowKit
attribute [local go_sem ↓] Go.wp_at_zero Go.wp_at_succ

theorem pk_cut (s k m : Int) (ng : Bool) (h0 : 0 ≤ s) (h1 : s < wfull) (k0 : 0 ≤ k) (k1 : k ≤ 127) (m0 : 0 ≤ m) (m5 : m < 5) (vp : Nat × Nat × Nat) (w : World) (h : RoundIn w k m ng vp) :
    Calls Tryz.prog 163 #[.agg #[.int .u64 (wd0 s), .int .u64 (wd1 s), .int .u64 (wd2 s), .int .u64 (wd3 s)], .pointer (some ⟨vp.1, 0, none⟩), .pointer (some ⟨vp.2.1, 0, none⟩), .pointer (some ⟨vp.2.2, 0, none⟩)] w fun e w' =>
      e = .returned (.tuple #[.agg #[.int .u64 (hiOf (cutQ s (256 - k) false m ng)), .int .u64 (loOf (cutQ s (256 - k) false m ng))], .bool (restQ s (256 - k) false != 0)]) ∧ Below w.heap.size w w' := by
  have C := round_cut s k m ng h0 h1 (by omega) (by omega) m0 (by omega)
  rw [(cut_yes ⟨⟨k0, k1⟩, m5⟩ s ng).1, (cut_yes ⟨⟨k0, k1⟩, m5⟩ s ng).2] at C
  exact pk_cut_core vp.1 vp.2.1 vp.2.2 k m _ _ _ _ _ _ ng _ (Lib.hid C) w h.1 h.2.1 h.2.2
theorem pk_levelN (f e : Int) (w : World) (ft : FTab w) : Calls Tryz.prog 117 #[.agg #[.int .u8 f, .int .i64 (fP f), .int .i64 (fE f)], .int .i64 e] w fun r w' => r = .returned (.int .i64 (pkL f e)) ∧ Below w.heap.size w w' := by
  have := fE_le f
  exact pk_level f _ _ e (1 - fE f) _ (IntWalk.i64_in _ (by omega)) rfl rfl w
theorem pk_carriedN {f e n : Int} (f0 : 0 ≤ f) (hf : f < 4) (e0 : -2000000000000 ≤ e) (e1 : e ≤ 2000000000000) (n0 : 0 ≤ n) (n1 : n ≤ 2 ^ fP f) (w : World) (ft : FTab w) :
    Calls Tryz.prog 113 #[.agg #[.int .u8 f, .int .i64 (fP f), .int .i64 (fE f)], .int .i64 e, .agg #[.int .u64 (hiOf n), .int .u64 (loOf n)]] w fun r w' => r = .returned (.int .i64 (if n = 2 ^ fP f then e + 1 else e)) ∧ Below w.heap.size w w' := by
  obtain ⟨p0, p1, p2, p3, p4, p5, p6, p7, p8⟩ := f_nums f0 hf
  have hp := two_pow_pos (fP f)
  have nf : n < full := by
    have := two_pow_le (show fP f ≤ 127 by omega)
    have : (2 : Int) ^ 127 < full := by decide +kernel
    omega
  have B := bit_any (hiOf n) (loOf n) (fP f) (hiOf_u _) (loOf_u _)
  rw [val_hiLo_mod, Int.emod_eq_of_lt n0 nf] at B
  by_cases h : n = 2 ^ fP f
  · have b : bitI n (fP f) = true := by
      unfold bitI
      rw [Int.toNat_natCast, h, Int.ediv_self (by omega)]
      simp; omega
    rw [b] at B
    rw [if_pos h]
    exact pk_carried_yes f _ _ e _ _ _ (Lib.hid B) (IntWalk.i64_in _ (by omega)) (by unfold wrap64; omega) w
  · have b : bitI n (fP f) = false := by
      unfold bitI
      rw [Int.toNat_natCast, Int.ediv_eq_zero_of_lt n0 (by omega)]
      simp
    rw [b] at B
    rw [if_neg h]
    exact pk_carried_no f _ _ e _ _ (Lib.hid B) w
theorem pk_encodeN {f e s n : Int} {ng : Bool} (f0 : 0 ≤ f) (hf : f < 4) (l1 : pkL f e ≤ fE f) (x0 x1 x2 x3 : Int) (w : World) (ft : FTab w) :
    Calls Tryz.prog 118 #[.agg #[.int .u8 f, .int .i64 (fP f), .int .i64 (fE f), .bool ng, .int .i64 e, .int .u64 x0, .int .u64 x1, .int .u64 x2, .int .u64 x3], .agg #[.int .u64 (hiOf n), .int .u64 (loOf n)]] w fun r w' =>
      r = .returned (.agg #[.int .u64 (hiOf (ptF f ng (pkL f e) n)), .int .u64 (loOf (ptF f ng (pkL f e) n))]) ∧ Below w.heap.size w w' := by
  obtain ⟨p0, p1, p2, p3, p4, p5, p6, p7, p8⟩ := f_nums f0 hf
  have l0 : 1 - fE f ≤ pkL f e := by rcases pkL_cases f e with ⟨_, h⟩ | ⟨_, h⟩ <;> omega
  have M := formOK.make f ng (pkL f e + fE f - 1) 0 f0 (by omega) (by omega) (by omega)
  rw [Int.zero_emod] at M
  have v : makeF f ng (pkL f e + fE f - 1) 0 + n = ptF f ng (pkL f e) n := by
    unfold makeF ptF
    rw [if_pos hf, expOf_id f0 hf (by omega) (by omega), Int.zero_emod]; omega
  have A := addB (makeF f ng (pkL f e + fE f - 1) 0) n
  rw [v] at A
  exact pk_encode f _ _ e (pkL f e) (pkL f e + fE f) (pkL f e + fE f - 1) _ _ _ _ _ _ x0 x1 x2 x3 ng _ (Lib.hid (pk_levelN f e)) (Lib.hid M) (Lib.hid A) (IntWalk.i64_in _ (by omega)) (IntWalk.i64_in _ (by omega)) (by unfold wrap64; omega) w ft
theorem pk_tinyN {f : Int} (f0 : 0 ≤ f) (hf : f < 4) (e : Int) (e0 : -2000000000000 ≤ e) (e1 : e ≤ 2000000000000) (w : World) (ft : FTab w) : Calls Tryz.prog 169 #[.agg #[.int .u8 f, .int .i64 (fP f), .int .i64 (fE f)], .int .i64 e] w fun r w' => r = .returned (.bool (decide (e < 1 - fE f))) ∧ Below w.heap.size w w' := by
  have T := overOK.tiny f e f0 (by omega) (by omega) (by omega)
  rw [show decide (f < 4) = true from decide_eq_true hf, Bool.true_and] at T
  exact pk_tiny f _ _ e _ (Lib.hid T) w ft
theorem pk_inexactN {f : Int} (f0 : 0 ≤ f) (hf : f < 4) (m e a : Int) (t ng : Bool) (e0 : -2000000000000 ≤ e) (e1 : e ≤ 2000000000000) (a0 : -2000000000000 ≤ a) (a1 : a ≤ 2000000000000) (x0 x1 x2 x3 : Int) (w : World) (ft : FTab w) :
    Calls Tryz.prog 119 #[.agg #[.int .u8 f, .int .i64 (fP f), .int .i64 (fE f), .bool ng, .int .i64 e, .int .u64 x0, .int .u64 x1, .int .u64 x2, .int .u64 x3], .agg #[.int .u8 m, .bool t], .int .i64 a] w fun r w' =>
      r = .returned (.int .u8 (if (if t then a else e) < 1 - fE f then 24 else 16)) ∧ Below w.heap.size w w' := by
  cases t with
  | true =>
    have T := pk_tinyN f0 hf a a0 a1
    simp only [if_true]
    by_cases h : a < 1 - fE f
    · rw [show decide (a < 1 - (fE f : Int)) = true from decide_eq_true h] at T
      rw [if_pos h]
      exact pk_inexact_11 f _ _ e m a x0 x1 x2 x3 ng (Lib.hid T) w ft
    · rw [show decide (a < 1 - (fE f : Int)) = false from decide_eq_false h] at T
      rw [if_neg h]
      exact pk_inexact_10 f _ _ e m a x0 x1 x2 x3 ng (Lib.hid T) w ft
  | false =>
    have T := pk_tinyN f0 hf e e0 e1
    simp only [Bool.false_eq_true, if_false]
    by_cases h : e < 1 - fE f
    · rw [show decide (e < 1 - (fE f : Int)) = true from decide_eq_true h] at T
      rw [if_pos h]
      exact pk_inexact_01 f _ _ e m a x0 x1 x2 x3 ng (Lib.hid T) w ft
    · rw [show decide (e < 1 - (fE f : Int)) = false from decide_eq_false h] at T
      rw [if_neg h]
      exact pk_inexact_00 f _ _ e m a x0 x1 x2 x3 ng (Lib.hid T) w ft
theorem pk_roundN {f m e s : Int} {ng : Bool} (t : Bool) (f0 : 0 ≤ f) (hf : f < 4) (m0 : 0 ≤ m) (hm : m < 5) (e0 : -1999999999999 ≤ e) (e1 : e ≤ 1999999999999) (s0 : 2 ^ 255 ≤ s) (s1 : s < 2 ^ 256) (w : World) (ft : FTab w) :
    Calls Tryz.prog 59 #[.agg #[.int .u8 f, .int .i64 (fP f), .int .i64 (fE f), .bool ng, .int .i64 e, .int .u64 (wd0 s), .int .u64 (wd1 s), .int .u64 (wd2 s), .int .u64 (wd3 s)], .agg #[.int .u8 m, .bool t]] w fun r w' =>
      r = .returned (.agg #[.int .u64 (hiOf (numB f m ng e s)), .int .u64 (loOf (numB f m ng e s)), .int .u8 (numFl f m t ng e s)]) ∧ Below w.heap.size w w' := by
  obtain ⟨p0, p1, p2, p3, p4, p5, p6, p7, p8⟩ := f_nums f0 hf
  have hp := two_pow_pos 255
  have w1 : s < wfull := by rw [← wfull_pow]; exact s1
  have RN := Lib.hid fun w => pk_rounder (fP f) m ng w
  have CU := Lib.hid fun vp w h => pk_cut s (fP f) m ng (by omega) w1 (by omega) (by omega) m0 hm vp w h
  have c1 := (cut_le16 (k := fP f) (n := 256 - fP f) (by omega) (by omega) s1 m ng).2
  have c0 := (cut_pos16 (n := 256 - fP f) (by omega) (show 0 ≤ s by omega) m ng).2
  have CA := pk_carriedN (e := e) f0 hf (by omega) (by omega) c0 c1
  have ar : -2000000000000 ≤ pkA f m ng e s ∧ pkA f m ng e s ≤ 2000000000000 := by rcases pkA_cases f m ng e s with ⟨h, _⟩ | ⟨h, _⟩ <;> omega
  have BY := overOK.beyond f (pkA f m ng e s) f0 (by omega) (by omega) (by omega)
  rw [show decide (f < 4) = true from decide_eq_true hf, Bool.true_and] at BY
  have BN := Lib.hid fun w ft => pk_beyond f (fP f) (fE f) (pkA f m ng e s) _ (Lib.hid BY) w ft
  unfold numB numFl
  by_cases ov : fE f < pkA f m ng e s
  · rw [if_pos ov, if_pos ov]
    rw [show decide ((fE f : Int) < pkA f m ng e s) = true from decide_eq_true ov] at BN
    exact pk_round_over f _ _ e m _ _ (pkA f m ng e s) _ _ _ _ _ _ _ ng t _ (Lib.hid CA) BN (Lib.hid (overOK.over f m ng f0 (by omega) m0 (by omega))) RN CU w ft
  · rw [if_neg ov, if_neg ov]
    rw [show decide ((fE f : Int) < pkA f m ng e s) = false from decide_eq_false ov] at BN
    have le : pkL f e ≤ fE f ∧ e ≤ pkL f e ∧ 1 - fE f ≤ pkL f e := by
      rcases pkA_cases f m ng e s with ⟨h, _⟩ | ⟨h, _⟩ <;> rcases pkL_cases f e with ⟨g, h2⟩ | ⟨g, h2⟩ <;> omega
    obtain ⟨d, hd⟩ : ∃ d : Nat, pkL f e - e = d := ⟨(pkL f e - e).toNat, by omega⟩
    have WJ := wjamW s (pkL f e - e) (by omega) (by omega)
    rw [Int.emod_eq_of_lt (by omega) w1, hd, Int.toNat_natCast] at WJ
    obtain ⟨j0, j1⟩ := jam_lt (by omega) w1 wfull_even d
    have CN := Lib.hid fun vp w h => pk_cut (jamN s d) (fP f) m ng j0 j1 (by omega) (by omega) m0 hm vp w h
    obtain ⟨e1, e2⟩ := jam_cut16 s d (n := 256 - fP f) (by omega) m ng
    rw [e1, e2] at CN
    have hN : cutQ s (256 - fP f + d) false m ng = pkN f m ng e s := by unfold pkN; rw [hd]
    have hR : restQ s (256 - fP f + d) false = pkR f e s := by unfold pkR; rw [hd]
    rw [hN, hR] at CN
    have LV := Lib.hid (pk_levelN f e)
    have EN := Lib.hid (pk_encodeN (ng := ng) (n := pkN f m ng e s) (s := s) f0 hf le.1 (wd0 s) (wd1 s) (wd2 s) (wd3 s))
    have W1 : IntKind.i64.wrap (pkL f e - e) = (d : Int) := by rw [IntWalk.i64_in _ (by omega)]; exact hd
    by_cases r : pkR f e s = 0
    · rw [if_pos r]
      rw [show (pkR f e s != 0) = false by simp [r]] at CN
      exact pk_round_exact f _ _ e m _ _ (pkA f m ng e s) (pkL f e) d _ _ _ _ _ _ _ _ _ _ _ _ ng t _ (Lib.hid CA) BN LV (Lib.hid WJ) EN RN CU CN W1 w ft
    · rw [if_neg r]
      rw [show (pkR f e s != 0) = true by simp [r]] at CN
      have IX := Lib.hid (pk_inexactN f0 hf m e (pkA f m ng e s) t ng (by omega) (by omega) ar.1 ar.2 (wd0 s) (wd1 s) (wd2 s) (wd3 s))
      exact pk_round_inexact f _ _ e m _ _ (pkA f m ng e s) (pkL f e) d _ _ _ _ _ _ _ _ _ _ _ _ _ ng t _ (Lib.hid CA) BN LV (Lib.hid WJ) EN IX RN CU CN W1 w ft
theorem pk_numberInN {f x ex : Int} {ng : Bool} (f0 : 0 ≤ f) (hf : f < 4) (x0 : 0 ≤ x) (x1 : x < wfull) (w : World) (ft : FTab w) :
    Calls Tryz.prog 58 #[.int .u8 f, .bool ng, .int .i64 ex, .agg #[.int .u64 (wd0 x), .int .u64 (wd1 x), .int .u64 (wd2 x), .int .u64 (wd3 x)]] w fun r w' =>
      r = .returned (.agg #[.int .u8 f, .int .i64 (fP f), .int .i64 (fE f), .bool ng, .int .i64 (pkE ex x), .int .u64 (wd0 (pkS x)), .int .u64 (wd1 (pkS x)), .int .u64 (wd2 (pkS x)), .int .u64 (wd3 (pkS x))]) ∧ Below w.heap.size w w' := by
  have RW := wraiseW x
  rw [Int.emod_eq_of_lt x0 x1] at RW
  have cr := clip_range ex; have ul := up_le 256 x
  have W1 : IntKind.i64.wrap (clipE ex - upN 256 x) = pkE ex x := IntWalk.i64_in _ (by omega)
  have c1 : (if (1099511627776 : Int) < (if (-1099511627776 : Int) > ex then -1099511627776 else ex) then 1099511627776 else (if (-1099511627776 : Int) > ex then -1099511627776 else ex)) = clipE ex := by
    unfold clipE; repeat' split
    all_goals omega
  exact pk_numberIn f _ _ ex _ (clipE ex) _ _ _ _ _ _ _ _ _ _ ng (Lib.hid RW) (Lib.hid (formOK.prec f f0 (by omega))) (Lib.hid (formOK.emax f f0 (by omega))) rfl rfl c1 c1 W1 w ft
theorem pk_RoundN (f m : Int) (t ng : Bool) (ex x : Int) (f0 : 0 ≤ f) (f1 : f ≤ 255) (m0 : 0 ≤ m) (m1 : m ≤ 255) (e0 : -9223372036854775808 ≤ ex) (e1 : ex ≤ 9223372036854775807) (x0 : 0 ≤ x) (x1 : x < wfull) (w : World) (ft : FTab w) :
    Calls Tryz.prog 21 #[.int .u8 f, .agg #[.int .u8 m, .bool t], .bool ng, .int .i64 ex, .agg #[.int .u64 (wd0 x), .int .u64 (wd1 x), .int .u64 (wd2 x), .int .u64 (wd3 x)]] w fun r w' =>
      r = .returned (.agg #[.int .u64 (hiOf (pkB f m ng ex x)), .int .u64 (loOf (pkB f m ng ex x)), .int .u8 (pkFl f m t ng ex x)]) ∧ Below w.heap.size w w' := by
  have K := formOK.known f f0 f1
  have M := modeOK.known m m0 m1
  have Z := zeroW x
  rw [Int.emod_eq_of_lt x0 x1] at Z
  unfold pkB pkFl
  by_cases hf : f < 4
  · rw [show decide (f < 4) = true from decide_eq_true hf] at K
    by_cases hm : m < 5
    · rw [show decide (m < 5) = true from decide_eq_true hm] at M
      rw [if_pos ⟨hf, hm⟩]
      by_cases z : x = 0
      · rw [if_pos z, if_neg (fun h => h.2 z)]
        rw [show (x == 0) = true by simp [z]] at Z
        exact pk_Round_zero f m ex _ _ _ _ _ _ t ng (Lib.hid K) (Lib.hid M) (Lib.hid Z) (Lib.hid (formOK.nought f ng f0 f1)) w ft
      · rw [if_neg z, if_pos ⟨⟨hf, hm⟩, z⟩]
        rw [show (x == 0) = false by simp [z]] at Z
        obtain ⟨s0, s1⟩ := pkS_range (show 0 < x by omega) x1
        obtain ⟨q0, q1⟩ := pkE_range ex x
        exact pk_Round_main f m ex _ _ _ _ _ _ _ _ _ _ _ _ _ _ t ng (Lib.hid K) (Lib.hid M) (Lib.hid Z) (Lib.hid (pk_numberInN f0 hf x0 x1)) (Lib.hid (pk_roundN t f0 hf m0 hm (by omega) (by omega) s0 s1)) w ft
    · rw [show decide (m < 5) = false from decide_eq_false hm] at M
      rw [if_neg (fun h => hm h.2), if_neg (fun h => hm h.1.2)]
      exact pk_Round_no2 f m ex _ _ _ _ t ng (Lib.hid K) (Lib.hid M) w ft
  · rw [show decide (f < 4) = false from decide_eq_false hf] at K
    rw [if_neg (fun h => hf h.1), if_neg (fun h => hf h.1.1)]
    exact pk_Round_no1 f m ex _ _ _ _ t ng (Lib.hid K) w ft
theorem packOK : PackOK where
  round := fun f m t ng ex x f0 f1 m0 m1 e0 e1 x0 x1 w ft => pk_RoundN f m t ng ex x f0 f1 m0 m1 e0 e1 x0 x1 w ft

end Go.Proofs.YtjnohbpebdnngaaGreatDoor
