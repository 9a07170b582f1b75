/-
  Package fields keeps what the document asks.
-/
import Derived.Test.YtelfjbdpmiopdaaDoorFldC
import Derived.Test.YtelfjbdpmiopdaaDoorFldD
import Derived.Test.YtelfjbdpmiopdaaDoorGcA
set_option linter.unusedVariables false
set_option linter.unusedSimpArgs false
set_option maxRecDepth 100000
namespace Go.Proofs.YtelfjbdpmiopdaaDoor
open Go.RowKit
attribute [local go_sem ↓] Go.wp_at_zero Go.wp_at_succ

/-- The exponent of a number's last place. -/
def unitF (f e : Int) : Int := (if e < 1 - fE f then 1 - (fE f : Int) else e) - (fP f - 1 : Nat)
theorem leastF {f : Int} (h0 : 0 ≤ f) (h : f < 4) (w : World) (ft : FTab w) : Calls Tryd.prog 27 #[.agg #[.int .u8 f, .int .i64 (fP f), .int .i64 (fE f)]] w fun x w' => x = .returned (.int .i64 (1 - fE f)) ∧ Below w.heap.size w w' := by
  obtain ⟨p0, p1, p2, p3, p4, p5, p6, p7, p8⟩ := f_nums h0 h
  exact fld_least f _ _ _ (IntWalk.i64_in _ (by omega)) w
theorem unitN {f : Int} (h0 : 0 ≤ f) (h : f < 4) (e : Int) (e0 : -1000000 ≤ e) (e1 : e ≤ 1000000) (w : World) (ft : FTab w) : Calls Tryd.prog 52 #[.agg #[.int .u8 f, .int .i64 (fP f), .int .i64 (fE f)], .int .i64 e] w fun x w' => x = .returned (.int .i64 (unitF f e)) ∧ Below w.heap.size w w' := by
  obtain ⟨p0, p1, p2, p3, p4, p5, p6, p7, p8⟩ := f_nums h0 h
  obtain ⟨m, hm⟩ : ∃ m, (if e < 1 - fE f then 1 - (fE f : Int) else e) = m := ⟨_, rfl⟩
  have r : -1000000 ≤ m ∧ m ≤ 1000000 := by rw [← hm]; split <;> omega
  unfold unitF
  rw [hm]
  refine fld_unit f _ _ e (1 - fE f) m ((fP f - 1 : Nat) : Int) _ (Lib.hid (leastF h0 h)) (by rw [← hm]) hm (by rw [IntWalk.i64_in _ (by omega)]; omega) (by rw [IntWalk.i64_in _ (by omega)]) w ft
theorem leadF {f : Int} (h0 : 0 ≤ f) (h : f < 4) (b : Int) (w : World) (ft : FTab w) : Calls Tryd.prog 28 #[.agg #[.int .u8 f, .int .i64 (fP f), .int .i64 (fE f)], .agg #[.int .u64 (hiOf (b)), .int .u64 (loOf (b))]] w fun x w' => x = .returned (.agg #[.int .u64 (hiOf (b + 2 ^ (fP f - 1))), .int .u64 (loOf (b + 2 ^ (fP f - 1)))]) ∧ Below w.heap.size w w' := by
  obtain ⟨p0, p1, p2, p3, p4, p5, p6, p7, p8⟩ := f_nums h0 h
  have L := leftB 1 ((fP f - 1 : Nat) : Int) (by omega) (by omega)
  rw [Int.toNat_natCast, Int.one_mul] at L
  have A := addB (2 ^ (fP f - 1)) b
  rw [Int.add_comm (2 ^ (fP f - 1)) b] at A
  exact fld_lead f _ _ _ _ ((fP f - 1 : Nat) : Int) _ _ _ _ _ (Lib.hid L) (Lib.hid A) (by rw [IntWalk.i64_in _ (by omega)]; omega) w
theorem inF {f : Int} (h0 : 0 ≤ f) (h : f < 4) (g : Bool) (c e sh sl : Int) (w : World) (ft : FTab w) : Calls Tryd.prog 25 #[.int .u8 f, .agg #[.bool g, .int .u8 c, .int .i64 e, .int .u64 sh, .int .u64 sl]] w fun x w' => x = .returned (.agg #[.int .u8 f, .int .i64 (fP f), .int .i64 (fE f), .bool g, .int .u8 c, .int .i64 e, .int .u64 sh, .int .u64 sl]) ∧ Below w.heap.size w w' :=
  fld_in f c e sh sl _ _ g (Lib.hid (formOK.prec f h0 (by omega))) (Lib.hid (formOK.emax f h0 (by omega))) w ft
theorem unF {f : Int} (h0 : 0 ≤ f) (h : f < 4) (g : Bool) (c x0 a b e m : Int) (e0 : -1000000 ≤ e) (e1 : e ≤ 1000000) (m0 : 0 < m) (m1 : m < full) (w : World) (ft : FTab w) : Calls Tryd.prog 26 #[.agg #[.int .u8 f, .int .i64 (fP f), .int .i64 (fE f), .bool g, .int .u8 c, .int .i64 x0, .int .u64 a, .int .u64 b], .int .i64 e, .agg #[.int .u64 (hiOf (m)), .int .u64 (loOf (m))]] w fun x w' => x = .returned (.agg #[.bool g, .int .u8 c, .int .i64 (unitF f e + blen m - 1), .int .u64 (hiOf (m * 2 ^ (128 - blen m))), .int .u64 (loOf (m * 2 ^ (128 - blen m)))]) ∧ Below w.heap.size w w' := by
  obtain ⟨p0, p1, p2, p3, p4, p5, p6, p7, p8⟩ := f_nums h0 h
  have R := raiseB m
  rw [Int.emod_eq_of_lt (by omega) m1, show upN 128 m = 128 - blen m by unfold upN; rw [if_neg (by omega)]] at R
  have lb : blen m ≤ 128 := blen_le (by omega) (by rw [full_pow]; exact m1)
  have ub : -2000000 ≤ unitF f e ∧ unitF f e ≤ 2000000 := by unfold unitF; split <;> omega
  exact fld_un f _ _ c x0 a b e _ _ _ _ _ _ (unitF f e + 127) _ g (Lib.hid R) (Lib.hid (unitN h0 h e e0 e1)) (IntWalk.i64_in _ (by omega)) (by have := IntWalk.i64_in (unitF f e + 127) (by omega); simpa [RowKit.wrap64, IntKind.wrap_i64] using this) (by rw [IntWalk.i64_in _ (by omega)]; omega) w ft

theorem unpackN (f b : Int) (f0 : 0 ≤ f) (f1 : f ≤ 255) (w : World) (ft : FTab w) : Calls Tryd.prog 10 #[.int .u8 f, .agg #[.int .u64 (hiOf (b)), .int .u64 (loOf (b))]] w fun x w' => x = .returned (.agg #[.bool (negF f (b % full)), .int .u8 (clsF f (b % full)), .int .i64 (uE f (b % full)), .int .u64 (hiOf (uS f (b % full))), .int .u64 (loOf (uS f (b % full)))]) ∧ Below w.heap.size w w' := by
  have K := formOK.known f f0 f1
  by_cases h : f < 4
  · rw [show decide (f < 4) = true by simp [h]] at K
    obtain ⟨p0, p1, p2, p3, p4, p5, p6, p7, p8⟩ := f_nums f0 h
    have O := of_cls f b f0 f1
    have X := formOK.split f b f0 f1
    obtain ⟨b0, b1⟩ := mod_f b
    generalize b % full = B at *
    obtain ⟨x0, x1, x2, x3⟩ := exp_range f0 h b0
    obtain ⟨r0, r1⟩ := frac_range (b := B) f0 h
    have fl := fW_full f
    have pl : (2 : Int) ^ fP f ≤ 2 ^ fW f := two_pow_le (by omega)
    have pt := pow_top (n := fP f) (by omega)
    have hp := two_pow_pos (fP f - 1)
    by_cases c1 : clsF f B = 1
    · obtain ⟨e0, fr, l1, l2, ue, us⟩ := un_sub f0 h c1
      rw [c1] at O ⊢
      have U := unF f0 h (negF f B) 1 0 0 0 (1 - fE f) (fracF f B) (by omega) (by omega) fr (by omega)
      have eu : unitF f (1 - fE f) + blen (fracF f B) - 1 = uE f B := by rw [ue]; unfold unitF; split <;> omega
      rw [eu, ← us] at U
      exact fld_unpack_sub f _ _ _ _ _ _ _ _ _ _ _ (negF f B) _ (Lib.hid K) (Lib.hid O) (Lib.hid X) (Lib.hid (inF f0 h (negF f B) 1 0 0 0)) (Lib.hid (leastF f0 h)) (Lib.hid U) w ft
    · by_cases c2 : clsF f B = 2
      · obtain ⟨e1, e2, ue, us⟩ := un_nor f0 h b0 c2
        rw [c2] at O ⊢
        have l : blen (fracF f B + 2 ^ (fP f - 1)) = fP f := by
          rw [show fP f = (fP f - 1) + 1 by omega]
          refine blen_of ?_ ?_
          · rw [show fP f - 1 + 1 - 1 = fP f - 1 by omega]; omega
          · rw [show fP f - 1 + 1 - 1 = fP f - 1 by omega, Int.pow_succ]; omega
        have U := unF f0 h (negF f B) 2 0 0 0 (expF f B - fE f) (fracF f B + 2 ^ (fP f - 1)) (by omega) (by omega) (by omega) (by omega)
        have eu : unitF f (expF f B - fE f) + blen (fracF f B + 2 ^ (fP f - 1)) - 1 = uE f B := by rw [ue, l]; unfold unitF; split <;> omega
        rw [eu, l, ← us] at U
        exact fld_unpack_nor f _ _ _ _ _ _ _ _ _ (expF f B - fE f) _ _ _ (negF f B) _ (Lib.hid K) (Lib.hid O) (Lib.hid X) (Lib.hid (inF f0 h (negF f B) 2 0 0 0)) (Lib.hid (leadF f0 h (fracF f B))) (Lib.hid U) (IntWalk.i64_in _ (by omega)) w ft
      · obtain ⟨u1, u2⟩ := u_none (f := f) (b := B) (by omega)
        rw [u1, u2, hl_zero.1, hl_zero.2]
        exact fld_unpack_def f _ _ _ _ _ _ _ (clsF f B) (negF f B) _ (Lib.hid K) (Lib.hid O) (Lib.hid X) (Lib.hid (inF f0 h (negF f B) _ 0 0 0)) (by simp [c1]) (by simp [c2]) w ft
  · rw [show decide (f < 4) = false by simp [h]] at K
    have z := cls_no h (b % full)
    obtain ⟨u1, u2⟩ := u_none (f := f) (b := b % full) (by omega)
    rw [z, u1, u2, show negF f (b % full) = false by unfold negF; simp [h], hl_zero.1, hl_zero.2]
    exact fld_unpack_no f _ _ (Lib.hid K) w ft

/-- The highest bit of 128. -/
theorem top_bit {s : Int} (s0 : 0 ≤ s) (s1 : s < full) : bitI s 127 = decide ((2 : Int) ^ 127 ≤ s) := by
  have e : full = 2 * 2 ^ 127 := by decide
  unfold bitI
  rw [show decide ((0 : Int) ≤ 127) = true from rfl, show decide ((127 : Int) < 128) = true from rfl, Bool.true_and, Bool.true_and, show (127 : Int).toNat = 127 from rfl]
  have hp : (0 : Int) < 2 ^ 127 := by decide
  rw [e] at s1
  generalize (2 : Int) ^ 127 = q at *
  by_cases c : q ≤ s
  · rw [show s = (s - q) + 1 * q by omega, Int.add_mul_ediv_right _ _ (by omega), Int.ediv_eq_zero_of_lt (by omega) (by omega)]
    simp; omega
  · rw [Int.ediv_eq_zero_of_lt s0 (by omega)]; simp [c]
theorem pkF {f : Int} (h0 : 0 ≤ f) (h : f < 4) (g : Bool) (c e s : Int) (hc : c = 1 ∨ c = 2) (e0 : -9223372036854775808 ≤ e) (e1 : e ≤ 9223372036854775807) (s0 : 0 ≤ s) (s1 : s < full) (w : World) (ft : FTab w) : Calls Tryd.prog 36 #[.agg #[.int .u8 f, .int .i64 (fP f), .int .i64 (fE f), .bool g, .int .u8 c, .int .i64 e, .int .u64 (hiOf (s)), .int .u64 (loOf (s))]] w fun x w' => x = .returned (.tuple #[.agg #[.int .u64 (hiOf (packV f g c e s)), .int .u64 (loOf (packV f g c e s))], .bool (packK f c e s)]) ∧ Below w.heap.size w w' := by
  obtain ⟨p0, p1, p2, p3, p4, p5, p6, p7, p8⟩ := f_nums h0 h
  have no : ¬ fitK f e s → packK f c e s = false ∧ packV f g c e s = 0 := fun n => by
    have k : packK f c e s = false := packK_no (by rintro ⟨_, x | x | x⟩ <;> first | omega | exact n x.2)
    exact ⟨k, packV_no k⟩
  by_cases g1 : (fE f : Int) < e
  · obtain ⟨k, v⟩ := no (fun x => by have := x.1; omega)
    rw [k, v, hl_zero.1, hl_zero.2]
    exact fld_pk_great f _ _ c e _ _ g (by simp [g1]) w
  · have L := leastF h0 h
    have U0 := unitN h0 h (1 - fE f) (by omega) (by omega)
    have eu0 : unitF f (1 - fE f) = 2 - fE f - fP f := by unfold unitF; split <;> omega
    rw [eu0] at U0
    by_cases g2 : e < 2 - fE f - fP f
    · obtain ⟨k, v⟩ := no (fun x => by have := x.2.1; omega)
      rw [k, v, hl_zero.1, hl_zero.2]
      exact fld_pk_small f _ _ c e _ _ _ _ g (Lib.hid L) (Lib.hid U0) (by simp [g1]) (by simp [g2]) w ft
    · have G1 : decide ((fE f : Int) < e) = false := by simp [g1]
      have G2 : decide (e < 2 - (fE f : Int) - fP f) = false := by simp [g2]
      have bt := bit_any (hiOf s) (loOf s) 127 (hiOf_u _) (loOf_u _)
      rw [val_hiLo_mod, Int.emod_eq_of_lt s0 s1, top_bit s0 s1] at bt
      by_cases g3 : (2 : Int) ^ 127 ≤ s
      · rw [decide_eq_true g3] at bt
        have U := unitN h0 h e (by omega) (by omega)
        have W := ofW s
        rw [Int.emod_eq_of_lt s0 s1] at W
        obtain ⟨o1, o2⟩ := off_le h0 h (e := e) (by omega)
        have eo : unitF f e - (e - 127) = (offF f e : Int) := by unfold unitF offF; split <;> split <;> omega
        have ub : -2000000 ≤ unitF f e ∧ unitF f e ≤ 2000000 := by unfold unitF; split <;> omega
        have T := lostW s (offF f e : Int) (by omega) (by omega)
        have sw : s % wfull = s := Int.emod_eq_of_lt s0 (by have : full < wfull := by decide
                                                            omega)
        rw [Int.toNat_natCast, sw] at T
        by_cases g4 : s % 2 ^ offF f e = 0
        · rw [show (s % 2 ^ offF f e != 0) = false by simp [g4]] at T
          have k := packK_yes (f := f) (c := c) (e := e) (s := s) ⟨h, .inr (.inr ⟨hc, by omega, by omega, g3, g4⟩)⟩
          have v : packV f g c e s = makeF f g (fieldF f e) (s / 2 ^ offF f e) := by unfold packV; rw [k, if_pos rfl, if_neg (by omega), if_neg (by omega)]
          rw [k, v]
          have R := rightB s (offF f e : Int) (by omega) (by omega)
          rw [Int.toNat_natCast, Int.emod_eq_of_lt s0 s1] at R
          have q := two_pow_pos (offF f e)
          have d0 : 0 ≤ s / 2 ^ offF f e := Int.ediv_nonneg s0 (by omega)
          have d1 : s / 2 ^ offF f e < full := by have := Int.ediv_le_self (2 ^ offF f e) s0; omega
          have ef : (if e + fE f < 0 then 0 else e + (fE f : Int)) = fieldF f e := by unfold fieldF; split <;> split <;> omega
          have ef2 : (if 0 > e + (fE f : Int) then 0 else e + (fE f : Int)) = fieldF f e := ef
          have fb : 0 ≤ fieldF f e ∧ fieldF f e ≤ 100000 := by unfold fieldF; split <;> omega
          have MK := formOK.make f g (fieldF f e) (s / 2 ^ offF f e) h0 (by omega) (by omega) (by omega)
          rw [Int.emod_eq_of_lt d0 d1] at MK
          exact fld_pk_yes f _ _ c e _ _ _ _ _ (e - 127) _ _ _ _ _ (e + fE f) _ _ _ _ _ g (Lib.hid L) (Lib.hid U0) (Lib.hid bt) (Lib.hid U) (Lib.hid W) (Lib.hid T) (Lib.hid R) (Lib.hid MK) G1 G2 (IntWalk.i64_in _ (by omega)) (by rw [IntWalk.i64_in _ (by omega)]; omega) (IntWalk.i64_in _ (by omega)) ef2 ef w ft
        · rw [show (s % 2 ^ offF f e != 0) = true by simp [g4]] at T
          obtain ⟨k, v⟩ := no (fun x => g4 x.2.2.2)
          rw [k, v, hl_zero.1, hl_zero.2]
          exact fld_pk_lost f _ _ c e _ _ _ _ _ (e - 127) _ _ _ _ _ g (Lib.hid L) (Lib.hid U0) (Lib.hid bt) (Lib.hid U) (Lib.hid W) (Lib.hid T) G1 G2 (IntWalk.i64_in _ (by omega)) (by rw [IntWalk.i64_in _ (by omega)]; omega) w ft
      · rw [decide_eq_false g3] at bt
        obtain ⟨k, v⟩ := no (fun x => g3 x.2.2.1)
        rw [k, v, hl_zero.1, hl_zero.2]
        exact fld_pk_bit f _ _ c e _ _ _ _ g (Lib.hid L) (Lib.hid U0) (Lib.hid bt) G1 G2 w ft
theorem packN (f : Int) (g : Bool) (c e s : Int) (f0 : 0 ≤ f) (f1 : f ≤ 255) (c0 : 0 ≤ c) (c1 : c ≤ 255) (e0 : -9223372036854775808 ≤ e) (e1 : e ≤ 9223372036854775807) (w : World) (ft : FTab w) : Calls Tryd.prog 13 #[.int .u8 f, .agg #[.bool g, .int .u8 c, .int .i64 e, .int .u64 (hiOf (s)), .int .u64 (loOf (s))]] w fun x w' => x = .returned (.tuple #[.agg #[.int .u64 (hiOf (packV f g c e (s % full))), .int .u64 (loOf (packV f g c e (s % full)))], .bool (packK f c e (s % full))]) ∧ Below w.heap.size w w' := by
  have K := formOK.known f f0 f1
  by_cases h : f < 4
  · rw [show decide (f < 4) = true by simp [h]] at K
    by_cases z0 : c = 0
    · subst z0
      have k : packK f 0 e (s % full) = true := packK_yes ⟨h, .inl rfl⟩
      have v : packV f g 0 e (s % full) = makeF f g 0 0 := by unfold packV; rw [k, if_pos rfl, if_pos rfl]
      rw [k, v]
      exact fld_pack_0 f e _ _ _ _ g (Lib.hid K) (Lib.hid (formOK.nought f g f0 f1)) w ft
    · by_cases z3 : c = 3
      · subst z3
        have k : packK f 3 e (s % full) = true := packK_yes ⟨h, .inr (.inl rfl)⟩
        have v : packV f g 3 e (s % full) = infF f g := by unfold packV; rw [k, if_pos rfl, if_neg (by decide), if_pos rfl]
        rw [k, v]
        exact fld_pack_3 f e _ _ _ _ g (Lib.hid K) (Lib.hid (formOK.inf f g f0 f1)) w ft
      · by_cases z : c = 1 ∨ c = 2
        · obtain ⟨s0, s1⟩ := mod_f s
          have P := pkF f0 h g c e (s % full) z e0 e1 s0 s1
          rw [(hl_mod s).1, (hl_mod s).2] at P
          have I := inF f0 h g c e (hiOf s) (loOf s)
          rcases z with rfl | rfl
          · exact fld_pack_1 f e _ _ _ _ _ _ g _ (Lib.hid K) (Lib.hid I) (Lib.hid P) w ft
          · exact fld_pack_2 f e _ _ _ _ _ _ g _ (Lib.hid K) (Lib.hid I) (Lib.hid P) w ft
        · have k : packK f c e (s % full) = false := packK_no (by rintro ⟨_, x | x | x⟩ <;> first | omega | exact z x.1)
          rw [k, packV_no k, hl_zero.1, hl_zero.2]
          exact fld_pack_def f c e _ _ g (Lib.hid K) (by simp [z0]) (by simp [z3]) (by simp; omega) (by simp; omega) w ft
  · rw [show decide (f < 4) = false by simp [h]] at K
    have k : packK f c e (s % full) = false := packK_no (by rintro ⟨x, _⟩; exact h x)
    rw [k, packV_no k, hl_zero.1, hl_zero.2]
    exact fld_pack_no f c e _ _ g (Lib.hid K) w ft

/-- Package fields keeps what the document asks. -/
theorem fldOK : FldOK where
  unpack f b f0 f1 w ft := unpackN f b f0 f1 w ft
  pack f g c e s f0 f1 c0 c1 e0 e1 w ft := packN f g c e s f0 f1 c0 c1 e0 e1 w ft

end Go.Proofs.YtelfjbdpmiopdaaDoor
