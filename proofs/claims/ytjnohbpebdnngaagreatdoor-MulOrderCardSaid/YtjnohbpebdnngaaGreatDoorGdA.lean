/-
  Texts of the ground put together: Math9, Ref9, Ref9P, Fld9P, BsA.
-/
import Derived.Test.YtjnohbpebdnngaaGreatDoorGkA
import Derived.Test.YtjnohbpebdnngaaGreatDoorGhA
import Derived.Laws.OwnMore
import Derived.Laws.AppendOwnNone
import Derived.Deep.AppendLies

/-
  Numbers taken apart: by definition, over numbers; plain arithmetic.
-/
set_option linter.unusedVariables false
set_option linter.unusedSimpArgs false
set_option maxRecDepth 100000
namespace Go.Proofs.YtjnohbpebdnngaaGreatDoor
open Go.RowKit

/-- A finite number as a whole one times a power of 2. -/
def uM (f b : Int) : Int := if expF f b = 0 then fracF f b else fracF f b + 2 ^ (fP f - 1)
def uX (f b : Int) : Int := (if expF f b = 0 then 1 else expF f b) - fE f - (fP f - 1 : Nat)
/-- What a number taken apart has: its exponent, its digits. -/
def uE (f b : Int) : Int := if clsF f b = 1 ∨ clsF f b = 2 then uX f b + blen (uM f b) - 1 else 0
def uS (f b : Int) : Int := if clsF f b = 1 ∨ clsF f b = 2 then uM f b * 2 ^ (128 - blen (uM f b)) else 0
def offF (f e : Int) : Nat := if e + fE f < 1 then (129 - fP f - (e + fE f)).toNat else 128 - fP f
def fieldF (f e : Int) : Int := if e + fE f < 1 then 0 else e + fE f
/-- What a format has. -/
def fitK (f e s : Int) : Prop := e ≤ fE f ∧ 2 - fE f - fP f ≤ e ∧ 2 ^ 127 ≤ s ∧ s % 2 ^ offF f e = 0
instance (f e s : Int) : Decidable (fitK f e s) := by unfold fitK; infer_instance
def packK (f c e s : Int) : Bool := decide (f < 4) && (decide (c = 0) || decide (c = 3) || decide ((c = 1 ∨ c = 2) ∧ fitK f e s))
def packV (f : Int) (g : Bool) (c e s : Int) : Int := if packK f c e s then (if c = 0 then makeF f g 0 0 else if c = 3 then infF f g else makeF f g (fieldF f e) (s / 2 ^ offF f e)) else 0

theorem cls_0 {f b : Int} (h : f < 4) : clsF f b = 0 ↔ expF f b = 0 ∧ fracF f b = 0 := by unfold clsF; rw [if_pos h]; repeat' split
                                                                                          all_goals omega
theorem cls_1 {f b : Int} (h : f < 4) : clsF f b = 1 ↔ expF f b = 0 ∧ fracF f b ≠ 0 := by unfold clsF; rw [if_pos h]; repeat' split
                                                                                          all_goals omega
theorem cls_2 {f b : Int} (h : f < 4) : clsF f b = 2 ↔ expF f b ≠ 0 ∧ expF f b ≠ 2 * fE f + 1 := by unfold clsF; rw [if_pos h]; repeat' split
                                                                                                    all_goals omega
/-- A subnormal number taken apart. -/
theorem un_sub {f b : Int} (h0 : 0 ≤ f) (h : f < 4) (c : clsF f b = 1) : expF f b = 0 ∧ 0 < fracF f b ∧ 1 ≤ blen (fracF f b) ∧ blen (fracF f b) ≤ fP f - 1 ∧ uE f b = 1 - fE f - fP f + blen (fracF f b) ∧ uS f b = fracF f b * 2 ^ (128 - blen (fracF f b)) := by
  obtain ⟨e0, fr⟩ := (cls_1 h).1 c
  obtain ⟨r0, r1⟩ := frac_range (b := b) h0 h
  obtain ⟨p0, p1, p2, p3, p4, p5, p6, p7, p8⟩ := f_nums h0 h
  have m : uM f b = fracF f b := by unfold uM; rw [if_pos e0]
  have x : uX f b = 1 - fE f - (fP f - 1 : Nat) := by unfold uX; rw [if_pos e0]
  have l1 := blen_pos (show 0 < fracF f b by omega)
  have l2 := blen_le r0 r1
  refine ⟨e0, by omega, l1, l2, ?_, ?_⟩
  · unfold uE; rw [if_pos (Or.inl c), m, x]; omega
  · unfold uS; rw [if_pos (Or.inl c), m]
/-- A normal number taken apart. -/
theorem un_nor {f b : Int} (h0 : 0 ≤ f) (h : f < 4) (hb : 0 ≤ b) (c : clsF f b = 2) : 1 ≤ expF f b ∧ expF f b ≤ 2 * fE f ∧ uE f b = expF f b - fE f ∧ uS f b = (fracF f b + 2 ^ (fP f - 1)) * 2 ^ (128 - fP f) := by
  obtain ⟨e0, e1⟩ := (cls_2 h).1 c
  obtain ⟨r0, r1⟩ := frac_range (b := b) h0 h
  obtain ⟨x0, x1, x2, x3⟩ := exp_range h0 h hb
  obtain ⟨p0, p1, p2, p3, p4, p5, p6, p7, p8⟩ := f_nums h0 h
  have m : uM f b = fracF f b + 2 ^ (fP f - 1) := by unfold uM; rw [if_neg e0]
  have x : uX f b = expF f b - fE f - (fP f - 1 : Nat) := by unfold uX; rw [if_neg e0]
  have l : blen (fracF f b + 2 ^ (fP f - 1)) = fP f := by
    rw [show fP f = (fP f - 1) + 1 by omega]
    refine blen_of ?_ ?_
    · rw [show fP f - 1 + 1 - 1 = fP f - 1 by omega]; omega
    · rw [show fP f - 1 + 1 - 1 = fP f - 1 by omega, Int.pow_succ]; omega
  refine ⟨by omega, by omega, ?_, ?_⟩
  · unfold uE; rw [if_pos (Or.inr c), m, x, l]; omega
  · unfold uS; rw [if_pos (Or.inr c), m, l]
theorem pow_le_mul {x y : Int} (k : Nat) (h : x ≤ y) : x * 2 ^ k ≤ y * 2 ^ k := Int.mul_le_mul_of_nonneg_right h (by have := two_pow_pos k; omega)
theorem pow_lt_mul {x y : Int} (k : Nat) (h : x < y) : x * 2 ^ k < y * 2 ^ k := Int.mul_lt_mul_of_pos_right h (two_pow_pos k)
theorem pow_top {n : Nat} (h : 1 ≤ n) : (2 : Int) ^ n = 2 ^ (n - 1) * 2 := by
  obtain ⟨m, rfl⟩ : ∃ m, n = m + 1 := ⟨n - 1, by omega⟩
  rw [Int.pow_succ, Nat.add_sub_cancel]
/-- A number's digits fill 128 bits. -/
theorem full_digits {m : Int} (h : 0 < m) (l : blen m ≤ 128) : 2 ^ 127 ≤ m * 2 ^ (128 - blen m) ∧ m * 2 ^ (128 - blen m) < full := by
  have l1 := blen_pos h
  have a := pow_le_mul (128 - blen m) (blen_low h)
  obtain ⟨j, e, b1, b2⟩ := blen_bounds h
  have b := pow_lt_mul (128 - blen m) (show m < 2 ^ blen m by rw [e]; exact b2)
  rw [← Int.pow_add, show blen m - 1 + (128 - blen m) = 127 by omega] at a
  rw [← Int.pow_add, show blen m + (128 - blen m) = 128 by omega, full_pow] at b
  exact ⟨a, b⟩
theorem nor_digits {f b : Int} (h0 : 0 ≤ f) (h : f < 4) : 2 ^ 127 ≤ (fracF f b + 2 ^ (fP f - 1)) * 2 ^ (128 - fP f) ∧ (fracF f b + 2 ^ (fP f - 1)) * 2 ^ (128 - fP f) < full := by
  obtain ⟨r0, r1⟩ := frac_range (b := b) h0 h
  obtain ⟨p0, p1, p2, p3, p4, p5, p6, p7, p8⟩ := f_nums h0 h
  have a := pow_le_mul (128 - fP f) (show 2 ^ (fP f - 1) ≤ fracF f b + 2 ^ (fP f - 1) by omega)
  have b' := pow_lt_mul (128 - fP f) (show fracF f b + 2 ^ (fP f - 1) < 2 ^ fP f by rw [pow_top (show 1 ≤ fP f by omega)]; omega)
  rw [← Int.pow_add, show fP f - 1 + (128 - fP f) = 127 by omega] at a
  rw [← Int.pow_add, show fP f + (128 - fP f) = 128 by omega, full_pow] at b'
  exact ⟨a, b'⟩
/-- How great what is taken apart is. -/
theorem un_range {f b : Int} (h0 : 0 ≤ f) (h : f < 4) (hb : 0 ≤ b) (c : clsF f b = 1 ∨ clsF f b = 2) : uE f b ≤ fE f ∧ 2 - fE f - fP f ≤ uE f b ∧ 2 ^ 127 ≤ uS f b ∧ uS f b < full ∧ uS f b % 2 ^ (128 - fP f) = 0 ∧ (clsF f b = 1 ↔ uE f b < 1 - fE f) := by
  obtain ⟨p0, p1, p2, p3, p4, p5, p6, p7, p8⟩ := f_nums h0 h
  rcases c with c | c
  · obtain ⟨e0, fr, l1, l2, ue, us⟩ := un_sub h0 h c
    have d := full_digits fr (by omega)
    rw [ue, us]
    refine ⟨by omega, by omega, d.1, d.2, ?_, by constructor <;> intro _ <;> omega⟩
    rw [show 128 - blen (fracF f b) = (fP f - blen (fracF f b)) + (128 - fP f) by omega, Int.pow_add, ← Int.mul_assoc, Int.mul_emod_left]
  · obtain ⟨e1, e2, ue, us⟩ := un_nor h0 h hb c
    have d := nor_digits (b := b) h0 h
    rw [ue, us]
    exact ⟨by omega, by omega, d.1, d.2, Int.mul_emod_left .., by constructor <;> intro _ <;> omega⟩
theorem uS_range {f b : Int} (h0 : 0 ≤ f) (hb : 0 ≤ b) : 0 ≤ uS f b ∧ uS f b < full := by
  by_cases h : f < 4
  · by_cases c : clsF f b = 1 ∨ clsF f b = 2
    · have := un_range h0 h hb c; have : (0 : Int) < 2 ^ 127 := by decide
      omega
    · unfold uS; rw [if_neg c]; exact ⟨Int.le_refl _, by decide⟩
  · unfold uS clsF; rw [if_neg h, if_neg (by decide)]; exact ⟨Int.le_refl _, by decide⟩
theorem uE_range {f b : Int} (h0 : 0 ≤ f) (hb : 0 ≤ b) : -16600 ≤ uE f b ∧ uE f b ≤ 16383 := by
  by_cases h : f < 4
  · obtain ⟨p0, p1, p2, p3, p4, p5, p6, p7, p8⟩ := f_nums h0 h
    by_cases c : clsF f b = 1 ∨ clsF f b = 2
    · have := un_range h0 h hb c; omega
    · unfold uE; rw [if_neg c]; decide
  · unfold uE clsF; rw [if_neg h, if_neg (by decide)]; decide

/-! ### put together, and taken apart -/
theorem off_le {f e : Int} (h0 : 0 ≤ f) (h : f < 4) (e1 : 2 - fE f - fP f ≤ e) : offF f e ≤ 127 ∧ 128 - fP f ≤ offF f e := by
  obtain ⟨p0, p1, p2, p3, p4, p5, p6, p7, p8⟩ := f_nums h0 h
  unfold offF; split <;> omega
theorem shifted {s : Int} {k : Nat} (hk : k ≤ 127) (s0 : 2 ^ 127 ≤ s) (s1 : s < full) (hm : s % 2 ^ k = 0) : s / 2 ^ k * 2 ^ k = s ∧ 2 ^ (127 - k) ≤ s / 2 ^ k ∧ s / 2 ^ k < 2 ^ (128 - k) ∧ blen (s / 2 ^ k) = 128 - k := by
  have hp := two_pow_pos k
  have e : s / 2 ^ k * 2 ^ k = s := by have := Int.mul_ediv_add_emod s (2 ^ k); rw [hm, Int.mul_comm] at this; omega
  have a : 2 ^ (127 - k) ≤ s / 2 ^ k := by
    rw [Int.le_ediv_iff_mul_le hp, ← Int.pow_add, show 127 - k + k = 127 by omega]; exact s0
  have b : s / 2 ^ k < 2 ^ (128 - k) := by
    rw [Int.ediv_lt_iff_lt_mul hp, ← Int.pow_add, show 128 - k + k = 128 by omega, full_pow]; exact s1
  refine ⟨e, a, b, ?_⟩
  rw [show 128 - k = (127 - k) + 1 by omega]
  exact blen_of a (by rw [show 127 - k + 1 = 128 - k by omega]; exact b)
/-- What is put together is taken apart to what it was. -/
theorem un_pack {f e s : Int} (h0 : 0 ≤ f) (h : f < 4) (g : Bool) (k : fitK f e s) (s1 : s < full) : ∀ b, makeF f g (fieldF f e) (s / 2 ^ offF f e) = b →
    (clsF f b = 1 ∨ clsF f b = 2) ∧ uE f b = e ∧ uS f b = s ∧ negF f b = g ∧ (clsF f b = 1 ↔ e + fE f < 1) := by
  intro b eb
  obtain ⟨k1, k2, k3, k4⟩ := k
  obtain ⟨p0, p1, p2, p3, p4, p5, p6, p7, p8⟩ := f_nums h0 h
  obtain ⟨o1, o2⟩ := off_le h0 h k2
  obtain ⟨t0, t1, t2, t3⟩ := shifted o1 k3 s1 k4
  have fr : fieldF f e < 2 ^ (fW f - fP f) ∧ 0 ≤ fieldF f e := by rw [p5]; unfold fieldF; split <;> omega
  obtain ⟨m1, m2, m3⟩ := make_fields h0 h g (fieldF f e) (s / 2 ^ offF f e)
  rw [eb] at m1 m2 m3
  rw [expOf_id h0 h fr.2 fr.1] at m1
  have nn : 0 ≤ s / 2 ^ offF f e := by have := two_pow_pos (127 - offF f e); omega
  have b0 : 0 ≤ b := by rw [← eb]; exact (make_full h0 g _ _).1
  by_cases hf : e + fE f < 1
  · have ef : fieldF f e = 0 := by unfold fieldF; rw [if_pos hf]
    have eo : offF f e = (129 - fP f - (e + fE f)).toNat := by unfold offF; rw [if_pos hf]
    have lt : s / 2 ^ offF f e < 2 ^ (fP f - 1) := by
      have := two_pow_le (show 128 - offF f e ≤ fP f - 1 by omega); omega
    rw [Int.emod_eq_of_lt nn lt] at m2
    rw [ef] at m1
    have c : clsF f b = 1 := (cls_1 h).2 ⟨m1, by rw [m2]; have := two_pow_pos (127 - offF f e); omega⟩
    obtain ⟨_, _, l1, l2, ue, us⟩ := un_sub h0 h c
    rw [m2, t3] at l1 l2 ue us
    refine ⟨Or.inl c, by omega, ?_, m3, ⟨fun _ => hf, fun _ => c⟩⟩
    rw [us, show 128 - (128 - offF f e) = offF f e by omega]; exact t0
  · have ef : fieldF f e = e + fE f := by unfold fieldF; rw [if_neg hf]
    have eo : offF f e = 128 - fP f := by unfold offF; rw [if_neg hf]
    rw [eo] at t0 t1 t2 t3 m2
    rw [show 127 - (128 - fP f) = fP f - 1 by omega] at t1
    rw [show 128 - (128 - fP f) = fP f by omega] at t2
    rw [ef] at m1
    have c : clsF f b = 2 := (cls_2 h).2 ⟨by omega, by omega⟩
    obtain ⟨x1, x2, ue, us⟩ := un_nor h0 h b0 c
    have fr2 : fracF f b + 2 ^ (fP f - 1) = s / 2 ^ (128 - fP f) := by
      rw [m2]
      have e2 := pow_top (show 1 ≤ fP f by omega)
      have hp := two_pow_pos (fP f - 1)
      generalize s / 2 ^ (128 - fP f) = q at *
      rw [show q = (q - 2 ^ (fP f - 1)) + 2 ^ (fP f - 1) by omega, Int.add_emod_right, Int.emod_eq_of_lt (by omega) (by omega)]
    refine ⟨Or.inr c, by omega, ?_, m3, ⟨fun x => by omega, fun x => absurd x hf⟩⟩
    rw [us, fr2]; exact t0
/-- What is taken apart is put together again. -/
theorem pack_un {f b : Int} (h0 : 0 ≤ f) (h : f < 4) (hb : 0 ≤ b) (c : clsF f b = 1 ∨ clsF f b = 2) : fitK f (uE f b) (uS f b) ∧ makeF f (negF f b) (fieldF f (uE f b)) (uS f b / 2 ^ offF f (uE f b)) = cutF f b := by
  obtain ⟨p0, p1, p2, p3, p4, p5, p6, p7, p8⟩ := f_nums h0 h
  obtain ⟨r1, r2, r3, r4, r5, r6⟩ := un_range h0 h hb c
  obtain ⟨fr0, fr1⟩ := frac_range (b := b) h0 h
  rcases c with c | c
  · obtain ⟨e0, fr, l1, l2, ue, us⟩ := un_sub h0 h c
    have lt := r6.1 c
    have eo : offF f (uE f b) = 128 - blen (fracF f b) := by unfold offF; rw [if_pos (by omega)]; omega
    have ef : fieldF f (uE f b) = expF f b := by unfold fieldF; rw [if_pos (by omega)]; omega
    refine ⟨⟨r1, r2, r3, by rw [eo, us]; exact Int.mul_emod_left ..⟩, ?_⟩
    rw [eo, ef, us, mul_pow_div]; exact make_split h0 h hb
  · obtain ⟨x1, x2, ue, us⟩ := un_nor h0 h hb c
    have eo : offF f (uE f b) = 128 - fP f := by unfold offF; rw [if_neg (by omega)]
    have ef : fieldF f (uE f b) = expF f b := by unfold fieldF; rw [if_neg (by omega)]; omega
    refine ⟨⟨r1, r2, r3, by rw [eo]; exact r5⟩, ?_⟩
    rw [eo, ef, us, mul_pow_div]
    have := make_split h0 h hb
    rw [← this]
    unfold makeF; rw [if_pos h, if_pos h, Int.add_emod_right]
/-! ### order; the next wider format -/
theorem cut_val {f b : Int} (h0 : 0 ≤ f) (h : f < 4) (hb : 0 ≤ b) (n : negF f b = false) : cutF f b = expF f b * 2 ^ (fP f - 1) + fracF f b := by
  obtain ⟨r0, r1⟩ := frac_range (b := b) h0 h
  obtain ⟨x0, x1, x2, x3⟩ := exp_range h0 h hb
  have e := make_split h0 h hb
  rw [n] at e
  unfold makeF at e
  rw [if_pos h, expOf_id h0 h x0 x1, Int.emod_eq_of_lt r0 r1, if_neg (by decide), Int.add_zero] at e
  exact e.symm
theorem mod_zero_le {s : Int} {a b : Nat} (h : a ≤ b) (hb : s % 2 ^ b = 0) : s % 2 ^ a = 0 := by have := mod_mod_pow s h; rw [hb, Int.zero_emod] at this; exact this.symm
theorem fit_wider {f b : Int} (h0 : 0 ≤ f) (h2 : f ≤ 2) (hb : 0 ≤ b) (c : clsF f b = 1 ∨ clsF f b = 2) : fitK (f + 1) (uE f b) (uS f b) ∧ ¬ uE f b + fE (f + 1) < 1 := by
  obtain ⟨r1, r2, r3, r4, r5, r6⟩ := un_range h0 (by omega) hb c
  have k : 2 * (fE f : Int) + 2 * fP f < fE (f + 1) + 2 ∧ fP f ≤ fP (f + 1) ∧ fP (f + 1) ≤ 128 := by
    obtain rfl | rfl | rfl : f = 0 ∨ f = 1 ∨ f = 2 := by omega
    all_goals decide
  have n : ¬ uE f b + fE (f + 1) < 1 := by omega
  refine ⟨⟨by omega, by omega, r3, ?_⟩, n⟩
  unfold offF; rw [if_neg n]
  exact mod_zero_le (by omega) r5

end Go.Proofs.YtjnohbpebdnngaaGreatDoor

/-
  Numbers taken apart: the document's answers of layer 9, over numbers.
-/
set_option linter.unusedVariables false
set_option linter.unusedSimpArgs false
namespace Go.Proofs.YtjnohbpebdnngaaGreatDoor
open Go.RowKit
attribute [local go_sem ↓] Go.wp_at_zero Go.wp_at_succ

set_option maxHeartbeats 4000000 in
set_option maxRecDepth 100000 in
theorem ref9_of_sub (f bh bl FR ex p em x1 x2 x3 : Int) (kp : Nat) (sg : Bool)
    (RS : Hid (∀ w, Calls Tryz.prog 83 #[.int .u8 f, .agg #[.int .u64 (bh), .int .u64 (bl)]] w fun e w' => ∃ v, e = .returned (.tuple #[.bool sg, .int .i64 ex, v]) ∧ IsNum w' v FR ∧ Below w.heap.size w w'))
    (PF : Hid (∀ w, Calls Tryz.prog 87 #[.int .u8 f] w fun e w' => e = .returned (.int .i64 p) ∧ w = w')) (EF : Hid (∀ w, Calls Tryz.prog 84 #[.int .u8 f] w fun e w' => e = .returned (.int .i64 em) ∧ w = w')) (w1_ : IntKind.i64.wrap (1 - em) = x1) (w2_ : IntKind.i64.wrap (p - 1) = x2) (w3_ : IntKind.i64.wrap (x1 - x2) = x3) (hx : ex = 0) (w : World) :
    Calls Tryz.prog 44 #[.int .u8 f, .agg #[.int .u64 (bh), .int .u64 (bl)]] w fun e w' => ∃ v, e = .returned (.agg #[.bool sg, v, .int .i64 x3]) ∧ IsNum w' v (FR) ∧ Below w.heap.size w w' := by
  subst hx
  go_enter Tryz.func44, Tryz.ntmps44
  go_wp2_with fail
  (with_reducible refine (RS.out _).mono ?_); rintro e w1 ⟨v, rfl, nv, hb⟩
  have kk := bC (bA (bA (Below.refl _ _) _) _) hb
  have xr : HB w1 (w.heap.size + 1) 71 #[.bool false, .slice none 0 0, .int .i64 0] := (HB.newAt (by simp) _ _).later hb
  clear hb
  go_wp2_with fail
  (with_reducible refine (PF.out _).mono ?_); rintro e wz ⟨rfl, rfl⟩
  go_wp2_with fail
  (with_reducible refine (EF.out _).mono ?_); rintro e wz ⟨rfl, rfl⟩
  obtain ⟨ao, k, cap, ds, rfl, hnv⟩ : ∃ ao k cap ds, v = .slice ao k cap ∧ (Dig w1 ao k cap ds ∧ num ds = FR ∧ Norm ds) := nv
  have NV : IsNum w1 (.slice ao k cap) FR := ⟨ao, k, cap, ds, rfl, hnv⟩
  clear hnv
  have KEY : Hid (HB (((w1.setCell ⟨w.heap.size + 1, 0, none⟩ (.bool sg)).setCell ⟨w.heap.size + 1, 1, none⟩ (.slice ao k cap)).setCell ⟨w.heap.size + 1, 2, none⟩ (.int .i64 x3)) (w.heap.size + 1) 71 #[.bool sg, .slice ao k cap, .int .i64 x3] ∧ Below w.heap.size w (((w1.setCell ⟨w.heap.size + 1, 0, none⟩ (.bool sg)).setCell ⟨w.heap.size + 1, 1, none⟩ (.slice ao k cap)).setCell ⟨w.heap.size + 1, 2, none⟩ (.int .i64 x3)) ∧ IsNum (((w1.setCell ⟨w.heap.size + 1, 0, none⟩ (.bool sg)).setCell ⟨w.heap.size + 1, 1, none⟩ (.slice ao k cap)).setCell ⟨w.heap.size + 1, 2, none⟩ (.int .i64 x3)) (.slice ao k cap) FR) := Lib.hid ⟨(((xr.set 0 _).set 1 _).set 2 _), (((kk.setCell (p := ⟨w.heap.size + 1, 0, none⟩) (by simp) _).setCell (p := ⟨w.heap.size + 1, 1, none⟩) (by simp) _).setCell (p := ⟨w.heap.size + 1, 2, none⟩) (by simp) _), (((NV.setHB xr (by intro d; simp) 0 _).setHB (xr.set 0 _) (by intro d; simp) 1 _).setHB ((xr.set 0 _).set 1 _) (by intro d; simp) 2 _)⟩
  have z0 := xr.cell 0; have f0 := xr.frozen 0; have z1 := xr.cell 1; have f1 := xr.frozen 1; have z2 := xr.cell 2; have f2 := xr.frozen 2; dsimp at z0 z1 z2
  have hl := xr.lt
  clear xr kk NV
  go_wp2_with fail
  obtain ⟨hE, kb, m0⟩ := KEY.out
  have e0 := hE.cell 0; have e1 := hE.cell 1; have e2 := hE.cell 2; dsimp at e0 e1 e2
  refine bodyPost_ret (v := .agg #[.bool sg, .slice ao k cap, .int .i64 x3]) ?_ rfl ⟨_, rfl, m0, kb⟩
  clear KEY hE kb z0 f0 z1 f1 z2 f2
  simp [results, Tryz.results44, go_sem, e0, e1, e2]

set_option maxHeartbeats 4000000 in
set_option maxRecDepth 100000 in
theorem ref9_of_nor (f bh bl FR ex p em x1 x2 x3 : Int) (kp : Nat) (sg : Bool)
    (RS : Hid (∀ w, Calls Tryz.prog 83 #[.int .u8 f, .agg #[.int .u64 (bh), .int .u64 (bl)]] w fun e w' => ∃ v, e = .returned (.tuple #[.bool sg, .int .i64 ex, v]) ∧ IsNum w' v FR ∧ Below w.heap.size w w'))
    (PF : Hid (∀ w, Calls Tryz.prog 87 #[.int .u8 f] w fun e w' => e = .returned (.int .i64 p) ∧ w = w')) (EF : Hid (∀ w, Calls Tryz.prog 84 #[.int .u8 f] w fun e w' => e = .returned (.int .i64 em) ∧ w = w')) (w1_ : IntKind.i64.wrap (ex - em) = x1) (w2_ : IntKind.i64.wrap (p - 1) = (kp : Int)) (w3_ : IntKind.i64.wrap (x1 - (kp : Int)) = x3) (hx : (ex == 0) = false) (HP : Hid (kp < 3200000)) (S1 : Hid (Small FR)) (S2 : Hid (Small (2 ^ kp))) (w : World) :
    Calls Tryz.prog 44 #[.int .u8 f, .agg #[.int .u64 (bh), .int .u64 (bl)]] w fun e w' => ∃ v, e = .returned (.agg #[.bool sg, v, .int .i64 x3]) ∧ IsNum w' v (FR + 2 ^ kp) ∧ Below w.heap.size w w' := by
  go_enter Tryz.func44, Tryz.ntmps44
  go_wp2_with fail
  (with_reducible refine (RS.out _).mono ?_); rintro e w1 ⟨v, rfl, nv, hb⟩
  have kk := bC (bA (bA (Below.refl _ _) _) _) hb
  have xr : HB w1 (w.heap.size + 1) 71 #[.bool false, .slice none 0 0, .int .i64 0] := (HB.newAt (by simp) _ _).later hb
  clear hb
  go_wp2_with fail
  (with_reducible refine (PF.out _).mono ?_); rintro e wz ⟨rfl, rfl⟩
  go_wp2_with fail
  (with_reducible refine (fullN kp HP.out _).mono ?_); rintro e w2 ⟨v2, rfl, n2, hb⟩
  have n1 := nv.later hb; replace kk := bC kk hb; replace xr := xr.later hb; clear hb nv
  go_wp2_with fail
  (with_reducible refine (add_num n1 n2 S1.out S2.out).mono ?_); rintro e w3 ⟨v3, rfl, n3, hb⟩
  replace kk := bC kk hb; replace xr := xr.later hb; clear hb n1 n2
  go_wp2_with fail
  (with_reducible refine (EF.out _).mono ?_); rintro e wz ⟨rfl, rfl⟩
  obtain ⟨ao, k, cap, ds, rfl, hnv⟩ : ∃ ao k cap ds, v3 = .slice ao k cap ∧ (Dig w3 ao k cap ds ∧ num ds = FR + 2 ^ kp ∧ Norm ds) := n3
  have NV : IsNum w3 (.slice ao k cap) (FR + 2 ^ kp) := ⟨ao, k, cap, ds, rfl, hnv⟩
  clear hnv
  have KEY : Hid (HB (((w3.setCell ⟨w.heap.size + 1, 0, none⟩ (.bool sg)).setCell ⟨w.heap.size + 1, 1, none⟩ (.slice ao k cap)).setCell ⟨w.heap.size + 1, 2, none⟩ (.int .i64 x3)) (w.heap.size + 1) 71 #[.bool sg, .slice ao k cap, .int .i64 x3] ∧ Below w.heap.size w (((w3.setCell ⟨w.heap.size + 1, 0, none⟩ (.bool sg)).setCell ⟨w.heap.size + 1, 1, none⟩ (.slice ao k cap)).setCell ⟨w.heap.size + 1, 2, none⟩ (.int .i64 x3)) ∧ IsNum (((w3.setCell ⟨w.heap.size + 1, 0, none⟩ (.bool sg)).setCell ⟨w.heap.size + 1, 1, none⟩ (.slice ao k cap)).setCell ⟨w.heap.size + 1, 2, none⟩ (.int .i64 x3)) (.slice ao k cap) (FR + 2 ^ kp)) := Lib.hid ⟨(((xr.set 0 _).set 1 _).set 2 _), (((kk.setCell (p := ⟨w.heap.size + 1, 0, none⟩) (by simp) _).setCell (p := ⟨w.heap.size + 1, 1, none⟩) (by simp) _).setCell (p := ⟨w.heap.size + 1, 2, none⟩) (by simp) _), (((NV.setHB xr (by intro d; simp) 0 _).setHB (xr.set 0 _) (by intro d; simp) 1 _).setHB ((xr.set 0 _).set 1 _) (by intro d; simp) 2 _)⟩
  have z0 := xr.cell 0; have f0 := xr.frozen 0; have z1 := xr.cell 1; have f1 := xr.frozen 1; have z2 := xr.cell 2; have f2 := xr.frozen 2; dsimp at z0 z1 z2
  have hl := xr.lt
  clear xr kk NV
  go_wp2_with fail
  obtain ⟨hE, kb, m0⟩ := KEY.out
  have e0 := hE.cell 0; have e1 := hE.cell 1; have e2 := hE.cell 2; dsimp at e0 e1 e2
  refine bodyPost_ret (v := .agg #[.bool sg, .slice ao k cap, .int .i64 x3]) ?_ rfl ⟨_, rfl, m0, kb⟩
  clear KEY hE kb z0 f0 z1 f1 z2 f2
  simp [results, Tryz.results44, go_sem, e0, e1, e2]

/-- The document's finite number. -/
theorem ref9_of (f b : Int) (f0 : 0 ≤ f) (h : f < 4) (w : World) : Calls Tryz.prog 44 #[.int .u8 f, .agg #[.int .u64 (hiOf (b)), .int .u64 (loOf (b))]] w fun e w' => ∃ v, e = .returned (.agg #[.bool (negF f (b % full)), v, .int .i64 (uX f (b % full))]) ∧ IsNum w' v (uM f (b % full)) ∧ Below w.heap.size w w' := by
  obtain ⟨p0, p1, p2, p3, p4, p5, p6, p7, p8⟩ := f_nums f0 h
  obtain ⟨x0, x1, x2, x3⟩ := exp_range (B := b % full) f0 h (mod_f b).1
  have RS := Lib.hid (ref7_split f b f0 h)
  have PF := Lib.hid (ref7_prec f f0 (by omega))
  have EF := Lib.hid (ref7_emax f f0 (by omega))
  have fr := frac_full (b := b % full) f0 h
  unfold uX uM
  by_cases z : expF f (b % full) = 0
  · rw [if_pos z, if_pos z]
    exact ref9_of_sub f _ _ _ _ _ _ (1 - fE f) ((fP f - 1 : Nat) : Int) _ 0 _ RS PF EF (IntWalk.i64_in _ (by omega)) (by rw [IntWalk.i64_in _ (by omega)]; omega) (IntWalk.i64_in _ (by omega)) z w
  · rw [if_neg z, if_neg z]
    have sp : (2 : Int) ^ (fP f - 1) ≤ full := by have := two_pow_le (show fP f - 1 ≤ 128 by omega); rwa [full_pow] at this
    exact ref9_of_nor f _ _ _ _ _ _ (expF f (b % full) - fE f) 0 _ (fP f - 1) _ RS PF EF (IntWalk.i64_in _ (by omega)) (by rw [IntWalk.i64_in _ (by omega)]; omega) (IntWalk.i64_in _ (by omega)) (by simp [z]) (Lib.hid (by omega)) (Lib.hid (small_full (by omega))) (Lib.hid (small_full sp)) w

end Go.Proofs.YtjnohbpebdnngaaGreatDoor

/-
  The document's Pack, over numbers.
-/
set_option linter.unusedVariables false
set_option linter.unusedSimpArgs false
namespace Go.Proofs.YtjnohbpebdnngaaGreatDoor
open Go.RowKit

end Go.Proofs.YtjnohbpebdnngaaGreatDoor

/-
  What the document asks of package fields; numbers put together and taken apart.
-/
set_option linter.unusedVariables false
set_option linter.unusedSimpArgs false
namespace Go.Proofs.YtjnohbpebdnngaaGreatDoor
open Go.RowKit
attribute [local go_sem ↓] Go.wp_at_zero Go.wp_at_succ

/-- What the document asks of package fields. -/
structure FldOK : Prop where
  unpack : ∀ f b, 0 ≤ f → f ≤ 255 → ∀ w, FTab w → Calls Tryz.prog 20 #[.int .u8 f, .agg #[.int .u64 (hiOf (b)), .int .u64 (loOf (b))]] w fun e w' => e = .returned (.agg #[.bool (negF f (b % full)), .int .u8 (clsF f (b % full)), .int .i64 (uE f (b % full)), .int .u64 (hiOf (uS f (b % full))), .int .u64 (loOf (uS f (b % full)))]) ∧ Below w.heap.size w w'
  pack : ∀ f (g : Bool) c e s, 0 ≤ f → f ≤ 255 → 0 ≤ c → c ≤ 255 → -9223372036854775808 ≤ e → e ≤ 9223372036854775807 → ∀ w, FTab w → Calls Tryz.prog 51 #[.int .u8 f, .agg #[.bool g, .int .u8 c, .int .i64 e, .int .u64 (hiOf (s)), .int .u64 (loOf (s))]] w fun e' w' => e' = .returned (.tuple #[.agg #[.int .u64 (hiOf (packV f g c e (s % full))), .int .u64 (loOf (packV f g c e (s % full)))], .bool (packK f c e (s % full))]) ∧ Below w.heap.size w w'

/-- At a number of 128 bits. -/
theorem FldOK.unpackAt (C : FldOK) (f b : Int) (f0 : 0 ≤ f) (f1 : f ≤ 255) (b0 : 0 ≤ b) (b1 : b < full) (w : World) (ft : FTab w) : Calls Tryz.prog 20 #[.int .u8 f, .agg #[.int .u64 (hiOf (b)), .int .u64 (loOf (b))]] w fun e w' => e = .returned (.agg #[.bool (negF f (b)), .int .u8 (clsF f (b)), .int .i64 (uE f (b)), .int .u64 (hiOf (uS f (b))), .int .u64 (loOf (uS f (b)))]) ∧ Below w.heap.size w w' := by
  have h := C.unpack f b f0 f1 w ft
  rw [Int.emod_eq_of_lt b0 b1] at h
  exact h
theorem FldOK.packAt (C : FldOK) (f : Int) (g : Bool) (c e s : Int) (f0 : 0 ≤ f) (f1 : f ≤ 255) (c0 : 0 ≤ c) (c1 : c ≤ 255) (e0 : -9223372036854775808 ≤ e) (e1 : e ≤ 9223372036854775807) (s0 : 0 ≤ s) (s1 : s < full) (w : World) (ft : FTab w) : Calls Tryz.prog 51 #[.int .u8 f, .agg #[.bool g, .int .u8 c, .int .i64 e, .int .u64 (hiOf (s)), .int .u64 (loOf (s))]] w fun e' w' => e' = .returned (.tuple #[.agg #[.int .u64 (hiOf (packV f g c e s)), .int .u64 (loOf (packV f g c e s))], .bool (packK f c e s)]) ∧ Below w.heap.size w w' := by
  have h := C.pack f g c e s f0 f1 c0 c1 e0 e1 w ft
  rw [Int.emod_eq_of_lt s0 s1] at h
  exact h
theorem packK_no {f c e s : Int} (h : ¬ (f < 4 ∧ (c = 0 ∨ c = 3 ∨ ((c = 1 ∨ c = 2) ∧ fitK f e s)))) : packK f c e s = false := by
  unfold packK
  rw [Bool.eq_false_iff]
  intro x
  apply h
  simpa [and_assoc, or_assoc] using x
theorem packK_yes {f c e s : Int} (h : f < 4 ∧ (c = 0 ∨ c = 3 ∨ ((c = 1 ∨ c = 2) ∧ fitK f e s))) : packK f c e s = true := by
  unfold packK
  simpa [and_assoc, or_assoc] using h
theorem packK_iff {f c e s : Int} : packK f c e s = true ↔ (f < 4 ∧ (c = 0 ∨ c = 3 ∨ ((c = 1 ∨ c = 2) ∧ fitK f e s))) := by
  by_cases h : f < 4 ∧ (c = 0 ∨ c = 3 ∨ ((c = 1 ∨ c = 2) ∧ fitK f e s))
  · exact ⟨fun _ => h, fun _ => packK_yes h⟩
  · exact ⟨fun x => (by rw [packK_no h] at x; cases x), fun x => absurd x h⟩
theorem packV_no {f : Int} {g : Bool} {c e s : Int} (h : packK f c e s = false) : packV f g c e s = 0 := by unfold packV; rw [h, if_neg (by decide)]
theorem packV_full {f : Int} (f0 : 0 ≤ f) (g : Bool) (c e s : Int) : 0 ≤ packV f g c e s ∧ packV f g c e s < full := by
  unfold packV
  split
  · split
    · exact make_full f0 ..
    · split
      · exact make_full f0 ..
      · exact make_full f0 ..
  · exact ⟨Int.le_refl _, by decide⟩
theorem cls_cut (f b : Int) (f0 : 0 ≤ f) : clsF f (cutF f b) = clsF f b := by
  by_cases h : f < 4
  · exact cls_congr (exp_cut f0 h b) (frac_cut f0 h b)
  · rw [cls_no h, cls_no h]
/-- What is taken apart of a number that is none is put together to nothing; of any other to what it was. -/
theorem pack_unpack {f b : Int} (f0 : 0 ≤ f) (b0 : 0 ≤ b) (b1 : b < full) :
    (f < 4 ∧ clsF f b ≤ 3 → packK f (clsF f b) (uE f b) (uS f b) = true ∧ packV f (negF f b) (clsF f b) (uE f b) (uS f b) = cutF f b) ∧
    (¬ (f < 4 ∧ clsF f b ≤ 3) → packK f (clsF f b) (uE f b) (uS f b) = false) := by
  have cr := cls_range f b
  constructor
  · rintro ⟨h, c⟩
    have ms := make_split f0 h b0
    by_cases k : clsF f b = 1 ∨ clsF f b = 2
    · obtain ⟨p1, p2⟩ := pack_un f0 h b0 k
      have kk := packK_yes (f := f) (c := clsF f b) (e := uE f b) (s := uS f b) ⟨h, .inr (.inr ⟨k, p1⟩)⟩
      refine ⟨kk, ?_⟩
      unfold packV; rw [kk, if_pos rfl, if_neg (by omega), if_neg (by omega)]; exact p2
    · have kk := packK_yes (f := f) (c := clsF f b) (e := uE f b) (s := uS f b) ⟨h, by omega⟩
      refine ⟨kk, ?_⟩
      unfold packV; rw [kk, if_pos rfl]
      by_cases z : clsF f b = 0
      · obtain ⟨x, y⟩ := (cls_0 h).1 z
        rw [if_pos z, ← ms, x, y]
      · have c3 : clsF f b = 3 := by omega
        rw [if_neg z, if_pos c3, ← ms]
        have : expF f b = 2 * fE f + 1 ∧ fracF f b = 0 := by
          unfold clsF at c3; rw [if_pos h] at c3
          split at c3
          · split at c3 <;> omega
          · split at c3
            · split at c3
              · rename_i a b' c'; exact ⟨b', c'⟩
              · split at c3 <;> omega
            · omega
        rw [this.1, this.2]; rfl
  · intro h
    refine packK_no ?_
    rintro ⟨h1, h2⟩
    exact h ⟨h1, by omega⟩
theorem inf_cls {f : Int} (f0 : 0 ≤ f) (h : f < 4) (g : Bool) : clsF f (infF f g) = 3 ∧ negF f (infF f g) = g := by
  obtain ⟨p0, p1, p2, p3, p4, p5, p6, p7, p8⟩ := f_nums f0 h
  obtain ⟨m1, m2, m3⟩ := make_fields f0 h g (2 * fE f + 1) 0
  rw [expOf_id f0 h (by omega) (by omega)] at m1
  rw [Int.zero_emod] at m2
  refine ⟨?_, m3⟩
  unfold clsF; rw [if_pos h]
  rw [show infF f g = makeF f g (2 * fE f + 1) 0 from rfl, m1, m2, if_neg (by omega), if_pos rfl, if_pos rfl]
theorem nought_cls {f : Int} (f0 : 0 ≤ f) (h : f < 4) (g : Bool) : clsF f (makeF f g 0 0) = 0 ∧ negF f (makeF f g 0 0) = g := by
  obtain ⟨p0, p1, p2, p3, p4, p5, p6, p7, p8⟩ := f_nums f0 h
  obtain ⟨m1, m2, m3⟩ := make_fields f0 h g 0 0
  rw [expOf_id f0 h (by omega) (by omega)] at m1
  rw [Int.zero_emod] at m2
  exact ⟨(cls_0 h).2 ⟨m1, m2⟩, m3⟩
theorem u_none {f b : Int} (h : ¬ (clsF f b = 1 ∨ clsF f b = 2)) : uE f b = 0 ∧ uS f b = 0 := ⟨by unfold uE; rw [if_neg h], by unfold uS; rw [if_neg h]⟩


end Go.Proofs.YtjnohbpebdnngaaGreatDoor

/-
  append of a slice of encodings to one of the call's own.
-/
set_option linter.unusedVariables false
set_option linter.unusedSimpArgs false
namespace Go.Proofs.YtjnohbpebdnngaaGreatDoor
open Go.RowKit
attribute [local go_sem ↓] Go.wp_at_zero Go.wp_at_succ

def cellsOfB (xs : List Int) : List Value := xs.flatMap fun b => [.int .u64 (hiOf b), .int .u64 (loOf b)]
theorem cellsOfB_len (xs : List Int) : (cellsOfB xs).length = xs.length * 2 := by
  induction xs with
  | nil => rfl
  | cons x xs ih => simp [cellsOfB] at ih ⊢; omega
theorem cellsOfB_at (xs : List Int) : ∀ k, k < xs.length → (cellsOfB xs)[k * 2]? = some (.int .u64 (hiOf (xs.getD k 0))) ∧ (cellsOfB xs)[k * 2 + 1]? = some (.int .u64 (loOf (xs.getD k 0))) := by
  induction xs with
  | nil => intro k hk; simp at hk
  | cons x xs ih =>
    intro k hk
    have e : cellsOfB (x :: xs) = Value.int .u64 (hiOf x) :: Value.int .u64 (loOf x) :: cellsOfB xs := rfl
    rw [e]
    cases k with
    | zero => exact ⟨rfl, rfl⟩
    | succ k =>
      obtain ⟨h1, h2⟩ := ih k (by simp at hk; omega)
      rw [show (k + 1) * 2 = k * 2 + 1 + 1 by omega]
      simpa using ⟨h1, h2⟩
theorem Bs.cells {w : World} {a : Addr} {n cap : Nat} {xs : List Int} (x : Bs w (some a) n cap xs) : ∀ j u, (cellsOfB xs)[j]? = some u → w.cell? (a.add j) = some u := by
  intro j u hu
  have hj : j < xs.length * 2 := by
    have := (List.getElem?_eq_some_iff.1 hu).1
    rwa [cellsOfB_len] at this
  obtain ⟨h1, _, _, h4⟩ := x
  obtain ⟨k, r, hr, rfl⟩ : ∃ k r, r < 2 ∧ j = k * 2 + r := ⟨j / 2, j % 2, by omega, by omega⟩
  obtain ⟨a', e, c0, c1⟩ := h4 k (by omega)
  obtain rfl := Option.some.inj e
  obtain ⟨g0, g1⟩ := cellsOfB_at xs k (by omega)
  obtain rfl | rfl : r = 0 ∨ r = 1 := by omega
  · rw [Nat.add_zero] at hu ⊢; rw [g0] at hu; cases hu; exact c0
  · rw [g1] at hu; cases hu
    rw [show a.add (k * 2 + 1) = ⟨(a.add (k * 2)).block, (a.add (k * 2)).off + 1, none⟩ by unfold Addr.add; by_cases h : k * 2 = 0 <;> simp [h] <;> omega]
    exact c1
end Go.Proofs.YtjnohbpebdnngaaGreatDoor
