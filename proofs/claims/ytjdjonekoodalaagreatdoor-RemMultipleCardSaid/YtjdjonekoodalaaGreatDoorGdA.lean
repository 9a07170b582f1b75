import Derived.Laws.AppendOwnNone
import Derived.Test.YtjdjonekoodalaaGreatDoorGkA
import Derived.Test.YtjdjonekoodalaaGreatDoorGhA
set_option maxHeartbeats 4000000
set_option linter.unusedVariables false
set_option linter.unusedSimpArgs false
set_option maxRecDepth 100000
namespace Go.Proofs.YtjdjonekoodalaaGreatDoor
open Go.RowKit
def uM (f b : Int) : Int := if expF f b = 0 then fracF f b else fracF f b + 2 ^ (fP f - 1)
def uX (f b : Int) : Int := (if expF f b = 0 then 1 else expF f b) - fE f - (fP f - 1 : Nat)
def uE (f b : Int) : Int := if clsF f b = 1 ∨ clsF f b = 2 then uX f b + blen (uM f b) - 1 else 0
def uS (f b : Int) : Int := if clsF f b = 1 ∨ clsF f b = 2 then uM f b * 2 ^ (128 - blen (uM f b)) else 0
def offF (f e : Int) : Nat := if e + fE f < 1 then (129 - fP f - (e + fE f)).toNat else 128 - fP f
def fieldF (f e : Int) : Int := if e + fE f < 1 then 0 else e + fE f
def fitK (f e s : Int) : Prop := e ≤ fE f ∧ 2 - fE f - fP f ≤ e ∧ 2 ^ 127 ≤ s ∧ s % 2 ^ offF f e = 0
instance (f e s : Int) : Decidable (fitK f e s) := by unfold fitK; infer_instance
theorem cls_0 {f b : Int} (h : f < 4) : clsF f b = 0 ↔ expF f b = 0 ∧ fracF f b = 0 := by unfold clsF; rw [if_pos h]; repeat' split
                                                                                          all_goals omega
theorem cls_1 {f b : Int} (h : f < 4) : clsF f b = 1 ↔ expF f b = 0 ∧ fracF f b ≠ 0 := by unfold clsF; rw [if_pos h]; repeat' split
                                                                                          all_goals omega
theorem cls_2 {f b : Int} (h : f < 4) : clsF f b = 2 ↔ expF f b ≠ 0 ∧ expF f b ≠ 2 * fE f + 1 := by unfold clsF; rw [if_pos h]; repeat' split
                                                                                                    all_goals omega
theorem un_sub {f b : Int} (h0 : 0 ≤ f) (h : f < 4) (c : clsF f b = 1) : expF f b = 0 ∧ 0 < fracF f b ∧ 1 ≤ blen (fracF f b) ∧ blen (fracF f b) ≤ fP f - 1 ∧ uE f b = 1 - fE f - fP f + blen (fracF f b) ∧ uS f b = fracF f b * 2 ^ (128 - blen (fracF f b)) := by
  obtain ⟨e0, fr⟩ := (cls_1 h).1 c
  obtain ⟨r0, r1⟩ := frac_range (b := b) h0 h
  obtain ⟨p0, p1, p2, p3, p4, p5, p6, p7, p8⟩ := f_nums h0 h
  have m : uM f b = fracF f b := by unfold uM; rw [if_pos e0]
  have x : uX f b = 1 - fE f - (fP f - 1 : Nat) := by unfold uX; rw [if_pos e0]
  have l1 := blen_pos (show 0 < fracF f b by omega)
  have l2 := blen_le r0 r1
  refine ⟨e0, by omega, l1, l2, ?_, ?_⟩
  · unfold uE; rw [if_pos (Or.inl c), m, x]; omega
  · unfold uS; rw [if_pos (Or.inl c), m]
theorem un_nor {f b : Int} (h0 : 0 ≤ f) (h : f < 4) (hb : 0 ≤ b) (c : clsF f b = 2) : 1 ≤ expF f b ∧ expF f b ≤ 2 * fE f ∧ uE f b = expF f b - fE f ∧ uS f b = (fracF f b + 2 ^ (fP f - 1)) * 2 ^ (128 - fP f) := by
  obtain ⟨e0, e1⟩ := (cls_2 h).1 c
  obtain ⟨r0, r1⟩ := frac_range (b := b) h0 h
  obtain ⟨x0, x1, x2, x3⟩ := exp_range h0 h hb
  obtain ⟨p0, p1, p2, p3, p4, p5, p6, p7, p8⟩ := f_nums h0 h
  have m : uM f b = fracF f b + 2 ^ (fP f - 1) := by unfold uM; rw [if_neg e0]
  have x : uX f b = expF f b - fE f - (fP f - 1 : Nat) := by unfold uX; rw [if_neg e0]
  have l : blen (fracF f b + 2 ^ (fP f - 1)) = fP f := by
    rw [show fP f = (fP f - 1) + 1 by omega]
    refine blen_of ?_ ?_
    · rw [show fP f - 1 + 1 - 1 = fP f - 1 by omega]; omega
    · rw [show fP f - 1 + 1 - 1 = fP f - 1 by omega, Int.pow_succ]; omega
  refine ⟨by omega, by omega, ?_, ?_⟩
  · unfold uE; rw [if_pos (Or.inr c), m, x, l]; omega
  · unfold uS; rw [if_pos (Or.inr c), m, l]
theorem pow_le_mul {x y : Int} (k : Nat) (h : x ≤ y) : x * 2 ^ k ≤ y * 2 ^ k := Int.mul_le_mul_of_nonneg_right h (by have := two_pow_pos k; omega)
theorem pow_lt_mul {x y : Int} (k : Nat) (h : x < y) : x * 2 ^ k < y * 2 ^ k := Int.mul_lt_mul_of_pos_right h (two_pow_pos k)
theorem pow_top {n : Nat} (h : 1 ≤ n) : (2 : Int) ^ n = 2 ^ (n - 1) * 2 := by
  obtain ⟨m, rfl⟩ : ∃ m, n = m + 1 := ⟨n - 1, by omega⟩
  rw [Int.pow_succ, Nat.add_sub_cancel]
theorem full_digits {m : Int} (h : 0 < m) (l : blen m ≤ 128) : 2 ^ 127 ≤ m * 2 ^ (128 - blen m) ∧ m * 2 ^ (128 - blen m) < full := by
  have l1 := blen_pos h
  have a := pow_le_mul (128 - blen m) (blen_low h)
  obtain ⟨j, e, b1, b2⟩ := blen_bounds h
  have b := pow_lt_mul (128 - blen m) (show m < 2 ^ blen m by rw [e]; exact b2)
  rw [← Int.pow_add, show blen m - 1 + (128 - blen m) = 127 by omega] at a
  rw [← Int.pow_add, show blen m + (128 - blen m) = 128 by omega, full_pow] at b
  exact ⟨a, b⟩
theorem nor_digits {f b : Int} (h0 : 0 ≤ f) (h : f < 4) : 2 ^ 127 ≤ (fracF f b + 2 ^ (fP f - 1)) * 2 ^ (128 - fP f) ∧ (fracF f b + 2 ^ (fP f - 1)) * 2 ^ (128 - fP f) < full := by
  obtain ⟨r0, r1⟩ := frac_range (b := b) h0 h
  obtain ⟨p0, p1, p2, p3, p4, p5, p6, p7, p8⟩ := f_nums h0 h
  have a := pow_le_mul (128 - fP f) (show 2 ^ (fP f - 1) ≤ fracF f b + 2 ^ (fP f - 1) by omega)
  have b' := pow_lt_mul (128 - fP f) (show fracF f b + 2 ^ (fP f - 1) < 2 ^ fP f by rw [pow_top (show 1 ≤ fP f by omega)]; omega)
  rw [← Int.pow_add, show fP f - 1 + (128 - fP f) = 127 by omega] at a
  rw [← Int.pow_add, show fP f + (128 - fP f) = 128 by omega, full_pow] at b'
  exact ⟨a, b'⟩
theorem un_range {f b : Int} (h0 : 0 ≤ f) (h : f < 4) (hb : 0 ≤ b) (c : clsF f b = 1 ∨ clsF f b = 2) : uE f b ≤ fE f ∧ 2 - fE f - fP f ≤ uE f b ∧ 2 ^ 127 ≤ uS f b ∧ uS f b < full ∧ uS f b % 2 ^ (128 - fP f) = 0 ∧ (clsF f b = 1 ↔ uE f b < 1 - fE f) := by
  obtain ⟨p0, p1, p2, p3, p4, p5, p6, p7, p8⟩ := f_nums h0 h
  rcases c with c | c
  · obtain ⟨e0, fr, l1, l2, ue, us⟩ := un_sub h0 h c
    have d := full_digits fr (by omega)
    rw [ue, us]
    refine ⟨by omega, by omega, d.1, d.2, ?_, by constructor <;> intro _ <;> omega⟩
    rw [show 128 - blen (fracF f b) = (fP f - blen (fracF f b)) + (128 - fP f) by omega, Int.pow_add, ← Int.mul_assoc, Int.mul_emod_left]
  · obtain ⟨e1, e2, ue, us⟩ := un_nor h0 h hb c
    have d := nor_digits (b := b) h0 h
    rw [ue, us]
    exact ⟨by omega, by omega, d.1, d.2, Int.mul_emod_left .., by constructor <;> intro _ <;> omega⟩
theorem uS_range {f b : Int} (h0 : 0 ≤ f) (hb : 0 ≤ b) : 0 ≤ uS f b ∧ uS f b < full := by
  by_cases h : f < 4
  · by_cases c : clsF f b = 1 ∨ clsF f b = 2
    · have := un_range h0 h hb c; have : (0 : Int) < 2 ^ 127 := by decide
      omega
    · unfold uS; rw [if_neg c]; exact ⟨Int.le_refl _, by decide⟩
  · unfold uS clsF; rw [if_neg h, if_neg (by decide)]; exact ⟨Int.le_refl _, by decide⟩
theorem uE_range {f b : Int} (h0 : 0 ≤ f) (hb : 0 ≤ b) : -16600 ≤ uE f b ∧ uE f b ≤ 16383 := by
  by_cases h : f < 4
  · obtain ⟨p0, p1, p2, p3, p4, p5, p6, p7, p8⟩ := f_nums h0 h
    by_cases c : clsF f b = 1 ∨ clsF f b = 2
    · have := un_range h0 h hb c; omega
    · unfold uE; rw [if_neg c]; decide
  · unfold uE clsF; rw [if_neg h, if_neg (by decide)]; decide
theorem off_le {f e : Int} (h0 : 0 ≤ f) (h : f < 4) (e1 : 2 - fE f - fP f ≤ e) : offF f e ≤ 127 ∧ 128 - fP f ≤ offF f e := by
  obtain ⟨p0, p1, p2, p3, p4, p5, p6, p7, p8⟩ := f_nums h0 h
  unfold offF; split <;> omega
theorem shifted {s : Int} {k : Nat} (hk : k ≤ 127) (s0 : 2 ^ 127 ≤ s) (s1 : s < full) (hm : s % 2 ^ k = 0) : s / 2 ^ k * 2 ^ k = s ∧ 2 ^ (127 - k) ≤ s / 2 ^ k ∧ s / 2 ^ k < 2 ^ (128 - k) ∧ blen (s / 2 ^ k) = 128 - k := by
  have hp := two_pow_pos k
  have e : s / 2 ^ k * 2 ^ k = s := by have := Int.mul_ediv_add_emod s (2 ^ k); rw [hm, Int.mul_comm] at this; omega
  have a : 2 ^ (127 - k) ≤ s / 2 ^ k := by
    rw [Int.le_ediv_iff_mul_le hp, ← Int.pow_add, show 127 - k + k = 127 by omega]; exact s0
  have b : s / 2 ^ k < 2 ^ (128 - k) := by
    rw [Int.ediv_lt_iff_lt_mul hp, ← Int.pow_add, show 128 - k + k = 128 by omega, full_pow]; exact s1
  refine ⟨e, a, b, ?_⟩
  rw [show 128 - k = (127 - k) + 1 by omega]
  exact blen_of a (by rw [show 127 - k + 1 = 128 - k by omega]; exact b)
theorem pack_un {f b : Int} (h0 : 0 ≤ f) (h : f < 4) (hb : 0 ≤ b) (c : clsF f b = 1 ∨ clsF f b = 2) : fitK f (uE f b) (uS f b) ∧ makeF f (negF f b) (fieldF f (uE f b)) (uS f b / 2 ^ offF f (uE f b)) = cutF f b := by
  obtain ⟨p0, p1, p2, p3, p4, p5, p6, p7, p8⟩ := f_nums h0 h
  obtain ⟨r1, r2, r3, r4, r5, r6⟩ := un_range h0 h hb c
  obtain ⟨fr0, fr1⟩ := frac_range (b := b) h0 h
  rcases c with c | c
  · obtain ⟨e0, fr, l1, l2, ue, us⟩ := un_sub h0 h c
    have lt := r6.1 c
    have eo : offF f (uE f b) = 128 - blen (fracF f b) := by unfold offF; rw [if_pos (by omega)]; omega
    have ef : fieldF f (uE f b) = expF f b := by unfold fieldF; rw [if_pos (by omega)]; omega
    refine ⟨⟨r1, r2, r3, by rw [eo, us]; exact Int.mul_emod_left ..⟩, ?_⟩
    rw [eo, ef, us, mul_pow_div]; exact make_split h0 h hb
  · obtain ⟨x1, x2, ue, us⟩ := un_nor h0 h hb c
    have eo : offF f (uE f b) = 128 - fP f := by unfold offF; rw [if_neg (by omega)]
    have ef : fieldF f (uE f b) = expF f b := by unfold fieldF; rw [if_neg (by omega)]; omega
    refine ⟨⟨r1, r2, r3, by rw [eo]; exact r5⟩, ?_⟩
    rw [eo, ef, us, mul_pow_div]
    have := make_split h0 h hb
    rw [← this]
    unfold makeF; rw [if_pos h, if_pos h, Int.add_emod_right]
theorem mod_zero_le {s : Int} {a b : Nat} (h : a ≤ b) (hb : s % 2 ^ b = 0) : s % 2 ^ a = 0 := by have := mod_mod_pow s h; rw [hb, Int.zero_emod] at this; exact this.symm
end Go.Proofs.YtjdjonekoodalaaGreatDoor
namespace Go.Proofs.YtjdjonekoodalaaGreatDoor
open Go.RowKit
attribute [local go_sem ↓] Go.wp_at_zero Go.wp_at_succ
theorem inf_cls {f : Int} (f0 : 0 ≤ f) (h : f < 4) (g : Bool) : clsF f (infF f g) = 3 ∧ negF f (infF f g) = g := by
  obtain ⟨p0, p1, p2, p3, p4, p5, p6, p7, p8⟩ := f_nums f0 h
  obtain ⟨m1, m2, m3⟩ := make_fields f0 h g (2 * fE f + 1) 0
  rw [expOf_id f0 h (by omega) (by omega)] at m1
  rw [Int.zero_emod] at m2
  refine ⟨?_, m3⟩
  unfold clsF; rw [if_pos h]
  rw [show infF f g = makeF f g (2 * fE f + 1) 0 from rfl, m1, m2, if_neg (by omega), if_pos rfl, if_pos rfl]
theorem nought_cls {f : Int} (f0 : 0 ≤ f) (h : f < 4) (g : Bool) : clsF f (makeF f g 0 0) = 0 ∧ negF f (makeF f g 0 0) = g := by
  obtain ⟨p0, p1, p2, p3, p4, p5, p6, p7, p8⟩ := f_nums f0 h
  obtain ⟨m1, m2, m3⟩ := make_fields f0 h g 0 0
  rw [expOf_id f0 h (by omega) (by omega)] at m1
  rw [Int.zero_emod] at m2
  exact ⟨(cls_0 h).2 ⟨m1, m2⟩, m3⟩
theorem u_none {f b : Int} (h : ¬ (clsF f b = 1 ∨ clsF f b = 2)) : uE f b = 0 ∧ uS f b = 0 := ⟨by unfold uE; rw [if_neg h], by unfold uS; rw [if_neg h]⟩
end Go.Proofs.YtjdjonekoodalaaGreatDoor
namespace Go.Proofs.YtjdjonekoodalaaGreatDoor
open Go.RowKit
attribute [local go_sem ↓] Go.wp_at_zero Go.wp_at_succ
def cellsOfB (xs : List Int) : List Value := xs.flatMap fun b => [.int .u64 (hiOf b), .int .u64 (loOf b)]
theorem cellsOfB_len (xs : List Int) : (cellsOfB xs).length = xs.length * 2 := by
  induction xs with
  | nil => rfl
  | cons x xs ih => simp [cellsOfB] at ih ⊢; omega
theorem cellsOfB_at (xs : List Int) : ∀ k, k < xs.length → (cellsOfB xs)[k * 2]? = some (.int .u64 (hiOf (xs.getD k 0))) ∧ (cellsOfB xs)[k * 2 + 1]? = some (.int .u64 (loOf (xs.getD k 0))) := by
  induction xs with
  | nil => intro k hk; simp at hk
  | cons x xs ih =>
    intro k hk
    have e : cellsOfB (x :: xs) = Value.int .u64 (hiOf x) :: Value.int .u64 (loOf x) :: cellsOfB xs := rfl
    rw [e]
    cases k with
    | zero => exact ⟨rfl, rfl⟩
    | succ k =>
      obtain ⟨h1, h2⟩ := ih k (by simp at hk; omega)
      rw [show (k + 1) * 2 = k * 2 + 1 + 1 by omega]
      simpa using ⟨h1, h2⟩
theorem Bs.cells {w : World} {a : Addr} {n cap : Nat} {xs : List Int} (x : Bs w (some a) n cap xs) : ∀ j u, (cellsOfB xs)[j]? = some u → w.cell? (a.add j) = some u := by
  intro j u hu
  have hj : j < xs.length * 2 := by
    have := (List.getElem?_eq_some_iff.1 hu).1
    rwa [cellsOfB_len] at this
  obtain ⟨h1, _, _, h4⟩ := x
  obtain ⟨k, r, hr, rfl⟩ : ∃ k r, r < 2 ∧ j = k * 2 + r := ⟨j / 2, j % 2, by omega, by omega⟩
  obtain ⟨a', e, c0, c1⟩ := h4 k (by omega)
  obtain rfl := Option.some.inj e
  obtain ⟨g0, g1⟩ := cellsOfB_at xs k (by omega)
  obtain rfl | rfl : r = 0 ∨ r = 1 := by omega
  · rw [Nat.add_zero] at hu ⊢; rw [g0] at hu; cases hu; exact c0
  · rw [g1] at hu; cases hu
    rw [show a.add (k * 2 + 1) = ⟨(a.add (k * 2)).block, (a.add (k * 2)).off + 1, none⟩ by unfold Addr.add; by_cases h : k * 2 = 0 <;> simp [h] <;> omega]
    exact c1
end Go.Proofs.YtjdjonekoodalaaGreatDoor
