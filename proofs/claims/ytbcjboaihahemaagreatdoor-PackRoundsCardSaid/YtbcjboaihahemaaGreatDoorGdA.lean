/-
  Texts of the ground put together: NumS, Later4, Held, Math9, Ref9, Ref9P, Fld9P, BsA.
-/
import Derived.Test.YtbcjboaihahemaaGreatDoorGnA
import Derived.Test.YtbcjboaihahemaaGreatDoorGaB
import Derived.Test.YtbcjboaihahemaaGreatDoorGaA
import Derived.Test.YtbcjboaihahemaaGreatDoorGsA
import Derived.Test.YtbcjboaihahemaaGreatDoorGkA
import Derived.Laws.OwnMore
import Derived.Laws.AppendOwnNone
import Derived.Deep.AppendLies

/-
  A number beside a store into a variable whose first cell is no digit of a number.
-/
set_option linter.unusedVariables false
set_option maxRecDepth 100000
namespace Go.Proofs.YtbcjboaihahemaaGreatDoor
open Go.RowKit

theorem IsNum.setHB {W : World} {v : Value} {n : Int} (x : IsNum W v n) {p : Nat} {T : TypeId} {vs : Array Value} (h : HB W p T vs) (h0 : ∀ d, vs[0]? ≠ some (.int .u32 d)) (k : Nat) (u : Value) : IsNum (W.setCell ⟨p, k, none⟩ u) v n := by
  obtain ⟨ao, k', cap, ds, e, ⟨h1, h2, h3, h4, h5⟩, hn, hm⟩ := x
  refine ⟨ao, k', cap, ds, e, ⟨h1, h2, h3, h4, fun hp => ?_⟩, hn, hm⟩
  obtain ⟨g, e2, hg, hc⟩ := h5 hp
  have hne : p ≠ g := by
    rintro rfl
    have a := hc 0 hp
    rw [h.cell 0] at a
    exact h0 _ a
  exact ⟨g, e2, Nat.lt_of_lt_of_le hg (KeepsOthers.setCell _ _ _).1, fun j hj => (World.cell?_setCell_far _ _ _ _ hne).trans (hc j hj)⟩

end Go.Proofs.YtbcjboaihahemaaGreatDoor

/-
  Regions that draw their order and make two variables of five cells. Nothing of the program in sight.
-/
set_option linter.unusedVariables false
namespace Go.Proofs.YtbcjboaihahemaaGreatDoor
open Go.RowKit

def set5 (w : World) (p : Nat) (a b c d e : Value) : World := ((((w.setCell ⟨p, 0, none⟩ a).setCell ⟨p, 1, none⟩ b).setCell ⟨p, 2, none⟩ c).setCell ⟨p, 3, none⟩ d).setCell ⟨p, 4, none⟩ e
theorem HB.set5 {w : World} {p : Nat} {t : TypeId} {a0 b0 c0 d0 e0 : Value} (x : HB w p t #[a0, b0, c0, d0, e0]) (a b c d e : Value) : HB (set5 w p a b c d e) p t #[a, b, c, d, e] :=
  ((((x.set 0 a).set 1 b).set 2 c).set 3 d).set 4 e
theorem HB.far5 {w : World} {p q : Nat} {t : TypeId} {vs : Array Value} (x : HB w q t vs) (hne : q ≠ p) (a b c d e : Value) : HB (Go.Proofs.YtbcjboaihahemaaGreatDoor.set5 w p a b c d e) q t vs :=
  ((((x.other hne 0 a).other hne 1 b).other hne 2 c).other hne 3 d).other hne 4 e
theorem below_set5 {a w : World} {p : Nat} (h : Below a.heap.size a w) (hp : a.heap.size ≤ p) (v0 v1 v2 v3 v4 : Value) : Below a.heap.size a (set5 w p v0 v1 v2 v3 v4) :=
  ((((h.setCell (p := ⟨p, 0, none⟩) hp v0).setCell (p := ⟨p, 1, none⟩) hp v1).setCell (p := ⟨p, 2, none⟩) hp v2).setCell (p := ⟨p, 3, none⟩) hp v3).setCell (p := ⟨p, 4, none⟩) hp v4
theorem HB.five {w : World} {p : Nat} {t : TypeId} {a b c d e : Value} (x : HB w p t #[a, b, c, d, e]) :
    w.cell? ⟨p, 0, none⟩ = some a ∧ w.cell? ⟨p, 1, none⟩ = some b ∧ w.cell? ⟨p, 2, none⟩ = some c ∧ w.cell? ⟨p, 3, none⟩ = some d ∧ w.cell? ⟨p, 4, none⟩ = some e := ⟨x.cell 0, x.cell 1, x.cell 2, x.cell 3, x.cell 4⟩
def Fresh5 (W : World) (t : TypeId) (z : Array Value) (p : Nat) (w : World) : Prop := W.heap.size ≤ p ∧ HB w p t z
theorem Fresh5.later {W w w' : World} {t : TypeId} {z : Array Value} {p : Nat} (h : Fresh5 W t z p w) (hb : Below w.heap.size w w') : Fresh5 W t z p w' := ⟨h.1, h.2.later hb⟩
theorem Fresh5.new {W w : World} (hb : Below W.heap.size W w) (t : TypeId) (z : Array Value) : Fresh5 W t z w.heap.size (w.alloc (.cells z t)) := ⟨hb.size, HB.new _ _ _⟩
/-- The two variables, as far as they are made. -/
def ANN (W : World) (t : TypeId) (z : Array Value) (vs : List Value) (w : World) : Prop := ∃ x y, vs = [x, y] ∧
  (x = undef ∨ ∃ p, x = .pointer (some ⟨p, 0, none⟩) ∧ Fresh5 W t z p w) ∧ (y = undef ∨ ∃ q, y = .pointer (some ⟨q, 0, none⟩) ∧ Fresh5 W t z q w) ∧
  ∀ p q, x = .pointer (some ⟨p, 0, none⟩) → y = .pointer (some ⟨q, 0, none⟩) → p ≠ q
section
variable {W w : World} {t : TypeId} {z : Array Value}
theorem ANN.lasts (W : World) (t : TypeId) (z : Array Value) : Lasts (ANN W t z) := fun vs w w' h hb => by
  obtain ⟨x, y, e, hx, hy, hn⟩ := h
  refine ⟨x, y, e, ?_, ?_, hn⟩
  · rcases hx with rfl | ⟨p, rfl, hp⟩
    · exact .inl rfl
    · exact .inr ⟨p, rfl, hp.later hb⟩
  · rcases hy with rfl | ⟨p, rfl, hp⟩
    · exact .inl rfl
    · exact .inr ⟨p, rfl, hp.later hb⟩
theorem ANN.start (W w : World) (t : TypeId) (z : Array Value) : ANN W t z [undef, undef] w := ⟨_, _, rfl, .inl rfl, .inl rfl, fun p q h _ => (und_ptr h).elim⟩
theorem ANN.first (hb : Below W.heap.size W w) {vs : List Value} (hv : vs = [.pointer (some ⟨w.heap.size, 0, none⟩), undef]) : ANN W t z vs (w.alloc (.cells z t)) :=
  ⟨_, _, hv, .inr ⟨_, rfl, Fresh5.new hb t z⟩, .inl rfl, fun p q _ h => (und_ptr h).elim⟩
theorem ANN.first' (hb : Below W.heap.size W w) {vs : List Value} (hv : vs = [undef, .pointer (some ⟨w.heap.size, 0, none⟩)]) : ANN W t z vs (w.alloc (.cells z t)) :=
  ⟨_, _, hv, .inl rfl, .inr ⟨_, rfl, Fresh5.new hb t z⟩, fun p q h _ => (und_ptr h).elim⟩
theorem ANN.second {p : Nat} (hb : Below W.heap.size W w) (h : ANN W t z [.pointer (some ⟨p, 0, none⟩), undef] w) {vs : List Value} (hv : vs = [.pointer (some ⟨p, 0, none⟩), .pointer (some ⟨w.heap.size, 0, none⟩)]) : ANN W t z vs (w.alloc (.cells z t)) := by
  obtain ⟨x, y, e, hx, hy, hn⟩ := h
  obtain ⟨rfl, rfl⟩ : x = .pointer (some ⟨p, 0, none⟩) ∧ y = undef := by simpa [eq_comm] using e
  rcases hx with h | ⟨p', h, hp⟩
  · exact (und_ptr h.symm).elim
  obtain rfl := ptr_inj h
  refine ⟨_, _, hv, .inr ⟨_, rfl, hp.later (bA (Below.refl _ _) _)⟩, .inr ⟨_, rfl, Fresh5.new hb t z⟩, fun a b ha hb' => ?_⟩
  have h1 := ptr_inj ha; have h2 := ptr_inj hb'
  have := hp.2.lt; omega
theorem ANN.second' {q : Nat} (hb : Below W.heap.size W w) (h : ANN W t z [undef, .pointer (some ⟨q, 0, none⟩)] w) {vs : List Value} (hv : vs = [.pointer (some ⟨w.heap.size, 0, none⟩), .pointer (some ⟨q, 0, none⟩)]) : ANN W t z vs (w.alloc (.cells z t)) := by
  obtain ⟨x, y, e, hx, hy, hn⟩ := h
  obtain ⟨rfl, rfl⟩ : x = undef ∧ y = .pointer (some ⟨q, 0, none⟩) := by simpa [eq_comm] using e
  rcases hy with h | ⟨p', h, hp⟩
  · exact (und_ptr h.symm).elim
  obtain rfl := ptr_inj h
  refine ⟨_, _, hv, .inr ⟨_, rfl, Fresh5.new hb t z⟩, .inr ⟨_, rfl, hp.later (bA (Below.refl _ _) _)⟩, fun a b ha hb' => ?_⟩
  have h1 := ptr_inj ha; have h2 := ptr_inj hb'
  have := hp.2.lt; omega
theorem ANN.both {p q : Nat} (h : ANN W t z [.pointer (some ⟨p, 0, none⟩), .pointer (some ⟨q, 0, none⟩)] w) : Fresh5 W t z p w ∧ Fresh5 W t z q w ∧ p ≠ q := by
  obtain ⟨x, y, e, hx, hy, hn⟩ := h
  obtain ⟨rfl, rfl⟩ : x = .pointer (some ⟨p, 0, none⟩) ∧ y = .pointer (some ⟨q, 0, none⟩) := by simpa [eq_comm] using e
  refine ⟨?_, ?_, hn p q rfl rfl⟩
  · rcases hx with h | ⟨p', h, hp⟩
    · exact (und_ptr h.symm).elim
    · obtain rfl := ptr_inj h; exact hp
  · rcases hy with h | ⟨p', h, hp⟩
    · exact (und_ptr h.symm).elim
    · obtain rfl := ptr_inj h; exact hp
end
/-- Behind the first store, and behind both. -/
def ZNN (W : World) (t : TypeId) (z : Array Value) (a0 a1 a2 a3 a4 b0 b1 b2 b3 b4 : Value) (bs : List Bool) (vs : List Value) (w : World) : Prop :=
  ∃ p q, vs = [.pointer (some ⟨p, 0, none⟩), .pointer (some ⟨q, 0, none⟩)] ∧ W.heap.size ≤ p ∧ W.heap.size ≤ q ∧ p ≠ q ∧ HB w p t #[a0, a1, a2, a3, a4] ∧
    (bs = [true, false] → HB w q t z) ∧ (bs = [true, true] → HB w q t #[b0, b1, b2, b3, b4]) ∧ Below W.heap.size W w
section
variable {W w : World} {t : TypeId} {z0 z1 z2 z3 z4 a0 a1 a2 a3 a4 b0 b1 b2 b3 b4 : Value} {p q : Nat}
theorem ZNN.one (hb : Below W.heap.size W w) (h : ANN W t #[z0, z1, z2, z3, z4] [.pointer (some ⟨p, 0, none⟩), .pointer (some ⟨q, 0, none⟩)] w) (a0 a1 a2 a3 a4 b0 b1 b2 b3 b4 : Value) :
    ZNN W t #[z0, z1, z2, z3, z4] a0 a1 a2 a3 a4 b0 b1 b2 b3 b4 [true, false] [.pointer (some ⟨p, 0, none⟩), .pointer (some ⟨q, 0, none⟩)] (set5 w p a0 a1 a2 a3 a4) := by
  obtain ⟨⟨p0, p1⟩, ⟨q0, q1⟩, hn⟩ := h.both
  exact ⟨p, q, rfl, p0, q0, hn, p1.set5 _ _ _ _ _, fun _ => q1.far5 (Ne.symm hn) _ _ _ _ _, fun h => by simp at h, below_set5 hb p0 _ _ _ _ _⟩
theorem ZNN.cells {z : Array Value} (h : ZNN W t z a0 a1 a2 a3 a4 b0 b1 b2 b3 b4 [true, false] [.pointer (some ⟨p, 0, none⟩), .pointer (some ⟨q, 0, none⟩)] w) : HB w q t z := by
  obtain ⟨p', q', e, g0, g1, hn, hp, h1, h2, hb⟩ := h
  obtain ⟨rfl, rfl⟩ : p = p' ∧ q = q' := by simpa using e
  exact h1 rfl
theorem ZNN.two (h : ZNN W t #[z0, z1, z2, z3, z4] a0 a1 a2 a3 a4 b0 b1 b2 b3 b4 [true, false] [.pointer (some ⟨p, 0, none⟩), .pointer (some ⟨q, 0, none⟩)] w) :
    ZNN W t #[z0, z1, z2, z3, z4] a0 a1 a2 a3 a4 b0 b1 b2 b3 b4 [true, true] [.pointer (some ⟨p, 0, none⟩), .pointer (some ⟨q, 0, none⟩)] (set5 w q b0 b1 b2 b3 b4) := by
  obtain ⟨p', q', e, g0, g1, hn, hp, h1, h2, hb⟩ := h
  obtain ⟨rfl, rfl⟩ : p = p' ∧ q = q' := by simpa using e
  exact ⟨p, q, rfl, g0, g1, hn, hp.far5 hn _ _ _ _ _, fun h => by simp at h, fun _ => (h1 rfl).set5 _ _ _ _ _, below_set5 hb g1 _ _ _ _ _⟩
theorem ZNN.done {z : Array Value} (h : ZNN W t z a0 a1 a2 a3 a4 b0 b1 b2 b3 b4 [true, true] [.pointer (some ⟨p, 0, none⟩), .pointer (some ⟨q, 0, none⟩)] w) :
    W.heap.size ≤ p ∧ W.heap.size ≤ q ∧ p ≠ q ∧ HB w p t #[a0, a1, a2, a3, a4] ∧ HB w q t #[b0, b1, b2, b3, b4] ∧ Below W.heap.size W w := by
  obtain ⟨p', q', e, g0, g1, hn, hp, h1, h2, hb⟩ := h
  obtain ⟨rfl, rfl⟩ : p = p' ∧ q = q' := by simpa using e
  exact ⟨g0, g1, hn, hp, h2 rfl, hb⟩
end
theorem ZNN.below {W : World} {t : TypeId} {z : Array Value} {a0 a1 a2 a3 a4 b0 b1 b2 b3 b4 : Value} (bs : List Bool) (vs : List Value) (w : World) (h : ZNN W t z a0 a1 a2 a3 a4 b0 b1 b2 b3 b4 bs vs w) : Below W.heap.size W w := by
  obtain ⟨p', q', e, g0, g1, hn, hp, h1, h2, hb⟩ := h
  exact hb

end Go.Proofs.YtbcjboaihahemaaGreatDoor

/-
  A world forgotten within a region: what is known of it stays.
-/
set_option linter.unusedVariables false
namespace Go.Proofs.YtbcjboaihahemaaGreatDoor

theorem forget_at {α : Type} {K : α → World → Prop} {v : α} {w0 : World} (S : World → Prop) (h0 : S w0) (h : ∀ W, S W → K v W) : K v w0 := h w0 h0

end Go.Proofs.YtbcjboaihahemaaGreatDoor

/-
  Numbers taken apart: by definition, over numbers; plain arithmetic.
-/
set_option linter.unusedVariables false
set_option linter.unusedSimpArgs false
namespace Go.Proofs.YtbcjboaihahemaaGreatDoor
open Go.RowKit

/-- A finite number as a whole one times a power of 2. -/
def uM (f b : Int) : Int := if expF f b = 0 then fracF f b else fracF f b + 2 ^ (fP f - 1)
def uX (f b : Int) : Int := (if expF f b = 0 then 1 else expF f b) - fE f - (fP f - 1 : Nat)
/-- What a number taken apart has: its exponent, its digits. -/
def uE (f b : Int) : Int := if clsF f b = 1 ∨ clsF f b = 2 then uX f b + blen (uM f b) - 1 else 0
def uS (f b : Int) : Int := if clsF f b = 1 ∨ clsF f b = 2 then uM f b * 2 ^ (128 - blen (uM f b)) else 0
def offF (f e : Int) : Nat := if e + fE f < 1 then (129 - fP f - (e + fE f)).toNat else 128 - fP f
def fieldF (f e : Int) : Int := if e + fE f < 1 then 0 else e + fE f
/-- What a format has. -/
def fitK (f e s : Int) : Prop := e ≤ fE f ∧ 2 - fE f - fP f ≤ e ∧ 2 ^ 127 ≤ s ∧ s % 2 ^ offF f e = 0
instance (f e s : Int) : Decidable (fitK f e s) := by unfold fitK; infer_instance
def packK (f c e s : Int) : Bool := decide (f < 4) && (decide (c = 0) || decide (c = 3) || decide ((c = 1 ∨ c = 2) ∧ fitK f e s))
def packV (f : Int) (g : Bool) (c e s : Int) : Int := if packK f c e s then (if c = 0 then makeF f g 0 0 else if c = 3 then infF f g else makeF f g (fieldF f e) (s / 2 ^ offF f e)) else 0

theorem cls_0 {f b : Int} (h : f < 4) : clsF f b = 0 ↔ expF f b = 0 ∧ fracF f b = 0 := by unfold clsF; rw [if_pos h]; repeat' split
                                                                                          all_goals omega
theorem cls_1 {f b : Int} (h : f < 4) : clsF f b = 1 ↔ expF f b = 0 ∧ fracF f b ≠ 0 := by unfold clsF; rw [if_pos h]; repeat' split
                                                                                          all_goals omega
theorem cls_2 {f b : Int} (h : f < 4) : clsF f b = 2 ↔ expF f b ≠ 0 ∧ expF f b ≠ 2 * fE f + 1 := by unfold clsF; rw [if_pos h]; repeat' split
                                                                                                    all_goals omega
/-- A subnormal number taken apart. -/
theorem un_sub {f b : Int} (h0 : 0 ≤ f) (h : f < 4) (c : clsF f b = 1) : expF f b = 0 ∧ 0 < fracF f b ∧ 1 ≤ blen (fracF f b) ∧ blen (fracF f b) ≤ fP f - 1 ∧ uE f b = 1 - fE f - fP f + blen (fracF f b) ∧ uS f b = fracF f b * 2 ^ (128 - blen (fracF f b)) := by
  obtain ⟨e0, fr⟩ := (cls_1 h).1 c
  obtain ⟨r0, r1⟩ := frac_range (b := b) h0 h
  obtain ⟨p0, p1, p2, p3, p4, p5, p6, p7, p8⟩ := f_nums h0 h
  have m : uM f b = fracF f b := by unfold uM; rw [if_pos e0]
  have x : uX f b = 1 - fE f - (fP f - 1 : Nat) := by unfold uX; rw [if_pos e0]
  have l1 := blen_pos (show 0 < fracF f b by omega)
  have l2 := blen_le r0 r1
  refine ⟨e0, by omega, l1, l2, ?_, ?_⟩
  · unfold uE; rw [if_pos (Or.inl c), m, x]; omega
  · unfold uS; rw [if_pos (Or.inl c), m]
/-- A normal number taken apart. -/
theorem un_nor {f b : Int} (h0 : 0 ≤ f) (h : f < 4) (hb : 0 ≤ b) (c : clsF f b = 2) : 1 ≤ expF f b ∧ expF f b ≤ 2 * fE f ∧ uE f b = expF f b - fE f ∧ uS f b = (fracF f b + 2 ^ (fP f - 1)) * 2 ^ (128 - fP f) := by
  obtain ⟨e0, e1⟩ := (cls_2 h).1 c
  obtain ⟨r0, r1⟩ := frac_range (b := b) h0 h
  obtain ⟨x0, x1, x2, x3⟩ := exp_range h0 h hb
  obtain ⟨p0, p1, p2, p3, p4, p5, p6, p7, p8⟩ := f_nums h0 h
  have m : uM f b = fracF f b + 2 ^ (fP f - 1) := by unfold uM; rw [if_neg e0]
  have x : uX f b = expF f b - fE f - (fP f - 1 : Nat) := by unfold uX; rw [if_neg e0]
  have l : blen (fracF f b + 2 ^ (fP f - 1)) = fP f := by
    rw [show fP f = (fP f - 1) + 1 by omega]
    refine blen_of ?_ ?_
    · rw [show fP f - 1 + 1 - 1 = fP f - 1 by omega]; omega
    · rw [show fP f - 1 + 1 - 1 = fP f - 1 by omega, Int.pow_succ]; omega
  refine ⟨by omega, by omega, ?_, ?_⟩
  · unfold uE; rw [if_pos (Or.inr c), m, x, l]; omega
  · unfold uS; rw [if_pos (Or.inr c), m, l]
theorem pow_le_mul {x y : Int} (k : Nat) (h : x ≤ y) : x * 2 ^ k ≤ y * 2 ^ k := Int.mul_le_mul_of_nonneg_right h (by have := two_pow_pos k; omega)
theorem pow_lt_mul {x y : Int} (k : Nat) (h : x < y) : x * 2 ^ k < y * 2 ^ k := Int.mul_lt_mul_of_pos_right h (two_pow_pos k)
theorem pow_top {n : Nat} (h : 1 ≤ n) : (2 : Int) ^ n = 2 ^ (n - 1) * 2 := by
  obtain ⟨m, rfl⟩ : ∃ m, n = m + 1 := ⟨n - 1, by omega⟩
  rw [Int.pow_succ, Nat.add_sub_cancel]
/-- A number's digits fill 128 bits. -/
theorem full_digits {m : Int} (h : 0 < m) (l : blen m ≤ 128) : 2 ^ 127 ≤ m * 2 ^ (128 - blen m) ∧ m * 2 ^ (128 - blen m) < full := by
  have l1 := blen_pos h
  have a := pow_le_mul (128 - blen m) (blen_low h)
  obtain ⟨j, e, b1, b2⟩ := blen_bounds h
  have b := pow_lt_mul (128 - blen m) (show m < 2 ^ blen m by rw [e]; exact b2)
  rw [← Int.pow_add, show blen m - 1 + (128 - blen m) = 127 by omega] at a
  rw [← Int.pow_add, show blen m + (128 - blen m) = 128 by omega, full_pow] at b
  exact ⟨a, b⟩
theorem nor_digits {f b : Int} (h0 : 0 ≤ f) (h : f < 4) : 2 ^ 127 ≤ (fracF f b + 2 ^ (fP f - 1)) * 2 ^ (128 - fP f) ∧ (fracF f b + 2 ^ (fP f - 1)) * 2 ^ (128 - fP f) < full := by
  obtain ⟨r0, r1⟩ := frac_range (b := b) h0 h
  obtain ⟨p0, p1, p2, p3, p4, p5, p6, p7, p8⟩ := f_nums h0 h
  have a := pow_le_mul (128 - fP f) (show 2 ^ (fP f - 1) ≤ fracF f b + 2 ^ (fP f - 1) by omega)
  have b' := pow_lt_mul (128 - fP f) (show fracF f b + 2 ^ (fP f - 1) < 2 ^ fP f by rw [pow_top (show 1 ≤ fP f by omega)]; omega)
  rw [← Int.pow_add, show fP f - 1 + (128 - fP f) = 127 by omega] at a
  rw [← Int.pow_add, show fP f + (128 - fP f) = 128 by omega, full_pow] at b'
  exact ⟨a, b'⟩
/-- How great what is taken apart is. -/
theorem un_range {f b : Int} (h0 : 0 ≤ f) (h : f < 4) (hb : 0 ≤ b) (c : clsF f b = 1 ∨ clsF f b = 2) : uE f b ≤ fE f ∧ 2 - fE f - fP f ≤ uE f b ∧ 2 ^ 127 ≤ uS f b ∧ uS f b < full ∧ uS f b % 2 ^ (128 - fP f) = 0 ∧ (clsF f b = 1 ↔ uE f b < 1 - fE f) := by
  obtain ⟨p0, p1, p2, p3, p4, p5, p6, p7, p8⟩ := f_nums h0 h
  rcases c with c | c
  · obtain ⟨e0, fr, l1, l2, ue, us⟩ := un_sub h0 h c
    have d := full_digits fr (by omega)
    rw [ue, us]
    refine ⟨by omega, by omega, d.1, d.2, ?_, by constructor <;> intro _ <;> omega⟩
    rw [show 128 - blen (fracF f b) = (fP f - blen (fracF f b)) + (128 - fP f) by omega, Int.pow_add, ← Int.mul_assoc, Int.mul_emod_left]
  · obtain ⟨e1, e2, ue, us⟩ := un_nor h0 h hb c
    have d := nor_digits (b := b) h0 h
    rw [ue, us]
    exact ⟨by omega, by omega, d.1, d.2, Int.mul_emod_left .., by constructor <;> intro _ <;> omega⟩
theorem uS_range {f b : Int} (h0 : 0 ≤ f) (hb : 0 ≤ b) : 0 ≤ uS f b ∧ uS f b < full := by
  by_cases h : f < 4
  · by_cases c : clsF f b = 1 ∨ clsF f b = 2
    · have := un_range h0 h hb c; have : (0 : Int) < 2 ^ 127 := by decide
      omega
    · unfold uS; rw [if_neg c]; exact ⟨Int.le_refl _, by decide⟩
  · unfold uS clsF; rw [if_neg h, if_neg (by decide)]; exact ⟨Int.le_refl _, by decide⟩
theorem uE_range {f b : Int} (h0 : 0 ≤ f) (hb : 0 ≤ b) : -16600 ≤ uE f b ∧ uE f b ≤ 16383 := by
  by_cases h : f < 4
  · obtain ⟨p0, p1, p2, p3, p4, p5, p6, p7, p8⟩ := f_nums h0 h
    by_cases c : clsF f b = 1 ∨ clsF f b = 2
    · have := un_range h0 h hb c; omega
    · unfold uE; rw [if_neg c]; decide
  · unfold uE clsF; rw [if_neg h, if_neg (by decide)]; decide

/-! ### put together, and taken apart -/
theorem off_le {f e : Int} (h0 : 0 ≤ f) (h : f < 4) (e1 : 2 - fE f - fP f ≤ e) : offF f e ≤ 127 ∧ 128 - fP f ≤ offF f e := by
  obtain ⟨p0, p1, p2, p3, p4, p5, p6, p7, p8⟩ := f_nums h0 h
  unfold offF; split <;> omega
theorem shifted {s : Int} {k : Nat} (hk : k ≤ 127) (s0 : 2 ^ 127 ≤ s) (s1 : s < full) (hm : s % 2 ^ k = 0) : s / 2 ^ k * 2 ^ k = s ∧ 2 ^ (127 - k) ≤ s / 2 ^ k ∧ s / 2 ^ k < 2 ^ (128 - k) ∧ blen (s / 2 ^ k) = 128 - k := by
  have hp := two_pow_pos k
  have e : s / 2 ^ k * 2 ^ k = s := by have := Int.mul_ediv_add_emod s (2 ^ k); rw [hm, Int.mul_comm] at this; omega
  have a : 2 ^ (127 - k) ≤ s / 2 ^ k := by
    rw [Int.le_ediv_iff_mul_le hp, ← Int.pow_add, show 127 - k + k = 127 by omega]; exact s0
  have b : s / 2 ^ k < 2 ^ (128 - k) := by
    rw [Int.ediv_lt_iff_lt_mul hp, ← Int.pow_add, show 128 - k + k = 128 by omega, full_pow]; exact s1
  refine ⟨e, a, b, ?_⟩
  rw [show 128 - k = (127 - k) + 1 by omega]
  exact blen_of a (by rw [show 127 - k + 1 = 128 - k by omega]; exact b)
/-- What is put together is taken apart to what it was. -/
theorem un_pack {f e s : Int} (h0 : 0 ≤ f) (h : f < 4) (g : Bool) (k : fitK f e s) (s1 : s < full) : ∀ b, makeF f g (fieldF f e) (s / 2 ^ offF f e) = b →
    (clsF f b = 1 ∨ clsF f b = 2) ∧ uE f b = e ∧ uS f b = s ∧ negF f b = g ∧ (clsF f b = 1 ↔ e + fE f < 1) := by
  intro b eb
  obtain ⟨k1, k2, k3, k4⟩ := k
  obtain ⟨p0, p1, p2, p3, p4, p5, p6, p7, p8⟩ := f_nums h0 h
  obtain ⟨o1, o2⟩ := off_le h0 h k2
  obtain ⟨t0, t1, t2, t3⟩ := shifted o1 k3 s1 k4
  have fr : fieldF f e < 2 ^ (fW f - fP f) ∧ 0 ≤ fieldF f e := by rw [p5]; unfold fieldF; split <;> omega
  obtain ⟨m1, m2, m3⟩ := make_fields h0 h g (fieldF f e) (s / 2 ^ offF f e)
  rw [eb] at m1 m2 m3
  rw [expOf_id h0 h fr.2 fr.1] at m1
  have nn : 0 ≤ s / 2 ^ offF f e := by have := two_pow_pos (127 - offF f e); omega
  have b0 : 0 ≤ b := by rw [← eb]; exact (make_full h0 g _ _).1
  by_cases hf : e + fE f < 1
  · have ef : fieldF f e = 0 := by unfold fieldF; rw [if_pos hf]
    have eo : offF f e = (129 - fP f - (e + fE f)).toNat := by unfold offF; rw [if_pos hf]
    have lt : s / 2 ^ offF f e < 2 ^ (fP f - 1) := by
      have := two_pow_le (show 128 - offF f e ≤ fP f - 1 by omega); omega
    rw [Int.emod_eq_of_lt nn lt] at m2
    rw [ef] at m1
    have c : clsF f b = 1 := (cls_1 h).2 ⟨m1, by rw [m2]; have := two_pow_pos (127 - offF f e); omega⟩
    obtain ⟨_, _, l1, l2, ue, us⟩ := un_sub h0 h c
    rw [m2, t3] at l1 l2 ue us
    refine ⟨Or.inl c, by omega, ?_, m3, ⟨fun _ => hf, fun _ => c⟩⟩
    rw [us, show 128 - (128 - offF f e) = offF f e by omega]; exact t0
  · have ef : fieldF f e = e + fE f := by unfold fieldF; rw [if_neg hf]
    have eo : offF f e = 128 - fP f := by unfold offF; rw [if_neg hf]
    rw [eo] at t0 t1 t2 t3 m2
    rw [show 127 - (128 - fP f) = fP f - 1 by omega] at t1
    rw [show 128 - (128 - fP f) = fP f by omega] at t2
    rw [ef] at m1
    have c : clsF f b = 2 := (cls_2 h).2 ⟨by omega, by omega⟩
    obtain ⟨x1, x2, ue, us⟩ := un_nor h0 h b0 c
    have fr2 : fracF f b + 2 ^ (fP f - 1) = s / 2 ^ (128 - fP f) := by
      rw [m2]
      have e2 := pow_top (show 1 ≤ fP f by omega)
      have hp := two_pow_pos (fP f - 1)
      generalize s / 2 ^ (128 - fP f) = q at *
      rw [show q = (q - 2 ^ (fP f - 1)) + 2 ^ (fP f - 1) by omega, Int.add_emod_right, Int.emod_eq_of_lt (by omega) (by omega)]
    refine ⟨Or.inr c, by omega, ?_, m3, ⟨fun x => by omega, fun x => absurd x hf⟩⟩
    rw [us, fr2]; exact t0
/-- What is taken apart is put together again. -/
theorem pack_un {f b : Int} (h0 : 0 ≤ f) (h : f < 4) (hb : 0 ≤ b) (c : clsF f b = 1 ∨ clsF f b = 2) : fitK f (uE f b) (uS f b) ∧ makeF f (negF f b) (fieldF f (uE f b)) (uS f b / 2 ^ offF f (uE f b)) = cutF f b := by
  obtain ⟨p0, p1, p2, p3, p4, p5, p6, p7, p8⟩ := f_nums h0 h
  obtain ⟨r1, r2, r3, r4, r5, r6⟩ := un_range h0 h hb c
  obtain ⟨fr0, fr1⟩ := frac_range (b := b) h0 h
  rcases c with c | c
  · obtain ⟨e0, fr, l1, l2, ue, us⟩ := un_sub h0 h c
    have lt := r6.1 c
    have eo : offF f (uE f b) = 128 - blen (fracF f b) := by unfold offF; rw [if_pos (by omega)]; omega
    have ef : fieldF f (uE f b) = expF f b := by unfold fieldF; rw [if_pos (by omega)]; omega
    refine ⟨⟨r1, r2, r3, by rw [eo, us]; exact Int.mul_emod_left ..⟩, ?_⟩
    rw [eo, ef, us, mul_pow_div]; exact make_split h0 h hb
  · obtain ⟨x1, x2, ue, us⟩ := un_nor h0 h hb c
    have eo : offF f (uE f b) = 128 - fP f := by unfold offF; rw [if_neg (by omega)]
    have ef : fieldF f (uE f b) = expF f b := by unfold fieldF; rw [if_neg (by omega)]; omega
    refine ⟨⟨r1, r2, r3, by rw [eo]; exact r5⟩, ?_⟩
    rw [eo, ef, us, mul_pow_div]
    have := make_split h0 h hb
    rw [← this]
    unfold makeF; rw [if_pos h, if_pos h, Int.add_emod_right]
/-- When the document's way to put together succeeds. -/
theorem fit_iff {f e s : Int} (h0 : 0 ≤ f) (h : f < 4) (g : Bool) (s0 : 0 ≤ s) (s1 : s < full) (e1 : e ≤ fE f) (e2 : 2 - fE f - fP f ≤ e) : ∀ b, makeF f g (fieldF f e) (s / 2 ^ offF f e) = b →
    ((uE f b = e ∧ uS f b = s ∧ negF f b = g) ↔ fitK f e s) := by
  intro b eb
  constructor
  · rintro ⟨a1, a2, a3⟩
    obtain ⟨p0, p1, p2, p3, p4, p5, p6, p7, p8⟩ := f_nums h0 h
    have b0 : 0 ≤ b := by rw [← eb]; exact (make_full h0 g _ _).1
    have fr : fieldF f e < 2 ^ (fW f - fP f) ∧ 0 ≤ fieldF f e ∧ fieldF f e ≤ 2 * fE f := by rw [p5]; unfold fieldF; split <;> omega
    obtain ⟨m1, m2, m3⟩ := make_fields h0 h g (fieldF f e) (s / 2 ^ offF f e)
    rw [eb] at m1 m2 m3
    rw [expOf_id h0 h fr.2.1 fr.1] at m1
    have c : clsF f b = 1 ∨ clsF f b = 2 := by
      by_cases z : expF f b = 0
      · by_cases y : fracF f b = 0
        · exfalso
          have c0 := (cls_0 h).2 ⟨z, y⟩
          have : uE f b = 0 := by unfold uE; rw [if_neg (by omega)]
          rw [m1] at z
          unfold fieldF at z; split at z <;> omega
        · exact Or.inl ((cls_1 h).2 ⟨z, y⟩)
      · exact Or.inr ((cls_2 h).2 ⟨z, by omega⟩)
    obtain ⟨k, _⟩ := pack_un h0 h b0 c
    rw [a1, a2] at k; exact k
  · intro k
    obtain ⟨_, a1, a2, a3, _⟩ := un_pack h0 h g k s1 b eb
    exact ⟨a1, a2, a3⟩

/-! ### order; the next wider format -/
theorem cut_val {f b : Int} (h0 : 0 ≤ f) (h : f < 4) (hb : 0 ≤ b) (n : negF f b = false) : cutF f b = expF f b * 2 ^ (fP f - 1) + fracF f b := by
  obtain ⟨r0, r1⟩ := frac_range (b := b) h0 h
  obtain ⟨x0, x1, x2, x3⟩ := exp_range h0 h hb
  have e := make_split h0 h hb
  rw [n] at e
  unfold makeF at e
  rw [if_pos h, expOf_id h0 h x0 x1, Int.emod_eq_of_lt r0 r1, if_neg (by decide), Int.add_zero] at e
  exact e.symm
def lexU (f a b : Int) : Prop := uE f a < uE f b ∨ (uE f a = uE f b ∧ uS f a < uS f b)
theorem lex_of_cut {f a b : Int} (h0 : 0 ≤ f) (h : f < 4) (ha : 0 ≤ a) (hb : 0 ≤ b) (ca : clsF f a = 1 ∨ clsF f a = 2) (cb : clsF f b = 1 ∨ clsF f b = 2) (na : negF f a = false) (nb : negF f b = false) (lt : cutF f a < cutF f b) : lexU f a b := by
  rw [cut_val h0 h ha na, cut_val h0 h hb nb] at lt
  obtain ⟨r0, r1⟩ := frac_range (b := a) h0 h
  obtain ⟨s0, s1⟩ := frac_range (b := b) h0 h
  obtain ⟨_, _, _, _, _, fa⟩ := un_range h0 h ha ca
  obtain ⟨_, _, _, _, _, fb⟩ := un_range h0 h hb cb
  have hp := two_pow_pos (fP f - 1)
  rcases ca with ca | ca <;> rcases cb with cb | cb
  · obtain ⟨e0, fr, l1, l2, ue, us⟩ := un_sub h0 h ca
    obtain ⟨e0', fr', l1', l2', ue', us'⟩ := un_sub h0 h cb
    rw [e0, e0', Int.zero_mul, Int.zero_add, Int.zero_add] at lt
    have m := blen_mono r0 (show fracF f a ≤ fracF f b by omega)
    unfold lexU
    rcases Nat.lt_or_eq_of_le m with m | m
    · exact Or.inl (by omega)
    · exact Or.inr ⟨by omega, by rw [us, us', m]; exact pow_lt_mul _ lt⟩
  · have a1 := fa.1 ca
    have : ¬ uE f b < 1 - fE f := fun x => by have := fb.2 x; omega
    exact Or.inl (by omega)
  · exfalso
    obtain ⟨e0', fr', _⟩ := un_sub h0 h cb
    obtain ⟨x1, _⟩ := un_nor h0 h ha ca
    rw [e0', Int.zero_mul, Int.zero_add] at lt
    have := Int.mul_le_mul_of_nonneg_right (show 1 ≤ expF f a by omega) (show (0 : Int) ≤ 2 ^ (fP f - 1) by omega)
    omega
  · obtain ⟨x1, x2, ue, us⟩ := un_nor h0 h ha ca
    obtain ⟨x1', x2', ue', us'⟩ := un_nor h0 h hb cb
    unfold lexU
    rcases Int.lt_trichotomy (expF f a) (expF f b) with t | t | t
    · exact Or.inl (by omega)
    · refine Or.inr ⟨by omega, ?_⟩
      rw [t] at lt
      rw [us, us']
      exact pow_lt_mul _ (by omega)
    · exfalso
      have := Int.mul_le_mul_of_nonneg_right (show expF f b + 1 ≤ expF f a by omega) (show (0 : Int) ≤ 2 ^ (fP f - 1) by omega)
      rw [Int.add_mul, Int.one_mul] at this
      omega
theorem un_congr {f a b : Int} (h0 : 0 ≤ f) (h : f < 4) (e : cutF f a = cutF f b) : uE f a = uE f b ∧ uS f a = uS f b ∧ clsF f a = clsF f b := by
  obtain ⟨g1, g2, g3⟩ := fields_of_cut h0 h e
  have c := cls_congr g2 g3
  have m : uM f a = uM f b := by unfold uM; rw [g2, g3]
  have x : uX f a = uX f b := by unfold uX; rw [g2]
  exact ⟨by unfold uE; rw [c, m, x], by unfold uS; rw [c, m], c⟩
/-- The order of numbers above 0 is that of their parts. -/
theorem order_un {f a b : Int} (h0 : 0 ≤ f) (h : f < 4) (ha : 0 ≤ a) (hb : 0 ≤ b) (ca : clsF f a = 1 ∨ clsF f a = 2) (cb : clsF f b = 1 ∨ clsF f b = 2) (na : negF f a = false) (nb : negF f b = false) :
    (cutF f a < cutF f b ↔ lexU f a b) ∧ (cutF f a = cutF f b ↔ uE f a = uE f b ∧ uS f a = uS f b) := by
  have l1 := lex_of_cut h0 h ha hb ca cb na nb
  have l2 := lex_of_cut h0 h hb ha cb ca nb na
  have l3 := un_congr (a := a) (b := b) h0 h
  unfold lexU at *
  rcases Int.lt_trichotomy (cutF f a) (cutF f b) with t | t | t
  · have := l1 t; constructor <;> constructor <;> intro _ <;> omega
  · obtain ⟨u1, u2, _⟩ := l3 t; constructor <;> constructor <;> intro _ <;> omega
  · have := l2 t; constructor <;> constructor <;> intro _ <;> omega
theorem mod_zero_le {s : Int} {a b : Nat} (h : a ≤ b) (hb : s % 2 ^ b = 0) : s % 2 ^ a = 0 := by have := mod_mod_pow s h; rw [hb, Int.zero_emod] at this; exact this.symm
theorem fit_wider {f b : Int} (h0 : 0 ≤ f) (h2 : f ≤ 2) (hb : 0 ≤ b) (c : clsF f b = 1 ∨ clsF f b = 2) : fitK (f + 1) (uE f b) (uS f b) ∧ ¬ uE f b + fE (f + 1) < 1 := by
  obtain ⟨r1, r2, r3, r4, r5, r6⟩ := un_range h0 (by omega) hb c
  have k : 2 * (fE f : Int) + 2 * fP f < fE (f + 1) + 2 ∧ fP f ≤ fP (f + 1) ∧ fP (f + 1) ≤ 128 := by
    obtain rfl | rfl | rfl : f = 0 ∨ f = 1 ∨ f = 2 := by omega
    all_goals decide
  have n : ¬ uE f b + fE (f + 1) < 1 := by omega
  refine ⟨⟨by omega, by omega, r3, ?_⟩, n⟩
  unfold offF; rw [if_neg n]
  exact mod_zero_le (by omega) r5

end Go.Proofs.YtbcjboaihahemaaGreatDoor

/-
  Numbers taken apart: the document's answers of layer 9, over numbers.
-/
set_option linter.unusedVariables false
set_option linter.unusedSimpArgs false
namespace Go.Proofs.YtbcjboaihahemaaGreatDoor
open Go.RowKit
attribute [local go_sem ↓] Go.wp_at_zero Go.wp_at_succ

end Go.Proofs.YtbcjboaihahemaaGreatDoor

/-
  The document's Pack, over numbers.
-/
set_option linter.unusedVariables false
set_option linter.unusedSimpArgs false
namespace Go.Proofs.YtbcjboaihahemaaGreatDoor
open Go.RowKit

theorem neq_bits (a b c d : Int) (w : World) : (binOp .neq 30 (.agg #[.int .u64 a, .int .u64 b]) (.agg #[.int .u64 c, .int .u64 d])).run Tryz.prog w = .ok (.bool (!decide (a = c ∧ b = d))) w := by
  by_cases h1 : a = c
  · subst h1
    by_cases h2 : b = d
    · subst h2
      go_simp
    · go_simp
  · go_simp
theorem fit_no {f c e s : Int} (h : ¬ fitK f e s) (c0 : c ≠ 0) (c3 : c ≠ 3) (g : Bool) : packK f c e s = false ∧ packV f g c e s = 0 := by
  have k : packK f c e s = false := by unfold packK; simp [h, c0, c3]
  exact ⟨k, by unfold packV; rw [k, if_neg (by decide)]⟩
end Go.Proofs.YtbcjboaihahemaaGreatDoor

/-
  What the document asks of package fields; numbers put together and taken apart.
-/
set_option linter.unusedVariables false
set_option linter.unusedSimpArgs false
namespace Go.Proofs.YtbcjboaihahemaaGreatDoor
open Go.RowKit
attribute [local go_sem ↓] Go.wp_at_zero Go.wp_at_succ

/-- What the document asks of package fields. -/
structure FldOK : Prop where
  unpack : ∀ f b, 0 ≤ f → f ≤ 255 → ∀ w, FTab w → Calls Tryz.prog 31 #[.int .u8 f, .agg #[.int .u64 (hiOf (b)), .int .u64 (loOf (b))]] w fun e w' => e = .returned (.agg #[.bool (negF f (b % full)), .int .u8 (clsF f (b % full)), .int .i64 (uE f (b % full)), .int .u64 (hiOf (uS f (b % full))), .int .u64 (loOf (uS f (b % full)))]) ∧ Below w.heap.size w w'

/-- At a number of 128 bits. -/
theorem FldOK.unpackAt (C : FldOK) (f b : Int) (f0 : 0 ≤ f) (f1 : f ≤ 255) (b0 : 0 ≤ b) (b1 : b < full) (w : World) (ft : FTab w) : Calls Tryz.prog 31 #[.int .u8 f, .agg #[.int .u64 (hiOf (b)), .int .u64 (loOf (b))]] w fun e w' => e = .returned (.agg #[.bool (negF f (b)), .int .u8 (clsF f (b)), .int .i64 (uE f (b)), .int .u64 (hiOf (uS f (b))), .int .u64 (loOf (uS f (b)))]) ∧ Below w.heap.size w w' := by
  have h := C.unpack f b f0 f1 w ft
  rw [Int.emod_eq_of_lt b0 b1] at h
  exact h
theorem packK_no {f c e s : Int} (h : ¬ (f < 4 ∧ (c = 0 ∨ c = 3 ∨ ((c = 1 ∨ c = 2) ∧ fitK f e s)))) : packK f c e s = false := by
  unfold packK
  rw [Bool.eq_false_iff]
  intro x
  apply h
  simpa [and_assoc, or_assoc] using x
theorem packK_yes {f c e s : Int} (h : f < 4 ∧ (c = 0 ∨ c = 3 ∨ ((c = 1 ∨ c = 2) ∧ fitK f e s))) : packK f c e s = true := by
  unfold packK
  simpa [and_assoc, or_assoc] using h
theorem packK_iff {f c e s : Int} : packK f c e s = true ↔ (f < 4 ∧ (c = 0 ∨ c = 3 ∨ ((c = 1 ∨ c = 2) ∧ fitK f e s))) := by
  by_cases h : f < 4 ∧ (c = 0 ∨ c = 3 ∨ ((c = 1 ∨ c = 2) ∧ fitK f e s))
  · exact ⟨fun _ => h, fun _ => packK_yes h⟩
  · exact ⟨fun x => (by rw [packK_no h] at x; cases x), fun x => absurd x h⟩
theorem packV_no {f : Int} {g : Bool} {c e s : Int} (h : packK f c e s = false) : packV f g c e s = 0 := by unfold packV; rw [h, if_neg (by decide)]
theorem packV_full {f : Int} (f0 : 0 ≤ f) (g : Bool) (c e s : Int) : 0 ≤ packV f g c e s ∧ packV f g c e s < full := by
  unfold packV
  split
  · split
    · exact make_full f0 ..
    · split
      · exact make_full f0 ..
      · exact make_full f0 ..
  · exact ⟨Int.le_refl _, by decide⟩
theorem cls_cut (f b : Int) (f0 : 0 ≤ f) : clsF f (cutF f b) = clsF f b := by
  by_cases h : f < 4
  · exact cls_congr (exp_cut f0 h b) (frac_cut f0 h b)
  · rw [cls_no h, cls_no h]
/-- What is taken apart of a number that is none is put together to nothing; of any other to what it was. -/
theorem pack_unpack {f b : Int} (f0 : 0 ≤ f) (b0 : 0 ≤ b) (b1 : b < full) :
    (f < 4 ∧ clsF f b ≤ 3 → packK f (clsF f b) (uE f b) (uS f b) = true ∧ packV f (negF f b) (clsF f b) (uE f b) (uS f b) = cutF f b) ∧
    (¬ (f < 4 ∧ clsF f b ≤ 3) → packK f (clsF f b) (uE f b) (uS f b) = false) := by
  have cr := cls_range f b
  constructor
  · rintro ⟨h, c⟩
    have ms := make_split f0 h b0
    by_cases k : clsF f b = 1 ∨ clsF f b = 2
    · obtain ⟨p1, p2⟩ := pack_un f0 h b0 k
      have kk := packK_yes (f := f) (c := clsF f b) (e := uE f b) (s := uS f b) ⟨h, .inr (.inr ⟨k, p1⟩)⟩
      refine ⟨kk, ?_⟩
      unfold packV; rw [kk, if_pos rfl, if_neg (by omega), if_neg (by omega)]; exact p2
    · have kk := packK_yes (f := f) (c := clsF f b) (e := uE f b) (s := uS f b) ⟨h, by omega⟩
      refine ⟨kk, ?_⟩
      unfold packV; rw [kk, if_pos rfl]
      by_cases z : clsF f b = 0
      · obtain ⟨x, y⟩ := (cls_0 h).1 z
        rw [if_pos z, ← ms, x, y]
      · have c3 : clsF f b = 3 := by omega
        rw [if_neg z, if_pos c3, ← ms]
        have : expF f b = 2 * fE f + 1 ∧ fracF f b = 0 := by
          unfold clsF at c3; rw [if_pos h] at c3
          split at c3
          · split at c3 <;> omega
          · split at c3
            · split at c3
              · rename_i a b' c'; exact ⟨b', c'⟩
              · split at c3 <;> omega
            · omega
        rw [this.1, this.2]; rfl
  · intro h
    refine packK_no ?_
    rintro ⟨h1, h2⟩
    exact h ⟨h1, by omega⟩
theorem inf_cls {f : Int} (f0 : 0 ≤ f) (h : f < 4) (g : Bool) : clsF f (infF f g) = 3 ∧ negF f (infF f g) = g := by
  obtain ⟨p0, p1, p2, p3, p4, p5, p6, p7, p8⟩ := f_nums f0 h
  obtain ⟨m1, m2, m3⟩ := make_fields f0 h g (2 * fE f + 1) 0
  rw [expOf_id f0 h (by omega) (by omega)] at m1
  rw [Int.zero_emod] at m2
  refine ⟨?_, m3⟩
  unfold clsF; rw [if_pos h]
  rw [show infF f g = makeF f g (2 * fE f + 1) 0 from rfl, m1, m2, if_neg (by omega), if_pos rfl, if_pos rfl]
theorem nought_cls {f : Int} (f0 : 0 ≤ f) (h : f < 4) (g : Bool) : clsF f (makeF f g 0 0) = 0 ∧ negF f (makeF f g 0 0) = g := by
  obtain ⟨p0, p1, p2, p3, p4, p5, p6, p7, p8⟩ := f_nums f0 h
  obtain ⟨m1, m2, m3⟩ := make_fields f0 h g 0 0
  rw [expOf_id f0 h (by omega) (by omega)] at m1
  rw [Int.zero_emod] at m2
  exact ⟨(cls_0 h).2 ⟨m1, m2⟩, m3⟩
theorem u_none {f b : Int} (h : ¬ (clsF f b = 1 ∨ clsF f b = 2)) : uE f b = 0 ∧ uS f b = 0 := ⟨by unfold uE; rw [if_neg h], by unfold uS; rw [if_neg h]⟩


end Go.Proofs.YtbcjboaihahemaaGreatDoor

/-
  append of a slice of encodings to one of the call's own.
-/
set_option linter.unusedVariables false
set_option linter.unusedSimpArgs false
namespace Go.Proofs.YtbcjboaihahemaaGreatDoor
open Go.RowKit
attribute [local go_sem ↓] Go.wp_at_zero Go.wp_at_succ

def cellsOfB (xs : List Int) : List Value := xs.flatMap fun b => [.int .u64 (hiOf b), .int .u64 (loOf b)]
theorem cellsOfB_len (xs : List Int) : (cellsOfB xs).length = xs.length * 2 := by
  induction xs with
  | nil => rfl
  | cons x xs ih => simp [cellsOfB] at ih ⊢; omega
theorem cellsOfB_app (xs ys : List Int) : cellsOfB (xs ++ ys) = cellsOfB xs ++ cellsOfB ys := by simp [cellsOfB]
theorem cellsOfB_at (xs : List Int) : ∀ k, k < xs.length → (cellsOfB xs)[k * 2]? = some (.int .u64 (hiOf (xs.getD k 0))) ∧ (cellsOfB xs)[k * 2 + 1]? = some (.int .u64 (loOf (xs.getD k 0))) := by
  induction xs with
  | nil => intro k hk; simp at hk
  | cons x xs ih =>
    intro k hk
    have e : cellsOfB (x :: xs) = Value.int .u64 (hiOf x) :: Value.int .u64 (loOf x) :: cellsOfB xs := rfl
    rw [e]
    cases k with
    | zero => exact ⟨rfl, rfl⟩
    | succ k =>
      obtain ⟨h1, h2⟩ := ih k (by simp at hk; omega)
      rw [show (k + 1) * 2 = k * 2 + 1 + 1 by omega]
      simpa using ⟨h1, h2⟩
/-- The call's own slice v holds the encodings os. -/
def OwnB (w : World) (base : Nat) (v : Value) (os : List Int) : Prop := w.ownsRow base 30 2 v os.length (cellsOfB os)
theorem Bs.cells {w : World} {a : Addr} {n cap : Nat} {xs : List Int} (x : Bs w (some a) n cap xs) : ∀ j u, (cellsOfB xs)[j]? = some u → w.cell? (a.add j) = some u := by
  intro j u hu
  have hj : j < xs.length * 2 := by
    have := (List.getElem?_eq_some_iff.1 hu).1
    rwa [cellsOfB_len] at this
  obtain ⟨h1, _, _, h4⟩ := x
  obtain ⟨k, r, hr, rfl⟩ : ∃ k r, r < 2 ∧ j = k * 2 + r := ⟨j / 2, j % 2, by omega, by omega⟩
  obtain ⟨a', e, c0, c1⟩ := h4 k (by omega)
  obtain rfl := Option.some.inj e
  obtain ⟨g0, g1⟩ := cellsOfB_at xs k (by omega)
  obtain rfl | rfl : r = 0 ∨ r = 1 := by omega
  · rw [Nat.add_zero] at hu ⊢; rw [g0] at hu; cases hu; exact c0
  · rw [g1] at hu; cases hu
    rw [show a.add (k * 2 + 1) = ⟨(a.add (k * 2)).block, (a.add (k * 2)).off + 1, none⟩ by unfold Addr.add; by_cases h : k * 2 = 0 <;> simp [h] <;> omega]
    exact c1
theorem infoBits : (Tryz.prog.info? 30).map (fun i => (i.zero, i.size, i.bytes)) = some (some (.agg #[.int .u64 0, .int .u64 0]), 2, 16) := by kernel_rfl
end Go.Proofs.YtbcjboaihahemaaGreatDoor
