import Derived.BigQuiet
import Derived.Deep.RegionHeld3
import Derived.Lib.Hide
import Derived.RangeFuncOwn
import Derived.Shelf.Bits.Mul64
import Derived.Shelf.Spec.BitsCarry
import Derived.StillTailTactics
import Derived.WalkLawsBesides
import Derived.WalkSpells
import Derived.Test.YtjdjonekoodalaaGreatDoorRows
set_option maxHeartbeats 1000000
set_option linter.unusedVariables false
set_option maxRecDepth 100000
namespace Go.Proofs.YtjdjonekoodalaaGreatDoor
def U64 (x : Int) : Prop := 0 ≤ x ∧ x < 18446744073709551616
def val (h l : Int) : Int := h * 18446744073709551616 + l
def hiOf (n : Int) : Int := n / 18446744073709551616 % 18446744073709551616
def loOf (n : Int) : Int := n % 18446744073709551616
def addLo (x y c : Int) : Int := (x + y + c) % 18446744073709551616
def addC (x y c : Int) : Int := (x + y + c) / 18446744073709551616
def subLo (x y c : Int) : Int := (x - y - c) % 18446744073709551616
def subC (x y c : Int) : Int := if x < y + c then 1 else 0
def full : Int := 340282366920938463463374607431768211456
def cmpI (a b : Int) : Int := if a < b then -1 else if b < a then 1 else 0
theorem hiOf_u (n : Int) : U64 (hiOf n) := by unfold U64 hiOf; omega
theorem loOf_u (n : Int) : U64 (loOf n) := by unfold U64 loOf; omega
theorem val_range {h l : Int} (uh : U64 h) (ul : U64 l) : 0 ≤ val h l ∧ val h l < full := by
  unfold U64 at uh ul; unfold val full; omega
theorem val_hiLo {n : Int} (h0 : 0 ≤ n) (h1 : n < full) : val (hiOf n) (loOf n) = n := by
  unfold full at h1; unfold val hiOf loOf; omega
theorem val_hiLo_mod (n : Int) : val (hiOf n) (loOf n) = n % full := by
  unfold val hiOf loOf full; omega
theorem addLo_u (x y c : Int) : U64 (addLo x y c) := by unfold U64 addLo; omega
theorem subLo_u (x y c : Int) : U64 (subLo x y c) := by unfold U64 subLo; omega
theorem addC_01 {x y c : Int} (hx : U64 x) (hy : U64 y) (c0 : 0 ≤ c) (c1 : c ≤ 1) : 0 ≤ addC x y c ∧ addC x y c ≤ 1 := by
  unfold U64 at hx hy; unfold addC; omega
theorem subC_01 (x y c : Int) : 0 ≤ subC x y c ∧ subC x y c ≤ 1 := by
  unfold subC; split <;> omega
theorem add_lo {ah al bh bl : Int} (u1 : U64 al) (u2 : U64 bl) : addLo al bl 0 = loOf (val ah al + val bh bl) := by
  unfold U64 at u1 u2; unfold addLo loOf val; omega
theorem add_hi {ah al bh bl : Int} (u1 : U64 al) (u2 : U64 bl) : addLo ah bh (addC al bl 0) = hiOf (val ah al + val bh bl) := by
  unfold U64 at u1 u2; unfold addLo addC hiOf val; omega
theorem add_carry {ah al bh bl : Int} (u1 : U64 al) (u2 : U64 bl) (u3 : U64 ah) (u4 : U64 bh) :
    (addC ah bh (addC al bl 0) != 0) = decide (full ≤ val ah al + val bh bl) := by
  unfold U64 at u1 u2 u3 u4
  rw [Bool.eq_iff_iff]; simp only [bne_iff_ne, ne_eq, decide_eq_true_eq]
  unfold addC val full; omega
theorem sub_lo {ah al bh bl : Int} (u1 : U64 al) (u2 : U64 bl) : subLo al bl 0 = loOf (val ah al - val bh bl) := by
  unfold U64 at u1 u2; unfold subLo loOf val; omega
theorem sub_hi {ah al bh bl : Int} (u1 : U64 al) (u2 : U64 bl) : subLo ah bh (subC al bl 0) = hiOf (val ah al - val bh bl) := by
  unfold U64 at u1 u2; unfold subLo subC hiOf val; split <;> omega
theorem sub_borrow {ah al bh bl : Int} (u1 : U64 al) (u2 : U64 bl) (u3 : U64 ah) (u4 : U64 bh) :
    (subC ah bh (subC al bl 0) != 0) = decide (val ah al < val bh bl) := by
  unfold U64 at u1 u2 u3 u4
  rw [Bool.eq_iff_iff]; simp only [bne_iff_ne, ne_eq, decide_eq_true_eq]
  unfold subC val; split <;> split <;> omega
theorem val_zero {h l : Int} (uh : U64 h) (ul : U64 l) : (val h l == 0) = (h == 0 && l == 0) := by
  unfold U64 at uh ul
  rw [Bool.eq_iff_iff]; simp only [beq_iff_eq, Bool.and_eq_true]
  unfold val; omega
theorem cmpI_cases (a b : Int) : (a < b → cmpI a b = -1) ∧ (b < a → cmpI a b = 1) ∧ (a = b → cmpI a b = 0) := by
  unfold cmpI
  refine ⟨fun h => ?_, fun h => ?_, fun h => ?_⟩
  · rw [if_pos h]
  · rw [if_neg (by omega), if_pos h]
  · rw [if_neg (by omega), if_neg (by omega)]
end Go.Proofs.YtjdjonekoodalaaGreatDoor
namespace Go.Proofs.YtjdjonekoodalaaGreatDoor
open Go.RowKit
theorem bA {a w : World} (h : Below a.heap.size a w) (o : Obj) : Below a.heap.size a (w.alloc o) := h.alloc h.size o
theorem bC {a w w' : World} (h : Below a.heap.size a w) (k : Below w.heap.size w w') : Below a.heap.size a w' := h.trans (k.mono h.size)
def Box (w : World) (b : Nat) (h l : Int) : Prop := b < w.heap.size ∧ w.cell? ⟨b, 0, none⟩ = some (.int .u64 h) ∧ w.cell? ⟨b, 1, none⟩ = some (.int .u64 l)
theorem Box.later {W w1 : World} {b : Nat} {h l : Int} (x : Box W b h l) (hb : Below W.heap.size W w1) : Box w1 b h l :=
  ⟨Nat.lt_of_lt_of_le x.1 hb.size, (hb.cell (p := ⟨b, 0, none⟩) x.1).trans x.2.1, (hb.cell (p := ⟨b, 1, none⟩) x.1).trans x.2.2⟩
theorem Box.alloc {w : World} {b : Nat} {h l : Int} (x : Box w b h l) (o : Obj) : Box (w.alloc o) b h l :=
  x.later (bA (Below.refl _ _) o)
theorem Box.drew {w : World} {b : Nat} {h l : Int} (x : Box w b h l) : Box w.drew b h l := x.later (Below.refl _ _).drew
theorem Box.new (w : World) (h l : Int) (t : TypeId) : Box (w.alloc (.cells #[.int .u64 h, .int .u64 l] t)) w.heap.size h l := by
  refine ⟨by simp, ?_, ?_⟩ <;> go_simp
theorem Box.newAt {w : World} {b : Nat} (hb : b = w.heap.size) (h l : Int) (t : TypeId) : Box (w.alloc (.cells #[.int .u64 h, .int .u64 l] t)) b h l := by
  subst hb; exact Box.new w h l t
abbrev bx (h l : Int) (t : TypeId) : Obj := .cells #[.int .u64 h, .int .u64 l] t
def BoxF (w : World) (b : Nat) (h l : Int) : Prop := Box w b h l ∧ w.frozen? ⟨b, 0, none⟩ = false ∧ w.frozen? ⟨b, 1, none⟩ = false
theorem BoxF.later {W w1 : World} {b : Nat} {h l : Int} (x : BoxF W b h l) (hb : Below W.heap.size W w1) : BoxF w1 b h l :=
  ⟨x.1.later hb, (hb.frozen (p := ⟨b, 0, none⟩) x.1.1).trans x.2.1, (hb.frozen (p := ⟨b, 1, none⟩) x.1.1).trans x.2.2⟩
theorem BoxF.alloc {w : World} {b : Nat} {h l : Int} (x : BoxF w b h l) (o : Obj) : BoxF (w.alloc o) b h l := x.later (bA (Below.refl _ _) o)
theorem BoxF.new (w : World) (h l : Int) (t : TypeId) : BoxF (w.alloc (.cells #[.int .u64 h, .int .u64 l] t)) w.heap.size h l := by
  refine ⟨Box.new w h l t, ?_, ?_⟩ <;> go_simp
abbrev set2 (w : World) (b : Nat) (h l : Int) : World := (w.setCell ⟨b, 0, none⟩ (.int .u64 h)).setCell ⟨b, 1, none⟩ (.int .u64 l)
theorem BoxF.set {w : World} {y : Nat} {h l : Int} (x : BoxF w y h l) (h' l' : Int) : BoxF (set2 w y h' l') y h' l' := by
  obtain ⟨⟨x0, x1, x2⟩, f0, f1⟩ := x
  have n1 : (⟨y, 1, none⟩ : Addr) ≠ ⟨y, 0, none⟩ := by simp
  have n2 : (⟨y, 0, none⟩ : Addr) ≠ ⟨y, 1, none⟩ := by simp
  have e2 : (w.setCell ⟨y, 0, none⟩ (.int .u64 h')).cell? ⟨y, 1, none⟩ = some (.int .u64 l) := (World.cell?_setCell_other _ _ _ _ n2).trans x2
  exact ⟨⟨by simpa using x0, (World.cell?_setCell_other _ _ _ _ n1).trans (World.cell?_setCell_same _ _ _ x1), World.cell?_setCell_same _ _ _ e2⟩, by simpa using f0, by simpa using f1⟩
theorem bS {a w : World} {y : Nat} (h : Below a.heap.size a w) (hy : a.heap.size ≤ y) (h' l' : Int) : Below a.heap.size a (set2 w y h' l') :=
  (h.setCell (p := ⟨y, 0, none⟩) hy _).setCell (p := ⟨y, 1, none⟩) hy _
theorem Box.of {w : World} {b : Nat} {h l : Int} (h0 : w.cell? ⟨b, 0, none⟩ = some (.int .u64 h)) (h1 : w.cell? ⟨b, 1, none⟩ = some (.int .u64 l)) : Box w b h l :=
  ⟨World.block_lt_of_cell? _ _ h0, h0, h1⟩
theorem u64_of_wf {x : Int} (h : (Lit.int .u64 x).wf = true) : U64 x := by
  simp only [Lit.wf, Bool.and_eq_true, decide_eq_true_eq] at h
  have h1 : (0 : Int) ≤ x := h.1
  have h2 : x ≤ 18446744073709551615 := h.2
  unfold U64; omega
theorem u0 : U64 0 := ⟨by decide, by decide⟩
theorem u1 : U64 1 := ⟨by decide, by decide⟩
theorem u2 : U64 2 := ⟨by decide, by decide⟩
end Go.Proofs.YtjdjonekoodalaaGreatDoor
namespace Go.Proofs.YtjdjonekoodalaaGreatDoor
def bitI (n i : Int) : Bool := decide (0 ≤ i) && decide (i < 128) && (n / 2 ^ i.toNat % 2 == 1)
theorem and_one {v : Int} (h : U64 v) : bits .and .u64 v 1 = v % 2 := by
  rw [u64_and v 1 h.1 h.2 (by omega) (by omega)]
  have e : v.toNat &&& (1 : Int).toNat = v.toNat % 2 := nat_mask1 _
  rw [e]
  have := h.1
  omega
theorem two_pow_pos (k : Nat) : (0 : Int) < 2 ^ k := Int.pow_pos (by omega)
theorem two_pow_le {j k : Nat} (h : j ≤ k) : (2 : Int) ^ j ≤ 2 ^ k := by
  induction h with
  | refl => exact Int.le_refl _
  | step _ ih => rw [Int.pow_succ]; have := two_pow_pos ‹_›; omega
theorem div_pow_u {v : Int} (h : U64 v) (k : Nat) : U64 (v / 2 ^ k) := by
  have hp := two_pow_pos k
  refine ⟨Int.ediv_nonneg h.1 (by omega), ?_⟩
  have := Int.ediv_le_self (b := 2 ^ k) h.1
  have := h.2
  omega
theorem bit_lo {h l i : Int} (ul : U64 l) (h0 : 0 ≤ i) (h1 : i < 64) : (bits .and .u64 (l / 2 ^ i.toNat) 1 == 1) = bitI (val h l) i := by
  rw [and_one (div_pow_u ul _)]
  obtain ⟨k, rfl⟩ := Int.eq_ofNat_of_zero_le h0
  simp only [Int.toNat_natCast, bitI]
  have hk : k < 64 := by omega
  have e : val h l = l + 2 ^ k * (h * 2 ^ (63 - k) * 2) := by
    have e2 : (18446744073709551616 : Int) = 2 ^ k * (2 ^ (63 - k) * 2) := by
      rw [← Int.pow_succ, ← Int.pow_add, show k + (63 - k + 1) = 64 from by omega]; rfl
    unfold val
    rw [e2, Int.add_comm, Int.mul_left_comm, Int.mul_assoc]
  rw [e, Int.add_mul_ediv_left _ _ (by have := two_pow_pos k; omega)]
  simp only [show decide (0 ≤ (k : Int)) = true from by simp, show decide ((k : Int) < 128) = true from by simp; omega, Bool.true_and]
  congr 1
  omega
theorem bit_hi {h l i : Int} (uh : U64 h) (ul : U64 l) (h0 : 64 ≤ i) (h1 : i ≤ 127) : (bits .and .u64 (h / 2 ^ (i - 64).toNat) 1 == 1) = bitI (val h l) i := by
  rw [and_one (div_pow_u uh _)]
  obtain ⟨k, hk⟩ := Int.eq_ofNat_of_zero_le (show 0 ≤ i - 64 by omega)
  have hi : i = ((64 + k : Nat) : Int) := by omega
  rw [hk, hi]
  simp only [Int.toNat_natCast, bitI]
  have e : val h l / 2 ^ (64 + k) = h / 2 ^ k := by
    rw [Int.pow_add, ← Int.ediv_ediv_of_nonneg (by decide)]
    congr 1
    unfold U64 at ul; unfold val
    show (h * 18446744073709551616 + l) / 18446744073709551616 = h
    omega
  rw [e]
  simp only [show decide (0 ≤ ((64 + k : Nat) : Int)) = true from by simp; omega, show decide (((64 + k : Nat) : Int) < 128) = true from by simp; omega, Bool.true_and]
theorem bit_out_lo {n i : Int} (h : i < 0) : bitI n i = false := by
  unfold bitI; simp [show ¬ 0 ≤ i from by omega]
theorem bit_out_hi {n i : Int} (h : 127 < i) : bitI n i = false := by
  unfold bitI; simp [show ¬ i < 128 from by omega]
end Go.Proofs.YtjdjonekoodalaaGreatDoor
namespace Go.Proofs.YtjdjonekoodalaaGreatDoor
open Go.RowKit
def wval (a b c d : Int) : Int := a + b * 18446744073709551616 + c * 340282366920938463463374607431768211456 + d * 6277101735386680763835789423207666416102355444464034512896
def wfull : Int := 115792089237316195423570985008687907853269984665640564039457584007913129639936
def wd0 (n : Int) : Int := n % 18446744073709551616
def wd1 (n : Int) : Int := n / 18446744073709551616 % 18446744073709551616
def wd2 (n : Int) : Int := n / 340282366920938463463374607431768211456 % 18446744073709551616
def wd3 (n : Int) : Int := n / 6277101735386680763835789423207666416102355444464034512896 % 18446744073709551616
theorem wd0_u (n : Int) : U64 (wd0 n) := by unfold U64 wd0; omega
theorem wd1_u (n : Int) : U64 (wd1 n) := by unfold U64 wd1; omega
theorem wd2_u (n : Int) : U64 (wd2 n) := by unfold U64 wd2; omega
theorem wd3_u (n : Int) : U64 (wd3 n) := by unfold U64 wd3; omega
theorem wval_range {a b c d : Int} (ua : U64 a) (ub : U64 b) (uc : U64 c) (ud : U64 d) : 0 ≤ wval a b c d ∧ wval a b c d < wfull := by
  unfold U64 at ua ub uc ud; unfold wval wfull; omega
theorem wval_wd_mod (n : Int) : wval (wd0 n) (wd1 n) (wd2 n) (wd3 n) = n % wfull := by
  unfold wval wd0 wd1 wd2 wd3 wfull; omega
theorem wval_wd {n : Int} (h0 : 0 ≤ n) (h1 : n < wfull) : wval (wd0 n) (wd1 n) (wd2 n) (wd3 n) = n := by
  rw [wval_wd_mod]; exact Int.emod_eq_of_lt h0 h1
def WBox (w : World) (p : Nat) (a b c d : Int) : Prop :=
  p < w.heap.size ∧ w.cell? ⟨p, 0, none⟩ = some (.int .u64 a) ∧ w.cell? ⟨p, 1, none⟩ = some (.int .u64 b) ∧ w.cell? ⟨p, 2, none⟩ = some (.int .u64 c) ∧ w.cell? ⟨p, 3, none⟩ = some (.int .u64 d)
abbrev wbx (a b c d : Int) (t : TypeId) : Obj := .cells #[.int .u64 a, .int .u64 b, .int .u64 c, .int .u64 d] t
theorem WBox.later {W w1 : World} {p : Nat} {a b c d : Int} (x : WBox W p a b c d) (hb : Below W.heap.size W w1) : WBox w1 p a b c d :=
  ⟨Nat.lt_of_lt_of_le x.1 hb.size, cell_later hb x.2.1, cell_later hb x.2.2.1, cell_later hb x.2.2.2.1, cell_later hb x.2.2.2.2⟩
theorem WBox.below {B : Nat} {W w1 : World} {p : Nat} {a b c d : Int} (x : WBox W p a b c d) (hb : Below B W w1) (hp : p < B) : WBox w1 p a b c d :=
  ⟨Nat.lt_of_lt_of_le x.1 hb.size, (hb.cell (p := ⟨p, 0, none⟩) hp).trans x.2.1, (hb.cell (p := ⟨p, 1, none⟩) hp).trans x.2.2.1, (hb.cell (p := ⟨p, 2, none⟩) hp).trans x.2.2.2.1, (hb.cell (p := ⟨p, 3, none⟩) hp).trans x.2.2.2.2⟩
theorem WBox.alloc {w : World} {p : Nat} {a b c d : Int} (x : WBox w p a b c d) (o : Obj) : WBox (w.alloc o) p a b c d := x.later (bA (Below.refl _ _) o)
theorem WBox.drew {w : World} {p : Nat} {a b c d : Int} (x : WBox w p a b c d) : WBox w.drew p a b c d := x.later (Below.refl _ _).drew
theorem WBox.new (w : World) (a b c d : Int) (t : TypeId) : WBox (w.alloc (wbx a b c d t)) w.heap.size a b c d := by
  refine ⟨by simp, ?_, ?_, ?_, ?_⟩ <;> go_simp
theorem WBox.newAt {w : World} {p : Nat} (hp : p = w.heap.size) (a b c d : Int) (t : TypeId) : WBox (w.alloc (wbx a b c d t)) p a b c d := by
  subst hp; exact WBox.new w a b c d t
theorem WBox.of {w : World} {p : Nat} {a b c d : Int} (h0 : w.cell? ⟨p, 0, none⟩ = some (.int .u64 a)) (h1 : w.cell? ⟨p, 1, none⟩ = some (.int .u64 b)) (h2 : w.cell? ⟨p, 2, none⟩ = some (.int .u64 c)) (h3 : w.cell? ⟨p, 3, none⟩ = some (.int .u64 d)) : WBox w p a b c d :=
  ⟨World.block_lt_of_cell? _ _ h0, h0, h1, h2, h3⟩
def WFree (w : World) (p : Nat) : Prop := w.frozen? ⟨p, 0, none⟩ = false ∧ w.frozen? ⟨p, 1, none⟩ = false ∧ w.frozen? ⟨p, 2, none⟩ = false ∧ w.frozen? ⟨p, 3, none⟩ = false
theorem WFree.later {W w1 : World} {p : Nat} (x : WFree W p) (hp : p < W.heap.size) (hb : Below W.heap.size W w1) : WFree w1 p :=
  ⟨(hb.frozen (p := ⟨p, 0, none⟩) hp).trans x.1, (hb.frozen (p := ⟨p, 1, none⟩) hp).trans x.2.1, (hb.frozen (p := ⟨p, 2, none⟩) hp).trans x.2.2.1, (hb.frozen (p := ⟨p, 3, none⟩) hp).trans x.2.2.2⟩
theorem WFree.new (w : World) (a b c d : Int) (t : TypeId) : WFree (w.alloc (wbx a b c d t)) w.heap.size := by
  refine ⟨?_, ?_, ?_, ?_⟩ <;> go_simp
theorem WFree.set {w : World} {p : Nat} (x : WFree w p) (q : Addr) (v : Value) : WFree (w.setCell q v) p := by
  refine ⟨?_, ?_, ?_, ?_⟩ <;> (rw [World.frozen?_setCell]; first | exact x.1 | exact x.2.1 | exact x.2.2.1 | exact x.2.2.2)
theorem WBox.set0 {w : World} {p : Nat} {a b c d : Int} (x : WBox w p a b c d) (v : Int) : WBox (w.setCell ⟨p, 0, none⟩ (.int .u64 v)) p v b c d := by
  obtain ⟨x0, y0, y1, y2, y3⟩ := x
  exact ⟨by simpa using x0, World.cell?_setCell_same _ _ _ y0, (World.cell?_setCell_other _ _ _ _ (by simp)).trans y1, (World.cell?_setCell_other _ _ _ _ (by simp)).trans y2, (World.cell?_setCell_other _ _ _ _ (by simp)).trans y3⟩
theorem WBox.set1 {w : World} {p : Nat} {a b c d : Int} (x : WBox w p a b c d) (v : Int) : WBox (w.setCell ⟨p, 1, none⟩ (.int .u64 v)) p a v c d := by
  obtain ⟨x0, y0, y1, y2, y3⟩ := x
  exact ⟨by simpa using x0, (World.cell?_setCell_other _ _ _ _ (by simp)).trans y0, World.cell?_setCell_same _ _ _ y1, (World.cell?_setCell_other _ _ _ _ (by simp)).trans y2, (World.cell?_setCell_other _ _ _ _ (by simp)).trans y3⟩
theorem WBox.set2 {w : World} {p : Nat} {a b c d : Int} (x : WBox w p a b c d) (v : Int) : WBox (w.setCell ⟨p, 2, none⟩ (.int .u64 v)) p a b v d := by
  obtain ⟨x0, y0, y1, y2, y3⟩ := x
  exact ⟨by simpa using x0, (World.cell?_setCell_other _ _ _ _ (by simp)).trans y0, (World.cell?_setCell_other _ _ _ _ (by simp)).trans y1, World.cell?_setCell_same _ _ _ y2, (World.cell?_setCell_other _ _ _ _ (by simp)).trans y3⟩
theorem WBox.set3 {w : World} {p : Nat} {a b c d : Int} (x : WBox w p a b c d) (v : Int) : WBox (w.setCell ⟨p, 3, none⟩ (.int .u64 v)) p a b c v := by
  obtain ⟨x0, y0, y1, y2, y3⟩ := x
  exact ⟨by simpa using x0, (World.cell?_setCell_other _ _ _ _ (by simp)).trans y0, (World.cell?_setCell_other _ _ _ _ (by simp)).trans y1, (World.cell?_setCell_other _ _ _ _ (by simp)).trans y2, World.cell?_setCell_same _ _ _ y3⟩
theorem WBox.far {w : World} {p : Nat} {a b c d : Int} (x : WBox w p a b c d) {q : Addr} (hne : q.block ≠ p) (v : Value) : WBox (w.setCell q v) p a b c d := by
  obtain ⟨x0, y0, y1, y2, y3⟩ := x
  exact ⟨by simpa using x0, (World.cell?_setCell_far _ _ _ _ hne).trans y0, (World.cell?_setCell_far _ _ _ _ hne).trans y1, (World.cell?_setCell_far _ _ _ _ hne).trans y2, (World.cell?_setCell_far _ _ _ _ hne).trans y3⟩
end Go.Proofs.YtjdjonekoodalaaGreatDoor
namespace Go.Proofs.YtjdjonekoodalaaGreatDoor
open Go.RowKit
theorem bits_add (x y c : Int) (hx : U64 x) (hy : U64 y) (hc0 : 0 ≤ c) (hc : c ≤ 1) (w : World) :
    (callFunc 168 #[.int .u64 x, .int .u64 y, .int .u64 c]).run Tryz.prog w = .ok (.value (.tuple #[.int .u64 (addLo x y c), .int .u64 (addC x y c)])) w := by
  rw [run_callFunc_extern Tryz.func168 (by kernel_rfl) (by kernel_rfl) (by kernel_rfl) (e := add64Entry) (by kernel_rfl), run_add64 x y c hx.1 hy.1 hc0 hc]
  rfl
theorem bits_sub (x y c : Int) (hx : U64 x) (hy : U64 y) (hc0 : 0 ≤ c) (hc : c ≤ 1) (w : World) :
    (callFunc 131 #[.int .u64 x, .int .u64 y, .int .u64 c]).run Tryz.prog w = .ok (.value (.tuple #[.int .u64 (subLo x y c), .int .u64 (subC x y c)])) w := by
  obtain ⟨X, rfl⟩ := Int.eq_ofNat_of_zero_le hx.1
  obtain ⟨Y, rfl⟩ := Int.eq_ofNat_of_zero_le hy.1
  obtain ⟨C, rfl⟩ := Int.eq_ofNat_of_zero_le hc0
  rw [run_callFunc_extern Tryz.func131 (by kernel_rfl) (by kernel_rfl) (by kernel_rfl) (e := sub64Entry) (by kernel_rfl), run_sub64 X Y C (by omega)]
  have e1 : (((X + 18446744073709551616 - Y - C) % 18446744073709551616 : Nat) : Int) = subLo X Y C := by
    have := hy.2
    unfold subLo; omega
  have e2 : ((if X < Y + C then 1 else 0 : Nat) : Int) = subC X Y C := by
    unfold subC; split <;> split <;> omega
  rw [e1, e2]
  rfl
theorem add_any (ah al bh bl : Int) (u1 : U64 ah) (u2 : U64 al) (u3 : U64 bh) (u4 : U64 bl) (w : World) :
    Calls Tryz.prog 128 #[.agg #[.int .u64 ah, .int .u64 al], .agg #[.int .u64 bh, .int .u64 bl]] w fun e w' =>
      e = .returned (.tuple #[.agg #[.int .u64 (hiOf (val ah al + val bh bl)), .int .u64 (loOf (val ah al + val bh bl))], .bool (decide (full ≤ val ah al + val bh bl))]) ∧ Below w.heap.size w w' := by
  rw [← add_lo u2 u4, ← add_hi u2 u4, ← add_carry u2 u4 u1 u3]
  have k1 := bits_add al bl 0 u2 u4 (by omega) (by omega)
  have k2 := bits_add ah bh (addC al bl 0) u1 u3 (addC_01 u2 u4 (by omega) (by omega)).1 (addC_01 u2 u4 (by omega) (by omega)).2
  clear u1 u2 u3 u4
  go_enter Tryz.func128, Tryz.ntmps128
  go_wp2
  refine bodyPost_ret (v := .tuple #[.agg #[.int .u64 (addLo ah bh (addC al bl 0)), .int .u64 (addLo al bl 0)], .bool (addC ah bh (addC al bl 0) != 0)]) (by simp [results, Tryz.results128, go_sem]) rfl ⟨rfl, ?_⟩
  exact (((Below.refl _ _).alloc (Nat.le_refl _) _).alloc (by simp) _).alloc (by simp; omega) _
theorem sub_any (ah al bh bl : Int) (u1 : U64 ah) (u2 : U64 al) (u3 : U64 bh) (u4 : U64 bl) (w : World) :
    Calls Tryz.prog 88 #[.agg #[.int .u64 ah, .int .u64 al], .agg #[.int .u64 bh, .int .u64 bl]] w fun e w' =>
      e = .returned (.tuple #[.agg #[.int .u64 (hiOf (val ah al - val bh bl)), .int .u64 (loOf (val ah al - val bh bl))], .bool (decide (val ah al < val bh bl))]) ∧ Below w.heap.size w w' := by
  rw [← sub_lo u2 u4, ← sub_hi u2 u4, ← sub_borrow u2 u4 u1 u3]
  have k1 := bits_sub al bl 0 u2 u4 (by omega) (by omega)
  have k2 := bits_sub ah bh (subC al bl 0) u1 u3 (subC_01 al bl 0).1 (subC_01 al bl 0).2
  clear u1 u2 u3 u4
  go_enter Tryz.func88, Tryz.ntmps88
  go_wp2
  refine bodyPost_ret (v := .tuple #[.agg #[.int .u64 (subLo ah bh (subC al bl 0)), .int .u64 (subLo al bl 0)], .bool (subC ah bh (subC al bl 0) != 0)]) (by simp [results, Tryz.results88, go_sem]) rfl ⟨rfl, ?_⟩
  exact (((Below.refl _ _).alloc (Nat.le_refl _) _).alloc (by simp) _).alloc (by simp; omega) _
theorem zero_any (ah al : Int) (u1 : U64 ah) (u2 : U64 al) (w : World) :
    Calls Tryz.prog 87 #[.agg #[.int .u64 ah, .int .u64 al]] w fun e w' =>
      e = .returned (.bool (val ah al == 0)) ∧ Below w.heap.size w w' := by
  have hz := val_zero u1 u2
  have Hz := Lib.hid hz
  clear hz u1 u2
  go_enter Tryz.func87, Tryz.ntmps87
  go_wp2
  all_goals
    go_ret
    exact ⟨by rw [Hz.out]; simp [*], (Below.refl _ _).alloc (Nat.le_refl _) _⟩
theorem mul64_nat (x y : Nat) (hx : x < 18446744073709551616) (hy : y < 18446744073709551616) (w : World) :
    Calls Tryz.prog 188 #[.int .u64 x, .int .u64 y] w fun e w' =>
      e = .returned (.tuple #[.int .u64 ((x * y / 18446744073709551616 : Nat) : Int), .int .u64 ((x * y % 18446744073709551616 : Nat) : Int)]) ∧ w = w' := by
  obtain ⟨bd, bt, bw, hhi⟩ := Lib.mul64_hi x y hx hy
  have ba := Lib.half_mul_le (a := x / 4294967296) (b := y / 4294967296) (by omega) (by omega)
  have bb := Lib.half_mul_le (a := x / 4294967296) (b := y % 4294967296) (by omega) (by omega)
  have bc := Lib.half_mul_le (a := x % 4294967296) (b := y / 4294967296) (by omega) (by omega)
  have ba' : x / 4294967296 * (y / 4294967296) < 18446744073709551616 := by omega
  have bb' : x / 4294967296 * (y % 4294967296) < 18446744073709551616 := by omega
  have bc' : x % 4294967296 * (y / 4294967296) < 18446744073709551616 := by omega
  have bh1 : x / 4294967296 * (y / 4294967296) + (x / 4294967296 * (y % 4294967296) + x % 4294967296 * (y % 4294967296) / 4294967296) / 4294967296 < 18446744073709551616 := by omega
  have bh : x / 4294967296 * (y / 4294967296) + (x / 4294967296 * (y % 4294967296) + x % 4294967296 * (y % 4294967296) / 4294967296) / 4294967296 + ((x / 4294967296 * (y % 4294967296) + x % 4294967296 * (y % 4294967296) / 4294967296) % 4294967296 + x % 4294967296 * (y / 4294967296)) / 4294967296 < 18446744073709551616 := by omega
  go_enter Tryz.func188, Tryz.ntmps188
  go_wp2
  simp only [Mul64.maskN x hx, Mul64.maskN y hy, Mul64.divN, Mul64.mulN, Mul64.addN, Mul64.wrapN _ bd, Mul64.wrapN _ bb', Mul64.wrapN _ bt, Mul64.maskN _ bt, Mul64.wrapN _ bc', Mul64.wrapN _ bw, Mul64.wrapN _ ba', Mul64.wrapN _ bh1, Mul64.wrapN _ bh, Mul64.wrapM (x * y)]
  rw [hhi]
  go_ret2
  exact ⟨rfl, rfl⟩
theorem mul64_any (x y : Int) (u1 : U64 x) (u2 : U64 y) (w : World) :
    Calls Tryz.prog 188 #[.int .u64 x, .int .u64 y] w fun e w' =>
      e = .returned (.tuple #[.int .u64 (hiOf (x * y)), .int .u64 (loOf (x * y))]) ∧ w = w' := by
  obtain ⟨X, rfl⟩ := Int.eq_ofNat_of_zero_le u1.1
  obtain ⟨Y, rfl⟩ := Int.eq_ofNat_of_zero_le u2.1
  have hx : X < 18446744073709551616 := by have := u1.2; omega
  have hy : Y < 18446744073709551616 := by have := u2.2; omega
  have hp : X * Y < 18446744073709551616 * 18446744073709551616 := Nat.mul_lt_mul'' hx hy
  have e1 : ((X * Y / 18446744073709551616 : Nat) : Int) = hiOf ((X : Int) * (Y : Int)) := by
    rw [← Int.natCast_mul]; unfold hiOf; omega
  have e2 : ((X * Y % 18446744073709551616 : Nat) : Int) = loOf ((X : Int) * (Y : Int)) := by
    rw [← Int.natCast_mul]; unfold loOf; omega
  rw [← e1, ← e2]
  exact mul64_nat X Y hx hy w
theorem mul_any (x y : Int) (u1 : U64 x) (u2 : U64 y) (w : World) :
    Calls Tryz.prog 160 #[.int .u64 x, .int .u64 y] w fun e w' =>
      e = .returned (.agg #[.int .u64 (hiOf (x * y)), .int .u64 (loOf (x * y))]) ∧ Below w.heap.size w w' := by
  go_enter Tryz.func160, Tryz.ntmps160
  go_wp2_with (go_at_call 188; refine (mul64_any x y u1 u2 _).mono ?_; rintro e w' ⟨rfl, rfl⟩)
  refine bodyPost_ret (v := .agg #[.int .u64 (hiOf (x * y)), .int .u64 (loOf (x * y))]) (by simp [results, Tryz.results160, go_sem]) rfl ⟨rfl, ?_⟩
  exact (Below.refl _ _).alloc (Nat.le_refl _) _
theorem bit_any (ah al i : Int) (u1 : U64 ah) (u2 : U64 al) (w : World) :
    Calls Tryz.prog 103 #[.agg #[.int .u64 ah, .int .u64 al], .int .i64 i] w fun e w' =>
      e = .returned (.bool (bitI (val ah al) i)) ∧ Below w.heap.size w w' := by
  by_cases h0 : i < 0
  · rw [bit_out_lo h0]
    go_enter Tryz.func103, Tryz.ntmps103
    go_wp2
    go_ret
    exact ⟨rfl, (Below.refl _ _).alloc (Nat.le_refl _) _⟩
  · by_cases h1 : 127 < i
    · rw [bit_out_hi h1]
      go_enter Tryz.func103, Tryz.ntmps103
      go_wp2
      go_ret
      exact ⟨rfl, (Below.refl _ _).alloc (Nat.le_refl _) _⟩
    · by_cases h2 : i < 64
      · rw [← bit_lo u2 (by omega) h2]
        go_enter Tryz.func103, Tryz.ntmps103
        go_wp2
        go_ret
        exact ⟨rfl, (Below.refl _ _).alloc (Nat.le_refl _) _⟩
      · rw [← bit_hi u1 u2 (by omega) (by omega)]
        go_enter Tryz.func103, Tryz.ntmps103
        go_wp2
        go_ret
        exact ⟨rfl, (Below.refl _ _).alloc (Nat.le_refl _) _⟩
end Go.Proofs.YtjdjonekoodalaaGreatDoor
namespace Go.Proofs.YtjdjonekoodalaaGreatDoor
open Go.RowKit
theorem compare_any (x y : Int) (w : World) :
    Calls Tryz.prog 55 #[.int .u64 x, .int .u64 y] w fun e w' => e = .returned (.int .i64 (cmpI x y)) ∧ w = w' := by
  have hn := cmpI_cases x y
  have Hn := Lib.hid hn
  clear hn
  by_cases h1 : x < y
  · go_enter Tryz.func55, Tryz.ntmps55
    go_wp2
    go_ret
    exact ⟨by rw [(Hn.out).1 h1]; rfl, rfl⟩
  · by_cases h2 : y < x
    · go_enter Tryz.func55, Tryz.ntmps55
      go_wp2
      go_ret
      exact ⟨by rw [(Hn.out).2.1 h2]; rfl, rfl⟩
    · go_enter Tryz.func55, Tryz.ntmps55
      go_wp2
      go_ret
      exact ⟨by rw [(Hn.out).2.2 (by omega)]; rfl, rfl⟩
theorem first_zero (d : Int) (b : Nat) (w : World) (h0 : w.cell? ⟨b, 0, none⟩ = some (.int .i64 0)) (h1 : w.cell? ⟨b, 1, none⟩ = some (.int .i64 d)) :
    Calls Tryz.prog 54 #[.slice (some ⟨b, 0, none⟩) 2 2] w fun e w' => e = .returned (.int .i64 d) ∧ w = w' := by
  go_enter Tryz.func54, Tryz.ntmps54
  go_wp2
  go_loop [7] (fun i => ∃ k : Nat, k ≤ 2 ∧ i = .int .i64 k ∧ (k = 2 → d = 0)) (fun i => 2 - (intOf i).toNat)
  case atStart => exact ⟨0, by omega, rfl, by omega⟩
  case round =>
    obtain ⟨k, hk, rfl, hd⟩ := hrel
    have HD := Lib.hid hd
    clear hd
    obtain rfl | rfl | rfl : k = 0 ∨ k = 1 ∨ k = 2 := by omega
    · go_wp2
      go_round
      case rel => exact ⟨1, by omega, by go_num, by omega⟩
      case measure => simp [intOf]
    · by_cases hd : d = 0
      · subst hd
        go_wp2
        go_round
        case rel => exact ⟨2, by omega, by go_num, by simp⟩
        case measure => simp [intOf]
      · have hd' : (d != 0) = true := by simp [hd]
        go_wp2
        go_ret
        exact ⟨rfl, rfl⟩
    · have hd0 : d = 0 := HD.out rfl
      clear HD
      subst hd0
      go_wp2
      go_ret
      exact ⟨rfl, rfl⟩
theorem first_not (c : Int) (b : Nat) (w : World) (h0 : w.cell? ⟨b, 0, none⟩ = some (.int .i64 c)) (hc : (c != 0) = true) :
    Calls Tryz.prog 54 #[.slice (some ⟨b, 0, none⟩) 2 2] w fun e w' => e = .returned (.int .i64 c) ∧ w = w' := by
  go_enter Tryz.func54, Tryz.ntmps54
  go_wp2
  go_loop [7] (fun i => i = .int .i64 0) (fun _ => 0)
  case atStart => rfl
  case round =>
    subst hrel
    go_wp2
    go_ret
    exact ⟨rfl, rfl⟩
def firstOf (c d : Int) : Int := if (c != 0) = true then c else d
theorem first_any (c d : Int) (b : Nat) (w : World) (h0 : w.cell? ⟨b, 0, none⟩ = some (.int .i64 c)) (h1 : w.cell? ⟨b, 1, none⟩ = some (.int .i64 d)) :
    Calls Tryz.prog 54 #[.slice (some ⟨b, 0, none⟩) 2 2] w fun e w' => e = .returned (.int .i64 (firstOf c d)) ∧ w = w' := by
  by_cases hc : (c != 0) = true
  · unfold firstOf; rw [if_pos hc]; exact first_not c b w h0 hc
  · unfold firstOf; rw [if_neg hc]
    have : c = 0 := by simpa using hc
    subst this
    exact first_zero d b w h0 h1
theorem cmp_first {ah al bh bl : Int} (u1 : U64 ah) (u2 : U64 al) (u3 : U64 bh) (u4 : U64 bl) : firstOf (cmpI ah bh) (cmpI al bl) = cmpI (val ah al) (val bh bl) := by
  unfold U64 at u1 u2 u3 u4
  unfold firstOf
  by_cases h : ah < bh
  · rw [(cmpI_cases ah bh).1 h, if_pos (by decide), (cmpI_cases _ _).1 (by unfold val; omega)]
  · by_cases h' : bh < ah
    · rw [(cmpI_cases ah bh).2.1 h', if_pos (by decide), (cmpI_cases _ _).2.1 (by unfold val; omega)]
    · obtain rfl : ah = bh := by omega
      rw [(cmpI_cases ah ah).2.2 rfl, if_neg (by decide)]
      by_cases g : al < bl
      · rw [(cmpI_cases al bl).1 g, (cmpI_cases _ _).1 (by unfold val; omega)]
      · by_cases g' : bl < al
        · rw [(cmpI_cases al bl).2.1 g', (cmpI_cases _ _).2.1 (by unfold val; omega)]
        · rw [(cmpI_cases al bl).2.2 (by omega), (cmpI_cases _ _).2.2 (by unfold val; omega)]
theorem cmp_any (ah al bh bl : Int) (u1 : U64 ah) (u2 : U64 al) (u3 : U64 bh) (u4 : U64 bl) (w : World) :
    Calls Tryz.prog 19 #[.agg #[.int .u64 ah, .int .u64 al], .agg #[.int .u64 bh, .int .u64 bl]] w fun e w' =>
      e = .returned (.int .i64 (cmpI (val ah al) (val bh bl))) ∧ Below w.heap.size w w' := by
  rw [← cmp_first u1 u2 u3 u4]
  clear u1 u2 u3 u4
  go_enter Tryz.func19, Tryz.ntmps19
  go_wp2
  go_region_held3 (fun w' => w'.cell? ⟨w.heap.size, 0, none⟩ = some (.int .u64 ah) ∧ w'.cell? ⟨w.heap.size, 1, none⟩ = some (.int .u64 al) ∧ w'.cell? ⟨w.heap.size + 1, 0, none⟩ = some (.int .u64 bh) ∧ w'.cell? ⟨w.heap.size + 1, 1, none⟩ = some (.int .u64 bl)) (go_keep)
    (first | (go_at_call 55; refine (compare_any _ _ _).mono ?_; rintro e w' ⟨rfl, rfl⟩) | (go_at_call 54; refine (first_any (cmpI ah bh) (cmpI al bl) _ _ ?_ ?_).mono ?_; (go_simp); (go_simp); rintro e w' ⟨rfl, rfl⟩))
  all_goals
    go_wp2
    go_ret
    exact ⟨rfl, ((((Below.refl _ _).alloc (Nat.le_refl _) _).alloc (by simp) _).alloc (by simp; omega) _).drew⟩
end Go.Proofs.YtjdjonekoodalaaGreatDoor
namespace Go.Proofs.YtjdjonekoodalaaGreatDoor
theorem wd_of {d0 d1 d2 d3 n c : Int} (u0 : U64 d0) (u1 : U64 d1) (u2 : U64 d2) (u3 : U64 d3) (h : n = wval d0 d1 d2 d3 + c * wfull) : wd0 n = d0 ∧ wd1 n = d1 ∧ wd2 n = d2 ∧ wd3 n = d3 := by
  unfold U64 at u0 u1 u2 u3; unfold wval wfull at h; unfold wd0 wd1 wd2 wd3
  refine ⟨?_, ?_, ?_, ?_⟩ <;> omega
theorem addLo_eq (x y c : Int) : x + y + c = addLo x y c + addC x y c * 18446744073709551616 := by unfold addLo addC; omega
theorem subLo_eq {x y c : Int} (hx : U64 x) (hy : U64 y) (h0 : 0 ≤ c) (h1 : c ≤ 1) : x - y - c = subLo x y c - subC x y c * 18446744073709551616 := by
  unfold U64 at hx hy; unfold subLo subC; split <;> omega
theorem wadd_math {a0 a1 a2 a3 b0 b1 b2 b3 : Int} (ua0 : U64 a0) (ua1 : U64 a1) (ua2 : U64 a2) (ua3 : U64 a3) (ub0 : U64 b0) (ub1 : U64 b1) (ub2 : U64 b2) (ub3 : U64 b3) :
    (addLo a0 b0 0 = wd0 (wval a0 a1 a2 a3 + wval b0 b1 b2 b3) ∧ addLo a1 b1 (addC a0 b0 0) = wd1 (wval a0 a1 a2 a3 + wval b0 b1 b2 b3) ∧ addLo a2 b2 (addC a1 b1 (addC a0 b0 0)) = wd2 (wval a0 a1 a2 a3 + wval b0 b1 b2 b3) ∧ addLo a3 b3 (addC a2 b2 (addC a1 b1 (addC a0 b0 0))) = wd3 (wval a0 a1 a2 a3 + wval b0 b1 b2 b3)) ∧
    (addC a3 b3 (addC a2 b2 (addC a1 b1 (addC a0 b0 0))) != 0) = decide (wfull ≤ wval a0 a1 a2 a3 + wval b0 b1 b2 b3) := by
  have e0 := addLo_eq a0 b0 0
  have e1 := addLo_eq a1 b1 (addC a0 b0 0)
  have e2 := addLo_eq a2 b2 (addC a1 b1 (addC a0 b0 0))
  have e3 := addLo_eq a3 b3 (addC a2 b2 (addC a1 b1 (addC a0 b0 0)))
  have l0 := addLo_u a0 b0 0
  have l1 := addLo_u a1 b1 (addC a0 b0 0)
  have l2 := addLo_u a2 b2 (addC a1 b1 (addC a0 b0 0))
  have l3 := addLo_u a3 b3 (addC a2 b2 (addC a1 b1 (addC a0 b0 0)))
  have k1 := addC_01 ua0 ub0 (c := 0) (by omega) (by omega)
  have k2 := addC_01 ua1 ub1 k1.1 k1.2
  have k3 := addC_01 ua2 ub2 k2.1 k2.2
  have k4 := addC_01 ua3 ub3 k3.1 k3.2
  generalize addC a3 b3 (addC a2 b2 (addC a1 b1 (addC a0 b0 0))) = c4 at *
  generalize addLo a3 b3 (addC a2 b2 (addC a1 b1 (addC a0 b0 0))) = d3 at *
  generalize addC a2 b2 (addC a1 b1 (addC a0 b0 0)) = c3 at *
  generalize addLo a2 b2 (addC a1 b1 (addC a0 b0 0)) = d2 at *
  generalize addC a1 b1 (addC a0 b0 0) = c2 at *
  generalize addLo a1 b1 (addC a0 b0 0) = d1 at *
  generalize addC a0 b0 0 = c1 at *
  generalize addLo a0 b0 0 = d0 at *
  have hs : wval a0 a1 a2 a3 + wval b0 b1 b2 b3 = wval d0 d1 d2 d3 + c4 * wfull := by unfold wval wfull; omega
  have hw := wd_of l0 l1 l2 l3 hs
  have hr := wval_range l0 l1 l2 l3
  refine ⟨⟨hw.1.symm, hw.2.1.symm, hw.2.2.1.symm, hw.2.2.2.symm⟩, ?_⟩
  rw [Bool.eq_iff_iff]; simp only [bne_iff_ne, ne_eq, decide_eq_true_eq]
  rw [hs]; generalize wval d0 d1 d2 d3 = m at *; unfold wfull at *; omega
theorem wsub_math {a0 a1 a2 a3 b0 b1 b2 b3 : Int} (ua0 : U64 a0) (ua1 : U64 a1) (ua2 : U64 a2) (ua3 : U64 a3) (ub0 : U64 b0) (ub1 : U64 b1) (ub2 : U64 b2) (ub3 : U64 b3) :
    (subLo a0 b0 0 = wd0 (wval a0 a1 a2 a3 - wval b0 b1 b2 b3) ∧ subLo a1 b1 (subC a0 b0 0) = wd1 (wval a0 a1 a2 a3 - wval b0 b1 b2 b3) ∧ subLo a2 b2 (subC a1 b1 (subC a0 b0 0)) = wd2 (wval a0 a1 a2 a3 - wval b0 b1 b2 b3) ∧ subLo a3 b3 (subC a2 b2 (subC a1 b1 (subC a0 b0 0))) = wd3 (wval a0 a1 a2 a3 - wval b0 b1 b2 b3)) ∧
    (subC a3 b3 (subC a2 b2 (subC a1 b1 (subC a0 b0 0))) != 0) = decide (wval a0 a1 a2 a3 < wval b0 b1 b2 b3) := by
  have k1 := subC_01 a0 b0 0
  have k2 := subC_01 a1 b1 (subC a0 b0 0)
  have k3 := subC_01 a2 b2 (subC a1 b1 (subC a0 b0 0))
  have k4 := subC_01 a3 b3 (subC a2 b2 (subC a1 b1 (subC a0 b0 0)))
  have e0 := subLo_eq ua0 ub0 (c := 0) (by omega) (by omega)
  have e1 := subLo_eq ua1 ub1 k1.1 k1.2
  have e2 := subLo_eq ua2 ub2 k2.1 k2.2
  have e3 := subLo_eq ua3 ub3 k3.1 k3.2
  have l0 := subLo_u a0 b0 0
  have l1 := subLo_u a1 b1 (subC a0 b0 0)
  have l2 := subLo_u a2 b2 (subC a1 b1 (subC a0 b0 0))
  have l3 := subLo_u a3 b3 (subC a2 b2 (subC a1 b1 (subC a0 b0 0)))
  generalize subC a3 b3 (subC a2 b2 (subC a1 b1 (subC a0 b0 0))) = c4 at *
  generalize subLo a3 b3 (subC a2 b2 (subC a1 b1 (subC a0 b0 0))) = d3 at *
  generalize subC a2 b2 (subC a1 b1 (subC a0 b0 0)) = c3 at *
  generalize subLo a2 b2 (subC a1 b1 (subC a0 b0 0)) = d2 at *
  generalize subC a1 b1 (subC a0 b0 0) = c2 at *
  generalize subLo a1 b1 (subC a0 b0 0) = d1 at *
  generalize subC a0 b0 0 = c1 at *
  generalize subLo a0 b0 0 = d0 at *
  have hs : wval a0 a1 a2 a3 - wval b0 b1 b2 b3 = wval d0 d1 d2 d3 + (-c4) * wfull := by unfold wval wfull; omega
  have hw := wd_of l0 l1 l2 l3 hs
  have hr := wval_range l0 l1 l2 l3
  refine ⟨⟨hw.1.symm, hw.2.1.symm, hw.2.2.1.symm, hw.2.2.2.symm⟩, ?_⟩
  rw [Bool.eq_iff_iff]; simp only [bne_iff_ne, ne_eq, decide_eq_true_eq]
  generalize wval d0 d1 d2 d3 = m at *
  generalize wval a0 a1 a2 a3 = x at *
  generalize wval b0 b1 b2 b3 = y at *
  unfold wfull at *; omega
theorem wval_val {a0 a1 a2 a3 : Int} : wval a0 a1 a2 a3 = val a1 a0 + val a3 a2 * 340282366920938463463374607431768211456 := by unfold wval val; omega
theorem wcmp {a0 a1 a2 a3 b0 b1 b2 b3 : Int} (ua0 : U64 a0) (ua1 : U64 a1) (ua2 : U64 a2) (ua3 : U64 a3) (ub0 : U64 b0) (ub1 : U64 b1) (ub2 : U64 b2) (ub3 : U64 b3) :
    (cmpI (val a3 a2) (val b3 b2) ≠ 0 → cmpI (wval a0 a1 a2 a3) (wval b0 b1 b2 b3) = cmpI (val a3 a2) (val b3 b2)) ∧ (cmpI (val a3 a2) (val b3 b2) = 0 → cmpI (wval a0 a1 a2 a3) (wval b0 b1 b2 b3) = cmpI (val a1 a0) (val b1 b0)) := by
  rw [wval_val, wval_val]
  have h1 := val_range ua3 ua2; have h2 := val_range ub3 ub2; have h3 := val_range ua1 ua0; have h4 := val_range ub1 ub0
  generalize val a3 a2 = x at *; generalize val b3 b2 = y at *; generalize val a1 a0 = p at *; generalize val b1 b0 = q at *
  unfold full at *
  have c1 := cmpI_cases x y; have c2 := cmpI_cases p q; have c3 := cmpI_cases (p + x * 340282366920938463463374607431768211456) (q + y * 340282366920938463463374607431768211456)
  rcases Int.lt_trichotomy x y with h | h | h
  · rw [c1.1 h, c3.1 (by omega)]; simp
  · subst h
    rw [c1.2.2 rfl]
    refine ⟨fun h => absurd rfl h, fun _ => ?_⟩
    rcases Int.lt_trichotomy p q with g | g | g
    · rw [c2.1 g, c3.1 (by omega)]
    · rw [c2.2.2 g, c3.2.2 (by omega)]
    · rw [c2.2.1 g, c3.2.1 (by omega)]
  · rw [c1.2.1 h, c3.2.1 (by omega)]; simp
theorem mul_small {a b : Int} (ha : U64 a) (hb : U64 b) : 0 ≤ a * b ∧ a * b ≤ 340282366920938463426481119284349108225 := by
  obtain ⟨X, rfl⟩ := Int.eq_ofNat_of_zero_le ha.1
  obtain ⟨Y, rfl⟩ := Int.eq_ofNat_of_zero_le hb.1
  have hx : X ≤ 18446744073709551615 := by have := ha.2; omega
  have hy : Y ≤ 18446744073709551615 := by have := hb.2; omega
  have hp : X * Y ≤ 18446744073709551615 * 18446744073709551615 := Nat.mul_le_mul hx hy
  rw [← Int.natCast_mul]; omega
theorem val_prod (ah al bh bl : Int) : val ah al * val bh bl = al * bl + (ah * bh) * 340282366920938463463374607431768211456 + (ah * bl) * 18446744073709551616 + (al * bh) * 18446744073709551616 := by
  unfold val
  rw [Int.add_mul, Int.mul_add, Int.mul_add]
  have e1 : ah * 18446744073709551616 * (bh * 18446744073709551616) = (ah * bh) * 340282366920938463463374607431768211456 := by
    rw [show (340282366920938463463374607431768211456 : Int) = 18446744073709551616 * 18446744073709551616 from by decide +kernel]; ac_rfl
  have e2 : ah * 18446744073709551616 * bl = (ah * bl) * 18446744073709551616 := by ac_rfl
  have e3 : al * (bh * 18446744073709551616) = (al * bh) * 18446744073709551616 := by ac_rfl
  rw [e1, e2, e3]; omega
theorem hilo_of (n : Int) (h0 : 0 ≤ n) (h1 : n < full) : n = loOf n + hiOf n * 18446744073709551616 := by unfold loOf hiOf full at *; omega
end Go.Proofs.YtjdjonekoodalaaGreatDoor
namespace Go.Proofs.YtjdjonekoodalaaGreatDoor
open Go.RowKit
section
variable {P : Program} {ops : Array Oper} {Q : Exit → Act → World → Prop} {md : Region.Mode} {sts ds : List Nat} {S : List Bool → List Value → World → Prop}
def stBits (sts : List Nat) (L : Array Bool) : List Bool := sts.map fun k => L.getD k false
def dsVals (ds : List Nat) (a : Act) : List Value := ds.map fun d => a.tmps.getD d undef
theorem stBits_set {i : Nat} {L : Array Bool} : ∀ {sts : List Nat}, i ∉ sts → stBits sts (L.setIfInBounds i true) = stBits sts L
  | [], _ => rfl
  | k :: ks, h => by
    have h1 : i ≠ k := fun e => h (e ▸ List.mem_cons_self)
    have h2 := stBits_set (L := L) (sts := ks) fun h' => h (List.mem_cons_of_mem _ h')
    show (_ :: stBits ks _) = (_ :: stBits ks _)
    rw [h2]; simp only [getD_set_ne false h1]
theorem dsVals_put {d : Option Tmp} {v : Value} {a : Act} : ∀ {ds : List Nat}, (∀ t, d = some t → t ∉ ds) → dsVals ds (a.put d v) = dsVals ds a
  | [], _ => rfl
  | k :: ks, h => by
    have h2 := dsVals_put (d := d) (v := v) (a := a) (ds := ks) fun t ht h' => h t ht (List.mem_cons_of_mem _ h')
    show (_ :: dsVals ks _) = (_ :: dsVals ks _)
    rw [h2]
    cases d with
    | none => rfl
    | some t =>
      have hne : t ≠ k := fun e => h t rfl (e ▸ List.mem_cons_self)
      simp [Act.put, Array.getElem?_setIfInBounds_ne hne]
def wpF (P : Program) (md : Region.Mode) (ops : Array Oper) (Q : Exit → Act → World → Prop) (sts ds : List Nat) (S : List Bool → List Value → World → Prop) : Nat → Array Bool → Act → Prop
  | 0, L, a => Region.ready md ops L = [] ∧ ∀ w, S (stBits sts L) (dsVals ds a) w → Q .normal a w
  | fuel + 1, L, a => (Region.ready md ops L = [] → ∀ w, S (stBits sts L) (dsVals ds a) w → Q .normal a w) ∧
    ∀ i ∈ Region.ready md ops L, ∀ w, S (stBits sts L) (dsVals ds a) w →
      wpOp P ops Q i (fun a' w' => S (stBits sts (L.setIfInBounds i true)) (dsVals ds a') w' ∧ wpF P md ops Q sts ds S fuel (L.setIfInBounds i true) a') a w
theorem wpF_sound : ∀ (fuel : Nat) (L : Array Bool) (a : Act), wpF P md ops Q sts ds S fuel L a → ∀ w, S (stBits sts L) (dsVals ds a) w → wpAny P md ops Q fuel L a w
  | 0, _, _, h, w, hS => ⟨h.1, h.2 w hS⟩
  | fuel + 1, _, _, h, w, hS => ⟨fun h0 => h.1 h0 w hS, fun i hi => wpOp_mono (fun a' w' h' => wpF_sound fuel _ a' h'.2 w' h'.1) (h.2 i hi w hS)⟩
def RunsTo (P : Program) (n : Sem Next) (w : World) (v : Value) (T : World → Prop) : Prop :=
  match n.run P w with
  | .ok (.value u) w' => u = v ∧ T w'
  | .ok (.enter f args) w' => Calls P f args w' fun e w'' => e = .returned v ∧ T w''
  | _ => False
def Gives (P : Program) (ops : Array Oper) (S : List Bool → List Value → World → Prop) (B : List Bool → Prop) (o : Oper) (v : Value) (a : Act) : Prop :=
  (Region.wanted o (yielded ops a.tmps) = true ∧ ∀ bs vs w, B bs → S bs vs w → RunsTo P (execOp a.eval o) w v (S bs vs)) ∨
  (Region.wanted o (yielded ops a.tmps) = false ∧ v = undef)
theorem Gives.of_same {B : List Bool → Prop} {o : Oper} {v : Value} {a a' : Act} (hy : Gives P ops S B o v a) (he : execOp a'.eval o = execOp a.eval o)
    (hw : Region.wanted o (yielded ops a'.tmps) = Region.wanted o (yielded ops a.tmps)) : Gives P ops S B o v a' := by
  unfold Gives at *
  rw [he, hw]
  exact hy
theorem Gives.wpOp {B : List Bool → Prop} {i : Nat} {o : Oper} {v : Value} {a : Act} (hi : ops[i]? = some o) (hy : Gives P ops S B o v a) {bs : List Bool} {vs : List Value}
    {K : Act → World → Prop} {w : World} (hB : B bs) (hS : S bs vs w) (h : ∀ w', S bs vs w' → K (a.put o.dst v) w') : wpOp P ops Q i K a w := by
  unfold Go.wpOp
  simp only [hi]
  rcases hy with ⟨hw, hv⟩ | ⟨hw, rfl⟩
  · simp only [hw, if_true]
    left
    have h1 := hv bs vs w hB hS
    unfold RunsTo at h1
    unfold Oper.wp
    generalize (execOp a.eval o).run P w = r at *
    cases r with
    | ok n w' =>
      cases n <;> simp only [Oper.upon] at h1 ⊢
      case value u => rw [h1.1]; exact h _ h1.2
      case enter f args => exact Calls.mono h1 fun e w'' he => by rw [he.1]; exact h _ he.2
    | halt x w' => exact h1.elim
  · simp only [hw, Bool.false_eq_true, if_false]; exact h _ hS
theorem wpOp_putG {B : List Bool → Prop} {j : Nat} {oi oj : Oper} {v : Value} (hj : ops[j]? = some oj) (hap : oi.apart ops oj = true)
    (hsi : ∀ cs b, oi.op ≠ .select cs b) (hsj : ∀ cs b, oj.op ≠ .select cs b)
    (hQ : ∀ c a w, Q (.panic c) (a.put oi.dst v) w → Q (.panic c) a w) {K : Act → World → Prop} {a : Act} {w : World}
    (hy : Gives P ops S B oi v a) (h : wpOp P ops Q j K (a.put oi.dst v) w) :
    wpOp P ops Q j (fun a' w' => Gives P ops S B oi v a' ∧ K (a'.put oi.dst v) w') a w := by
  obtain ⟨h1, h2, h3⟩ := Oper.apart_spec hap
  have keep : ∀ (a : Act), Gives P ops S B oi v a → ∀ u, Gives P ops S B oi v (a.put oj.dst u) := fun a hy u =>
    hy.of_same (execOp_put oi hsi a oj.dst u h3) (wanted_put oi a oj.dst u h3)
  have keepD : ∀ d, Gives P ops S B oi v { a with defers := d :: a.defers } := fun d => hy.of_same rfl rfl
  unfold wpOp at *
  simp only [hj] at *
  rw [wanted_put oj a oi.dst v h1] at h
  split
  · rename_i hw
    simp only [hw, if_true] at h
    rcases h with h | ⟨hasks, hlets⟩
    case inr => exact .inr ⟨by unfold Oper.asks at *; rw [execOp_put oj hsj a oi.dst v h1] at hasks; exact hasks, hlets⟩
    refine .inl ?_
    unfold Oper.wp at *
    rw [execOp_put oj hsj a oi.dst v h1] at h
    generalize (execOp a.eval oj).run P w = r at *
    cases r with
    | ok n w' =>
      cases n <;> simp only [Oper.upon] at h ⊢
      case value u => exact ⟨keep a hy u, by rw [← Act.put_comm a v u h2]; exact h⟩
      case skip => exact ⟨keep a hy _, by rw [← Act.put_comm a v undef h2]; exact h⟩
      case defer d =>
        refine ⟨keep _ (keepD d) _, ?_⟩
        rw [← Act.put_comm _ v undef h2, ← Act.put_defers]
        exact h
      case enter f args =>
        refine Calls.mono h fun e w'' he => ?_
        cases e with
        | returned u => exact ⟨keep a hy u, by rw [← Act.put_comm a v u h2]; exact he⟩
        | panicked c => exact hQ _ _ _ he
        | outgrown => exact he
      case row row args => exact Rows.mono h fun u w'' he => ⟨keep a hy u, by rw [← Act.put_comm a v u h2]; exact he⟩
    | halt x w' =>
      cases x <;> simp only [Oper.upon] at h ⊢
      case panic u => exact hQ _ _ _ h
  · rename_i hw
    simp only [hw] at h
    exact ⟨keep a hy _, by rw [← Act.put_comm a v undef h2]; exact h⟩
theorem wpF_first {B : List Bool → Prop} {i : Nat} {oi : Oper} {v : Value} (hi : ops[i]? = some oi) (hsel : ∀ (j : Nat) (o : Oper) cs b, ops[j]? = some o → o.op ≠ .select cs b)
    (hQ : ∀ c a w, Q (.panic c) (a.put oi.dst v) w → Q (.panic c) a w) (his : i ∉ sts) (hid : ∀ t, oi.dst = some t → t ∉ ds)
    (hBs : ∀ (j : Nat) (oj : Oper) (L : Array Bool), ops[j]? = some oj → j ≠ i → (∀ e ∈ oj.after, Region.binds md e = true → e.on ≠ i) → B (stBits sts L) → B (stBits sts (L.setIfInBounds j true))) :
    ∀ (fuel : Nat) (L : Array Bool) (a : Act),
      (∀ j oj, ops[j]? = some oj → j ≠ i → L.getD j true = false → (∀ e ∈ oj.after, Region.binds md e = true → e.on ≠ i) → oi.apart ops oj = true) →
      i ∈ Region.ready md ops L → B (stBits sts L) → Gives P ops S B oi v a →
      wpF P md ops Q sts ds S fuel (L.setIfInBounds i true) (a.put oi.dst v) → wpF P md ops Q sts ds S (fuel + 1) L a := by
  intro fuel
  induction fuel with
  | zero =>
    intro L a _ hr hB hy H
    refine ⟨fun h => (by rw [h] at hr; cases hr), fun j hj w hS => ?_⟩
    by_cases hji : j = i
    · subst hji; exact hy.wpOp hi hB hS fun w' hS' => ⟨by rw [stBits_set his, dsVals_put hid]; exact hS', H⟩
    · have := ready_mono hj hji
      rw [H.1] at this
      cases this
  | succ fuel ih =>
    intro L a hfree hr hB hy H
    refine ⟨fun h => (by rw [h] at hr; cases hr), fun j hj w hS => ?_⟩
    by_cases hji : j = i
    · subst hji; exact hy.wpOp hi hB hS fun w' hS' => ⟨by rw [stBits_set his, dsVals_put hid]; exact hS', H⟩
    · have h1 := H.2 j (ready_mono hj hji) w (by rw [stBits_set his, dsVals_put hid]; exact hS)
      obtain ⟨hjun, oj, hoj, hall⟩ := mem_ready.1 hj
      have hnot : ∀ e ∈ oj.after, Region.binds md e = true → e.on ≠ i := fun e he hb heq => by
        have h1 := hall e he hb
        have h0 := (mem_ready.1 hr).1
        rw [heq] at h1
        rcases Nat.lt_or_ge i L.size with h' | h'
        · simp [h'] at h0 h1; rw [h0] at h1; cases h1
        · simp [Array.getElem?_eq_none h'] at h1
      have h2 := wpOp_putG hoj (hfree j oj hoj hji hjun hnot) (fun cs b => hsel i oi cs b hi) (fun cs b => hsel j oj cs b hoj) hQ hy h1
      have hfree' : ∀ k ok, ops[k]? = some ok → k ≠ i → (L.setIfInBounds j true).getD k true = false →
          (∀ e ∈ ok.after, Region.binds md e = true → e.on ≠ i) → oi.apart ops ok = true := fun k ok hk hki hun hno => by
        refine hfree k ok hk hki ?_ hno
        by_cases hjk : j = k
        · subst hjk; exact hjun
        · rw [getD_set_ne true hjk] at hun; exact hun
      refine wpOp_mono (fun a' w' h3 => ?_) h2
      have hc : (L.setIfInBounds i true).setIfInBounds j true = (L.setIfInBounds j true).setIfInBounds i true := Array.setIfInBounds_comm _ _ (Ne.symm hji)
      have h4 := h3.2
      rw [hc, stBits_set his, dsVals_put hid] at h4
      exact ⟨h4.1, ih (L.setIfInBounds j true) a' hfree' (ready_mono hr (Ne.symm hji)) (hBs j oj L hoj hji hnot hB) h3.1 h4.2⟩
def waitAll (md : Region.Mode) (ops : Array Oper) (sts : List Nat) (i : Nat) : Bool :=
  sts.all fun k => k != i && match ops[k]? with
    | some o => o.after.any (fun e => Region.binds md e && e.on == i)
    | none => false
def noBits (bs : List Bool) : Prop := ∀ b ∈ bs, b = false
def slotFree (ds : List Nat) (d : Option Tmp) : Bool := match d with | some t => !ds.contains t | none => true
theorem slotFree_spec {ds : List Nat} {d : Option Tmp} (h : slotFree ds d = true) (t : Tmp) (ht : d = some t) : t ∉ ds := by
  subst ht
  simpa [slotFree] using h
theorem wpF_take {i : Nat} {oi : Oper} {v : Value} {fuel : Nat} {L : Array Bool} {a : Act} (hi : ops[i]? = some oi) (hs : Region.noSelect ops = true)
    (hf : (Region.free md ops L i && (Region.ready md ops L).contains i && waitAll md ops sts i && (stBits sts L).all (! ·) && slotFree ds oi.dst) = true)
    (hQ : ∀ c a w, Q (.panic c) (a.put oi.dst v) w → Q (.panic c) a w) (hy : Gives P ops S noBits oi v a)
    (h : wpF P md ops Q sts ds S fuel (L.setIfInBounds i true) (a.put oi.dst v)) : wpF P md ops Q sts ds S (fuel + 1) L a := by
  simp only [Bool.and_eq_true] at hf
  obtain ⟨⟨⟨⟨h1, h2⟩, h3⟩, h4⟩, h5⟩ := hf
  have hno : i ∉ sts := fun hm => by
    have := List.all_eq_true.1 h3 i hm
    simp at this
  refine wpF_first (B := noBits) hi (Region.noSelect_spec hs) hQ hno (slotFree_spec h5) ?_ fuel L a (Region.free_spec hi h1) (by simpa using h2) ?_ hy h
  · intro j oj L' hj hji hnw hB
    have hj' : j ∉ sts := fun hm => by
      have h := List.all_eq_true.1 h3 j hm
      simp only [Bool.and_eq_true, hj, Array.any_eq_true] at h
      obtain ⟨_, k, hk, h⟩ := h
      simp only [beq_iff_eq] at h
      exact hnw _ (Array.getElem_mem hk) h.1 h.2
    rw [stBits_set hj']; exact hB
  · intro b hb
    have := List.all_eq_true.1 h4 b hb
    simpa using this
theorem wpF_yield {i : Nat} {oi : Oper} {v : Value} {fuel : Nat} {L : Array Bool} {a : Act} (hi : ops[i]? = some oi) (hs : Region.noSelect ops = true)
    (hf : (Region.free md ops L i && (Region.ready md ops L).contains i && !sts.contains i && slotFree ds oi.dst) = true)
    (hQ : ∀ c a w, Q (.panic c) (a.put oi.dst v) w → Q (.panic c) a w) (hy : Yields P ops oi v a)
    (h : wpF P md ops Q sts ds S fuel (L.setIfInBounds i true) (a.put oi.dst v)) : wpF P md ops Q sts ds S (fuel + 1) L a := by
  simp only [Bool.and_eq_true] at hf
  obtain ⟨⟨⟨h1, h2⟩, h3⟩, h5⟩ := hf
  refine wpF_first (B := fun _ => True) hi (Region.noSelect_spec hs) hQ (by simpa using h3) (slotFree_spec h5) (fun _ _ _ _ _ _ _ => trivial) fuel L a (Region.free_spec hi h1) (by simpa using h2) trivial ?_ h
  rcases hy with ⟨hw, hv⟩ | hy
  · exact Or.inl ⟨hw, fun bs vs w _ hS => by unfold RunsTo; rw [hv w]; exact ⟨rfl, hS⟩⟩
  · exact Or.inr hy
theorem wpF_step {i : Nat} {o : Oper} {fuel : Nat} {L : Array Bool} {a : Act} {bs bs' : List Bool} {vs : List Value} (hr : Region.ready md ops L = [i]) (ho : ops[i]? = some o)
    (hb : stBits sts L = bs) (hv : dsVals ds a = vs) (hb' : stBits sts (L.setIfInBounds i true) = bs')
    (h : ∀ w, S bs vs w → ∀ K' : Act → World → Prop, Shut (∀ a' w', S bs' (dsVals ds a') w' → wpF P md ops Q sts ds S fuel (L.setIfInBounds i true) a' → K' a' w') →
      if Region.wanted o (yielded ops a.tmps) = true then Oper.wp P o a w K' Q else K' (a.put o.dst undef) w) : wpF P md ops Q sts ds S (fuel + 1) L a := by
  subst hb hv hb'
  refine ⟨fun h0 => (by rw [hr] at h0; cases h0), fun j hj w hS => ?_⟩
  rw [hr] at hj
  obtain rfl := List.mem_singleton.1 hj
  exact wpOp_step ho (fun K' hK => h w hS K' (fun a w hS hW => hK a w ⟨hS, hW⟩))
theorem wpF_done {L : Array Bool} {a : Act} {bs : List Bool} {vs : List Value} (hr : Region.ready md ops L = []) (hb : stBits sts L = bs) (hv : dsVals ds a = vs) (h : ∀ w, S bs vs w → Q .normal a w) :
    ∀ fuel, wpF P md ops Q sts ds S fuel L a
  | 0 => ⟨hr, by subst hb hv; exact h⟩
  | _ + 1 => ⟨fun _ => by subst hb hv; exact h, by rw [hr]; simp⟩
theorem wp_region_F {id : Nat} {a : Act} {w : World} (sts ds : List Nat) (S : List Bool → List Value → World → Prop) {bs : List Bool} {vs : List Value} (hm : P.follows .mixedOrders = true) (hb : stBits sts (Array.replicate ops.size false) = bs) (hv : dsVals ds a = vs) (hS : S bs vs w.drew)
    (h : wpF P .any ops Q sts ds S ops.size (Array.replicate ops.size false) a) : (Code.region id ops true).wp P Q a w :=
  wp_region_any hm (wpF_sound _ _ _ h _ (by subst hb hv; exact hS))
theorem Gives.call {B : List Bool → Prop} {o : Oper} {v : Value} {a : Act} (hw : Region.wanted o (yielded ops a.tmps) = true) (f : FuncId) (args : Array Value)
    (he : ∀ w, (execOp a.eval o).run P w = .ok (.enter f args) w) (h : ∀ bs vs w, B bs → S bs vs w → Calls P f args w fun e w' => e = .returned v ∧ S bs vs w') : Gives P ops S B o v a :=
  Or.inl ⟨hw, fun bs vs w hB hS => by unfold RunsTo; rw [he w]; exact h bs vs w hB hS⟩
theorem Gives.value {B : List Bool → Prop} {o : Oper} {v : Value} {a : Act} (hw : Region.wanted o (yielded ops a.tmps) = true)
    (h : ∀ bs vs w, B bs → S bs vs w → (execOp a.eval o).run P w = .ok (.value v) w) : Gives P ops S B o v a :=
  Or.inl ⟨hw, fun bs vs w hB hS => by unfold RunsTo; rw [h bs vs w hB hS]; exact ⟨rfl, hS⟩⟩
end
def LS (W : World) (A : List Value → World → Prop) (Z : List Bool → List Value → World → Prop) (bs : List Bool) (vs : List Value) (w : World) : Prop :=
  (noBits bs → Below W.heap.size W w ∧ A vs w) ∧ (¬ noBits bs → Z bs vs w)
theorem LS.before {W : World} {A : List Value → World → Prop} {Z : List Bool → List Value → World → Prop} {bs : List Bool} {vs : List Value} {w : World} (hb : noBits bs) (h1 : Below W.heap.size W w) (h2 : A vs w) : LS W A Z bs vs w :=
  ⟨fun _ => ⟨h1, h2⟩, fun h => (h hb).elim⟩
theorem LS.behind {W : World} {A : List Value → World → Prop} {Z : List Bool → List Value → World → Prop} {bs : List Bool} {vs : List Value} {w : World} (hb : ¬ noBits bs) (h : Z bs vs w) : LS W A Z bs vs w :=
  ⟨fun h' => (hb h').elim, fun _ => h⟩
theorem no_ptr {p : Option Addr} {l l' : List Value} (h : undef :: l = .pointer p :: l') : False := by
  unfold undef at h; cases h
theorem noBits_nil : noBits [] := fun _ h => by cases h
theorem noBits_f : noBits [false] := by simp [noBits]
theorem bits_t : ¬ noBits [true] := by simp [noBits]
def Lasts (A : List Value → World → Prop) : Prop := ∀ vs w w', A vs w → Below w.heap.size w w' → A vs w'
theorem lasts_true : Lasts fun _ _ => True := fun _ _ _ _ _ => trivial
theorem LS.call {P : Program} {ops : Array Oper} {W : World} {A : List Value → World → Prop} {Z : List Bool → List Value → World → Prop} {o : Oper} {v : Value} {a : Act} (hA : Lasts A) (hw : Region.wanted o (yielded ops a.tmps) = true) (f : FuncId) (args : Array Value)
    (he : ∀ w, (execOp a.eval o).run P w = .ok (.enter f args) w) (h : ∀ w, Calls P f args w fun e w' => e = .returned v ∧ Below w.heap.size w w') : Gives P ops (LS W A Z) noBits o v a :=
  Gives.call hw f args he fun bs vs w hB hS => (h w).mono fun e w' ⟨h1, h2⟩ => ⟨h1, LS.before hB (bC (hS.1 hB).1 h2) (hA _ _ _ (hS.1 hB).2 h2)⟩
theorem LS.load {P : Program} {ops : Array Oper} {W : World} {A : List Value → World → Prop} {Z : List Bool → List Value → World → Prop} {o : Oper} {v : Value} {a : Act} (hw : Region.wanted o (yielded ops a.tmps) = true)
    (h : ∀ w, Below W.heap.size W w → (execOp a.eval o).run P w = .ok (.value v) w) : Gives P ops (LS W A Z) noBits o v a :=
  Gives.value hw fun bs vs w hB hS => h w (hS.1 hB).1
end Go.Proofs.YtjdjonekoodalaaGreatDoor
namespace Go.Proofs.YtjdjonekoodalaaGreatDoor
open Go.RowKit
theorem wp_forget {P : Program} {c : Code} {Q : Exit → Act → World → Prop} {a : Act} {w : World} (St : World → Prop) (h : St w) (k : ∀ W, St W → c.wp P Q a W) : c.wp P Q a w := k w h
theorem frozen_later {W w' : World} {a : Addr} {v : Value} (hb : Below W.heap.size W w') (hc : W.cell? a = some v) (hf : W.frozen? a = false) : w'.frozen? a = false :=
  (hb.frozen (World.block_lt_of_cell? _ _ hc)).trans hf
def CBox (w : World) (p : Nat) (v : Value) : Prop := w.cell? ⟨p, 0, none⟩ = some v ∧ w.frozen? ⟨p, 0, none⟩ = false
theorem CBox.later {W w1 : World} {p : Nat} {v : Value} (x : CBox W p v) (hb : Below W.heap.size W w1) : CBox w1 p v := ⟨cell_later hb x.1, frozen_later hb x.1 x.2⟩
theorem CBox.new (w : World) (v : Value) (t : TypeId) : CBox (w.alloc (.cells #[v] t)) w.heap.size v := by
  refine ⟨?_, ?_⟩ <;> go_simp
theorem CBox.set {w : World} {p : Nat} {v : Value} (x : CBox w p v) (u : Value) : CBox (w.setCell ⟨p, 0, none⟩ u) p u :=
  ⟨World.cell?_setCell_same _ _ _ x.1, by rw [World.frozen?_setCell]; exact x.2⟩
abbrev set4 (w : World) (p : Nat) (d0 d1 d2 d3 : Int) : World := (((w.setCell ⟨p, 0, none⟩ (.int .u64 d0)).setCell ⟨p, 1, none⟩ (.int .u64 d1)).setCell ⟨p, 2, none⟩ (.int .u64 d2)).setCell ⟨p, 3, none⟩ (.int .u64 d3)
theorem WBox.set4 {w : World} {b p : Nat} {a0 a1 a2 a3 : Int} (x : WBox w b a0 a1 a2 a3) (hne : p ≠ b) (d0 d1 d2 d3 : Int) : WBox (set4 w p d0 d1 d2 d3) b a0 a1 a2 a3 :=
  (((x.far (q := ⟨p, 0, none⟩) hne _).far (q := ⟨p, 1, none⟩) hne _).far (q := ⟨p, 2, none⟩) hne _).far (q := ⟨p, 3, none⟩) hne _
theorem WFree.set4 {w : World} {b : Nat} (f : WFree w b) (p : Nat) (d0 d1 d2 d3 : Int) : WFree (set4 w p d0 d1 d2 d3) b := (((f.set _ _).set _ _).set _ _).set _ _
theorem wbox_put4 {w : World} {p : Nat} {a0 a1 a2 a3 : Int} (x : WBox w p a0 a1 a2 a3) (d0 d1 d2 d3 : Int) : WBox (set4 w p d0 d1 d2 d3) p d0 d1 d2 d3 :=
  (((x.set0 d0).set1 d1).set2 d2).set3 d3
theorem below_set4 {a w : World} {p : Nat} (h : Below a.heap.size a w) (hp : a.heap.size ≤ p) (d0 d1 d2 d3 : Int) : Below a.heap.size a (set4 w p d0 d1 d2 d3) :=
  (((h.setCell (p := ⟨p, 0, none⟩) hp _).setCell (p := ⟨p, 1, none⟩) hp _).setCell (p := ⟨p, 2, none⟩) hp _).setCell (p := ⟨p, 3, none⟩) hp _
def AW (W : World) (vs : List Value) (w : World) : Prop := ∀ p, vs = [.pointer (some ⟨p, 0, none⟩)] → W.heap.size ≤ p ∧ WBox w p 0 0 0 0 ∧ WFree w p
def AB (W : World) (vs : List Value) (w : World) : Prop := ∀ p, vs = [.pointer (some ⟨p, 0, none⟩)] → W.heap.size ≤ p ∧ BoxF w p 0 0
def AC (W : World) (z : Value) (vs : List Value) (w : World) : Prop := ∀ p, vs = [.pointer (some ⟨p, 0, none⟩)] → W.heap.size ≤ p ∧ CBox w p z
def ZW (W : World) (d0 d1 d2 d3 : Int) (_ : List Bool) (vs : List Value) (w : World) : Prop := ∃ p, vs = [.pointer (some ⟨p, 0, none⟩)] ∧ W.heap.size ≤ p ∧ WBox w p d0 d1 d2 d3 ∧ WFree w p ∧ Below W.heap.size W w
def ZB (W : World) (d0 d1 : Int) (_ : List Bool) (vs : List Value) (w : World) : Prop := ∃ p, vs = [.pointer (some ⟨p, 0, none⟩)] ∧ W.heap.size ≤ p ∧ BoxF w p d0 d1 ∧ Below W.heap.size W w
def ZC (W : World) (v : Value) (_ : List Bool) (vs : List Value) (w : World) : Prop := ∃ p, vs = [.pointer (some ⟨p, 0, none⟩)] ∧ W.heap.size ≤ p ∧ CBox w p v ∧ Below W.heap.size W w
theorem ptr_eq {p q : Nat} {l : List Value} (h : l = [.pointer (some ⟨q, 0, none⟩)]) (h' : l = [.pointer (some ⟨p, 0, none⟩)]) : p = q := by
  subst h; simpa using h'.symm
theorem AW.new {W w : World} (hb : Below W.heap.size W w) (t : TypeId) {vs : List Value} (hv : vs = [.pointer (some ⟨w.heap.size, 0, none⟩)]) : AW W vs (w.alloc (wbx 0 0 0 0 t)) := fun p hp => by
  obtain rfl := ptr_eq hv hp
  exact ⟨hb.size, WBox.new _ _ _ _ _ _, WFree.new _ _ _ _ _ _⟩
theorem AB.new {W w : World} (hb : Below W.heap.size W w) (t : TypeId) {vs : List Value} (hv : vs = [.pointer (some ⟨w.heap.size, 0, none⟩)]) : AB W vs (w.alloc (bx 0 0 t)) := fun p hp => by
  obtain rfl := ptr_eq hv hp
  exact ⟨hb.size, BoxF.new _ _ _ _⟩
theorem AC.new {W w : World} (hb : Below W.heap.size W w) (z : Value) (t : TypeId) {vs : List Value} (hv : vs = [.pointer (some ⟨w.heap.size, 0, none⟩)]) : AC W z vs (w.alloc (.cells #[z] t)) := fun p hp => by
  obtain rfl := ptr_eq hv hp
  exact ⟨hb.size, CBox.new _ _ _⟩
theorem ZW.of {W w : World} {p : Nat} (hb : Below W.heap.size W w) (h : AW W [.pointer (some ⟨p, 0, none⟩)] w) (d0 d1 d2 d3 : Int) (bs : List Bool) : ZW W d0 d1 d2 d3 bs [.pointer (some ⟨p, 0, none⟩)] (set4 w p d0 d1 d2 d3) :=
  ⟨p, rfl, (h p rfl).1, wbox_put4 (h p rfl).2.1 _ _ _ _, (h p rfl).2.2.set4 _ _ _ _ _, below_set4 hb (h p rfl).1 _ _ _ _⟩
theorem ZB.of {W w : World} {p : Nat} (hb : Below W.heap.size W w) (h : AB W [.pointer (some ⟨p, 0, none⟩)] w) (d0 d1 : Int) (bs : List Bool) : ZB W d0 d1 bs [.pointer (some ⟨p, 0, none⟩)] (set2 w p d0 d1) :=
  ⟨p, rfl, (h p rfl).1, (h p rfl).2.set _ _, bS hb (h p rfl).1 _ _⟩
theorem ZC.of {W w : World} {p : Nat} {z : Value} (hb : Below W.heap.size W w) (h : AC W z [.pointer (some ⟨p, 0, none⟩)] w) (v : Value) (bs : List Bool) : ZC W v bs [.pointer (some ⟨p, 0, none⟩)] (w.setCell ⟨p, 0, none⟩ v) :=
  ⟨p, rfl, (h p rfl).1, (h p rfl).2.set _, hb.setCell (p := ⟨p, 0, none⟩) (h p rfl).1 _⟩
end Go.Proofs.YtjdjonekoodalaaGreatDoor
namespace Go.Proofs.YtjdjonekoodalaaGreatDoor
open Go.RowKit
section
variable {P : Program} {ops : Array Oper} {Q : Exit → Act → World → Prop} {md : Region.Mode} {sts ds : List Nat} {S : List Bool → List Value → World → Prop}
end
def Fresh4 (W : World) (p : Nat) (w : World) : Prop := W.heap.size ≤ p ∧ WBox w p 0 0 0 0 ∧ WFree w p
theorem Fresh4.later {W w w' : World} {p : Nat} (h : Fresh4 W p w) (hb : Below w.heap.size w w') : Fresh4 W p w' := ⟨h.1, h.2.1.later hb, h.2.2.later h.2.1.1 hb⟩
def AWW (W : World) (vs : List Value) (w : World) : Prop := ∃ x y, vs = [x, y] ∧
  (x = undef ∨ ∃ p, x = .pointer (some ⟨p, 0, none⟩) ∧ Fresh4 W p w) ∧ (y = undef ∨ ∃ q, y = .pointer (some ⟨q, 0, none⟩) ∧ Fresh4 W q w) ∧
  ∀ p q, x = .pointer (some ⟨p, 0, none⟩) → y = .pointer (some ⟨q, 0, none⟩) → p ≠ q
theorem und_ptr {p : Option Addr} (h : undef = .pointer p) : False := by unfold undef at h; cases h
theorem Fresh4.new {W w : World} (hb : Below W.heap.size W w) (t : TypeId) : Fresh4 W w.heap.size (w.alloc (wbx 0 0 0 0 t)) := ⟨hb.size, WBox.new _ _ _ _ _ _, WFree.new _ _ _ _ _ _⟩
theorem AWW.first {W w : World} (hb : Below W.heap.size W w) (t : TypeId) {vs : List Value} (hv : vs = [.pointer (some ⟨w.heap.size, 0, none⟩), undef]) : AWW W vs (w.alloc (wbx 0 0 0 0 t)) :=
  ⟨_, _, hv, .inr ⟨_, rfl, Fresh4.new hb t⟩, .inl rfl, fun p q _ h => (und_ptr h).elim⟩
def ZWW (W : World) (d0 d1 d2 d3 e0 e1 e2 e3 : Int) (bs : List Bool) (vs : List Value) (w : World) : Prop :=
  ∃ p q, vs = [.pointer (some ⟨p, 0, none⟩), .pointer (some ⟨q, 0, none⟩)] ∧ W.heap.size ≤ p ∧ W.heap.size ≤ q ∧ p ≠ q ∧ WBox w p d0 d1 d2 d3 ∧ WFree w p ∧ WFree w q ∧
    (bs = [true, false] → WBox w q 0 0 0 0) ∧ (bs = [true, true] → WBox w q e0 e1 e2 e3) ∧ Below W.heap.size W w
theorem ZWW.cells {W w : World} {d0 d1 d2 d3 e0 e1 e2 e3 : Int} {p q : Nat} (h : ZWW W d0 d1 d2 d3 e0 e1 e2 e3 [true, false] [.pointer (some ⟨p, 0, none⟩), .pointer (some ⟨q, 0, none⟩)] w) : WBox w q 0 0 0 0 ∧ WFree w q := by
  obtain ⟨p', q', e, g0, g1, hn, hp, f1, f2, h1, h2, hb⟩ := h
  obtain ⟨rfl, rfl⟩ : p = p' ∧ q = q' := by simpa using e
  exact ⟨h1 rfl, f2⟩
theorem ZWW.done {W w : World} {d0 d1 d2 d3 e0 e1 e2 e3 : Int} {p q : Nat} (h : ZWW W d0 d1 d2 d3 e0 e1 e2 e3 [true, true] [.pointer (some ⟨p, 0, none⟩), .pointer (some ⟨q, 0, none⟩)] w) :
    W.heap.size ≤ p ∧ W.heap.size ≤ q ∧ p ≠ q ∧ WBox w p d0 d1 d2 d3 ∧ WFree w p ∧ WBox w q e0 e1 e2 e3 ∧ WFree w q ∧ Below W.heap.size W w := by
  obtain ⟨p', q', e, g0, g1, hn, hp, f1, f2, h1, h2, hb⟩ := h
  obtain ⟨rfl, rfl⟩ : p = p' ∧ q = q' := by simpa using e
  exact ⟨g0, g1, hn, hp, f1, h2 rfl, f2, hb⟩
theorem ZWW.below {W : World} {d0 d1 d2 d3 e0 e1 e2 e3 : Int} (bs : List Bool) (vs : List Value) (w : World) (h : ZWW W d0 d1 d2 d3 e0 e1 e2 e3 bs vs w) : Below W.heap.size W w := by
  obtain ⟨p', q', e, g0, g1, hn, hp, f1, f2, h1, h2, hb⟩ := h
  exact hb
end Go.Proofs.YtjdjonekoodalaaGreatDoor
namespace Go.Proofs.YtjdjonekoodalaaGreatDoor
open Go.RowKit
def Fresh2 (W : World) (p : Nat) (w : World) : Prop := W.heap.size ≤ p ∧ BoxF w p 0 0
theorem Fresh2.later {W w w' : World} {p : Nat} (h : Fresh2 W p w) (hb : Below w.heap.size w w') : Fresh2 W p w' := ⟨h.1, h.2.later hb⟩
theorem Fresh2.new {W w : World} (hb : Below W.heap.size W w) (t : TypeId) : Fresh2 W w.heap.size (w.alloc (bx 0 0 t)) := ⟨hb.size, BoxF.new _ _ _ _⟩
def AWB (W : World) (vs : List Value) (w : World) : Prop := ∃ x y, vs = [x, y] ∧
  (x = undef ∨ ∃ p, x = .pointer (some ⟨p, 0, none⟩) ∧ Fresh4 W p w) ∧ (y = undef ∨ ∃ q, y = .pointer (some ⟨q, 0, none⟩) ∧ Fresh2 W q w) ∧
  ∀ p q, x = .pointer (some ⟨p, 0, none⟩) → y = .pointer (some ⟨q, 0, none⟩) → p ≠ q
theorem AWB.first {W w : World} (hb : Below W.heap.size W w) (t : TypeId) {vs : List Value} (hv : vs = [.pointer (some ⟨w.heap.size, 0, none⟩), undef]) : AWB W vs (w.alloc (wbx 0 0 0 0 t)) :=
  ⟨_, _, hv, .inr ⟨_, rfl, Fresh4.new hb t⟩, .inl rfl, fun p q _ h => (und_ptr h).elim⟩
def ZWB (W : World) (d0 d1 d2 d3 e0 e1 : Int) (bs : List Bool) (vs : List Value) (w : World) : Prop :=
  ∃ p q, vs = [.pointer (some ⟨p, 0, none⟩), .pointer (some ⟨q, 0, none⟩)] ∧ W.heap.size ≤ p ∧ W.heap.size ≤ q ∧ p ≠ q ∧ WBox w p d0 d1 d2 d3 ∧ WFree w p ∧
    (bs = [true, false] → BoxF w q 0 0) ∧ (bs = [true, true] → BoxF w q e0 e1) ∧ Below W.heap.size W w
theorem ZWB.cells {W w : World} {d0 d1 d2 d3 e0 e1 : Int} {p q : Nat} (h : ZWB W d0 d1 d2 d3 e0 e1 [true, false] [.pointer (some ⟨p, 0, none⟩), .pointer (some ⟨q, 0, none⟩)] w) : BoxF w q 0 0 := by
  obtain ⟨p', q', e, g0, g1, hn, hp, f1, h1, h2, hb⟩ := h
  obtain ⟨rfl, rfl⟩ : p = p' ∧ q = q' := by simpa using e
  exact h1 rfl
theorem ZWB.done {W w : World} {d0 d1 d2 d3 e0 e1 : Int} {p q : Nat} (h : ZWB W d0 d1 d2 d3 e0 e1 [true, true] [.pointer (some ⟨p, 0, none⟩), .pointer (some ⟨q, 0, none⟩)] w) :
    W.heap.size ≤ p ∧ W.heap.size ≤ q ∧ p ≠ q ∧ WBox w p d0 d1 d2 d3 ∧ WFree w p ∧ BoxF w q e0 e1 ∧ Below W.heap.size W w := by
  obtain ⟨p', q', e, g0, g1, hn, hp, f1, h1, h2, hb⟩ := h
  obtain ⟨rfl, rfl⟩ : p = p' ∧ q = q' := by simpa using e
  exact ⟨g0, g1, hn, hp, f1, h2 rfl, hb⟩
theorem ZWB.below {W : World} {d0 d1 d2 d3 e0 e1 : Int} (bs : List Bool) (vs : List Value) (w : World) (h : ZWB W d0 d1 d2 d3 e0 e1 bs vs w) : Below W.heap.size W w := by
  obtain ⟨p', q', e, g0, g1, hn, hp, f1, h1, h2, hb⟩ := h
  exact hb
end Go.Proofs.YtjdjonekoodalaaGreatDoor
namespace Go.Proofs.YtjdjonekoodalaaGreatDoor
open Go.RowKit
theorem cL {w wx : World} {a : Addr} {v : Value} (hb : Below w.heap.size w wx) (h : w.cell? a = some v) : wx.cell? a = some v := cell_later hb h
theorem fL {W w' : World} {a : Addr} {v : Value} (hb : Below W.heap.size W w') (hc : W.cell? a = some v) (hf : W.frozen? a = false) : w'.frozen? a = false := frozen_later hb hc hf
theorem bL {w : World} {a : Addr} {u : Value} (h : w.cell? a = some u) : a.block < w.heap.size := World.block_lt_of_cell? _ _ h
theorem bR {B : Nat} {w : World} : Below B w w := Below.refl _ _
theorem lH {p : Prop} (h : p) : Hid p := h
theorem lY {a b c : Nat} (h : a < b) (k : b ≤ c) : a < c := Nat.lt_of_lt_of_le h k
theorem lZ {a b c : Nat} (h : a ≤ b) (k : b ≤ c) : a ≤ c := Nat.le_trans h k
theorem zA {α : Type} (xs : List α) (i : Nat) (h : i < xs.toArray.size) : xs.toArray[i] = xs[i]'(by simpa using h) := List.getElem_toArray ..
theorem zB {α : Type} (a : α) (l : List α) (h : 0 < (a :: l).length) : (a :: l)[0] = a := rfl
theorem zC {α : Type} (a : α) (l : List α) (i : Nat) (h : i + 1 < (a :: l).length) : (a :: l)[i + 1] = l[i]'(by simpa using h) := rfl
theorem zD {α : Type} (l : List α) (i : Nat) (a : α) : l.toArray.setIfInBounds i a = (l.set i a).toArray := List.setIfInBounds_toArray ..
theorem zE {α : Type} (a b : α) (l : List α) : (a :: l).set 0 b = b :: l := rfl
theorem zF {α : Type} (a b : α) (l : List α) (n : Nat) : (a :: l).set (n + 1) b = a :: l.set n b := rfl
end Go.Proofs.YtjdjonekoodalaaGreatDoor
namespace Go.Proofs.YtjdjonekoodalaaGreatDoor
open Go.RowKit Go.Shelf
def HB (W : World) (B : Nat) (t : TypeId) (vs : Array Value) : Prop := W.heap[B]? = some (.cells vs t (0, 0))
theorem HB.lt {W : World} {B : Nat} {t : TypeId} {vs : Array Value} (h : HB W B t vs) : B < W.heap.size := (Array.getElem?_eq_some_iff.1 h).1
theorem HB.cell {W : World} {B : Nat} {t : TypeId} {vs : Array Value} (h : HB W B t vs) (k : Nat) : W.cell? ⟨B, k, none⟩ = vs[k]? := by
  simp [World.cell?, show W.heap[B]? = _ from h]
theorem HB.frozen {W : World} {B : Nat} {t : TypeId} {vs : Array Value} (h : HB W B t vs) (k : Nat) : W.frozen? ⟨B, k, none⟩ = false := by
  simp [World.frozen?, show W.heap[B]? = _ from h]
theorem HB.new (W : World) (t : TypeId) (vs : Array Value) : HB (W.alloc (.cells vs t)) W.heap.size t vs := World.alloc_heap_new W _
theorem HB.newAt {W : World} {b : Nat} (hb : b = W.heap.size) (t : TypeId) (vs : Array Value) : HB (W.alloc (.cells vs t)) b t vs := by subst hb; exact HB.new W t vs
theorem HB.kept {W W' : World} {row : Option Nat} {B : Nat} {t : TypeId} {vs : Array Value} (h : HB W B t vs) (hg : W.grownBy W' row) (hne : some B ≠ row) : HB W' B t vs := (hg.block B h.lt hne).trans h
theorem HB.alloc {W : World} {B : Nat} {t : TypeId} {vs : Array Value} (h : HB W B t vs) (o : Obj) : HB (W.alloc o) B t vs := h.kept (World.grownBy_alloc W o none) (by simp)
theorem HB.set {W : World} {B : Nat} {t : TypeId} {vs : Array Value} (h : HB W B t vs) (k : Nat) (v' : Value) : HB (W.setCell ⟨B, k, none⟩ v') B t (vs.setIfInBounds k v') := by
  obtain ⟨hlt, hk⟩ := Array.getElem?_eq_some_iff.1 h
  show (W.heap.modify B _)[B]? = _
  rw [Array.getElem?_eq_getElem (by rw [Array.size_modify]; exact hlt), Array.getElem_modify_self, hk]
  rfl
theorem HB.other {W : World} {B B' : Nat} {t : TypeId} {vs : Array Value} (h : HB W B t vs) (hne : B ≠ B') (k : Nat) (u : Value) : HB (W.setCell ⟨B', k, none⟩ u) B t vs :=
  (Below.heap_setCell _ _ _ B (fun e => hne (by rw [e]))).trans h
theorem HB.drew {W : World} {B : Nat} {t : TypeId} {vs : Array Value} (h : HB W B t vs) : HB W.drew B t vs := h
end Go.Proofs.YtjdjonekoodalaaGreatDoor
