/-
  Numbers of 256 bits, four digits of 64 bits, and boxes of four digits in the caller's own memory. Nothing of the program in sight.
-/
import Derived.Test.YtkhcbioohoeegaaDoorBoxes
set_option linter.unusedVariables false
set_option maxRecDepth 100000
namespace Go.Proofs.YtkhcbioohoeegaaDoor
open Go.RowKit

def wval (a b c d : Int) : Int := a + b * 18446744073709551616 + c * 340282366920938463463374607431768211456 + d * 6277101735386680763835789423207666416102355444464034512896
def wfull : Int := 115792089237316195423570985008687907853269984665640564039457584007913129639936
/-- The digit k of n. -/
def wd0 (n : Int) : Int := n % 18446744073709551616
def wd1 (n : Int) : Int := n / 18446744073709551616 % 18446744073709551616
def wd2 (n : Int) : Int := n / 340282366920938463463374607431768211456 % 18446744073709551616
def wd3 (n : Int) : Int := n / 6277101735386680763835789423207666416102355444464034512896 % 18446744073709551616
theorem wd0_u (n : Int) : U64 (wd0 n) := by unfold U64 wd0; omega
theorem wd1_u (n : Int) : U64 (wd1 n) := by unfold U64 wd1; omega
theorem wd2_u (n : Int) : U64 (wd2 n) := by unfold U64 wd2; omega
theorem wd3_u (n : Int) : U64 (wd3 n) := by unfold U64 wd3; omega
theorem wval_range {a b c d : Int} (ua : U64 a) (ub : U64 b) (uc : U64 c) (ud : U64 d) : 0 ≤ wval a b c d ∧ wval a b c d < wfull := by
  unfold U64 at ua ub uc ud; unfold wval wfull; omega
theorem wd_wval {a b c d : Int} (ua : U64 a) (ub : U64 b) (uc : U64 c) (ud : U64 d) : wd0 (wval a b c d) = a ∧ wd1 (wval a b c d) = b ∧ wd2 (wval a b c d) = c ∧ wd3 (wval a b c d) = d := by
  unfold U64 at ua ub uc ud; unfold wval wd0 wd1 wd2 wd3; omega
theorem wval_wd_mod (n : Int) : wval (wd0 n) (wd1 n) (wd2 n) (wd3 n) = n % wfull := by
  unfold wval wd0 wd1 wd2 wd3 wfull; omega
theorem wval_wd {n : Int} (h0 : 0 ≤ n) (h1 : n < wfull) : wval (wd0 n) (wd1 n) (wd2 n) (wd3 n) = n := by
  rw [wval_wd_mod]; exact Int.emod_eq_of_lt h0 h1

/-- Four digits in a box of the caller's own. -/
def WBox (w : World) (p : Nat) (a b c d : Int) : Prop :=
  p < w.heap.size ∧ w.cell? ⟨p, 0, none⟩ = some (.int .u64 a) ∧ w.cell? ⟨p, 1, none⟩ = some (.int .u64 b) ∧ w.cell? ⟨p, 2, none⟩ = some (.int .u64 c) ∧ w.cell? ⟨p, 3, none⟩ = some (.int .u64 d)
abbrev wbx (a b c d : Int) (t : TypeId) : Obj := .cells #[.int .u64 a, .int .u64 b, .int .u64 c, .int .u64 d] t
theorem WBox.later {W w1 : World} {p : Nat} {a b c d : Int} (x : WBox W p a b c d) (hb : Below W.heap.size W w1) : WBox w1 p a b c d :=
  ⟨Nat.lt_of_lt_of_le x.1 hb.size, cell_later hb x.2.1, cell_later hb x.2.2.1, cell_later hb x.2.2.2.1, cell_later hb x.2.2.2.2⟩
theorem WBox.below {B : Nat} {W w1 : World} {p : Nat} {a b c d : Int} (x : WBox W p a b c d) (hb : Below B W w1) (hp : p < B) : WBox w1 p a b c d :=
  ⟨Nat.lt_of_lt_of_le x.1 hb.size, (hb.cell (p := ⟨p, 0, none⟩) hp).trans x.2.1, (hb.cell (p := ⟨p, 1, none⟩) hp).trans x.2.2.1, (hb.cell (p := ⟨p, 2, none⟩) hp).trans x.2.2.2.1, (hb.cell (p := ⟨p, 3, none⟩) hp).trans x.2.2.2.2⟩
theorem WBox.alloc {w : World} {p : Nat} {a b c d : Int} (x : WBox w p a b c d) (o : Obj) : WBox (w.alloc o) p a b c d := x.later (bA (Below.refl _ _) o)
theorem WBox.drew {w : World} {p : Nat} {a b c d : Int} (x : WBox w p a b c d) : WBox w.drew p a b c d := x.later (Below.refl _ _).drew
theorem WBox.new (w : World) (a b c d : Int) (t : TypeId) : WBox (w.alloc (wbx a b c d t)) w.heap.size a b c d := by
  refine ⟨by simp, ?_, ?_, ?_, ?_⟩ <;> go_simp
theorem WBox.newAt {w : World} {p : Nat} (hp : p = w.heap.size) (a b c d : Int) (t : TypeId) : WBox (w.alloc (wbx a b c d t)) p a b c d := by
  subst hp; exact WBox.new w a b c d t
theorem WBox.of {w : World} {p : Nat} {a b c d : Int} (h0 : w.cell? ⟨p, 0, none⟩ = some (.int .u64 a)) (h1 : w.cell? ⟨p, 1, none⟩ = some (.int .u64 b)) (h2 : w.cell? ⟨p, 2, none⟩ = some (.int .u64 c)) (h3 : w.cell? ⟨p, 3, none⟩ = some (.int .u64 d)) : WBox w p a b c d :=
  ⟨World.block_lt_of_cell? _ _ h0, h0, h1, h2, h3⟩
/-- A box that may be written. -/
def WFree (w : World) (p : Nat) : Prop := w.frozen? ⟨p, 0, none⟩ = false ∧ w.frozen? ⟨p, 1, none⟩ = false ∧ w.frozen? ⟨p, 2, none⟩ = false ∧ w.frozen? ⟨p, 3, none⟩ = false
theorem WFree.later {W w1 : World} {p : Nat} (x : WFree W p) (hp : p < W.heap.size) (hb : Below W.heap.size W w1) : WFree w1 p :=
  ⟨(hb.frozen (p := ⟨p, 0, none⟩) hp).trans x.1, (hb.frozen (p := ⟨p, 1, none⟩) hp).trans x.2.1, (hb.frozen (p := ⟨p, 2, none⟩) hp).trans x.2.2.1, (hb.frozen (p := ⟨p, 3, none⟩) hp).trans x.2.2.2⟩
theorem WFree.new (w : World) (a b c d : Int) (t : TypeId) : WFree (w.alloc (wbx a b c d t)) w.heap.size := by
  refine ⟨?_, ?_, ?_, ?_⟩ <;> go_simp
theorem WFree.set {w : World} {p : Nat} (x : WFree w p) (q : Addr) (v : Value) : WFree (w.setCell q v) p := by
  refine ⟨?_, ?_, ?_, ?_⟩ <;> (rw [World.frozen?_setCell]; first | exact x.1 | exact x.2.1 | exact x.2.2.1 | exact x.2.2.2)

theorem WBox.set0 {w : World} {p : Nat} {a b c d : Int} (x : WBox w p a b c d) (v : Int) : WBox (w.setCell ⟨p, 0, none⟩ (.int .u64 v)) p v b c d := by
  obtain ⟨x0, y0, y1, y2, y3⟩ := x
  exact ⟨by simpa using x0, World.cell?_setCell_same _ _ _ y0, (World.cell?_setCell_other _ _ _ _ (by simp)).trans y1, (World.cell?_setCell_other _ _ _ _ (by simp)).trans y2, (World.cell?_setCell_other _ _ _ _ (by simp)).trans y3⟩
theorem WBox.set1 {w : World} {p : Nat} {a b c d : Int} (x : WBox w p a b c d) (v : Int) : WBox (w.setCell ⟨p, 1, none⟩ (.int .u64 v)) p a v c d := by
  obtain ⟨x0, y0, y1, y2, y3⟩ := x
  exact ⟨by simpa using x0, (World.cell?_setCell_other _ _ _ _ (by simp)).trans y0, World.cell?_setCell_same _ _ _ y1, (World.cell?_setCell_other _ _ _ _ (by simp)).trans y2, (World.cell?_setCell_other _ _ _ _ (by simp)).trans y3⟩
theorem WBox.set2 {w : World} {p : Nat} {a b c d : Int} (x : WBox w p a b c d) (v : Int) : WBox (w.setCell ⟨p, 2, none⟩ (.int .u64 v)) p a b v d := by
  obtain ⟨x0, y0, y1, y2, y3⟩ := x
  exact ⟨by simpa using x0, (World.cell?_setCell_other _ _ _ _ (by simp)).trans y0, (World.cell?_setCell_other _ _ _ _ (by simp)).trans y1, World.cell?_setCell_same _ _ _ y2, (World.cell?_setCell_other _ _ _ _ (by simp)).trans y3⟩
theorem WBox.set3 {w : World} {p : Nat} {a b c d : Int} (x : WBox w p a b c d) (v : Int) : WBox (w.setCell ⟨p, 3, none⟩ (.int .u64 v)) p a b c v := by
  obtain ⟨x0, y0, y1, y2, y3⟩ := x
  exact ⟨by simpa using x0, (World.cell?_setCell_other _ _ _ _ (by simp)).trans y0, (World.cell?_setCell_other _ _ _ _ (by simp)).trans y1, (World.cell?_setCell_other _ _ _ _ (by simp)).trans y2, World.cell?_setCell_same _ _ _ y3⟩
theorem WBox.far {w : World} {p : Nat} {a b c d : Int} (x : WBox w p a b c d) {q : Addr} (hne : q.block ≠ p) (v : Value) : WBox (w.setCell q v) p a b c d := by
  obtain ⟨x0, y0, y1, y2, y3⟩ := x
  exact ⟨by simpa using x0, (World.cell?_setCell_far _ _ _ _ hne).trans y0, (World.cell?_setCell_far _ _ _ _ hne).trans y1, (World.cell?_setCell_far _ _ _ _ hne).trans y2, (World.cell?_setCell_far _ _ _ _ hne).trans y3⟩

end Go.Proofs.YtkhcbioohoeegaaDoor
