/-
  Boxes of two digits in the caller's own memory, and what a call leaves of them. Nothing of the program in sight.
-/
import Derived.WalkKit
import Derived.WalkSpells
import Derived.WalkLawsBesides
import Derived.Lib.Hide
import Derived.Deep.RegionHeld
import Derived.Test.YtkhcbioohoeegaaDoorMath
set_option linter.unusedVariables false
set_option maxRecDepth 100000
namespace Go.Proofs.YtkhcbioohoeegaaDoor
open Go.RowKit

theorem bcell {W w1 : World} (hb : Below W.heap.size W w1) : (∀ b o, b < W.heap.size → w1.cell? ⟨b, o, none⟩ = W.cell? ⟨b, o, none⟩) ∧ (∀ b o, b < W.heap.size → w1.frozen? ⟨b, o, none⟩ = W.frozen? ⟨b, o, none⟩) :=
  ⟨fun b o h => hb.cell (p := ⟨b, o, none⟩) h, fun b o h => hb.frozen (p := ⟨b, o, none⟩) h⟩

/-- What a call leaves of the world in which the caller began: a step that makes a block; a call that turns nothing. -/
theorem bA {a w : World} (h : Below a.heap.size a w) (o : Obj) : Below a.heap.size a (w.alloc o) := h.alloc h.size o
theorem bC {a w w' : World} (h : Below a.heap.size a w) (k : Below w.heap.size w w') : Below a.heap.size a w' := h.trans (k.mono h.size)

/-- Two digits in a box of the caller's own. -/
def Box (w : World) (b : Nat) (h l : Int) : Prop := b < w.heap.size ∧ w.cell? ⟨b, 0, none⟩ = some (.int .u64 h) ∧ w.cell? ⟨b, 1, none⟩ = some (.int .u64 l)
theorem Box.later {W w1 : World} {b : Nat} {h l : Int} (x : Box W b h l) (hb : Below W.heap.size W w1) : Box w1 b h l :=
  ⟨Nat.lt_of_lt_of_le x.1 hb.size, (hb.cell (p := ⟨b, 0, none⟩) x.1).trans x.2.1, (hb.cell (p := ⟨b, 1, none⟩) x.1).trans x.2.2⟩
theorem Box.alloc {w : World} {b : Nat} {h l : Int} (x : Box w b h l) (o : Obj) : Box (w.alloc o) b h l :=
  x.later (bA (Below.refl _ _) o)
theorem Box.drew {w : World} {b : Nat} {h l : Int} (x : Box w b h l) : Box w.drew b h l := x.later (Below.refl _ _).drew
theorem Box.new (w : World) (h l : Int) (t : TypeId) : Box (w.alloc (.cells #[.int .u64 h, .int .u64 l] t)) w.heap.size h l := by
  refine ⟨by simp, ?_, ?_⟩ <;> go_simp

theorem Box.newAt {w : World} {b : Nat} (hb : b = w.heap.size) (h l : Int) (t : TypeId) : Box (w.alloc (.cells #[.int .u64 h, .int .u64 l] t)) b h l := by
  subst hb; exact Box.new w h l t
abbrev bx (h l : Int) (t : TypeId) : Obj := .cells #[.int .u64 h, .int .u64 l] t
theorem boxes2 (w : World) (ah al bh bl : Int) (t : TypeId) :
    Box ((w.alloc (bx ah al t)).alloc (bx bh bl t)) w.heap.size ah al ∧ Box ((w.alloc (bx ah al t)).alloc (bx bh bl t)) (w.heap.size + 1) bh bl ∧
    Below w.heap.size w ((w.alloc (bx ah al t)).alloc (bx bh bl t)) :=
  ⟨(Box.new w ah al t).alloc _, Box.newAt (by simp) bh bl t, bA (bA (Below.refl _ _) _) _⟩
theorem boxes3 (w : World) (ah al bh bl ch cl : Int) (t : TypeId) :
    Box (((w.alloc (bx ah al t)).alloc (bx bh bl t)).alloc (bx ch cl t)) w.heap.size ah al ∧ Box (((w.alloc (bx ah al t)).alloc (bx bh bl t)).alloc (bx ch cl t)) (w.heap.size + 1) bh bl ∧
    Box (((w.alloc (bx ah al t)).alloc (bx bh bl t)).alloc (bx ch cl t)) (w.heap.size + 1 + 1) ch cl ∧ Below w.heap.size w (((w.alloc (bx ah al t)).alloc (bx bh bl t)).alloc (bx ch cl t)) :=
  ⟨((Box.new w ah al t).alloc _).alloc _, (Box.newAt (by simp) bh bl t).alloc _, Box.newAt (by simp) ch cl t, bA (bA (bA (Below.refl _ _) _) _) _⟩

/-- A box that may be written. -/
def BoxF (w : World) (b : Nat) (h l : Int) : Prop := Box w b h l ∧ w.frozen? ⟨b, 0, none⟩ = false ∧ w.frozen? ⟨b, 1, none⟩ = false
theorem BoxF.later {W w1 : World} {b : Nat} {h l : Int} (x : BoxF W b h l) (hb : Below W.heap.size W w1) : BoxF w1 b h l :=
  ⟨x.1.later hb, (hb.frozen (p := ⟨b, 0, none⟩) x.1.1).trans x.2.1, (hb.frozen (p := ⟨b, 1, none⟩) x.1.1).trans x.2.2⟩
theorem BoxF.alloc {w : World} {b : Nat} {h l : Int} (x : BoxF w b h l) (o : Obj) : BoxF (w.alloc o) b h l := x.later (bA (Below.refl _ _) o)
theorem BoxF.new (w : World) (h l : Int) (t : TypeId) : BoxF (w.alloc (.cells #[.int .u64 h, .int .u64 l] t)) w.heap.size h l := by
  refine ⟨Box.new w h l t, ?_, ?_⟩ <;> go_simp
abbrev set2 (w : World) (b : Nat) (h l : Int) : World := (w.setCell ⟨b, 0, none⟩ (.int .u64 h)).setCell ⟨b, 1, none⟩ (.int .u64 l)
theorem Box.setFar {w : World} {b y : Nat} {h l : Int} (x : Box w b h l) (hne : b ≠ y) (h' l' : Int) : Box (set2 w y h' l') b h l := by
  obtain ⟨x0, x1, x2⟩ := x
  exact ⟨by simpa using x0, (World.cell?_setCell_far _ _ _ _ (Ne.symm hne)).trans ((World.cell?_setCell_far _ _ _ _ (Ne.symm hne)).trans x1),
    (World.cell?_setCell_far _ _ _ _ (Ne.symm hne)).trans ((World.cell?_setCell_far _ _ _ _ (Ne.symm hne)).trans x2)⟩
theorem BoxF.setFar {w : World} {b y : Nat} {h l : Int} (x : BoxF w b h l) (hne : b ≠ y) (h' l' : Int) : BoxF (set2 w y h' l') b h l :=
  ⟨x.1.setFar hne h' l', by simpa using x.2.1, by simpa using x.2.2⟩
theorem BoxF.set {w : World} {y : Nat} {h l : Int} (x : BoxF w y h l) (h' l' : Int) : BoxF (set2 w y h' l') y h' l' := by
  obtain ⟨⟨x0, x1, x2⟩, f0, f1⟩ := x
  have n1 : (⟨y, 1, none⟩ : Addr) ≠ ⟨y, 0, none⟩ := by simp
  have n2 : (⟨y, 0, none⟩ : Addr) ≠ ⟨y, 1, none⟩ := by simp
  have e2 : (w.setCell ⟨y, 0, none⟩ (.int .u64 h')).cell? ⟨y, 1, none⟩ = some (.int .u64 l) := (World.cell?_setCell_other _ _ _ _ n2).trans x2
  exact ⟨⟨by simpa using x0, (World.cell?_setCell_other _ _ _ _ n1).trans (World.cell?_setCell_same _ _ _ x1), World.cell?_setCell_same _ _ _ e2⟩, by simpa using f0, by simpa using f1⟩
theorem bS {a w : World} {y : Nat} (h : Below a.heap.size a w) (hy : a.heap.size ≤ y) (h' l' : Int) : Below a.heap.size a (set2 w y h' l') :=
  (h.setCell (p := ⟨y, 0, none⟩) hy _).setCell (p := ⟨y, 1, none⟩) hy _
theorem held1 {W w' : World} {a1 : Addr} {v1 : Value} (hb : Below W.heap.size W w') (h : W.cell? a1 = some v1) : w'.cell? a1 = some v1 := cell_later hb h
theorem held2 {W w' : World} {a1 a2 : Addr} {v1 v2 : Value} (hb : Below W.heap.size W w') (h : W.cell? a1 = some v1 ∧ W.cell? a2 = some v2) : w'.cell? a1 = some v1 ∧ w'.cell? a2 = some v2 :=
  ⟨cell_later hb h.1, cell_later hb h.2⟩
theorem held4 {W w' : World} {a1 a2 a3 a4 : Addr} {v1 v2 v3 v4 : Value} (hb : Below W.heap.size W w') (h : W.cell? a1 = some v1 ∧ W.cell? a2 = some v2 ∧ W.cell? a3 = some v3 ∧ W.cell? a4 = some v4) :
    w'.cell? a1 = some v1 ∧ w'.cell? a2 = some v2 ∧ w'.cell? a3 = some v3 ∧ w'.cell? a4 = some v4 :=
  ⟨cell_later hb h.1, cell_later hb h.2.1, held2 hb h.2.2⟩
theorem held6 {W w' : World} {a1 a2 a3 a4 a5 a6 : Addr} {v1 v2 v3 v4 v5 v6 : Value} (hb : Below W.heap.size W w') (h : W.cell? a1 = some v1 ∧ W.cell? a2 = some v2 ∧ W.cell? a3 = some v3 ∧ W.cell? a4 = some v4 ∧ W.cell? a5 = some v5 ∧ W.cell? a6 = some v6) :
    w'.cell? a1 = some v1 ∧ w'.cell? a2 = some v2 ∧ w'.cell? a3 = some v3 ∧ w'.cell? a4 = some v4 ∧ w'.cell? a5 = some v5 ∧ w'.cell? a6 = some v6 :=
  ⟨cell_later hb h.1, cell_later hb h.2.1, held4 hb h.2.2⟩
theorem Box.of {w : World} {b : Nat} {h l : Int} (h0 : w.cell? ⟨b, 0, none⟩ = some (.int .u64 h)) (h1 : w.cell? ⟨b, 1, none⟩ = some (.int .u64 l)) : Box w b h l :=
  ⟨World.block_lt_of_cell? _ _ h0, h0, h1⟩
theorem held6B {a W w' : World} {a1 a2 a3 a4 a5 a6 : Addr} {v1 v2 v3 v4 v5 v6 : Value} (hb : Below W.heap.size W w') (h : W.cell? a1 = some v1 ∧ W.cell? a2 = some v2 ∧ W.cell? a3 = some v3 ∧ W.cell? a4 = some v4 ∧ W.cell? a5 = some v5 ∧ W.cell? a6 = some v6 ∧ Below a.heap.size a W) :
    w'.cell? a1 = some v1 ∧ w'.cell? a2 = some v2 ∧ w'.cell? a3 = some v3 ∧ w'.cell? a4 = some v4 ∧ w'.cell? a5 = some v5 ∧ w'.cell? a6 = some v6 ∧ Below a.heap.size a w' :=
  ⟨cell_later hb h.1, cell_later hb h.2.1, cell_later hb h.2.2.1, cell_later hb h.2.2.2.1, cell_later hb h.2.2.2.2.1, cell_later hb h.2.2.2.2.2.1, bC h.2.2.2.2.2.2 hb⟩
theorem held4B {a W w' : World} {a1 a2 a3 a4 : Addr} {v1 v2 v3 v4 : Value} (hb : Below W.heap.size W w') (h : W.cell? a1 = some v1 ∧ W.cell? a2 = some v2 ∧ W.cell? a3 = some v3 ∧ W.cell? a4 = some v4 ∧ Below a.heap.size a W) :
    w'.cell? a1 = some v1 ∧ w'.cell? a2 = some v2 ∧ w'.cell? a3 = some v3 ∧ w'.cell? a4 = some v4 ∧ Below a.heap.size a w' :=
  ⟨cell_later hb h.1, cell_later hb h.2.1, cell_later hb h.2.2.1, cell_later hb h.2.2.2.1, bC h.2.2.2.2 hb⟩
theorem bD {a w : World} (h : Below a.heap.size a w) : Below a.heap.size a w.drew := h.drew
theorem u64_of_wf {x : Int} (h : (Lit.int .u64 x).wf = true) : U64 x := by
  simp only [Lit.wf, Bool.and_eq_true, decide_eq_true_eq] at h
  have h1 : (0 : Int) ≤ x := h.1
  have h2 : x ≤ 18446744073709551615 := h.2
  unfold U64; omega
theorem i64_of_wf {x : Int} (h : (Lit.int .i64 x).wf = true) : -9223372036854775808 ≤ x ∧ x ≤ 9223372036854775807 := by
  simp only [Lit.wf, Bool.and_eq_true, decide_eq_true_eq] at h
  exact h
theorem u0 : U64 0 := ⟨by decide, by decide⟩
theorem u1 : U64 1 := ⟨by decide, by decide⟩
theorem u2 : U64 2 := ⟨by decide, by decide⟩
theorem uMax : U64 18446744073709551615 := ⟨by decide, by decide⟩


end Go.Proofs.YtkhcbioohoeegaaDoor
