/-
  The contract of the program's wide.Mul.
-/
import Derived.Test.YtkhcbioohoeegaaDoorWideB
import Derived.Test.YtkhcbioohoeegaaDoorKinds
set_option linter.unusedVariables false
set_option maxRecDepth 100000
namespace Go.Proofs.YtkhcbioohoeegaaDoor
open Go.RowKit
attribute [local go_sem ↓] Go.wp_at_zero Go.wp_at_succ

/-- What lies at the head of a statement of Mul. -/
def MulAt (w wx : World) (ah al bh bl : Int) : Prop :=
  Box wx w.heap.size ah al ∧ Box wx (w.heap.size + 1) bh bl ∧ WBox wx (w.heap.size + 1 + 1) 0 0 0 0 ∧ WFree wx (w.heap.size + 1 + 1) ∧ Below w.heap.size w wx
theorem MulAt.later {w wx w' : World} {ah al bh bl : Int} (h : MulAt w wx ah al bh bl) (hb : Below wx.heap.size wx w') : MulAt w w' ah al bh bl :=
  ⟨h.1.later hb, h.2.1.later hb, h.2.2.1.later hb, h.2.2.2.1.later h.2.2.1.1 hb, bC h.2.2.2.2 hb⟩
theorem mulAt_new (w : World) (ah al bh bl : Int) : MulAt w (((w.alloc (bx ah al 24)).alloc (bx bh bl 24)).alloc (wbx 0 0 0 0 38)) ah al bh bl :=
  ⟨((Box.new w ah al _).alloc _).alloc _, (Box.newAt (by simp) bh bl _).alloc _, WBox.newAt (by simp) 0 0 0 0 _, by have h := WFree.new ((w.alloc (bx ah al 24)).alloc (bx bh bl 24)) 0 0 0 0 38; simpa using h, bA (bA (bA (Below.refl _ _) _) _) _⟩

theorem Box.set4 {w : World} {b p : Nat} {h l : Int} (x : Box w b h l) (hne : p ≠ b) (d0 d1 d2 d3 : Int) : Box (set4 w p d0 d1 d2 d3) b h l := by
  obtain ⟨x0, x1, x2⟩ := x
  refine ⟨by simpa using x0, ?_, ?_⟩
  · exact (World.cell?_setCell_far _ _ _ _ hne).trans ((World.cell?_setCell_far _ _ _ _ hne).trans ((World.cell?_setCell_far _ _ _ _ hne).trans ((World.cell?_setCell_far _ _ _ _ hne).trans x1)))
  · exact (World.cell?_setCell_far _ _ _ _ hne).trans ((World.cell?_setCell_far _ _ _ _ hne).trans ((World.cell?_setCell_far _ _ _ _ hne).trans ((World.cell?_setCell_far _ _ _ _ hne).trans x2)))
theorem MulAt.store {w wx : World} {ah al bh bl x0 x1 x2 x3 : Int} {p : Nat} (h : MulAt w wx ah al bh bl) (hp : w.heap.size + 1 + 1 < p) (x : WBox wx p x0 x1 x2 x3) (y0 y1 y2 y3 : Int) :
    WBox (set4 wx p y0 y1 y2 y3) p y0 y1 y2 y3 ∧ MulAt w (set4 wx p y0 y1 y2 y3) ah al bh bl :=
  ⟨(((x.set0 y0).set1 y1).set2 y2).set3 y3, h.1.set4 (by omega) _ _ _ _, h.2.1.set4 (by omega) _ _ _ _, h.2.2.1.set4 (by omega) _ _ _ _, (((h.2.2.2.1.set _ _).set _ _).set _ _).set _ _,
    (((h.2.2.2.2.setCell (p := ⟨p, 0, none⟩) (by simp; omega) _).setCell (p := ⟨p, 1, none⟩) (by simp; omega) _).setCell (p := ⟨p, 2, none⟩) (by simp; omega) _).setCell (p := ⟨p, 3, none⟩) (by simp; omega) _⟩

set_option linter.unusedSimpArgs false
theorem wsum_eq {ah al bh bl : Int} (u1 : U64 ah) (u2 : U64 al) (u3 : U64 bh) (u4 : U64 bl) :
    wval (loOf (al * bl)) (hiOf (al * bl)) (loOf (ah * bh)) (hiOf (ah * bh)) + wval 0 (loOf (ah * bl)) (hiOf (ah * bl)) 0 = al * bl + (ah * bh) * 340282366920938463463374607431768211456 + (ah * bl) * 18446744073709551616 := by
  have h1 := mul_small u1 u3; have h2 := mul_small u2 u4; have h3 := mul_small u1 u4
  have e1 := hilo_of (ah * bh) h1.1 (by unfold full; omega); have e2 := hilo_of (al * bl) h2.1 (by unfold full; omega); have e3 := hilo_of (ah * bl) h3.1 (by unfold full; omega)
  generalize hiOf (ah * bh) = a1 at *; generalize loOf (ah * bh) = a2 at *; generalize hiOf (al * bl) = a3 at *; generalize loOf (al * bl) = a4 at *; generalize hiOf (ah * bl) = a5 at *; generalize loOf (ah * bl) = a6 at *
  unfold wval; omega
theorem wprod_sum {ah al bh bl : Int} (u1 : U64 ah) (u2 : U64 al) (u3 : U64 bh) (u4 : U64 bl) (X : Int)
    (hX : X = wval (loOf (al * bl)) (hiOf (al * bl)) (loOf (ah * bh)) (hiOf (ah * bh)) + wval 0 (loOf (ah * bl)) (hiOf (ah * bl)) 0) :
    wval (wd0 X) (wd1 X) (wd2 X) (wd3 X) + wval 0 (loOf (al * bh)) (hiOf (al * bh)) 0 = val ah al * val bh bl := by
  rw [wsum_eq u1 u2 u3 u4] at hX
  have h1 := mul_small u1 u3; have h2 := mul_small u2 u4; have h3 := mul_small u1 u4; have h4 := mul_small u2 u3
  rw [wval_wd (by omega) (by unfold wfull; omega), val_prod]
  have e4 := hilo_of (al * bh) h4.1 (by unfold full; omega)
  generalize hiOf (al * bh) = a5 at *; generalize loOf (al * bh) = a6 at *
  unfold wval; omega

end Go.Proofs.YtkhcbioohoeegaaDoor
