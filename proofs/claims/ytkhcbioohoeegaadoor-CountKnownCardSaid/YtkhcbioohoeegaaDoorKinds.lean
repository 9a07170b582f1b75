/-
  Boxes of one, two, four cells that a drawn region makes and fills. Nothing of the program in sight.
-/
import Derived.Test.YtkhcbioohoeegaaDoorLater
import Derived.Test.YtkhcbioohoeegaaDoorWBoxes
set_option linter.unusedVariables false
set_option maxRecDepth 100000
namespace Go.Proofs.YtkhcbioohoeegaaDoor
open Go.RowKit

theorem wp_forget {P : Program} {c : Code} {Q : Exit → Act → World → Prop} {a : Act} {w : World} (St : World → Prop) (h : St w) (k : ∀ W, St W → c.wp P Q a W) : c.wp P Q a w := k w h
theorem frozen_later {W w' : World} {a : Addr} {v : Value} (hb : Below W.heap.size W w') (hc : W.cell? a = some v) (hf : W.frozen? a = false) : w'.frozen? a = false :=
  (hb.frozen (World.block_lt_of_cell? _ _ hc)).trans hf
/-- One cell. -/
def CBox (w : World) (p : Nat) (v : Value) : Prop := w.cell? ⟨p, 0, none⟩ = some v ∧ w.frozen? ⟨p, 0, none⟩ = false
theorem CBox.later {W w1 : World} {p : Nat} {v : Value} (x : CBox W p v) (hb : Below W.heap.size W w1) : CBox w1 p v := ⟨cell_later hb x.1, frozen_later hb x.1 x.2⟩
theorem CBox.new (w : World) (v : Value) (t : TypeId) : CBox (w.alloc (.cells #[v] t)) w.heap.size v := by
  refine ⟨?_, ?_⟩ <;> go_simp
theorem CBox.set {w : World} {p : Nat} {v : Value} (x : CBox w p v) (u : Value) : CBox (w.setCell ⟨p, 0, none⟩ u) p u :=
  ⟨World.cell?_setCell_same _ _ _ x.1, by rw [World.frozen?_setCell]; exact x.2⟩

abbrev set4 (w : World) (p : Nat) (d0 d1 d2 d3 : Int) : World := (((w.setCell ⟨p, 0, none⟩ (.int .u64 d0)).setCell ⟨p, 1, none⟩ (.int .u64 d1)).setCell ⟨p, 2, none⟩ (.int .u64 d2)).setCell ⟨p, 3, none⟩ (.int .u64 d3)
theorem WBox.set4 {w : World} {b p : Nat} {a0 a1 a2 a3 : Int} (x : WBox w b a0 a1 a2 a3) (hne : p ≠ b) (d0 d1 d2 d3 : Int) : WBox (set4 w p d0 d1 d2 d3) b a0 a1 a2 a3 :=
  (((x.far (q := ⟨p, 0, none⟩) hne _).far (q := ⟨p, 1, none⟩) hne _).far (q := ⟨p, 2, none⟩) hne _).far (q := ⟨p, 3, none⟩) hne _
theorem WFree.set4 {w : World} {b : Nat} (f : WFree w b) (p : Nat) (d0 d1 d2 d3 : Int) : WFree (set4 w p d0 d1 d2 d3) b := (((f.set _ _).set _ _).set _ _).set _ _
theorem wbox_put4 {w : World} {p : Nat} {a0 a1 a2 a3 : Int} (x : WBox w p a0 a1 a2 a3) (d0 d1 d2 d3 : Int) : WBox (set4 w p d0 d1 d2 d3) p d0 d1 d2 d3 :=
  (((x.set0 d0).set1 d1).set2 d2).set3 d3
theorem below_set4 {a w : World} {p : Nat} (h : Below a.heap.size a w) (hp : a.heap.size ≤ p) (d0 d1 d2 d3 : Int) : Below a.heap.size a (set4 w p d0 d1 d2 d3) :=
  (((h.setCell (p := ⟨p, 0, none⟩) hp _).setCell (p := ⟨p, 1, none⟩) hp _).setCell (p := ⟨p, 2, none⟩) hp _).setCell (p := ⟨p, 3, none⟩) hp _
theorem cell_far4 {w : World} {p : Nat} {a : Addr} {v : Value} (h : w.cell? a = some v) (hne : p ≠ a.block) (d0 d1 d2 d3 : Int) : (set4 w p d0 d1 d2 d3).cell? a = some v :=
  (World.cell?_setCell_far _ _ _ _ hne).trans ((World.cell?_setCell_far _ _ _ _ hne).trans ((World.cell?_setCell_far _ _ _ _ hne).trans ((World.cell?_setCell_far _ _ _ _ hne).trans h)))
theorem cell_far2 {w : World} {p : Nat} {a : Addr} {v : Value} (h : w.cell? a = some v) (hne : p ≠ a.block) (d0 d1 : Int) : (set2 w p d0 d1).cell? a = some v :=
  (World.cell?_setCell_far _ _ _ _ hne).trans ((World.cell?_setCell_far _ _ _ _ hne).trans h)

/-- The region's own variable, made and not yet filled; filled. -/
def AW (W : World) (vs : List Value) (w : World) : Prop := ∀ p, vs = [.pointer (some ⟨p, 0, none⟩)] → W.heap.size ≤ p ∧ WBox w p 0 0 0 0 ∧ WFree w p
def AB (W : World) (vs : List Value) (w : World) : Prop := ∀ p, vs = [.pointer (some ⟨p, 0, none⟩)] → W.heap.size ≤ p ∧ BoxF w p 0 0
def AC (W : World) (z : Value) (vs : List Value) (w : World) : Prop := ∀ p, vs = [.pointer (some ⟨p, 0, none⟩)] → W.heap.size ≤ p ∧ CBox w p z
def ZW (W : World) (d0 d1 d2 d3 : Int) (_ : List Bool) (vs : List Value) (w : World) : Prop := ∃ p, vs = [.pointer (some ⟨p, 0, none⟩)] ∧ W.heap.size ≤ p ∧ WBox w p d0 d1 d2 d3 ∧ WFree w p ∧ Below W.heap.size W w
def ZB (W : World) (d0 d1 : Int) (_ : List Bool) (vs : List Value) (w : World) : Prop := ∃ p, vs = [.pointer (some ⟨p, 0, none⟩)] ∧ W.heap.size ≤ p ∧ BoxF w p d0 d1 ∧ Below W.heap.size W w
def ZC (W : World) (v : Value) (_ : List Bool) (vs : List Value) (w : World) : Prop := ∃ p, vs = [.pointer (some ⟨p, 0, none⟩)] ∧ W.heap.size ≤ p ∧ CBox w p v ∧ Below W.heap.size W w
theorem AW.lasts (W : World) : Lasts (AW W) := fun vs w w' h hb p hp => ⟨(h p hp).1, (h p hp).2.1.later hb, (h p hp).2.2.later (h p hp).2.1.1 hb⟩
theorem AB.lasts (W : World) : Lasts (AB W) := fun vs w w' h hb p hp => ⟨(h p hp).1, (h p hp).2.later hb⟩
theorem AC.lasts (W : World) (z : Value) : Lasts (AC W z) := fun vs w w' h hb p hp => ⟨(h p hp).1, (h p hp).2.later hb⟩
theorem AW.start (W w : World) : AW W [undef] w := fun p hp => (no_ptr hp).elim
theorem AB.start (W w : World) : AB W [undef] w := fun p hp => (no_ptr hp).elim
theorem AC.start (W w : World) (z : Value) : AC W z [undef] w := fun p hp => (no_ptr hp).elim
theorem ptr_eq {p q : Nat} {l : List Value} (h : l = [.pointer (some ⟨q, 0, none⟩)]) (h' : l = [.pointer (some ⟨p, 0, none⟩)]) : p = q := by
  subst h; simpa using h'.symm
theorem AW.new {W w : World} (hb : Below W.heap.size W w) (t : TypeId) {vs : List Value} (hv : vs = [.pointer (some ⟨w.heap.size, 0, none⟩)]) : AW W vs (w.alloc (wbx 0 0 0 0 t)) := fun p hp => by
  obtain rfl := ptr_eq hv hp
  exact ⟨hb.size, WBox.new _ _ _ _ _ _, WFree.new _ _ _ _ _ _⟩
theorem AB.new {W w : World} (hb : Below W.heap.size W w) (t : TypeId) {vs : List Value} (hv : vs = [.pointer (some ⟨w.heap.size, 0, none⟩)]) : AB W vs (w.alloc (bx 0 0 t)) := fun p hp => by
  obtain rfl := ptr_eq hv hp
  exact ⟨hb.size, BoxF.new _ _ _ _⟩
theorem AC.new {W w : World} (hb : Below W.heap.size W w) (z : Value) (t : TypeId) {vs : List Value} (hv : vs = [.pointer (some ⟨w.heap.size, 0, none⟩)]) : AC W z vs (w.alloc (.cells #[z] t)) := fun p hp => by
  obtain rfl := ptr_eq hv hp
  exact ⟨hb.size, CBox.new _ _ _⟩
theorem ZW.of {W w : World} {p : Nat} (hb : Below W.heap.size W w) (h : AW W [.pointer (some ⟨p, 0, none⟩)] w) (d0 d1 d2 d3 : Int) (bs : List Bool) : ZW W d0 d1 d2 d3 bs [.pointer (some ⟨p, 0, none⟩)] (set4 w p d0 d1 d2 d3) :=
  ⟨p, rfl, (h p rfl).1, wbox_put4 (h p rfl).2.1 _ _ _ _, (h p rfl).2.2.set4 _ _ _ _ _, below_set4 hb (h p rfl).1 _ _ _ _⟩
theorem ZB.of {W w : World} {p : Nat} (hb : Below W.heap.size W w) (h : AB W [.pointer (some ⟨p, 0, none⟩)] w) (d0 d1 : Int) (bs : List Bool) : ZB W d0 d1 bs [.pointer (some ⟨p, 0, none⟩)] (set2 w p d0 d1) :=
  ⟨p, rfl, (h p rfl).1, (h p rfl).2.set _ _, bS hb (h p rfl).1 _ _⟩
theorem ZC.of {W w : World} {p : Nat} {z : Value} (hb : Below W.heap.size W w) (h : AC W z [.pointer (some ⟨p, 0, none⟩)] w) (v : Value) (bs : List Bool) : ZC W v bs [.pointer (some ⟨p, 0, none⟩)] (w.setCell ⟨p, 0, none⟩ v) :=
  ⟨p, rfl, (h p rfl).1, (h p rfl).2.set _, hb.setCell (p := ⟨p, 0, none⟩) (h p rfl).1 _⟩
end Go.Proofs.YtkhcbioohoeegaaDoor
