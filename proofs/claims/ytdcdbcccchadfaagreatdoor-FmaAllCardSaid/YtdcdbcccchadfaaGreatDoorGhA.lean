import Derived.Test.YtdcdbcccchadfaaGreatDoorGnA
import Derived.Test.YtdcdbcccchadfaaGreatDoorGaB
import Derived.Test.YtdcdbcccchadfaaGreatDoorGaA
import Derived.Test.YtdcdbcccchadfaaGreatDoorGsA
set_option linter.unusedVariables false
set_option maxRecDepth 100000
namespace Go.Proofs.YtdcdbcccchadfaaGreatDoor
open Go.RowKit
theorem IsNum.setHB {W : World} {v : Value} {n : Int} (x : IsNum W v n) {p : Nat} {T : TypeId} {vs : Array Value} (h : HB W p T vs) (h0 : ∀ d, vs[0]? ≠ some (.int .u32 d)) (k : Nat) (u : Value) : IsNum (W.setCell ⟨p, k, none⟩ u) v n := by
  obtain ⟨ao, k', cap, ds, e, ⟨h1, h2, h3, h4, h5⟩, hn, hm⟩ := x
  refine ⟨ao, k', cap, ds, e, ⟨h1, h2, h3, h4, fun hp => ?_⟩, hn, hm⟩
  obtain ⟨g, e2, hg, hc⟩ := h5 hp
  have hne : p ≠ g := by
    rintro rfl
    have a := hc 0 hp
    rw [h.cell 0] at a
    exact h0 _ a
  exact ⟨g, e2, lY hg (KeepsOthers.setCell _ _ _).1, fun j hj => (World.cell?_setCell_far _ _ _ _ hne).trans (hc j hj)⟩
end Go.Proofs.YtdcdbcccchadfaaGreatDoor
namespace Go.Proofs.YtdcdbcccchadfaaGreatDoor
open Go.RowKit
def set5 (w : World) (p : Nat) (a b c d e : Value) : World := ((((w.setCell ⟨p, 0, none⟩ a).setCell ⟨p, 1, none⟩ b).setCell ⟨p, 2, none⟩ c).setCell ⟨p, 3, none⟩ d).setCell ⟨p, 4, none⟩ e
theorem HB.set5 {w : World} {p : Nat} {t : TypeId} {a0 b0 c0 d0 e0 : Value} (x : HB w p t #[a0, b0, c0, d0, e0]) (a b c d e : Value) : HB (set5 w p a b c d e) p t #[a, b, c, d, e] :=
  ((((x.set 0 a).set 1 b).set 2 c).set 3 d).set 4 e
theorem HB.far5 {w : World} {p q : Nat} {t : TypeId} {vs : Array Value} (x : HB w q t vs) (hne : q ≠ p) (a b c d e : Value) : HB (Go.Proofs.YtdcdbcccchadfaaGreatDoor.set5 w p a b c d e) q t vs :=
  ((((x.other hne 0 a).other hne 1 b).other hne 2 c).other hne 3 d).other hne 4 e
theorem below_set5 {a w : World} {p : Nat} (h : Below a.heap.size a w) (hp : a.heap.size ≤ p) (v0 v1 v2 v3 v4 : Value) : Below a.heap.size a (set5 w p v0 v1 v2 v3 v4) :=
  ((((h.setCell (p := ⟨p, 0, none⟩) hp v0).setCell (p := ⟨p, 1, none⟩) hp v1).setCell (p := ⟨p, 2, none⟩) hp v2).setCell (p := ⟨p, 3, none⟩) hp v3).setCell (p := ⟨p, 4, none⟩) hp v4
def Fresh5 (W : World) (t : TypeId) (z : Array Value) (p : Nat) (w : World) : Prop := W.heap.size ≤ p ∧ HB w p t z
theorem Fresh5.later {W w w' : World} {t : TypeId} {z : Array Value} {p : Nat} (h : Fresh5 W t z p w) (hb : Below w.heap.size w w') : Fresh5 W t z p w' := ⟨h.1, h.2.later hb⟩
theorem Fresh5.new {W w : World} (hb : Below W.heap.size W w) (t : TypeId) (z : Array Value) : Fresh5 W t z w.heap.size (w.alloc (.cells z t)) := ⟨hb.size, HB.new _ _ _⟩
def ANN (W : World) (t : TypeId) (z : Array Value) (vs : List Value) (w : World) : Prop := ∃ x y, vs = [x, y] ∧
  (x = undef ∨ ∃ p, x = .pointer (some ⟨p, 0, none⟩) ∧ Fresh5 W t z p w) ∧ (y = undef ∨ ∃ q, y = .pointer (some ⟨q, 0, none⟩) ∧ Fresh5 W t z q w) ∧
  ∀ p q, x = .pointer (some ⟨p, 0, none⟩) → y = .pointer (some ⟨q, 0, none⟩) → p ≠ q
section
variable {W w : World} {t : TypeId} {z : Array Value}
theorem ANN.first (hb : Below W.heap.size W w) {vs : List Value} (hv : vs = [.pointer (some ⟨w.heap.size, 0, none⟩), undef]) : ANN W t z vs (w.alloc (.cells z t)) :=
  ⟨_, _, hv, .inr ⟨_, rfl, Fresh5.new hb t z⟩, .inl rfl, fun p q _ h => (und_ptr h).elim⟩
end
def ZNN (W : World) (t : TypeId) (z : Array Value) (a0 a1 a2 a3 a4 b0 b1 b2 b3 b4 : Value) (bs : List Bool) (vs : List Value) (w : World) : Prop :=
  ∃ p q, vs = [.pointer (some ⟨p, 0, none⟩), .pointer (some ⟨q, 0, none⟩)] ∧ W.heap.size ≤ p ∧ W.heap.size ≤ q ∧ p ≠ q ∧ HB w p t #[a0, a1, a2, a3, a4] ∧
    (bs = [true, false] → HB w q t z) ∧ (bs = [true, true] → HB w q t #[b0, b1, b2, b3, b4]) ∧ Below W.heap.size W w
section
variable {W w : World} {t : TypeId} {z0 z1 z2 z3 z4 a0 a1 a2 a3 a4 b0 b1 b2 b3 b4 : Value} {p q : Nat}
theorem ZNN.cells {z : Array Value} (h : ZNN W t z a0 a1 a2 a3 a4 b0 b1 b2 b3 b4 [true, false] [.pointer (some ⟨p, 0, none⟩), .pointer (some ⟨q, 0, none⟩)] w) : HB w q t z := by
  obtain ⟨p', q', e, g0, g1, hn, hp, h1, h2, hb⟩ := h
  obtain ⟨rfl, rfl⟩ : p = p' ∧ q = q' := by simpa using e
  exact h1 rfl
theorem ZNN.two (h : ZNN W t #[z0, z1, z2, z3, z4] a0 a1 a2 a3 a4 b0 b1 b2 b3 b4 [true, false] [.pointer (some ⟨p, 0, none⟩), .pointer (some ⟨q, 0, none⟩)] w) :
    ZNN W t #[z0, z1, z2, z3, z4] a0 a1 a2 a3 a4 b0 b1 b2 b3 b4 [true, true] [.pointer (some ⟨p, 0, none⟩), .pointer (some ⟨q, 0, none⟩)] (set5 w q b0 b1 b2 b3 b4) := by
  obtain ⟨p', q', e, g0, g1, hn, hp, h1, h2, hb⟩ := h
  obtain ⟨rfl, rfl⟩ : p = p' ∧ q = q' := by simpa using e
  exact ⟨p, q, rfl, g0, g1, hn, hp.far5 hn _ _ _ _ _, fun h => by simp at h, fun _ => (h1 rfl).set5 _ _ _ _ _, below_set5 hb g1 _ _ _ _ _⟩
end
end Go.Proofs.YtdcdbcccchadfaaGreatDoor
namespace Go.Proofs.YtdcdbcccchadfaaGreatDoor
theorem forget_at {α : Type} {K : α → World → Prop} {v : α} {w0 : World} (S : World → Prop) (h0 : S w0) (h : ∀ W, S W → K v W) : K v w0 := h w0 h0
end Go.Proofs.YtdcdbcccchadfaaGreatDoor
