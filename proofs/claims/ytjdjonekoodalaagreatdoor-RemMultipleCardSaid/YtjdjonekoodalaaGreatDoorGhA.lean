import Derived.LoopIn
import Derived.LoopNIn
import Derived.OwnWalkIn
import Derived.RangeFuncBound
import Derived.RangeFuncNested
import Derived.Shelf.RegionOpen
import Derived.Test.YtjdjonekoodalaaGreatDoorGnA
import Derived.Test.YtjdjonekoodalaaGreatDoorGsA
set_option linter.unusedVariables false
namespace Go.Proofs.YtjdjonekoodalaaGreatDoor
open Go.RowKit
def Fresh5 (W : World) (t : TypeId) (z : Array Value) (p : Nat) (w : World) : Prop := W.heap.size ≤ p ∧ HB w p t z
theorem Fresh5.later {W w w' : World} {t : TypeId} {z : Array Value} {p : Nat} (h : Fresh5 W t z p w) (hb : Below w.heap.size w w') : Fresh5 W t z p w' := ⟨h.1, h.2.later hb⟩
theorem Fresh5.new {W w : World} (hb : Below W.heap.size W w) (t : TypeId) (z : Array Value) : Fresh5 W t z w.heap.size (w.alloc (.cells z t)) := ⟨hb.size, HB.new _ _ _⟩
def ANN (W : World) (t : TypeId) (z : Array Value) (vs : List Value) (w : World) : Prop := ∃ x y, vs = [x, y] ∧
  (x = undef ∨ ∃ p, x = .pointer (some ⟨p, 0, none⟩) ∧ Fresh5 W t z p w) ∧ (y = undef ∨ ∃ q, y = .pointer (some ⟨q, 0, none⟩) ∧ Fresh5 W t z q w) ∧
  ∀ p q, x = .pointer (some ⟨p, 0, none⟩) → y = .pointer (some ⟨q, 0, none⟩) → p ≠ q
section
variable {W w : World} {t : TypeId} {z : Array Value}
theorem ANN.first (hb : Below W.heap.size W w) {vs : List Value} (hv : vs = [.pointer (some ⟨w.heap.size, 0, none⟩), undef]) : ANN W t z vs (w.alloc (.cells z t)) :=
  ⟨_, _, hv, .inr ⟨_, rfl, Fresh5.new hb t z⟩, .inl rfl, fun p q _ h => (und_ptr h).elim⟩
end
def ZNN (W : World) (t : TypeId) (z : Array Value) (a0 a1 a2 a3 a4 b0 b1 b2 b3 b4 : Value) (bs : List Bool) (vs : List Value) (w : World) : Prop :=
  ∃ p q, vs = [.pointer (some ⟨p, 0, none⟩), .pointer (some ⟨q, 0, none⟩)] ∧ W.heap.size ≤ p ∧ W.heap.size ≤ q ∧ p ≠ q ∧ HB w p t #[a0, a1, a2, a3, a4] ∧
    (bs = [true, false] → HB w q t z) ∧ (bs = [true, true] → HB w q t #[b0, b1, b2, b3, b4]) ∧ Below W.heap.size W w
section
variable {W w : World} {t : TypeId} {z0 z1 z2 z3 z4 a0 a1 a2 a3 a4 b0 b1 b2 b3 b4 : Value} {p q : Nat}
theorem ZNN.cells {z : Array Value} (h : ZNN W t z a0 a1 a2 a3 a4 b0 b1 b2 b3 b4 [true, false] [.pointer (some ⟨p, 0, none⟩), .pointer (some ⟨q, 0, none⟩)] w) : HB w q t z := by
  obtain ⟨p', q', e, g0, g1, hn, hp, h1, h2, hb⟩ := h
  obtain ⟨rfl, rfl⟩ : p = p' ∧ q = q' := by simpa using e
  exact h1 rfl
end
end Go.Proofs.YtjdjonekoodalaaGreatDoor
namespace Go.Proofs.YtjdjonekoodalaaGreatDoor
theorem forget_at {α : Type} {K : α → World → Prop} {v : α} {w0 : World} (S : World → Prop) (h0 : S w0) (h : ∀ W, S W → K v W) : K v w0 := h w0 h0
end Go.Proofs.YtjdjonekoodalaaGreatDoor
