import Derived.LoopIn
import Derived.LoopNIn
import Derived.OwnWalkIn
import Derived.RangeFuncBound
import Derived.RangeFuncNested
import Derived.Shelf.RegionOpen
import Derived.Test.YtjdjonekoodalaaGreatDoorGnA
set_option maxHeartbeats 4000000
set_option linter.unusedVariables false
set_option linter.unusedSimpArgs false
namespace Go.Proofs.YtjdjonekoodalaaGreatDoor
open Go.RowKit
def NumAway (w : World) (v : Value) (n : Int) (g : Nat) : Prop :=
  ∃ (ao : Option Addr) (k cap : Nat) (ds : List Int), v = .slice ao k cap ∧ Dig w ao k cap ds ∧ num ds = n ∧ Norm ds ∧ ∀ o, ao ≠ some ⟨g, o, none⟩
theorem NumAway.later {W w1 : World} {v : Value} {n : Int} {g : Nat} (x : NumAway W v n g) (hb : Below W.heap.size W w1) : NumAway w1 v n g := by
  obtain ⟨ao, k, cap, ds, e, h1, h2, h3, h4⟩ := x
  exact ⟨ao, k, cap, ds, e, h1.later hb, h2, h3, h4⟩
theorem NumAway.set {w : World} {v : Value} {n : Int} {g : Nat} (x : NumAway w v n g) (q : Nat) (u : Value) : IsNum (w.setCell ⟨g, q, none⟩ u) v n := by
  obtain ⟨ao, k, cap, ds, e, ⟨h1, h2, h3, h4, h5⟩, h6, h7, h8⟩ := x
  refine ⟨ao, k, cap, ds, e, ⟨h1, h2, h3, h4, fun hk => ?_⟩, h6, h7⟩
  obtain ⟨g', hao, hlt, hc⟩ := h5 hk
  refine ⟨g', hao, by simpa using hlt, fun j hj => ?_⟩
  have hne : g ≠ g' := fun h => h8 0 (by rw [hao, h])
  exact (World.cell?_setCell_far _ _ _ _ hne).trans (hc j hj)
def DivKeep (w : World) (va vd : Value) (a d : Int) (g n : Nat) (os : List Int) (wr : World) : Prop :=
  IsNum wr va a ∧ IsNum wr vd d ∧ Own wr w.heap.size (.slice (some ⟨g, 0, none⟩) n n) os ∧ Below w.heap.size w wr
theorem DivKeep.later {w : World} {va vd : Value} {a d : Int} {g n : Nat} {os : List Int} {W w1 : World} (x : DivKeep w va vd a d g n os W) (hb : Below W.heap.size W w1) : DivKeep w va vd a d g n os w1 :=
  ⟨x.1.later hb, x.2.1.later hb, x.2.2.1.later hb, bC x.2.2.2 hb⟩
end Go.Proofs.YtjdjonekoodalaaGreatDoor
namespace Go.Proofs.YtjdjonekoodalaaGreatDoor
open Go.RowKit
theorem wfull_pow : (2 : Int) ^ 256 = wfull := by decide +kernel
theorem full_pow : (2 : Int) ^ 128 = full := by decide +kernel
end Go.Proofs.YtjdjonekoodalaaGreatDoor
