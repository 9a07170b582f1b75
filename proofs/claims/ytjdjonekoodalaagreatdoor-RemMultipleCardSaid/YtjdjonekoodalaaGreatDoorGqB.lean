import Derived.Conc.MuLone
import Derived.Laws.EntriesVeiled
import Derived.LoopIn
import Derived.LoopNIn
import Derived.OwnWalkIn
import Derived.RangeFuncBound
import Derived.RangeFuncNested
import Derived.Shelf.RegionOpen
import Derived.Test.YtjdjonekoodalaaGreatDoorGnB
import Derived.Test.YtjdjonekoodalaaGreatDoorGsA
set_option linter.unusedVariables false
set_option linter.unusedSimpArgs false
namespace Go.Proofs.YtjdjonekoodalaaGreatDoor
open Go.RowKit Go.Shelf
attribute [local go_sem] Oper.semAt_some
def stepR (n r : Int) (x : Fin 128) : Int := if (r + 2 ^ x.val) % full * ((r + 2 ^ x.val) % full) ≤ n % wfull then r + 2 ^ x.val else r
def stR (n : Int) (pre : List (Fin 128)) : Int := pre.foldl (stepR n) 0
def RI (w : World) (B : Nat) (n : Int) (pre : List (Fin 128)) (W : World) : Prop :=
  ((HB W w.heap.size 81 #[.int .u64 (wd0 n), .int .u64 (wd1 n), .int .u64 (wd2 n), .int .u64 (wd3 n)] ∧ HB W (w.heap.size + 1) 25 #[.int .u64 0, .int .u64 0]) ∧ HB W (w.heap.size + 1 + 1) 25 #[.int .u64 (hiOf (stR n pre)), .int .u64 (loOf (stR n pre))]) ∧
  (Below w.heap.size w W ∧ B ≤ W.heap.size)
theorem RI.later {w W V : World} {B : Nat} {n : Int} {pre pre' : List (Fin 128)} (hI : RI w B n pre W) (hb : Below W.heap.size W V) (h : stR n pre' = stR n pre) : RI w B n pre' V := by
  obtain ⟨⟨⟨g0, g1⟩, g2⟩, hB1, hle⟩ := hI
  refine ⟨⟨⟨g0.later hb, g1.later hb⟩, ?_⟩, bC hB1 hb, lZ hle hb.size⟩
  rw [h]; exact g2.later hb
def RS (w : World) (D : Nat) (n R : Int) (bs : List Bool) (_ : List Value) (W : World) : Prop :=
  HB W w.heap.size 81 #[.int .u64 (wd0 n), .int .u64 (wd1 n), .int .u64 (wd2 n), .int .u64 (wd3 n)] ∧ HB W (w.heap.size + 1 + 1) 25 #[.int .u64 (hiOf R), .int .u64 (loOf R)] ∧
  Below w.heap.size w W ∧ W.heap[D]? = some (.deferred (some [])) ∧ (noBits bs → HB W (w.heap.size + 1) 25 #[.int .u64 0, .int .u64 0]) ∧ (¬ noBits bs → HB W (w.heap.size + 1) 25 #[.int .u64 (hiOf R), .int .u64 (loOf R)])
theorem RS.later {w W V : World} {D : Nat} {n R : Int} {bs : List Bool} {vs : List Value} (h : RS w D n R bs vs W) (hb : Below W.heap.size W V) : RS w D n R bs vs V := by
  obtain ⟨a, b, c, d, e, f⟩ := h
  exact ⟨a.later hb, b.later hb, bC c hb, (hb.block D (Array.getElem?_eq_some_iff.1 d).1).trans d, fun h => (e h).later hb, fun h => (f h).later hb⟩
theorem RS.fin {w W : World} {D : Nat} {n R : Int} {vs : List Value} (hD : w.heap.size + 3 ≤ D) (h : RS w D n R [true] vs W) :
    HB (W.putObj D (.deferred none)) (w.heap.size + 1) 25 #[.int .u64 (hiOf R), .int .u64 (loOf R)] ∧ W.heap[D]? = some (.deferred (some [])) ∧ Below w.heap.size w (W.putObj D (.deferred none)) := by
  obtain ⟨a, b, c, d, e, f⟩ := h
  exact ⟨(World.putObj_heap_other (by omega)).trans (f bits_t), d, c.trans (belowK_b (w := w) (Nat.le_refl _) _ D _ _ (by omega) d rfl rfl)⟩
end Go.Proofs.YtjdjonekoodalaaGreatDoor
