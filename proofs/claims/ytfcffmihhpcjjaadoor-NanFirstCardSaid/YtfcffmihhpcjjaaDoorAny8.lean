/-
  ClassAny: slices of encodings; the walk.
-/
import Derived.Test.YtfcffmihhpcjjaaDoorCls8P
import Derived.Test.YtfcffmihhpcjjaaDoorGoes8L
import Derived.Test.YtfcffmihhpcjjaaDoorGaA
set_option linter.unusedVariables false
set_option linter.unusedSimpArgs false
set_option maxRecDepth 100000
namespace Go.Proofs.YtfcffmihhpcjjaaDoor
open Go.RowKit

/-- The slice '(ao, n, cap)' reads as the encodings xs. -/
def Bs (w : World) (ao : Option Addr) (n cap : Nat) (xs : List Int) : Prop :=
  n = xs.length ∧ n ≤ cap ∧ (n ≤ 9223372036854775807 ∧ (ao = none → n = 0 ∧ cap = 0)) ∧ ∀ k, k < n → ∃ a, ao = some a ∧ w.cell? (a.add (k * 2)) = some (.int .u64 (hiOf (xs.getD k 0))) ∧ w.cell? ⟨(a.add (k * 2)).block, (a.add (k * 2)).off + 1, none⟩ = some (.int .u64 (loOf (xs.getD k 0)))
theorem Bs.later {W w1 : World} {ao : Option Addr} {n cap : Nat} {xs : List Int} (x : Bs W ao n cap xs) (hb : Below W.heap.size W w1) : Bs w1 ao n cap xs := by
  obtain ⟨h1, h2, h3, h4⟩ := x
  refine ⟨h1, h2, h3, fun k hk => ?_⟩
  obtain ⟨a, e, c0, c1⟩ := h4 k hk
  exact ⟨a, e, cell_later hb c0, cell_later hb c1⟩
def someB (p : Int → Bool) (xs : List Int) (k : Nat) : Bool := (xs.take k).any p
theorem someB_succ (p : Int → Bool) (xs : List Int) (k : Nat) (h : k < xs.length) : someB p xs (k + 1) = (someB p xs k || p (xs.getD k 0)) := by
  unfold someB
  rw [List.take_add_one, List.any_append, List.getD_eq_getElem?_getD, List.getElem?_eq_getElem h]
  simp
theorem someB_all (p : Int → Bool) (xs : List Int) {n : Nat} (h : n = xs.length) : someB p xs n = xs.any p := by
  unfold someB; rw [h, List.take_length]

end Go.Proofs.YtfcffmihhpcjjaaDoor
