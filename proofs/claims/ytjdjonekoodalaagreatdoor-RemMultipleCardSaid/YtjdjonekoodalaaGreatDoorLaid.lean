import Derived.BigQuiet
import Derived.Deep.RegionHeld3
import Derived.Lib.Hide
import Derived.Lib.SmallJoins
import Derived.RangeFuncOwn
import Derived.Shelf.Bits.Mul64
import Derived.Shelf.Spec.BitsCarry
import Derived.StillTailTactics
import Derived.WalkLawsBesides
import Derived.WalkSpells
import Derived.Test.YtjdjonekoodalaaGreatDoorRows
set_option linter.unusedVariables false
set_option maxRecDepth 100000
namespace Go.Proofs.YtjdjonekoodalaaGreatDoor
open Go.ChangeShapes Go.WideShapes Go.ChangeAt Go.RowKit Go.Joins
theorem head_drop {α : Type} {l : List α} {j : Nat} {v : α} (h : (l.drop j).take 1 = [v]) : l[j]? = some v := by
  rcases hd : l.drop j with _ | ⟨y, ys⟩
  · rw [hd] at h; simp at h
  · rw [hd] at h
    have hy : y = v := by simpa using h
    have h5 : (l.drop j).head? = some v := by rw [hd, hy]; rfl
    rwa [List.head?_drop] at h5
theorem row_cells {H : Type} {enc : TypeId × Value → H} {P : Program} {w : World} {base : Nat} {spare : Nat → Bool} {held : Bool} {fuel : Nat} {S : TypeId} {fs : Array Field} {cs : List Value} {pl : List MemPlace} {kd : Nat → IntKind} {r : List Int}
    (hS : P.underlying S = some (.struct fs)) (hf : ∀ j, j < r.length → ∃ f, fs[j]? = some f ∧ f.offset = j ∧ P.underlying f.type = some (.int (kd j)) ∧ P.cellsOf f.type = 1)
    (h : DataW.trod enc P w base spare held fuel S cs = some (.agg (r.mapIdx fun j x => .lit (.int (kd j) x)), pl)) : ∀ (j : Nat) (x : Int), r[j]? = some x → cs[j]? = some (.int (kd j) x) := by
  intro j x hx
  obtain ⟨ys, n, rfl, hy, _, hlen, hel⟩ := DataW.trod_struct hS h
  simp only [Prod.mk.injEq, DataW.agg.injEq] at hy
  have hj : j < r.length := (List.getElem?_eq_some_iff.1 hx).1
  obtain ⟨f, hf1, hf2, hf3, hf4⟩ := hf j hj
  have e := hel j f hf1
  rw [hf2, hf4] at e
  have hm : (ys.map (·.1))[j]? = some (.lit (.int (kd j) x)) := by
    rw [← hy.1, List.getElem?_mapIdx, hx]; rfl
  rw [List.getElem?_map] at hm
  obtain ⟨y, hy1, hy2⟩ := Option.map_eq_some_iff.1 hm
  rw [hy1] at e
  obtain ⟨k, e1, e2, _⟩ := DataW.trod_int hf3 e
  rw [e2] at hy2
  simp only [DataW.lit.injEq, Lit.int.injEq, true_and] at hy2
  rw [hy2] at e1
  exact head_drop e1
theorem rows_cells {H : Type} {enc : TypeId × Value → H} {P : Program} {w : World} {base : Nat} {spare : Nat → Bool} {held : Bool} {fuel : Nat} {T S : TypeId} {n m : Nat} {fs : Array Field} {cs : List Value} {pl : List MemPlace} {kd : Nat → IntKind} {rows : List (List Int)}
    (hT : P.underlying T = some (.array n S)) (hS : P.underlying S = some (.struct fs)) (hm : P.cellsOf S = m) (hr : ∀ r ∈ rows, r.length = m)
    (hf : ∀ j, j < m → ∃ f, fs[j]? = some f ∧ f.offset = j ∧ P.underlying f.type = some (.int (kd j)) ∧ P.cellsOf f.type = 1)
    (h : DataW.trod enc P w base spare held fuel T cs = some (.agg (rows.map fun r => .agg (r.mapIdx fun j x => .lit (.int (kd j) x))), pl)) :
    ∀ (i j : Nat) (r : List Int) (x : Int), rows[i]? = some r → r[j]? = some x → cs[i * m + j]? = some (.int (kd j) x) := by
  intro i j r x hi hj
  obtain ⟨xs, k, rfl, hx, _, hlen, hel⟩ := DataW.trod_array hT h
  simp only [Prod.mk.injEq, DataW.agg.injEq] at hx
  have hxl : xs.length = rows.length := by have := congrArg List.length hx.1; simpa using this.symm
  have hin : i < n := by have := (List.getElem?_eq_some_iff.1 hi).1; omega
  have e := hel i hin
  rw [hm] at e
  have hmi : (xs.map (·.1))[i]? = some (.agg (r.mapIdx fun j x => .lit (.int (kd j) x))) := by
    rw [← hx.1, List.getElem?_map, hi]; rfl
  rw [List.getElem?_map] at hmi
  obtain ⟨y, hy1, hy2⟩ := Option.map_eq_some_iff.1 hmi
  rw [hy1] at e
  have hrm : r.length = m := hr r (List.mem_of_getElem? hi)
  have c := row_cells (r := r) (kd := kd) (pl := y.2) hS (fun j hj => hf j (by omega)) (by rw [e, ← hy2]) j x hj
  have hjm : j < m := by have := (List.getElem?_eq_some_iff.1 hj).1; omega
  rw [List.getElem?_take_of_lt hjm, List.getElem?_drop] at c
  exact c
end Go.Proofs.YtjdjonekoodalaaGreatDoor
