/-
  append of a slice of encodings to one of the call's own.
-/
import Derived.Test.YtfcffmihhpcjjaaDoorAny8L
import Derived.Laws.OwnMore
import Derived.Laws.AppendOwnNone
import Derived.Deep.AppendLies
set_option linter.unusedVariables false
set_option linter.unusedSimpArgs false
set_option maxRecDepth 100000
namespace Go.Proofs.YtfcffmihhpcjjaaDoor
open Go.RowKit
attribute [local go_sem ↓] Go.wp_at_zero Go.wp_at_succ

def cellsOfB (xs : List Int) : List Value := xs.flatMap fun b => [.int .u64 (hiOf b), .int .u64 (loOf b)]
theorem cellsOfB_len (xs : List Int) : (cellsOfB xs).length = xs.length * 2 := by
  induction xs with
  | nil => rfl
  | cons x xs ih => simp [cellsOfB] at ih ⊢; omega
theorem cellsOfB_app (xs ys : List Int) : cellsOfB (xs ++ ys) = cellsOfB xs ++ cellsOfB ys := by simp [cellsOfB]
theorem cellsOfB_at (xs : List Int) : ∀ k, k < xs.length → (cellsOfB xs)[k * 2]? = some (.int .u64 (hiOf (xs.getD k 0))) ∧ (cellsOfB xs)[k * 2 + 1]? = some (.int .u64 (loOf (xs.getD k 0))) := by
  induction xs with
  | nil => intro k hk; simp at hk
  | cons x xs ih =>
    intro k hk
    have e : cellsOfB (x :: xs) = Value.int .u64 (hiOf x) :: Value.int .u64 (loOf x) :: cellsOfB xs := rfl
    rw [e]
    cases k with
    | zero => exact ⟨rfl, rfl⟩
    | succ k =>
      obtain ⟨h1, h2⟩ := ih k (by simp at hk; omega)
      rw [show (k + 1) * 2 = k * 2 + 1 + 1 by omega]
      simpa using ⟨h1, h2⟩
/-- The call's own slice v holds the encodings os. -/
def OwnB (w : World) (base : Nat) (v : Value) (os : List Int) : Prop := w.ownsRow base 25 2 v os.length (cellsOfB os)
theorem Bs.cells {w : World} {a : Addr} {n cap : Nat} {xs : List Int} (x : Bs w (some a) n cap xs) : ∀ j u, (cellsOfB xs)[j]? = some u → w.cell? (a.add j) = some u := by
  intro j u hu
  have hj : j < xs.length * 2 := by
    have := (List.getElem?_eq_some_iff.1 hu).1
    rwa [cellsOfB_len] at this
  obtain ⟨h1, _, _, h4⟩ := x
  obtain ⟨k, r, hr, rfl⟩ : ∃ k r, r < 2 ∧ j = k * 2 + r := ⟨j / 2, j % 2, by omega, by omega⟩
  obtain ⟨a', e, c0, c1⟩ := h4 k (by omega)
  obtain rfl := Option.some.inj e
  obtain ⟨g0, g1⟩ := cellsOfB_at xs k (by omega)
  obtain rfl | rfl : r = 0 ∨ r = 1 := by omega
  · rw [Nat.add_zero] at hu ⊢; rw [g0] at hu; cases hu; exact c0
  · rw [g1] at hu; cases hu
    rw [show a.add (k * 2 + 1) = ⟨(a.add (k * 2)).block, (a.add (k * 2)).off + 1, none⟩ by unfold Addr.add; by_cases h : k * 2 = 0 <;> simp [h] <;> omega]
    exact c1
theorem infoBits : (Tryd.prog.info? 25).map (fun i => (i.zero, i.size, i.bytes)) = some (some (.agg #[.int .u64 0, .int .u64 0]), 2, 16) := by kernel_rfl
theorem wpList_append_bits {ops : Array Oper} {rest : List Oper} {o : Oper} {a : Act} {Q : Exit → Act → World → Prop} {w : World} (hgd : o.guard = none) (s x : Operand)
    (ho : o.op = .call { callee := .builtin .append, args := #[s, x], argTypes := #[30, 30] })
    (base : Nat) (v : Value) (os : List Int) (hs : a.eval s = v) (hown : OwnB w base v os) (ao : Option Addr) (n cap : Nat) (xs : List Int) (hx : a.eval x = .slice ao n cap) (hb : Bs w ao n cap xs)
    (hlen : os.length + n ≤ 1000000) (hbase : base ≤ w.heap.size)
    (h : ∀ v' w', OwnB w' base v' (os ++ xs) → Below base w w' → wpList Tryd.prog ops Q rest (a.put o.dst v') w') : wpList Tryd.prog ops Q (o :: rest) a w := by
  obtain ⟨i0, hi, hz0, hz1, hz2⟩ := info_parts infoBits
  cases ao with
  | none =>
    obtain ⟨rfl, rfl⟩ := hb.2.2.1.2 rfl
    have x0 : xs = [] := List.eq_nil_of_length_eq_zero hb.1.symm
    subst x0
    refine wpList_append_own_none hgd s x _ ho base 25 i0 2 Tryd.underlying30 hi v os.length (cellsOfB os) hs hown hx ?_
    exact h v w (by rw [List.append_nil]; exact hown) (Below.refl _ _)
  | some ad =>
    refine wpList_append_own w hgd s x _ ho base 25 i0 _ 2 16 Tryd.underlying30 hi hz0 hz1 hz2 rfl (by omega) v os.length (cellsOfB os) hs hown ad n cap (cellsOfB xs) hx (by rw [cellsOfB_len, hb.1]) hb.cells ?_ (by unfold maxLen; omega) (by omega) hbase ?_
    · intro u hu
      simp [cellsOfB] at hu
      obtain ⟨_, _, rfl | rfl⟩ := hu <;> rfl
    · intro v' w' h1 h2 _
      refine h v' w' ?_ ((Below.refl _ _).grown h2 hbase (fun k hk => (hown.lt k hk).1))
      unfold OwnB
      rw [cellsOfB_app, List.length_append, ← hb.1]
      exact h1
end Go.Proofs.YtfcffmihhpcjjaaDoor
