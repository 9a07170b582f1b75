/-
  A term (an exponent, four digits) as an argument: opened, and read again.
-/
import Derived.Test.YtamigjdankkmjaaFrameK
import Derived.Lib.SmallJoins
set_option linter.unusedVariables false
set_option linter.unusedSimpArgs false
set_option maxRecDepth 100000
namespace Go.Proofs.Ytamigjdankkmjaa
open Go.ChangeShapes Go.WideShapes Go.ChangeAt Go.RowKit Go.Joins

theorem bounds_i16 {x : Int} (h : (Lit.int .i16 x).wf = true) : -32768 ≤ x ∧ x ≤ 32767 := by
  simp only [Lit.wf, Bool.and_eq_true, decide_eq_true_eq] at h
  exact h
theorem cellsM : Try.prog.cellsOf 26 = 5 := by kernel_rfl
theorem cellsM0 : Try.prog.cellsOf 3 = 1 := by kernel_rfl
theorem list5m {l : List Value} (h : l.length = 5) : ∃ c0 c1 c2 c3 c4, l = [c0, c1, c2, c3, c4] := by
  match l, h with
  | [c0, c1, c2, c3, c4], _ => exact ⟨c0, c1, c2, c3, c4, rfl⟩
theorem open_term {H : Type} {enc : TypeId × Value → H} {W : World} {r : Reach} {b0 base : Nat} {sp : Nat → Bool} {held : Bool} {v : Value} {d : DataW H} {p : List MemPlace} (hv : Value.okWide Try.prog W r b0 26 v) (h : DataW.Trod enc Try.prog W base sp held 26 v d p) :
    ∃ e x0 x1 x2 x3 : Int, v = .agg #[.int .i64 e, .int .u64 x0, .int .u64 x1, .int .u64 x2, .int .u64 x3] ∧ d = .agg [.lit (.int .i64 e), .agg [.lit (.int .u64 x0), .lit (.int .u64 x1), .lit (.int .u64 x2), .lit (.int .u64 x3)]] ∧ p = [] ∧
      (Lit.int .i64 e).wf = true ∧ (Lit.int .u64 x0).wf = true ∧ (Lit.int .u64 x1).wf = true ∧ (Lit.int .u64 x2).wf = true ∧ (Lit.int .u64 x3).wf = true := by
  obtain ⟨cs, rfl, hsz, _⟩ : ∃ cs, v = .agg cs ∧ cs.size = Try.prog.cellsOf 26 ∧ Row.okWide Try.prog W r b0 26 cs := by
    simpa [Value.okWide, Try.underlying26] using hv
  rw [cellsM] at hsz
  obtain ⟨l⟩ := cs
  obtain ⟨c0, c1, c2, c3, c4, rfl⟩ := list5m hsz
  obtain ⟨fuel, hf⟩ := h
  obtain ⟨y0, y1, m, hx, _, h0, h1⟩ := trod_struct2 Try.underlying26 hf
  obtain ⟨z0, z1, z2, z3, m', hz, g0, g1, g2, g3⟩ := trod_array4 Try.underlying24 cellsU h1
  simp only [cellsW, cellsU, cellsM0, Value.cells, List.drop_zero, List.drop_succ_cons, List.take_succ_cons, List.take_zero, List.drop_nil] at h0 g0 g1 g2 g3
  obtain ⟨e, ee, rfl, we⟩ := DataW.trod_int Try.underlying3 h0
  obtain ⟨x0, e0, rfl, w0⟩ := DataW.trod_int Try.underlying22 g0
  obtain ⟨x1, e1, rfl, w1⟩ := DataW.trod_int Try.underlying22 g1
  obtain ⟨x2, e2, rfl, w2⟩ := DataW.trod_int Try.underlying22 g2
  obtain ⟨x3, e3, rfl, w3⟩ := DataW.trod_int Try.underlying22 g3
  simp at ee e0 e1 e2 e3
  subst ee e0 e1 e2 e3 hz
  simp only [Prod.mk.injEq] at hx
  obtain ⟨rfl, rfl⟩ := hx
  exact ⟨e, x0, x1, x2, x3, rfl, rfl, by simp, we, w0, w1, w2, w3⟩
theorem readsM {H : Type} (enc : TypeId × Value → H) (W : World) (sp : Nat → Bool) (e x0 x1 x2 x3 : Int) (we : (Lit.int .i64 e).wf = true) (w0 : (Lit.int .u64 x0).wf = true) (w1 : (Lit.int .u64 x1).wf = true) (w2 : (Lit.int .u64 x2).wf = true) (w3 : (Lit.int .u64 x3).wf = true) :
    DataW.Trod enc Try.prog W 0 sp true 26 (.agg #[.int .i64 e, .int .u64 x0, .int .u64 x1, .int .u64 x2, .int .u64 x3]) (.agg [.lit (.int .i64 e), .agg [.lit (.int .u64 x0), .lit (.int .u64 x1), .lit (.int .u64 x2), .lit (.int .u64 x3)]]) [] :=
  ⟨3, by simp [DataW.trod, Value.cells, Try.underlying26, Try.underlying24, Try.underlying3, Try.underlying22, cellsM, cellsW, cellsM0, cellsU, we, w0, w1, w2, w3, show List.range 4 = [0, 1, 2, 3] from rfl]⟩

end Go.Proofs.Ytamigjdankkmjaa
