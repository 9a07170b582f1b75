/-
  A number taken apart, as an argument: opened, and read again.
-/
import Derived.Test.YtjnohbpebdnngaaGreatDoorFrameK
import Derived.Lib.SmallJoins
set_option linter.unusedVariables false
set_option linter.unusedSimpArgs false
set_option maxRecDepth 100000
namespace Go.Proofs.YtjnohbpebdnngaaGreatDoor
open Go.ChangeShapes Go.WideShapes Go.ChangeAt Go.RowKit Go.Joins

theorem cellsN : Tryz.prog.cellsOf 37 = 5 := by kernel_rfl
theorem cellsN0 : Tryz.prog.cellsOf 4 = 1 := by kernel_rfl
theorem cellsN1 : Tryz.prog.cellsOf 35 = 1 := by kernel_rfl
theorem cellsN2 : Tryz.prog.cellsOf 3 = 1 := by kernel_rfl
theorem cellsN3 : Tryz.prog.cellsOf 26 = 1 := by kernel_rfl
theorem list5n {l : List Value} (h : l.length = 5) : ∃ c0 c1 c2 c3 c4, l = [c0, c1, c2, c3, c4] := by
  match l, h with
  | [c0, c1, c2, c3, c4], _ => exact ⟨c0, c1, c2, c3, c4, rfl⟩
theorem open_num {H : Type} {enc : TypeId × Value → H} {W : World} {r : Reach} {b0 base : Nat} {sp : Nat → Bool} {held : Bool} {v : Value} {d : DataW H} {p : List MemPlace} (hv : Value.okWide Tryz.prog W r b0 37 v) (h : DataW.Trod enc Tryz.prog W base sp held 37 v d p) :
    ∃ (g : Bool) (c e x y : Int), v = .agg #[.bool g, .int .u8 c, .int .i64 e, .int .u64 x, .int .u64 y] ∧ d = .agg [.lit (.bool g), .lit (.int .u8 c), .lit (.int .i64 e), .agg [.lit (.int .u64 x), .lit (.int .u64 y)]] ∧ p = [] ∧
      (Lit.int .u8 c).wf = true ∧ (Lit.int .i64 e).wf = true ∧ (Lit.int .u64 x).wf = true ∧ (Lit.int .u64 y).wf = true := by
  obtain ⟨cs, rfl, hsz, _⟩ : ∃ cs, v = .agg cs ∧ cs.size = Tryz.prog.cellsOf 37 ∧ Row.okWide Tryz.prog W r b0 37 cs := by
    simpa [Value.okWide, Tryz.underlying37] using hv
  rw [cellsN] at hsz
  obtain ⟨l⟩ := cs
  obtain ⟨c0, c1, c2, c3, c4, rfl⟩ := list5n hsz
  obtain ⟨fuel, hf⟩ := h
  obtain ⟨y0, y1, y2, y3, m, hx, _, h0, h1, h2, h3⟩ := trod_struct4 Tryz.underlying37 hf
  obtain ⟨z0, z1, m', hz, _, g0, g1⟩ := trod_struct2 Tryz.underlying28 h3
  simp only [cellsB, cellsN0, cellsN1, cellsN2, cellsN3, Value.cells, List.drop_zero, List.drop_succ_cons, List.take_succ_cons, List.take_zero, List.drop_nil] at h0 h1 h2 g0 g1
  obtain ⟨b, eb, rfl⟩ := DataW.trod_bool Tryz.underlying4 h0
  obtain ⟨c, ec, rfl, wc⟩ := DataW.trod_int Tryz.underlying35 h1
  obtain ⟨e, ee, rfl, we⟩ := DataW.trod_int Tryz.underlying3 h2
  obtain ⟨x, ex, rfl, wx⟩ := DataW.trod_int Tryz.underlying26 g0
  obtain ⟨y, ey, rfl, wy⟩ := DataW.trod_int Tryz.underlying26 g1
  simp at eb ec ee ex ey
  subst eb ec ee ex ey hz
  simp only [Prod.mk.injEq] at hx
  obtain ⟨rfl, rfl⟩ := hx
  exact ⟨b, c, e, x, y, rfl, rfl, by simp, wc, we, wx, wy⟩
theorem readsN {H : Type} (enc : TypeId × Value → H) (W : World) (sp : Nat → Bool) (g : Bool) (c e x y : Int) (wc : (Lit.int .u8 c).wf = true) (we : (Lit.int .i64 e).wf = true) (wx : (Lit.int .u64 x).wf = true) (wy : (Lit.int .u64 y).wf = true) :
    DataW.Trod enc Tryz.prog W 0 sp true 37 (.agg #[.bool g, .int .u8 c, .int .i64 e, .int .u64 x, .int .u64 y]) (.agg [.lit (.bool g), .lit (.int .u8 c), .lit (.int .i64 e), .agg [.lit (.int .u64 x), .lit (.int .u64 y)]]) [] :=
  ⟨3, by simp [DataW.trod, Value.cells, Tryz.underlying37, Tryz.underlying28, Tryz.underlying4, Tryz.underlying35, Tryz.underlying3, Tryz.underlying26, cellsN, cellsB, cellsN0, cellsN1, cellsN2, cellsN3, wc, we, wx, wy]⟩

end Go.Proofs.YtjnohbpebdnngaaGreatDoor
