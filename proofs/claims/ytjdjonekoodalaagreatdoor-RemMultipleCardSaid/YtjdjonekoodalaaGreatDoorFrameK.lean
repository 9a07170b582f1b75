import Derived.BigQuiet
import Derived.Deep.RegionHeld3
import Derived.Lib.Hide
import Derived.Lib.SmallJoins
import Derived.RangeFuncOwn
import Derived.Shelf.Bits.Mul64
import Derived.Shelf.Spec.BitsCarry
import Derived.StillTailTactics
import Derived.WalkLawsBesides
import Derived.WalkSpells
import Derived.Test.YtjdjonekoodalaaGreatDoorRows
set_option linter.unusedVariables false
set_option maxRecDepth 100000
namespace Go.Proofs.YtjdjonekoodalaaGreatDoor
open Go.ChangeShapes Go.WideShapes Go.ChangeAt Go.RowKit Go.Joins
theorem bounds_u16 {x : Int} (h : (Lit.int .u16 x).wf = true) : 0 ≤ x ∧ x ≤ 65535 := by
  simp only [Lit.wf, Bool.and_eq_true, decide_eq_true_eq] at h
  exact h
theorem bounds_u8 {x : Int} (h : (Lit.int .u8 x).wf = true) : 0 ≤ x ∧ x ≤ 255 := by
  simp only [Lit.wf, Bool.and_eq_true, decide_eq_true_eq] at h
  exact h
theorem ownT : ownKnob Tryz.prog.godebug = none := by kernel_rfl
theorem cellsB : Tryz.prog.cellsOf 25 = 2 := by kernel_rfl
theorem readsB {H : Type} (enc : TypeId × Value → H) (W : World) (sp : Nat → Bool) (h l : Int) (wh : (Lit.int .u64 h).wf = true) (wl : (Lit.int .u64 l).wf = true) :
    DataW.Trod enc Tryz.prog W 0 sp true 25 (.agg #[.int .u64 h, .int .u64 l]) (.agg [.lit (.int .u64 h), .lit (.int .u64 l)]) [] :=
  shut_agg2 (y0 := (.lit (.int .u64 h), [])) (y1 := (.lit (.int .u64 l), [])) Tryz.underlying25 (by kernel_rfl) cellsB ⟨1, by simp [DataW.trod, Tryz.underlying23, wh]⟩ ⟨1, by simp [DataW.trod, Tryz.underlying23, wl]⟩
theorem open_bits {H : Type} {enc : TypeId × Value → H} {W : World} {r : Reach} {b0 base : Nat} {sp : Nat → Bool} {held : Bool} {v : Value} {d : DataW H} {p : List MemPlace} (hv : Value.okWide Tryz.prog W r b0 25 v) (h : DataW.Trod enc Tryz.prog W base sp held 25 v d p) :
    ∃ a b : Int, v = .agg #[.int .u64 a, .int .u64 b] ∧ d = .agg [.lit (.int .u64 a), .lit (.int .u64 b)] ∧ p = [] ∧ (Lit.int .u64 a).wf = true ∧ (Lit.int .u64 b).wf = true := by
  obtain ⟨c, e, y, z, m, rfl, rfl, rfl, hy, hz⟩ := open_agg2 Tryz.underlying25 (by kernel_rfl) cellsB hv h
  obtain ⟨a, ea, rfl, wa⟩ := DataW.trod_int Tryz.underlying23 hy
  obtain ⟨b, eb, rfl, wb⟩ := DataW.trod_int Tryz.underlying23 hz
  simp at ea eb
  subst ea eb
  exact ⟨a, b, rfl, rfl, rfl, wa, wb⟩
end Go.Proofs.YtjdjonekoodalaaGreatDoor
