import Derived.BigQuiet
import Derived.Deep.RegionHeld3
import Derived.Lib.Hide
import Derived.Lib.SmallJoins
import Derived.RangeFuncOwn
import Derived.Shelf.Bits.Mul64
import Derived.Shelf.Spec.BitsCarry
import Derived.StillTailTactics
import Derived.WalkLawsBesides
import Derived.WalkSpells
import Derived.Test.YtbighggnfkdncaaGreatDoorRows
set_option linter.unusedVariables false
set_option linter.unusedSimpArgs false
set_option maxRecDepth 100000
namespace Go.Proofs.YtbighggnfkdncaaGreatDoor
open Go.ChangeShapes Go.WideShapes Go.ChangeAt Go.RowKit Go.Joins
theorem cellsE : Tryz.prog.cellsOf 25 = 2 := by kernel_rfl
theorem readsE {H : Type} (enc : TypeId × Value → H) (W : World) (sp : Nat → Bool) (m : Int) (t : Bool) (wm : (Lit.int .u8 m).wf = true) :
    DataW.Trod enc Tryz.prog W 0 sp true 25 (.agg #[.int .u8 m, .bool t]) (.agg [.lit (.int .u8 m), .lit (.bool t)]) [] :=
  shut_agg2 (y0 := (.lit (.int .u8 m), [])) (y1 := (.lit (.bool t), [])) Tryz.underlying25 (by kernel_rfl) cellsE ⟨1, by simp [DataW.trod, Tryz.underlying23, wm]⟩ ⟨1, by simp [DataW.trod, Tryz.underlying4]⟩
theorem open_env {H : Type} {enc : TypeId × Value → H} {W : World} {r : Reach} {b0 base : Nat} {sp : Nat → Bool} {held : Bool} {v : Value} {d : DataW H} {p : List MemPlace} (hv : Value.okWide Tryz.prog W r b0 25 v) (h : DataW.Trod enc Tryz.prog W base sp held 25 v d p) :
    ∃ (m : Int) (t : Bool), v = .agg #[.int .u8 m, .bool t] ∧ d = .agg [.lit (.int .u8 m), .lit (.bool t)] ∧ p = [] ∧ (Lit.int .u8 m).wf = true := by
  obtain ⟨c, e, y, z, m, rfl, rfl, rfl, hy, hz⟩ := open_agg2 Tryz.underlying25 (by kernel_rfl) cellsE hv h
  obtain ⟨a, ea, rfl, wa⟩ := DataW.trod_int Tryz.underlying23 hy
  obtain ⟨b, eb, rfl⟩ := DataW.trod_bool Tryz.underlying4 hz
  simp at ea eb
  subst ea eb
  exact ⟨a, b, rfl, rfl, rfl, wa⟩
end Go.Proofs.YtbighggnfkdncaaGreatDoor
