/-
  ClassMany over slices.
-/
import Derived.Test.YtdlmnnnnnjgkiaaDoorMany8
set_option linter.unusedVariables false
set_option linter.unusedSimpArgs false
set_option maxRecDepth 100000
namespace Go.Proofs.YtdlmnnnnnjgkiaaDoor
open Go.RowKit

set_option maxRecDepth 100000 in
set_option maxHeartbeats 1000000 in
theorem many8_long (f : Int) (ao bo : Option Addr) (n cap m cbp : Nat) (w : World) (hn : 50 < n) : Calls Tryd.prog 7 #[.int .u8 f, .slice ao n cap, .slice bo m cbp] w fun e w' => e = .returned (.bool true) ∧ Below w.heap.size w w' := by
  have g : decide ((50 : Int) < (n : Int)) = true := by simp; omega
  go_enter Tryd.func7, Tryd.ntmps7
  go_wp2_with fail
  go_ret
  exact ⟨rfl, Below.refl _ _⟩
set_option maxRecDepth 100000 in
set_option maxHeartbeats 1000000 in
theorem many8_long2 (f : Int) (ao bo : Option Addr) (n cap m cbp : Nat) (w : World) (hn : n ≤ 50) (hm : 50 < m) : Calls Tryd.prog 7 #[.int .u8 f, .slice ao n cap, .slice bo m cbp] w fun e w' => e = .returned (.bool true) ∧ Below w.heap.size w w' := by
  have g : decide ((50 : Int) < (n : Int)) = false := by simp; omega
  have g2 : decide ((50 : Int) < (m : Int)) = true := by simp; omega
  go_enter Tryd.func7, Tryd.ntmps7
  go_wp2_with fail
  go_ret
  exact ⟨rfl, Below.refl _ _⟩
theorem many8_law (D : ClassOK) (E : AnyOK) (f : Int) (ao : Option Addr) (n cap : Nat) (xs : List Int) (bo : Option Addr) (m cbp : Nat) (ys : List Int) (fb : 0 ≤ f ∧ f ≤ 255) (w : World) (ft : FTab w) (x : Bs w ao n cap xs) (y : Bs w bo m cbp ys) :
    Calls Tryd.prog 7 #[.int .u8 f, .slice ao n cap, .slice bo m cbp] w fun e w' => e = .returned (.bool true) ∧ Below w.heap.size w w' := by
  by_cases hn : n ≤ 50
  · by_cases hm : m ≤ 50
    · exact many8_walk f ao bo n cap m cbp xs ys w ft hn hm x y (Lib.hid fun ao n cap xs => E.nan f ao n cap xs fb.1 fb.2) (Lib.hid fun ao n cap xs => E.fin f ao n cap xs fb.1 fb.2) (Lib.hid (goes8_any D))
    · exact many8_long2 f ao bo n cap m cbp w hn (by omega)
  · exact many8_long f ao bo n cap m cbp w (by omega)
end Go.Proofs.YtdlmnnnnnjgkiaaDoor
