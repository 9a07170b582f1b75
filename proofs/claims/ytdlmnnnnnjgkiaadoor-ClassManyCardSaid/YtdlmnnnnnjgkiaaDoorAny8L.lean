/-
  What the document asks of class.Any; ClassAny over slices.
-/
import Derived.Test.YtdlmnnnnnjgkiaaDoorAny8
set_option linter.unusedVariables false
set_option linter.unusedSimpArgs false
set_option maxRecDepth 100000
namespace Go.Proofs.YtdlmnnnnnjgkiaaDoor
open Go.RowKit

/-- What the document asks of class.Any, at the functions that the statements hand it. -/
structure AnyOK : Prop where
  nan : ∀ f ao n cap xs, 0 ≤ f → f ≤ 255 → ∀ w, FTab w → Bs w ao n cap xs → Calls Tryd.prog 17 #[.int .u8 f, .func (.func 11) #[] #[], .slice ao n cap] w fun e w' => e = .returned (.bool (xs.any fun b => nanF f (b % full))) ∧ Below w.heap.size w w'
  sig : ∀ f ao n cap xs, 0 ≤ f → f ≤ 255 → ∀ w, FTab w → Bs w ao n cap xs → Calls Tryd.prog 17 #[.int .u8 f, .func (.func 13) #[] #[], .slice ao n cap] w fun e w' => e = .returned (.bool (xs.any fun b => sigF f (b % full))) ∧ Below w.heap.size w w'
  fin : ∀ f ao n cap xs, 0 ≤ f → f ≤ 255 → ∀ w, FTab w → Bs w ao n cap xs → Calls Tryd.prog 17 #[.int .u8 f, .func (.func 15) #[] #[], .slice ao n cap] w fun e w' => e = .returned (.bool (xs.any fun b => finF f (b % full))) ∧ Below w.heap.size w w'
  none : ∀ f ao n cap, 0 ≤ f → f ≤ 255 → ∀ w, Calls Tryd.prog 17 #[.int .u8 f, Value.nilFunc, .slice ao n cap] w fun e w' => e = .returned (.bool false) ∧ Below w.heap.size w w'

set_option maxRecDepth 100000 in
set_option maxHeartbeats 1000000 in
theorem any8_long (f : Int) (ao : Option Addr) (n cap : Nat) (w : World) (hn : 50 < n) (hm : n ≤ 9223372036854775807) :
    Calls Tryd.prog 4 #[.int .u8 f, .slice ao n cap] w fun e w' => e = .returned (.bool true) ∧ Below w.heap.size w w' := by
  have g : decide ((50 : Int) < (n : Int)) = true := by simp; omega
  go_enter Tryd.func4, Tryd.ntmps4
  go_wp2_with fail
  go_ret
  exact ⟨rfl, Below.refl _ _⟩
theorem any8_law (D : ClassOK) (E : AnyOK) (f : Int) (ao : Option Addr) (n cap : Nat) (xs : List Int) (fb : 0 ≤ f ∧ f ≤ 255) (w : World) (ft : FTab w) (x : Bs w ao n cap xs) :
    Calls Tryd.prog 4 #[.int .u8 f, .slice ao n cap] w fun e w' => e = .returned (.bool true) ∧ Below w.heap.size w w' := by
  by_cases hn : n ≤ 50
  · exact any8_walk f ao n cap xs w ft hn x _ _ rfl rfl (Lib.hid fun b w => ref8_nan f b fb.1 fb.2 w) (Lib.hid fun b w => ref8_sig f b fb.1 fb.2 w)
      (Lib.hid (E.nan f ao n cap xs fb.1 fb.2)) (Lib.hid (E.sig f ao n cap xs fb.1 fb.2)) (Lib.hid (E.none f ao n cap fb.1 fb.2)) (Lib.hid (goes8_any D))
  · exact any8_long f ao n cap w (by omega) x.2.2.1.1
end Go.Proofs.YtdlmnnnnnjgkiaaDoor
