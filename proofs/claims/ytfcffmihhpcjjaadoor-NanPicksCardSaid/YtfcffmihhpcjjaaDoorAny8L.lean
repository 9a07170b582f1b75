/-
  What the document asks of class.Any; ClassAny over slices.
-/
import Derived.Test.YtfcffmihhpcjjaaDoorAny8
set_option linter.unusedVariables false
set_option linter.unusedSimpArgs false
set_option maxRecDepth 100000
namespace Go.Proofs.YtfcffmihhpcjjaaDoor
open Go.RowKit

/-- What the document asks of class.Any, at the functions that the statements hand it. -/
structure AnyOK : Prop where
  nan : ∀ f ao n cap xs, 0 ≤ f → f ≤ 255 → ∀ w, FTab w → Bs w ao n cap xs → Calls Tryd.prog 17 #[.int .u8 f, .func (.func 18) #[] #[], .slice ao n cap] w fun e w' => e = .returned (.bool (xs.any fun b => nanF f (b % full))) ∧ Below w.heap.size w w'
  sig : ∀ f ao n cap xs, 0 ≤ f → f ≤ 255 → ∀ w, FTab w → Bs w ao n cap xs → Calls Tryd.prog 17 #[.int .u8 f, .func (.func 21) #[] #[], .slice ao n cap] w fun e w' => e = .returned (.bool (xs.any fun b => sigF f (b % full))) ∧ Below w.heap.size w w'
  none : ∀ f ao n cap, 0 ≤ f → f ≤ 255 → ∀ w, Calls Tryd.prog 17 #[.int .u8 f, Value.nilFunc, .slice ao n cap] w fun e w' => e = .returned (.bool false) ∧ Below w.heap.size w w'

end Go.Proofs.YtfcffmihhpcjjaaDoor
