/-
  Short steps for written walks: four operations that may come up.
-/
import Derived.Test.YtjnohbpebdnngaaGreatDoorW2
set_option linter.unusedVariables false
set_option maxRecDepth 100000
namespace Go.Proofs.YtjnohbpebdnngaaGreatDoor
open Go.RowKit

variable {P : Program} {ops : Array Oper} {Q : Exit → Act → World → Prop} {md : Region.Mode} {S : World → Prop} {fuel : Nat} {listed : Array Bool} {a a' : Act} {w : World} {oi : Oper} {v : Value}
theorem vY4 {i j l n : Nat} (h : Stp P md ops Q S fuel listed a w i) (h2 : Stp P md ops Q S fuel listed a w j) (h3 : Stp P md ops Q S fuel listed a w l) (h4 : Stp P md ops Q S fuel listed a w n) (hr : Region.ready md ops listed = [i, j, l, n] := by kernel_rfl) : wpAnyH P md ops Q S (fuel + 1) listed a w :=
  wpAnyH_ready hr (by simp) fun k hk => by
    rcases List.mem_cons.1 hk with rfl | hk
    · exact h
    · rcases List.mem_cons.1 hk with rfl | hk
      · exact h2
      · rcases List.mem_cons.1 hk with rfl | hk
        · exact h3
        · obtain rfl := List.mem_singleton.1 hk; exact h4

end Go.Proofs.YtjnohbpebdnngaaGreatDoor
