/-
  A world forgotten within a region: what is known of it stays.
-/
import Derived.Test.YtfcffmihhpcjjaaDoorGaA
set_option linter.unusedVariables false
set_option maxRecDepth 100000
namespace Go.Proofs.YtfcffmihhpcjjaaDoor

theorem forget_at {α : Type} {K : α → World → Prop} {v : α} {w0 : World} (S : World → Prop) (h0 : S w0) (h : ∀ W, S W → K v W) : K v w0 := h w0 h0

end Go.Proofs.YtfcffmihhpcjjaaDoor
