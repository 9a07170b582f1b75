/-
  No cell of these rows narrows 'for every input' (looked for: loops, veiled, ifaces, maps, wideKeys, modest, calm, conditions, laid).
  DERIVED. THE GIVEN ROWS OF THIS SEAT. 6 by the template 'for every input the law returns true; each argument reads behind the call as it read before'; 0 by the template 'total and deterministic' (their statements: YtamigjdankkmjaaTotals.lean).
  GIVEN WITH THE SEED: the statements are not yours to turn. If you find one false, say at which input.
  Laid BY PROGRAM, IN A SANDBOX (cutbox-rows.mjs): the forced cells as the released guide's own fill.sh prints them over the translation 37791f1160bb39b0… (all of the seat's roots in one cut). By AI agents, Wed Nov 11 2026. No macro, syntax, notation, axiom, sorry.
-/
import Derived.Test.YtamigjdankkmjaaChecked
import GoSem.Claim
import GoSem.ClaimJoined
import GoSem.ClaimMapViews
import Derived.JoinedTies
import Derived.KernelRfl
namespace Go.Proofs.Ytamigjdankkmjaa
/- THE CELL 'sum', in the pinned program and in every row, IS THE sha256 OF THE DUMP (.gsa) THAT YtamigjdankkmjaaProg.lean LOADS. Nothing in Lean hashes anything: it is a label: what it is worth is what the hold of that sum in a sandbox is worth. -/
noncomputable def Try.pinned : Pinned := { name := "ytamigjdankkmjaa", sum := "37791f1160bb39b04e68e58cd89839d7238285f3ce1b4a8f34f503413d191efb", checked := Try.checked }
namespace Rows
def none {H : Type} : Left H := { results := [], args := [] }

/-- 'hairsbreadthlaw17.MagSums': WHATEVER THE INPUT: true; the input reads as it did. -/
def magSumsSpec : ChangeSpec := { name := "magSums", fn := fun _ => fun
  | [d1, d2, d3] => { results := [.lit (.bool true)], args := [d1, d2, d3] }
  | _ => none }
def magSumsRow : OpenClaim := { program := "ytamigjdankkmjaa", sum := "37791f1160bb39b04e68e58cd89839d7238285f3ce1b4a8f34f503413d191efb", func := "hairsbreadth/hairsbreadthlaw17.MagSums", spec := "magSums", inPlace := ["math/bits.Sub64", "math/bits.Add64"], unfollowed := true, recurses := true, apart := false }
def MagSumsSaid : Prop := magSumsRow.holds Try.pinned (OpenSpec.ofChange magSumsSpec)

/-- ITS FALSE NEIGHBOUR: 'it returns false'. Refute it at one input. -/
def magSumsWrong : ChangeSpec := { name := "magSums", fn := fun _ => fun
  | [d1, d2, d3] => { results := [.lit (.bool false)], args := [d1, d2, d3] }
  | _ => none }
def MagSumsWrongFalsely : Prop := magSumsRow.holds Try.pinned (OpenSpec.ofChange magSumsWrong)

/-- 'hairsbreadthlaw17.MagExact': WHATEVER THE INPUT: true; the input reads as it did. -/
def magExactSpec : ChangeSpec := { name := "magExact", fn := fun _ => fun
  | [d1, d2, d3] => { results := [.lit (.bool true)], args := [d1, d2, d3] }
  | _ => none }
def magExactRow : OpenClaim := { program := "ytamigjdankkmjaa", sum := "37791f1160bb39b04e68e58cd89839d7238285f3ce1b4a8f34f503413d191efb", func := "hairsbreadth/hairsbreadthlaw17.MagExact", spec := "magExact", inPlace := ["math/bits.Add64", "math/bits.Sub64"], unfollowed := true, recurses := true, apart := false }
def MagExactSaid : Prop := magExactRow.holds Try.pinned (OpenSpec.ofChange magExactSpec)

/-- ITS FALSE NEIGHBOUR: 'it returns false'. Refute it at one input. -/
def magExactWrong : ChangeSpec := { name := "magExact", fn := fun _ => fun
  | [d1, d2, d3] => { results := [.lit (.bool false)], args := [d1, d2, d3] }
  | _ => none }
def MagExactWrongFalsely : Prop := magExactRow.holds Try.pinned (OpenSpec.ofChange magExactWrong)

/-- 'hairsbreadthlaw17.MagOrder': WHATEVER THE INPUT: true; the input reads as it did. -/
def magOrderSpec : ChangeSpec := { name := "magOrder", fn := fun _ => fun
  | [d1, d2, d3] => { results := [.lit (.bool true)], args := [d1, d2, d3] }
  | _ => none }
def magOrderRow : OpenClaim := { program := "ytamigjdankkmjaa", sum := "37791f1160bb39b04e68e58cd89839d7238285f3ce1b4a8f34f503413d191efb", func := "hairsbreadth/hairsbreadthlaw17.MagOrder", spec := "magOrder", inPlace := ["math/bits.Sub64", "math/bits.Add64"], unfollowed := true, recurses := true, apart := false }
def MagOrderSaid : Prop := magOrderRow.holds Try.pinned (OpenSpec.ofChange magOrderSpec)

/-- ITS FALSE NEIGHBOUR: 'it returns false'. Refute it at one input. -/
def magOrderWrong : ChangeSpec := { name := "magOrder", fn := fun _ => fun
  | [d1, d2, d3] => { results := [.lit (.bool false)], args := [d1, d2, d3] }
  | _ => none }
def MagOrderWrongFalsely : Prop := magOrderRow.holds Try.pinned (OpenSpec.ofChange magOrderWrong)

/-- 'hairsbreadthlaw17.MagTurn': WHATEVER THE INPUT: true; the input reads as it did. -/
def magTurnSpec : ChangeSpec := { name := "magTurn", fn := fun _ => fun
  | [d1, d2] => { results := [.lit (.bool true)], args := [d1, d2] }
  | _ => none }
def magTurnRow : OpenClaim := { program := "ytamigjdankkmjaa", sum := "37791f1160bb39b04e68e58cd89839d7238285f3ce1b4a8f34f503413d191efb", func := "hairsbreadth/hairsbreadthlaw17.MagTurn", spec := "magTurn", inPlace := ["math/bits.Sub64", "math/bits.Add64"], unfollowed := true, recurses := true, apart := false }
def MagTurnSaid : Prop := magTurnRow.holds Try.pinned (OpenSpec.ofChange magTurnSpec)

/-- ITS FALSE NEIGHBOUR: 'it returns false'. Refute it at one input. -/
def magTurnWrong : ChangeSpec := { name := "magTurn", fn := fun _ => fun
  | [d1, d2] => { results := [.lit (.bool false)], args := [d1, d2] }
  | _ => none }
def MagTurnWrongFalsely : Prop := magTurnRow.holds Try.pinned (OpenSpec.ofChange magTurnWrong)

/-- 'hairsbreadthlaw17.MagScale': WHATEVER THE INPUT: true; the input reads as it did. -/
def magScaleSpec : ChangeSpec := { name := "magScale", fn := fun _ => fun
  | [d1, d2, d3] => { results := [.lit (.bool true)], args := [d1, d2, d3] }
  | _ => none }
def magScaleRow : OpenClaim := { program := "ytamigjdankkmjaa", sum := "37791f1160bb39b04e68e58cd89839d7238285f3ce1b4a8f34f503413d191efb", func := "hairsbreadth/hairsbreadthlaw17.MagScale", spec := "magScale", inPlace := ["math/bits.Add64", "math/bits.Sub64"], unfollowed := true, recurses := true, apart := false }
def MagScaleSaid : Prop := magScaleRow.holds Try.pinned (OpenSpec.ofChange magScaleSpec)

/-- ITS FALSE NEIGHBOUR: 'it returns false'. Refute it at one input. -/
def magScaleWrong : ChangeSpec := { name := "magScale", fn := fun _ => fun
  | [d1, d2, d3] => { results := [.lit (.bool false)], args := [d1, d2, d3] }
  | _ => none }
def MagScaleWrongFalsely : Prop := magScaleRow.holds Try.pinned (OpenSpec.ofChange magScaleWrong)

/-- 'hairsbreadthlaw17.MagKnown': WHATEVER THE INPUT: true; the input reads as it did. -/
def magKnownSpec : ChangeSpec := { name := "magKnown", fn := fun _ => fun
  | [] => { results := [.lit (.bool true)], args := [] }
  | _ => none }
def magKnownRow : OpenClaim := { program := "ytamigjdankkmjaa", sum := "37791f1160bb39b04e68e58cd89839d7238285f3ce1b4a8f34f503413d191efb", func := "hairsbreadth/hairsbreadthlaw17.MagKnown", spec := "magKnown", inPlace := ["math/bits.Sub64", "math/bits.Add64"], unfollowed := true, recurses := true, apart := false }
def MagKnownSaid : Prop := magKnownRow.holds Try.pinned (OpenSpec.ofChange magKnownSpec)

/-- ITS FALSE NEIGHBOUR: 'it returns false'. Refute it at one input. -/
def magKnownWrong : ChangeSpec := { name := "magKnown", fn := fun _ => fun
  | [] => { results := [.lit (.bool false)], args := [] }
  | _ => none }
def MagKnownWrongFalsely : Prop := magKnownRow.holds Try.pinned (OpenSpec.ofChange magKnownWrong)

/- THE SECOND FORM. 'bulk': how many values and letters a reading holds, each counted each time it is reached (what is shared counts as often as it is met; a slice's spare places count too). A statement '..UptoSaid' is the law's where the arguments, and the package variables that the reading takes, are together of bulk at most 1048576: NARROWER than '..Said'. Prove '..Said' where nothing that the law and all that it calls make is longer than what came in: it says more and counts as full. Else prove '..UptoSaid'. A law counts once. -/
mutual
def uptoBulk {H : Type} : DataW H → Nat
  | .lit (.string bytes) => bytes.length + 1
  | .lit _ => 1
  | .nil => 1
  | .ptr d => uptoBulk d + 1
  | .slice elems spare => uptoBulkAll elems + uptoBulkAll spare + 1
  | .agg parts => uptoBulkAll parts + 1
  | .iface _ d => uptoBulk d + 1
  | .map entries => uptoBulkEntries entries + 1
  | .held _ => 1
def uptoBulkAll {H : Type} : List (DataW H) → Nat
  | [] => 0
  | d :: r => uptoBulk d + uptoBulkAll r
def uptoBulkEntries {H : Type} : List (Lit × DataW H) → Nat
  | [] => 0
  | x :: r => uptoBulkEntry x + uptoBulkEntries r
def uptoBulkEntry {H : Type} : Lit × DataW H → Nat
  | (.string bytes, d) => bytes.length + uptoBulk d + 1
  | (_, d) => uptoBulk d + 1
 end
def uptoSmall : (H : Type) → List (DataW H) → Bool := fun _ ds => decide (uptoBulkAll ds ≤ 1048576)
def OpenSpec.upto (s : _root_.Go.ChangeSpec) : _root_.Go.OpenSpec := { _root_.Go.OpenSpec.ofChange s with cond := some uptoSmall }

/-- 'hairsbreadthlaw17.MagSums', WHERE WHAT IT READS IS OF BULK AT MOST 1048576: true; the input reads as it did. -/
def magSumsUptoRow : OpenClaim := { program := "ytamigjdankkmjaa", sum := "37791f1160bb39b04e68e58cd89839d7238285f3ce1b4a8f34f503413d191efb", func := "hairsbreadth/hairsbreadthlaw17.MagSums", spec := "magSums", inPlace := ["math/bits.Sub64", "math/bits.Add64"], unfollowed := true, recurses := true, apart := false, narrowed := true }
def MagSumsUptoSaid : Prop := magSumsUptoRow.holds Try.pinned (OpenSpec.upto magSumsSpec)

/-- 'hairsbreadthlaw17.MagExact', WHERE WHAT IT READS IS OF BULK AT MOST 1048576: true; the input reads as it did. -/
def magExactUptoRow : OpenClaim := { program := "ytamigjdankkmjaa", sum := "37791f1160bb39b04e68e58cd89839d7238285f3ce1b4a8f34f503413d191efb", func := "hairsbreadth/hairsbreadthlaw17.MagExact", spec := "magExact", inPlace := ["math/bits.Add64", "math/bits.Sub64"], unfollowed := true, recurses := true, apart := false, narrowed := true }
def MagExactUptoSaid : Prop := magExactUptoRow.holds Try.pinned (OpenSpec.upto magExactSpec)

/-- 'hairsbreadthlaw17.MagOrder', WHERE WHAT IT READS IS OF BULK AT MOST 1048576: true; the input reads as it did. -/
def magOrderUptoRow : OpenClaim := { program := "ytamigjdankkmjaa", sum := "37791f1160bb39b04e68e58cd89839d7238285f3ce1b4a8f34f503413d191efb", func := "hairsbreadth/hairsbreadthlaw17.MagOrder", spec := "magOrder", inPlace := ["math/bits.Sub64", "math/bits.Add64"], unfollowed := true, recurses := true, apart := false, narrowed := true }
def MagOrderUptoSaid : Prop := magOrderUptoRow.holds Try.pinned (OpenSpec.upto magOrderSpec)

/-- 'hairsbreadthlaw17.MagTurn', WHERE WHAT IT READS IS OF BULK AT MOST 1048576: true; the input reads as it did. -/
def magTurnUptoRow : OpenClaim := { program := "ytamigjdankkmjaa", sum := "37791f1160bb39b04e68e58cd89839d7238285f3ce1b4a8f34f503413d191efb", func := "hairsbreadth/hairsbreadthlaw17.MagTurn", spec := "magTurn", inPlace := ["math/bits.Sub64", "math/bits.Add64"], unfollowed := true, recurses := true, apart := false, narrowed := true }
def MagTurnUptoSaid : Prop := magTurnUptoRow.holds Try.pinned (OpenSpec.upto magTurnSpec)

/-- 'hairsbreadthlaw17.MagScale', WHERE WHAT IT READS IS OF BULK AT MOST 1048576: true; the input reads as it did. -/
def magScaleUptoRow : OpenClaim := { program := "ytamigjdankkmjaa", sum := "37791f1160bb39b04e68e58cd89839d7238285f3ce1b4a8f34f503413d191efb", func := "hairsbreadth/hairsbreadthlaw17.MagScale", spec := "magScale", inPlace := ["math/bits.Add64", "math/bits.Sub64"], unfollowed := true, recurses := true, apart := false, narrowed := true }
def MagScaleUptoSaid : Prop := magScaleUptoRow.holds Try.pinned (OpenSpec.upto magScaleSpec)

/-- 'hairsbreadthlaw17.MagKnown', WHERE WHAT IT READS IS OF BULK AT MOST 1048576: true; the input reads as it did. -/
def magKnownUptoRow : OpenClaim := { program := "ytamigjdankkmjaa", sum := "37791f1160bb39b04e68e58cd89839d7238285f3ce1b4a8f34f503413d191efb", func := "hairsbreadth/hairsbreadthlaw17.MagKnown", spec := "magKnown", inPlace := ["math/bits.Sub64", "math/bits.Add64"], unfollowed := true, recurses := true, apart := false, narrowed := true }
def MagKnownUptoSaid : Prop := magKnownUptoRow.holds Try.pinned (OpenSpec.upto magKnownSpec)

end Rows
end Go.Proofs.Ytamigjdankkmjaa
