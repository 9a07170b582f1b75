/-
  No cell of these rows narrows 'for every input' (looked for: loops, veiled, ifaces, maps, wideKeys, modest, calm, conditions, laid).
  DERIVED. THE GIVEN ROWS OF THIS SEAT. 6 by the template 'for every input the law returns true; each argument reads behind the call as it read before'; 0 by the template 'total and deterministic' (their statements: YtbibinmjipcdjaaTotals.lean).
  GIVEN WITH THE SEED: the statements are not yours to turn. If you find one false, say at which input.
  Laid BY PROGRAM, IN A SANDBOX (cutbox-rows.mjs): the forced cells as the released guide's own fill.sh prints them over the translation 008e667ee44bec09… (all of the seat's roots in one cut). By AI agents, Wed Nov 11 2026. No macro, syntax, notation, axiom, sorry.
-/
import Derived.Test.YtbibinmjipcdjaaChecked
import GoSem.Claim
import GoSem.ClaimJoined
import GoSem.ClaimMapViews
import Derived.JoinedTies
import Derived.KernelRfl
namespace Go.Proofs.Ytbibinmjipcdjaa
/- THE CELL 'sum', in the pinned program and in every row, IS THE sha256 OF THE DUMP (.gsa) THAT YtbibinmjipcdjaaProg.lean LOADS. Nothing in Lean hashes anything: it is a label: what it is worth is what the hold of that sum in a sandbox is worth. -/
noncomputable def Try.pinned : Pinned := { name := "ytbibinmjipcdjaa", sum := "008e667ee44bec090225467b0270795a860baabc1a332a596b0937ed87417b7d", checked := Try.checked }
namespace Rows
def none {H : Type} : Left H := { results := [], args := [] }

/-- 'hairsbreadthlaw06.RootAll': WHATEVER THE INPUT: true; the input reads as it did. -/
def rootAllSpec : ChangeSpec := { name := "rootAll", fn := fun _ => fun
  | [d] => { results := [.lit (.bool true)], args := [d] }
  | _ => none }
def rootAllRow : OpenClaim := { program := "ytbibinmjipcdjaa", sum := "008e667ee44bec090225467b0270795a860baabc1a332a596b0937ed87417b7d", func := "hairsbreadth/hairsbreadthlaw06.RootAll", spec := "rootAll", inPlace := ["math/bits.Add64"], unfollowed := true, recurses := true, apart := false }
def RootAllSaid : Prop := rootAllRow.holds Try.pinned (OpenSpec.ofChange rootAllSpec)

/-- ITS FALSE NEIGHBOUR: 'it returns false'. Refute it at one input. -/
def rootAllWrong : ChangeSpec := { name := "rootAll", fn := fun _ => fun
  | [d] => { results := [.lit (.bool false)], args := [d] }
  | _ => none }
def RootAllWrongFalsely : Prop := rootAllRow.holds Try.pinned (OpenSpec.ofChange rootAllWrong)

/-- 'hairsbreadthlaw06.RootBetween': WHATEVER THE INPUT: true; the input reads as it did. -/
def rootBetweenSpec : ChangeSpec := { name := "rootBetween", fn := fun _ => fun
  | [d] => { results := [.lit (.bool true)], args := [d] }
  | _ => none }
def rootBetweenRow : OpenClaim := { program := "ytbibinmjipcdjaa", sum := "008e667ee44bec090225467b0270795a860baabc1a332a596b0937ed87417b7d", func := "hairsbreadth/hairsbreadthlaw06.RootBetween", spec := "rootBetween", inPlace := ["math/bits.Add64"], unfollowed := true, recurses := true, apart := false }
def RootBetweenSaid : Prop := rootBetweenRow.holds Try.pinned (OpenSpec.ofChange rootBetweenSpec)

/-- ITS FALSE NEIGHBOUR: 'it returns false'. Refute it at one input. -/
def rootBetweenWrong : ChangeSpec := { name := "rootBetween", fn := fun _ => fun
  | [d] => { results := [.lit (.bool false)], args := [d] }
  | _ => none }
def RootBetweenWrongFalsely : Prop := rootBetweenRow.holds Try.pinned (OpenSpec.ofChange rootBetweenWrong)

/-- 'hairsbreadthlaw06.RootSquare': WHATEVER THE INPUT: true; the input reads as it did. -/
def rootSquareSpec : ChangeSpec := { name := "rootSquare", fn := fun _ => fun
  | [d] => { results := [.lit (.bool true)], args := [d] }
  | _ => none }
def rootSquareRow : OpenClaim := { program := "ytbibinmjipcdjaa", sum := "008e667ee44bec090225467b0270795a860baabc1a332a596b0937ed87417b7d", func := "hairsbreadth/hairsbreadthlaw06.RootSquare", spec := "rootSquare", inPlace := ["math/bits.Add64", "math/bits.Sub64"], unfollowed := true, recurses := true, apart := false }
def RootSquareSaid : Prop := rootSquareRow.holds Try.pinned (OpenSpec.ofChange rootSquareSpec)

/-- ITS FALSE NEIGHBOUR: 'it returns false'. Refute it at one input. -/
def rootSquareWrong : ChangeSpec := { name := "rootSquare", fn := fun _ => fun
  | [d] => { results := [.lit (.bool false)], args := [d] }
  | _ => none }
def RootSquareWrongFalsely : Prop := rootSquareRow.holds Try.pinned (OpenSpec.ofChange rootSquareWrong)

/-- 'hairsbreadthlaw06.RootOrder': WHATEVER THE INPUT: true; the input reads as it did. -/
def rootOrderSpec : ChangeSpec := { name := "rootOrder", fn := fun _ => fun
  | [d1, d2] => { results := [.lit (.bool true)], args := [d1, d2] }
  | _ => none }
def rootOrderRow : OpenClaim := { program := "ytbibinmjipcdjaa", sum := "008e667ee44bec090225467b0270795a860baabc1a332a596b0937ed87417b7d", func := "hairsbreadth/hairsbreadthlaw06.RootOrder", spec := "rootOrder", inPlace := ["math/bits.Add64"], unfollowed := true, recurses := true, apart := false }
def RootOrderSaid : Prop := rootOrderRow.holds Try.pinned (OpenSpec.ofChange rootOrderSpec)

/-- ITS FALSE NEIGHBOUR: 'it returns false'. Refute it at one input. -/
def rootOrderWrong : ChangeSpec := { name := "rootOrder", fn := fun _ => fun
  | [d1, d2] => { results := [.lit (.bool false)], args := [d1, d2] }
  | _ => none }
def RootOrderWrongFalsely : Prop := rootOrderRow.holds Try.pinned (OpenSpec.ofChange rootOrderWrong)

/-- 'hairsbreadthlaw06.RootFour': WHATEVER THE INPUT: true; the input reads as it did. -/
def rootFourSpec : ChangeSpec := { name := "rootFour", fn := fun _ => fun
  | [d] => { results := [.lit (.bool true)], args := [d] }
  | _ => none }
def rootFourRow : OpenClaim := { program := "ytbibinmjipcdjaa", sum := "008e667ee44bec090225467b0270795a860baabc1a332a596b0937ed87417b7d", func := "hairsbreadth/hairsbreadthlaw06.RootFour", spec := "rootFour", inPlace := ["math/bits.Add64", "math/bits.Sub64"], unfollowed := true, recurses := true, apart := false }
def RootFourSaid : Prop := rootFourRow.holds Try.pinned (OpenSpec.ofChange rootFourSpec)

/-- ITS FALSE NEIGHBOUR: 'it returns false'. Refute it at one input. -/
def rootFourWrong : ChangeSpec := { name := "rootFour", fn := fun _ => fun
  | [d] => { results := [.lit (.bool false)], args := [d] }
  | _ => none }
def RootFourWrongFalsely : Prop := rootFourRow.holds Try.pinned (OpenSpec.ofChange rootFourWrong)

/-- 'hairsbreadthlaw06.RootKnown': WHATEVER THE INPUT: true; the input reads as it did. -/
def rootKnownSpec : ChangeSpec := { name := "rootKnown", fn := fun _ => fun
  | [] => { results := [.lit (.bool true)], args := [] }
  | _ => none }
def rootKnownRow : OpenClaim := { program := "ytbibinmjipcdjaa", sum := "008e667ee44bec090225467b0270795a860baabc1a332a596b0937ed87417b7d", func := "hairsbreadth/hairsbreadthlaw06.RootKnown", spec := "rootKnown", inPlace := ["math/bits.Add64"], unfollowed := true, recurses := true, apart := false }
def RootKnownSaid : Prop := rootKnownRow.holds Try.pinned (OpenSpec.ofChange rootKnownSpec)

/-- ITS FALSE NEIGHBOUR: 'it returns false'. Refute it at one input. -/
def rootKnownWrong : ChangeSpec := { name := "rootKnown", fn := fun _ => fun
  | [] => { results := [.lit (.bool false)], args := [] }
  | _ => none }
def RootKnownWrongFalsely : Prop := rootKnownRow.holds Try.pinned (OpenSpec.ofChange rootKnownWrong)

/- THE SECOND FORM. 'bulk': how many values and letters a reading holds, each counted each time it is reached (what is shared counts as often as it is met; a slice's spare places count too). A statement '..UptoSaid' is the law's where the arguments, and the package variables that the reading takes, are together of bulk at most 1048576: NARROWER than '..Said'. Prove '..Said' where nothing that the law and all that it calls make is longer than what came in: it says more and counts as full. Else prove '..UptoSaid'. A law counts once. -/
mutual
def uptoBulk {H : Type} : DataW H → Nat
  | .lit (.string bytes) => bytes.length + 1
  | .lit _ => 1
  | .nil => 1
  | .ptr d => uptoBulk d + 1
  | .slice elems spare => uptoBulkAll elems + uptoBulkAll spare + 1
  | .agg parts => uptoBulkAll parts + 1
  | .iface _ d => uptoBulk d + 1
  | .map entries => uptoBulkEntries entries + 1
  | .held _ => 1
def uptoBulkAll {H : Type} : List (DataW H) → Nat
  | [] => 0
  | d :: r => uptoBulk d + uptoBulkAll r
def uptoBulkEntries {H : Type} : List (Lit × DataW H) → Nat
  | [] => 0
  | x :: r => uptoBulkEntry x + uptoBulkEntries r
def uptoBulkEntry {H : Type} : Lit × DataW H → Nat
  | (.string bytes, d) => bytes.length + uptoBulk d + 1
  | (_, d) => uptoBulk d + 1
 end
def uptoSmall : (H : Type) → List (DataW H) → Bool := fun _ ds => decide (uptoBulkAll ds ≤ 1048576)
def OpenSpec.upto (s : _root_.Go.ChangeSpec) : _root_.Go.OpenSpec := { _root_.Go.OpenSpec.ofChange s with cond := some uptoSmall }

/-- 'hairsbreadthlaw06.RootAll', WHERE WHAT IT READS IS OF BULK AT MOST 1048576: true; the input reads as it did. -/
def rootAllUptoRow : OpenClaim := { program := "ytbibinmjipcdjaa", sum := "008e667ee44bec090225467b0270795a860baabc1a332a596b0937ed87417b7d", func := "hairsbreadth/hairsbreadthlaw06.RootAll", spec := "rootAll", inPlace := ["math/bits.Add64"], unfollowed := true, recurses := true, apart := false, narrowed := true }
def RootAllUptoSaid : Prop := rootAllUptoRow.holds Try.pinned (OpenSpec.upto rootAllSpec)

/-- 'hairsbreadthlaw06.RootBetween', WHERE WHAT IT READS IS OF BULK AT MOST 1048576: true; the input reads as it did. -/
def rootBetweenUptoRow : OpenClaim := { program := "ytbibinmjipcdjaa", sum := "008e667ee44bec090225467b0270795a860baabc1a332a596b0937ed87417b7d", func := "hairsbreadth/hairsbreadthlaw06.RootBetween", spec := "rootBetween", inPlace := ["math/bits.Add64"], unfollowed := true, recurses := true, apart := false, narrowed := true }
def RootBetweenUptoSaid : Prop := rootBetweenUptoRow.holds Try.pinned (OpenSpec.upto rootBetweenSpec)

/-- 'hairsbreadthlaw06.RootSquare', WHERE WHAT IT READS IS OF BULK AT MOST 1048576: true; the input reads as it did. -/
def rootSquareUptoRow : OpenClaim := { program := "ytbibinmjipcdjaa", sum := "008e667ee44bec090225467b0270795a860baabc1a332a596b0937ed87417b7d", func := "hairsbreadth/hairsbreadthlaw06.RootSquare", spec := "rootSquare", inPlace := ["math/bits.Add64", "math/bits.Sub64"], unfollowed := true, recurses := true, apart := false, narrowed := true }
def RootSquareUptoSaid : Prop := rootSquareUptoRow.holds Try.pinned (OpenSpec.upto rootSquareSpec)

/-- 'hairsbreadthlaw06.RootOrder', WHERE WHAT IT READS IS OF BULK AT MOST 1048576: true; the input reads as it did. -/
def rootOrderUptoRow : OpenClaim := { program := "ytbibinmjipcdjaa", sum := "008e667ee44bec090225467b0270795a860baabc1a332a596b0937ed87417b7d", func := "hairsbreadth/hairsbreadthlaw06.RootOrder", spec := "rootOrder", inPlace := ["math/bits.Add64"], unfollowed := true, recurses := true, apart := false, narrowed := true }
def RootOrderUptoSaid : Prop := rootOrderUptoRow.holds Try.pinned (OpenSpec.upto rootOrderSpec)

/-- 'hairsbreadthlaw06.RootFour', WHERE WHAT IT READS IS OF BULK AT MOST 1048576: true; the input reads as it did. -/
def rootFourUptoRow : OpenClaim := { program := "ytbibinmjipcdjaa", sum := "008e667ee44bec090225467b0270795a860baabc1a332a596b0937ed87417b7d", func := "hairsbreadth/hairsbreadthlaw06.RootFour", spec := "rootFour", inPlace := ["math/bits.Add64", "math/bits.Sub64"], unfollowed := true, recurses := true, apart := false, narrowed := true }
def RootFourUptoSaid : Prop := rootFourUptoRow.holds Try.pinned (OpenSpec.upto rootFourSpec)

/-- 'hairsbreadthlaw06.RootKnown', WHERE WHAT IT READS IS OF BULK AT MOST 1048576: true; the input reads as it did. -/
def rootKnownUptoRow : OpenClaim := { program := "ytbibinmjipcdjaa", sum := "008e667ee44bec090225467b0270795a860baabc1a332a596b0937ed87417b7d", func := "hairsbreadth/hairsbreadthlaw06.RootKnown", spec := "rootKnown", inPlace := ["math/bits.Add64"], unfollowed := true, recurses := true, apart := false, narrowed := true }
def RootKnownUptoSaid : Prop := rootKnownUptoRow.holds Try.pinned (OpenSpec.upto rootKnownSpec)

end Rows
end Go.Proofs.Ytbibinmjipcdjaa
