/-
  No cell of these rows narrows 'for every input' (looked for: loops, veiled, ifaces, maps, wideKeys, modest, calm, conditions, laid).
  DERIVED. THE GIVEN ROWS OF THIS SEAT. 7 by the template 'for every input the law returns true; each argument reads behind the call as it read before'; 0 by the template 'total and deterministic' (their statements: YtlmgebanfjclcaaTotals.lean).
  GIVEN WITH THE SEED: the statements are not yours to turn. If you find one false, say at which input.
  Laid BY PROGRAM, IN A SANDBOX (cutbox-rows.mjs): the forced cells as the released guide's own fill.sh prints them over the translation 7055d16513f92801… (all of the seat's roots in one cut). By AI agents, Wed Nov 11 2026. No macro, syntax, notation, axiom, sorry.
-/
import Derived.Test.YtlmgebanfjclcaaChecked
import GoSem.Claim
import GoSem.ClaimJoined
import GoSem.ClaimMapViews
import Derived.JoinedTies
import Derived.KernelRfl
namespace Go.Proofs.Ytlmgebanfjclcaa
/- THE CELL 'sum', in the pinned program and in every row, IS THE sha256 OF THE DUMP (.gsa) THAT YtlmgebanfjclcaaProg.lean LOADS. Nothing in Lean hashes anything: it is a label: what it is worth is what the hold of that sum in a sandbox is worth. -/
noncomputable def Try.pinned : Pinned := { name := "ytlmgebanfjclcaa", sum := "7055d16513f92801a9e4ee8a48233144e84a413fbc8b623c5e05c659b5a66be2", checked := Try.checked }
namespace Rows
def none {H : Type} : Left H := { results := [], args := [] }

/-- 'hairsbreadthlaw05.QuotDivs': WHATEVER THE INPUT: true; the input reads as it did. -/
def quotDivsSpec : ChangeSpec := { name := "quotDivs", fn := fun _ => fun
  | [d1, d2] => { results := [.lit (.bool true)], args := [d1, d2] }
  | _ => none }
def quotDivsRow : OpenClaim := { program := "ytlmgebanfjclcaa", sum := "7055d16513f92801a9e4ee8a48233144e84a413fbc8b623c5e05c659b5a66be2", func := "hairsbreadth/hairsbreadthlaw05.QuotDivs", spec := "quotDivs", inPlace := ["math/bits.Add64", "math/bits.Sub64"], unfollowed := true, recurses := true, named := ["math/bits.divideError", "math/bits.overflowError"], apart := false }
def QuotDivsSaid : Prop := quotDivsRow.holds Try.pinned (OpenSpec.ofChange quotDivsSpec)

/-- ITS FALSE NEIGHBOUR: 'it returns false'. Refute it at one input. -/
def quotDivsWrong : ChangeSpec := { name := "quotDivs", fn := fun _ => fun
  | [d1, d2] => { results := [.lit (.bool false)], args := [d1, d2] }
  | _ => none }
def QuotDivsWrongFalsely : Prop := quotDivsRow.holds Try.pinned (OpenSpec.ofChange quotDivsWrong)

/-- 'hairsbreadthlaw05.QuotMods': WHATEVER THE INPUT: true; the input reads as it did. -/
def quotModsSpec : ChangeSpec := { name := "quotMods", fn := fun _ => fun
  | [d1, d2, d3] => { results := [.lit (.bool true)], args := [d1, d2, d3] }
  | _ => none }
def quotModsRow : OpenClaim := { program := "ytlmgebanfjclcaa", sum := "7055d16513f92801a9e4ee8a48233144e84a413fbc8b623c5e05c659b5a66be2", func := "hairsbreadth/hairsbreadthlaw05.QuotMods", spec := "quotMods", inPlace := ["math/bits.Add64", "math/bits.Sub64"], unfollowed := true, recurses := true, named := ["math/bits.divideError", "math/bits.overflowError"], apart := false }
def QuotModsSaid : Prop := quotModsRow.holds Try.pinned (OpenSpec.ofChange quotModsSpec)

/-- ITS FALSE NEIGHBOUR: 'it returns false'. Refute it at one input. -/
def quotModsWrong : ChangeSpec := { name := "quotMods", fn := fun _ => fun
  | [d1, d2, d3] => { results := [.lit (.bool false)], args := [d1, d2, d3] }
  | _ => none }
def QuotModsWrongFalsely : Prop := quotModsRow.holds Try.pinned (OpenSpec.ofChange quotModsWrong)

/-- 'hairsbreadthlaw05.QuotBack': WHATEVER THE INPUT: true; the input reads as it did. -/
def quotBackSpec : ChangeSpec := { name := "quotBack", fn := fun _ => fun
  | [d1, d2, d3] => { results := [.lit (.bool true)], args := [d1, d2, d3] }
  | _ => none }
def quotBackRow : OpenClaim := { program := "ytlmgebanfjclcaa", sum := "7055d16513f92801a9e4ee8a48233144e84a413fbc8b623c5e05c659b5a66be2", func := "hairsbreadth/hairsbreadthlaw05.QuotBack", spec := "quotBack", inPlace := ["math/bits.Add64", "math/bits.Sub64"], unfollowed := true, recurses := true, named := ["math/bits.divideError", "math/bits.overflowError"], apart := false }
def QuotBackSaid : Prop := quotBackRow.holds Try.pinned (OpenSpec.ofChange quotBackSpec)

/-- ITS FALSE NEIGHBOUR: 'it returns false'. Refute it at one input. -/
def quotBackWrong : ChangeSpec := { name := "quotBack", fn := fun _ => fun
  | [d1, d2, d3] => { results := [.lit (.bool false)], args := [d1, d2, d3] }
  | _ => none }
def QuotBackWrongFalsely : Prop := quotBackRow.holds Try.pinned (OpenSpec.ofChange quotBackWrong)

/-- 'hairsbreadthlaw05.QuotPowers': WHATEVER THE INPUT: true; the input reads as it did. -/
def quotPowersSpec : ChangeSpec := { name := "quotPowers", fn := fun _ => fun
  | [d1, d2] => { results := [.lit (.bool true)], args := [d1, d2] }
  | _ => none }
def quotPowersRow : OpenClaim := { program := "ytlmgebanfjclcaa", sum := "7055d16513f92801a9e4ee8a48233144e84a413fbc8b623c5e05c659b5a66be2", func := "hairsbreadth/hairsbreadthlaw05.QuotPowers", spec := "quotPowers", inPlace := ["math/bits.Add64", "math/bits.Sub64"], unfollowed := true, recurses := true, named := ["math/bits.divideError", "math/bits.overflowError"], apart := false }
def QuotPowersSaid : Prop := quotPowersRow.holds Try.pinned (OpenSpec.ofChange quotPowersSpec)

/-- ITS FALSE NEIGHBOUR: 'it returns false'. Refute it at one input. -/
def quotPowersWrong : ChangeSpec := { name := "quotPowers", fn := fun _ => fun
  | [d1, d2] => { results := [.lit (.bool false)], args := [d1, d2] }
  | _ => none }
def QuotPowersWrongFalsely : Prop := quotPowersRow.holds Try.pinned (OpenSpec.ofChange quotPowersWrong)

/-- 'hairsbreadthlaw05.QuotOrder': WHATEVER THE INPUT: true; the input reads as it did. -/
def quotOrderSpec : ChangeSpec := { name := "quotOrder", fn := fun _ => fun
  | [d1, d2, d3, d4] => { results := [.lit (.bool true)], args := [d1, d2, d3, d4] }
  | _ => none }
def quotOrderRow : OpenClaim := { program := "ytlmgebanfjclcaa", sum := "7055d16513f92801a9e4ee8a48233144e84a413fbc8b623c5e05c659b5a66be2", func := "hairsbreadth/hairsbreadthlaw05.QuotOrder", spec := "quotOrder", inPlace := ["math/bits.Add64", "math/bits.Sub64"], unfollowed := true, recurses := true, named := ["math/bits.divideError", "math/bits.overflowError"], apart := false }
def QuotOrderSaid : Prop := quotOrderRow.holds Try.pinned (OpenSpec.ofChange quotOrderSpec)

/-- ITS FALSE NEIGHBOUR: 'it returns false'. Refute it at one input. -/
def quotOrderWrong : ChangeSpec := { name := "quotOrder", fn := fun _ => fun
  | [d1, d2, d3, d4] => { results := [.lit (.bool false)], args := [d1, d2, d3, d4] }
  | _ => none }
def QuotOrderWrongFalsely : Prop := quotOrderRow.holds Try.pinned (OpenSpec.ofChange quotOrderWrong)

/-- 'hairsbreadthlaw05.QuotTwice': WHATEVER THE INPUT: true; the input reads as it did. -/
def quotTwiceSpec : ChangeSpec := { name := "quotTwice", fn := fun _ => fun
  | [d1, d2, d3, d4] => { results := [.lit (.bool true)], args := [d1, d2, d3, d4] }
  | _ => none }
def quotTwiceRow : OpenClaim := { program := "ytlmgebanfjclcaa", sum := "7055d16513f92801a9e4ee8a48233144e84a413fbc8b623c5e05c659b5a66be2", func := "hairsbreadth/hairsbreadthlaw05.QuotTwice", spec := "quotTwice", inPlace := ["math/bits.Add64", "math/bits.Sub64"], unfollowed := true, recurses := true, named := ["math/bits.divideError", "math/bits.overflowError"], apart := false }
def QuotTwiceSaid : Prop := quotTwiceRow.holds Try.pinned (OpenSpec.ofChange quotTwiceSpec)

/-- ITS FALSE NEIGHBOUR: 'it returns false'. Refute it at one input. -/
def quotTwiceWrong : ChangeSpec := { name := "quotTwice", fn := fun _ => fun
  | [d1, d2, d3, d4] => { results := [.lit (.bool false)], args := [d1, d2, d3, d4] }
  | _ => none }
def QuotTwiceWrongFalsely : Prop := quotTwiceRow.holds Try.pinned (OpenSpec.ofChange quotTwiceWrong)

/-- 'hairsbreadthlaw05.QuotKnown': WHATEVER THE INPUT: true; the input reads as it did. -/
def quotKnownSpec : ChangeSpec := { name := "quotKnown", fn := fun _ => fun
  | [] => { results := [.lit (.bool true)], args := [] }
  | _ => none }
def quotKnownRow : OpenClaim := { program := "ytlmgebanfjclcaa", sum := "7055d16513f92801a9e4ee8a48233144e84a413fbc8b623c5e05c659b5a66be2", func := "hairsbreadth/hairsbreadthlaw05.QuotKnown", spec := "quotKnown", inPlace := ["math/bits.Add64", "math/bits.Sub64"], unfollowed := true, recurses := true, named := ["math/bits.divideError", "math/bits.overflowError"], apart := false }
def QuotKnownSaid : Prop := quotKnownRow.holds Try.pinned (OpenSpec.ofChange quotKnownSpec)

/-- ITS FALSE NEIGHBOUR: 'it returns false'. Refute it at one input. -/
def quotKnownWrong : ChangeSpec := { name := "quotKnown", fn := fun _ => fun
  | [] => { results := [.lit (.bool false)], args := [] }
  | _ => none }
def QuotKnownWrongFalsely : Prop := quotKnownRow.holds Try.pinned (OpenSpec.ofChange quotKnownWrong)

/- THE SECOND FORM. 'bulk': how many values and letters a reading holds, each counted each time it is reached (what is shared counts as often as it is met; a slice's spare places count too). A statement '..UptoSaid' is the law's where the arguments, and the package variables that the reading takes, are together of bulk at most 1048576: NARROWER than '..Said'. Prove '..Said' where nothing that the law and all that it calls make is longer than what came in: it says more and counts as full. Else prove '..UptoSaid'. A law counts once. -/
mutual
def uptoBulk {H : Type} : DataW H → Nat
  | .lit (.string bytes) => bytes.length + 1
  | .lit _ => 1
  | .nil => 1
  | .ptr d => uptoBulk d + 1
  | .slice elems spare => uptoBulkAll elems + uptoBulkAll spare + 1
  | .agg parts => uptoBulkAll parts + 1
  | .iface _ d => uptoBulk d + 1
  | .map entries => uptoBulkEntries entries + 1
  | .held _ => 1
def uptoBulkAll {H : Type} : List (DataW H) → Nat
  | [] => 0
  | d :: r => uptoBulk d + uptoBulkAll r
def uptoBulkEntries {H : Type} : List (Lit × DataW H) → Nat
  | [] => 0
  | x :: r => uptoBulkEntry x + uptoBulkEntries r
def uptoBulkEntry {H : Type} : Lit × DataW H → Nat
  | (.string bytes, d) => bytes.length + uptoBulk d + 1
  | (_, d) => uptoBulk d + 1
 end
def uptoSmall : (H : Type) → List (DataW H) → Bool := fun _ ds => decide (uptoBulkAll ds ≤ 1048576)
def OpenSpec.upto (s : _root_.Go.ChangeSpec) : _root_.Go.OpenSpec := { _root_.Go.OpenSpec.ofChange s with cond := some uptoSmall }

/-- 'hairsbreadthlaw05.QuotDivs', WHERE WHAT IT READS IS OF BULK AT MOST 1048576: true; the input reads as it did. -/
def quotDivsUptoRow : OpenClaim := { program := "ytlmgebanfjclcaa", sum := "7055d16513f92801a9e4ee8a48233144e84a413fbc8b623c5e05c659b5a66be2", func := "hairsbreadth/hairsbreadthlaw05.QuotDivs", spec := "quotDivs", inPlace := ["math/bits.Add64", "math/bits.Sub64"], unfollowed := true, recurses := true, named := ["math/bits.divideError", "math/bits.overflowError"], apart := false, narrowed := true }
def QuotDivsUptoSaid : Prop := quotDivsUptoRow.holds Try.pinned (OpenSpec.upto quotDivsSpec)

/-- 'hairsbreadthlaw05.QuotMods', WHERE WHAT IT READS IS OF BULK AT MOST 1048576: true; the input reads as it did. -/
def quotModsUptoRow : OpenClaim := { program := "ytlmgebanfjclcaa", sum := "7055d16513f92801a9e4ee8a48233144e84a413fbc8b623c5e05c659b5a66be2", func := "hairsbreadth/hairsbreadthlaw05.QuotMods", spec := "quotMods", inPlace := ["math/bits.Add64", "math/bits.Sub64"], unfollowed := true, recurses := true, named := ["math/bits.divideError", "math/bits.overflowError"], apart := false, narrowed := true }
def QuotModsUptoSaid : Prop := quotModsUptoRow.holds Try.pinned (OpenSpec.upto quotModsSpec)

/-- 'hairsbreadthlaw05.QuotBack', WHERE WHAT IT READS IS OF BULK AT MOST 1048576: true; the input reads as it did. -/
def quotBackUptoRow : OpenClaim := { program := "ytlmgebanfjclcaa", sum := "7055d16513f92801a9e4ee8a48233144e84a413fbc8b623c5e05c659b5a66be2", func := "hairsbreadth/hairsbreadthlaw05.QuotBack", spec := "quotBack", inPlace := ["math/bits.Add64", "math/bits.Sub64"], unfollowed := true, recurses := true, named := ["math/bits.divideError", "math/bits.overflowError"], apart := false, narrowed := true }
def QuotBackUptoSaid : Prop := quotBackUptoRow.holds Try.pinned (OpenSpec.upto quotBackSpec)

/-- 'hairsbreadthlaw05.QuotPowers', WHERE WHAT IT READS IS OF BULK AT MOST 1048576: true; the input reads as it did. -/
def quotPowersUptoRow : OpenClaim := { program := "ytlmgebanfjclcaa", sum := "7055d16513f92801a9e4ee8a48233144e84a413fbc8b623c5e05c659b5a66be2", func := "hairsbreadth/hairsbreadthlaw05.QuotPowers", spec := "quotPowers", inPlace := ["math/bits.Add64", "math/bits.Sub64"], unfollowed := true, recurses := true, named := ["math/bits.divideError", "math/bits.overflowError"], apart := false, narrowed := true }
def QuotPowersUptoSaid : Prop := quotPowersUptoRow.holds Try.pinned (OpenSpec.upto quotPowersSpec)

/-- 'hairsbreadthlaw05.QuotOrder', WHERE WHAT IT READS IS OF BULK AT MOST 1048576: true; the input reads as it did. -/
def quotOrderUptoRow : OpenClaim := { program := "ytlmgebanfjclcaa", sum := "7055d16513f92801a9e4ee8a48233144e84a413fbc8b623c5e05c659b5a66be2", func := "hairsbreadth/hairsbreadthlaw05.QuotOrder", spec := "quotOrder", inPlace := ["math/bits.Add64", "math/bits.Sub64"], unfollowed := true, recurses := true, named := ["math/bits.divideError", "math/bits.overflowError"], apart := false, narrowed := true }
def QuotOrderUptoSaid : Prop := quotOrderUptoRow.holds Try.pinned (OpenSpec.upto quotOrderSpec)

/-- 'hairsbreadthlaw05.QuotTwice', WHERE WHAT IT READS IS OF BULK AT MOST 1048576: true; the input reads as it did. -/
def quotTwiceUptoRow : OpenClaim := { program := "ytlmgebanfjclcaa", sum := "7055d16513f92801a9e4ee8a48233144e84a413fbc8b623c5e05c659b5a66be2", func := "hairsbreadth/hairsbreadthlaw05.QuotTwice", spec := "quotTwice", inPlace := ["math/bits.Add64", "math/bits.Sub64"], unfollowed := true, recurses := true, named := ["math/bits.divideError", "math/bits.overflowError"], apart := false, narrowed := true }
def QuotTwiceUptoSaid : Prop := quotTwiceUptoRow.holds Try.pinned (OpenSpec.upto quotTwiceSpec)

/-- 'hairsbreadthlaw05.QuotKnown', WHERE WHAT IT READS IS OF BULK AT MOST 1048576: true; the input reads as it did. -/
def quotKnownUptoRow : OpenClaim := { program := "ytlmgebanfjclcaa", sum := "7055d16513f92801a9e4ee8a48233144e84a413fbc8b623c5e05c659b5a66be2", func := "hairsbreadth/hairsbreadthlaw05.QuotKnown", spec := "quotKnown", inPlace := ["math/bits.Add64", "math/bits.Sub64"], unfollowed := true, recurses := true, named := ["math/bits.divideError", "math/bits.overflowError"], apart := false, narrowed := true }
def QuotKnownUptoSaid : Prop := quotKnownUptoRow.holds Try.pinned (OpenSpec.upto quotKnownSpec)

end Rows
end Go.Proofs.Ytlmgebanfjclcaa
