/-
  No cell of these rows narrows 'for every input' (looked for: loops, veiled, ifaces, maps, wideKeys, modest, calm, conditions, laid).
  DERIVED. THE GIVEN ROWS OF THIS SEAT. 6 by the template 'for every input the law returns true; each argument reads behind the call as it read before'; 0 by the template 'total and deterministic' (their statements: YtmlobelcoggncaaTotals.lean).
  GIVEN WITH THE SEED: the statements are not yours to turn. If you find one false, say at which input.
  Laid BY PROGRAM, IN A SANDBOX (cutbox-rows.mjs): the forced cells as the released guide's own fill.sh prints them over the translation c792fb61c1b6c7b3… (all of the seat's roots in one cut). By AI agents, Wed Nov 11 2026. No macro, syntax, notation, axiom, sorry.
-/
import Derived.Test.YtmlobelcoggncaaChecked
import GoSem.Claim
import GoSem.ClaimJoined
import GoSem.ClaimMapViews
import Derived.JoinedTies
import Derived.KernelRfl
namespace Go.Proofs.Ytmlobelcoggncaa
/- THE CELL 'sum', in the pinned program and in every row, IS THE sha256 OF THE DUMP (.gsa) THAT YtmlobelcoggncaaProg.lean LOADS. Nothing in Lean hashes anything: it is a label: what it is worth is what the hold of that sum in a sandbox is worth. -/
noncomputable def Try.pinned : Pinned := { name := "ytmlobelcoggncaa", sum := "c792fb61c1b6c7b36b522d0f158aac05398a2fc22f17e8f9bfc3455a86c56f3c", checked := Try.checked }
namespace Rows
def none {H : Type} : Left H := { results := [], args := [] }

/-- 'hairsbreadthlaw15.RoundCuts': WHATEVER THE INPUT: true; the input reads as it did. -/
def roundCutsSpec : ChangeSpec := { name := "roundCuts", fn := fun _ => fun
  | [d1, d2, d3, d4] => { results := [.lit (.bool true)], args := [d1, d2, d3, d4] }
  | _ => none }
def roundCutsRow : OpenClaim := { program := "ytmlobelcoggncaa", sum := "c792fb61c1b6c7b36b522d0f158aac05398a2fc22f17e8f9bfc3455a86c56f3c", func := "hairsbreadth/hairsbreadthlaw15.RoundCuts", spec := "roundCuts", inPlace := ["math/bits.Add64"], unfollowed := true, recurses := true, apart := false }
def RoundCutsSaid : Prop := roundCutsRow.holds Try.pinned (OpenSpec.ofChange roundCutsSpec)

/-- ITS FALSE NEIGHBOUR: 'it returns false'. Refute it at one input. -/
def roundCutsWrong : ChangeSpec := { name := "roundCuts", fn := fun _ => fun
  | [d1, d2, d3, d4] => { results := [.lit (.bool false)], args := [d1, d2, d3, d4] }
  | _ => none }
def RoundCutsWrongFalsely : Prop := roundCutsRow.holds Try.pinned (OpenSpec.ofChange roundCutsWrong)

/-- 'hairsbreadthlaw15.RoundNear': WHATEVER THE INPUT: true; the input reads as it did. -/
def roundNearSpec : ChangeSpec := { name := "roundNear", fn := fun _ => fun
  | [d1, d2, d3, d4] => { results := [.lit (.bool true)], args := [d1, d2, d3, d4] }
  | _ => none }
def roundNearRow : OpenClaim := { program := "ytmlobelcoggncaa", sum := "c792fb61c1b6c7b36b522d0f158aac05398a2fc22f17e8f9bfc3455a86c56f3c", func := "hairsbreadth/hairsbreadthlaw15.RoundNear", spec := "roundNear", inPlace := ["math/bits.Add64", "math/bits.Sub64"], unfollowed := true, recurses := true, apart := false }
def RoundNearSaid : Prop := roundNearRow.holds Try.pinned (OpenSpec.ofChange roundNearSpec)

/-- ITS FALSE NEIGHBOUR: 'it returns false'. Refute it at one input. -/
def roundNearWrong : ChangeSpec := { name := "roundNear", fn := fun _ => fun
  | [d1, d2, d3, d4] => { results := [.lit (.bool false)], args := [d1, d2, d3, d4] }
  | _ => none }
def RoundNearWrongFalsely : Prop := roundNearRow.holds Try.pinned (OpenSpec.ofChange roundNearWrong)

/-- 'hairsbreadthlaw15.RoundJam': WHATEVER THE INPUT: true; the input reads as it did. -/
def roundJamSpec : ChangeSpec := { name := "roundJam", fn := fun _ => fun
  | [d1, d2, d3, d4, d5] => { results := [.lit (.bool true)], args := [d1, d2, d3, d4, d5] }
  | _ => none }
def roundJamRow : OpenClaim := { program := "ytmlobelcoggncaa", sum := "c792fb61c1b6c7b36b522d0f158aac05398a2fc22f17e8f9bfc3455a86c56f3c", func := "hairsbreadth/hairsbreadthlaw15.RoundJam", spec := "roundJam", inPlace := ["math/bits.Add64"], unfollowed := true, recurses := true, apart := false }
def RoundJamSaid : Prop := roundJamRow.holds Try.pinned (OpenSpec.ofChange roundJamSpec)

/-- ITS FALSE NEIGHBOUR: 'it returns false'. Refute it at one input. -/
def roundJamWrong : ChangeSpec := { name := "roundJam", fn := fun _ => fun
  | [d1, d2, d3, d4, d5] => { results := [.lit (.bool false)], args := [d1, d2, d3, d4, d5] }
  | _ => none }
def RoundJamWrongFalsely : Prop := roundJamRow.holds Try.pinned (OpenSpec.ofChange roundJamWrong)

/-- 'hairsbreadthlaw15.RoundOrder': WHATEVER THE INPUT: true; the input reads as it did. -/
def roundOrderSpec : ChangeSpec := { name := "roundOrder", fn := fun _ => fun
  | [d1, d2, d3, d4, d5] => { results := [.lit (.bool true)], args := [d1, d2, d3, d4, d5] }
  | _ => none }
def roundOrderRow : OpenClaim := { program := "ytmlobelcoggncaa", sum := "c792fb61c1b6c7b36b522d0f158aac05398a2fc22f17e8f9bfc3455a86c56f3c", func := "hairsbreadth/hairsbreadthlaw15.RoundOrder", spec := "roundOrder", inPlace := ["math/bits.Add64"], unfollowed := true, recurses := true, apart := false }
def RoundOrderSaid : Prop := roundOrderRow.holds Try.pinned (OpenSpec.ofChange roundOrderSpec)

/-- ITS FALSE NEIGHBOUR: 'it returns false'. Refute it at one input. -/
def roundOrderWrong : ChangeSpec := { name := "roundOrder", fn := fun _ => fun
  | [d1, d2, d3, d4, d5] => { results := [.lit (.bool false)], args := [d1, d2, d3, d4, d5] }
  | _ => none }
def RoundOrderWrongFalsely : Prop := roundOrderRow.holds Try.pinned (OpenSpec.ofChange roundOrderWrong)

/-- 'hairsbreadthlaw15.RoundMirror': WHATEVER THE INPUT: true; the input reads as it did. -/
def roundMirrorSpec : ChangeSpec := { name := "roundMirror", fn := fun _ => fun
  | [d1, d2, d3] => { results := [.lit (.bool true)], args := [d1, d2, d3] }
  | _ => none }
def roundMirrorRow : OpenClaim := { program := "ytmlobelcoggncaa", sum := "c792fb61c1b6c7b36b522d0f158aac05398a2fc22f17e8f9bfc3455a86c56f3c", func := "hairsbreadth/hairsbreadthlaw15.RoundMirror", spec := "roundMirror", inPlace := ["math/bits.Add64"], unfollowed := true, recurses := true, apart := false }
def RoundMirrorSaid : Prop := roundMirrorRow.holds Try.pinned (OpenSpec.ofChange roundMirrorSpec)

/-- ITS FALSE NEIGHBOUR: 'it returns false'. Refute it at one input. -/
def roundMirrorWrong : ChangeSpec := { name := "roundMirror", fn := fun _ => fun
  | [d1, d2, d3] => { results := [.lit (.bool false)], args := [d1, d2, d3] }
  | _ => none }
def RoundMirrorWrongFalsely : Prop := roundMirrorRow.holds Try.pinned (OpenSpec.ofChange roundMirrorWrong)

/-- 'hairsbreadthlaw15.RoundKnown': WHATEVER THE INPUT: true; the input reads as it did. -/
def roundKnownSpec : ChangeSpec := { name := "roundKnown", fn := fun _ => fun
  | [] => { results := [.lit (.bool true)], args := [] }
  | _ => none }
def roundKnownRow : OpenClaim := { program := "ytmlobelcoggncaa", sum := "c792fb61c1b6c7b36b522d0f158aac05398a2fc22f17e8f9bfc3455a86c56f3c", func := "hairsbreadth/hairsbreadthlaw15.RoundKnown", spec := "roundKnown", inPlace := ["math/bits.Add64"], unfollowed := true, recurses := true, apart := false }
def RoundKnownSaid : Prop := roundKnownRow.holds Try.pinned (OpenSpec.ofChange roundKnownSpec)

/-- ITS FALSE NEIGHBOUR: 'it returns false'. Refute it at one input. -/
def roundKnownWrong : ChangeSpec := { name := "roundKnown", fn := fun _ => fun
  | [] => { results := [.lit (.bool false)], args := [] }
  | _ => none }
def RoundKnownWrongFalsely : Prop := roundKnownRow.holds Try.pinned (OpenSpec.ofChange roundKnownWrong)

/- THE SECOND FORM. 'bulk': how many values and letters a reading holds, each counted each time it is reached (what is shared counts as often as it is met; a slice's spare places count too). A statement '..UptoSaid' is the law's where the arguments, and the package variables that the reading takes, are together of bulk at most 1048576: NARROWER than '..Said'. Prove '..Said' where nothing that the law and all that it calls make is longer than what came in: it says more and counts as full. Else prove '..UptoSaid'. A law counts once. -/
mutual
def uptoBulk {H : Type} : DataW H → Nat
  | .lit (.string bytes) => bytes.length + 1
  | .lit _ => 1
  | .nil => 1
  | .ptr d => uptoBulk d + 1
  | .slice elems spare => uptoBulkAll elems + uptoBulkAll spare + 1
  | .agg parts => uptoBulkAll parts + 1
  | .iface _ d => uptoBulk d + 1
  | .map entries => uptoBulkEntries entries + 1
  | .held _ => 1
def uptoBulkAll {H : Type} : List (DataW H) → Nat
  | [] => 0
  | d :: r => uptoBulk d + uptoBulkAll r
def uptoBulkEntries {H : Type} : List (Lit × DataW H) → Nat
  | [] => 0
  | x :: r => uptoBulkEntry x + uptoBulkEntries r
def uptoBulkEntry {H : Type} : Lit × DataW H → Nat
  | (.string bytes, d) => bytes.length + uptoBulk d + 1
  | (_, d) => uptoBulk d + 1
 end
def uptoSmall : (H : Type) → List (DataW H) → Bool := fun _ ds => decide (uptoBulkAll ds ≤ 1048576)
def OpenSpec.upto (s : _root_.Go.ChangeSpec) : _root_.Go.OpenSpec := { _root_.Go.OpenSpec.ofChange s with cond := some uptoSmall }

/-- 'hairsbreadthlaw15.RoundCuts', WHERE WHAT IT READS IS OF BULK AT MOST 1048576: true; the input reads as it did. -/
def roundCutsUptoRow : OpenClaim := { program := "ytmlobelcoggncaa", sum := "c792fb61c1b6c7b36b522d0f158aac05398a2fc22f17e8f9bfc3455a86c56f3c", func := "hairsbreadth/hairsbreadthlaw15.RoundCuts", spec := "roundCuts", inPlace := ["math/bits.Add64"], unfollowed := true, recurses := true, apart := false, narrowed := true }
def RoundCutsUptoSaid : Prop := roundCutsUptoRow.holds Try.pinned (OpenSpec.upto roundCutsSpec)

/-- 'hairsbreadthlaw15.RoundNear', WHERE WHAT IT READS IS OF BULK AT MOST 1048576: true; the input reads as it did. -/
def roundNearUptoRow : OpenClaim := { program := "ytmlobelcoggncaa", sum := "c792fb61c1b6c7b36b522d0f158aac05398a2fc22f17e8f9bfc3455a86c56f3c", func := "hairsbreadth/hairsbreadthlaw15.RoundNear", spec := "roundNear", inPlace := ["math/bits.Add64", "math/bits.Sub64"], unfollowed := true, recurses := true, apart := false, narrowed := true }
def RoundNearUptoSaid : Prop := roundNearUptoRow.holds Try.pinned (OpenSpec.upto roundNearSpec)

/-- 'hairsbreadthlaw15.RoundJam', WHERE WHAT IT READS IS OF BULK AT MOST 1048576: true; the input reads as it did. -/
def roundJamUptoRow : OpenClaim := { program := "ytmlobelcoggncaa", sum := "c792fb61c1b6c7b36b522d0f158aac05398a2fc22f17e8f9bfc3455a86c56f3c", func := "hairsbreadth/hairsbreadthlaw15.RoundJam", spec := "roundJam", inPlace := ["math/bits.Add64"], unfollowed := true, recurses := true, apart := false, narrowed := true }
def RoundJamUptoSaid : Prop := roundJamUptoRow.holds Try.pinned (OpenSpec.upto roundJamSpec)

/-- 'hairsbreadthlaw15.RoundOrder', WHERE WHAT IT READS IS OF BULK AT MOST 1048576: true; the input reads as it did. -/
def roundOrderUptoRow : OpenClaim := { program := "ytmlobelcoggncaa", sum := "c792fb61c1b6c7b36b522d0f158aac05398a2fc22f17e8f9bfc3455a86c56f3c", func := "hairsbreadth/hairsbreadthlaw15.RoundOrder", spec := "roundOrder", inPlace := ["math/bits.Add64"], unfollowed := true, recurses := true, apart := false, narrowed := true }
def RoundOrderUptoSaid : Prop := roundOrderUptoRow.holds Try.pinned (OpenSpec.upto roundOrderSpec)

/-- 'hairsbreadthlaw15.RoundMirror', WHERE WHAT IT READS IS OF BULK AT MOST 1048576: true; the input reads as it did. -/
def roundMirrorUptoRow : OpenClaim := { program := "ytmlobelcoggncaa", sum := "c792fb61c1b6c7b36b522d0f158aac05398a2fc22f17e8f9bfc3455a86c56f3c", func := "hairsbreadth/hairsbreadthlaw15.RoundMirror", spec := "roundMirror", inPlace := ["math/bits.Add64"], unfollowed := true, recurses := true, apart := false, narrowed := true }
def RoundMirrorUptoSaid : Prop := roundMirrorUptoRow.holds Try.pinned (OpenSpec.upto roundMirrorSpec)

/-- 'hairsbreadthlaw15.RoundKnown', WHERE WHAT IT READS IS OF BULK AT MOST 1048576: true; the input reads as it did. -/
def roundKnownUptoRow : OpenClaim := { program := "ytmlobelcoggncaa", sum := "c792fb61c1b6c7b36b522d0f158aac05398a2fc22f17e8f9bfc3455a86c56f3c", func := "hairsbreadth/hairsbreadthlaw15.RoundKnown", spec := "roundKnown", inPlace := ["math/bits.Add64"], unfollowed := true, recurses := true, apart := false, narrowed := true }
def RoundKnownUptoSaid : Prop := roundKnownUptoRow.holds Try.pinned (OpenSpec.upto roundKnownSpec)

end Rows
end Go.Proofs.Ytmlobelcoggncaa
