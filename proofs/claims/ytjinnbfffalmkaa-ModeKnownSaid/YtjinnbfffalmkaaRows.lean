/-
  No cell of these rows narrows 'for every input' (looked for: loops, veiled, ifaces, maps, wideKeys, modest, calm, conditions, laid).
  DERIVED. THE GIVEN ROWS OF THIS SEAT. 5 by the template 'for every input the law returns true; each argument reads behind the call as it read before'; 0 by the template 'total and deterministic' (their statements: YtjinnbfffalmkaaTotals.lean).
  GIVEN WITH THE SEED: the statements are not yours to turn. If you find one false, say at which input.
  Laid BY PROGRAM, IN A SANDBOX (cutbox-rows.mjs): the forced cells as the released guide's own fill.sh prints them over the translation fbedeea17ed9c382… (all of the seat's roots in one cut). By AI agents, Wed Nov 11 2026. No macro, syntax, notation, axiom, sorry.
-/
import Derived.Test.YtjinnbfffalmkaaChecked
import GoSem.Claim
import GoSem.ClaimJoined
import GoSem.ClaimMapViews
import Derived.JoinedTies
import Derived.KernelRfl
namespace Go.Proofs.Ytjinnbfffalmkaa
/- THE CELL 'sum', in the pinned program and in every row, IS THE sha256 OF THE DUMP (.gsa) THAT YtjinnbfffalmkaaProg.lean LOADS. Nothing in Lean hashes anything: it is a label: what it is worth is what the hold of that sum in a sandbox is worth. -/
noncomputable def Try.pinned : Pinned := { name := "ytjinnbfffalmkaa", sum := "fbedeea17ed9c382c61f0a093a19873f5d6f4689605068773947b1beca7cae39", checked := Try.checked }
namespace Rows
def none {H : Type} : Left H := { results := [], args := [] }

/-- 'hairsbreadthlaw13.ModeNext': WHATEVER THE INPUT: true; the input reads as it did. -/
def modeNextSpec : ChangeSpec := { name := "modeNext", fn := fun _ => fun
  | [d1, d2, d3, d4] => { results := [.lit (.bool true)], args := [d1, d2, d3, d4] }
  | _ => none }
def modeNextRow : OpenClaim := { program := "ytjinnbfffalmkaa", sum := "fbedeea17ed9c382c61f0a093a19873f5d6f4689605068773947b1beca7cae39", func := "hairsbreadth/hairsbreadthlaw13.ModeNext", spec := "modeNext", unfollowed := true, recurses := true, apart := false }
def ModeNextSaid : Prop := modeNextRow.holds Try.pinned (OpenSpec.ofChange modeNextSpec)

/-- ITS FALSE NEIGHBOUR: 'it returns false'. Refute it at one input. -/
def modeNextWrong : ChangeSpec := { name := "modeNext", fn := fun _ => fun
  | [d1, d2, d3, d4] => { results := [.lit (.bool false)], args := [d1, d2, d3, d4] }
  | _ => none }
def ModeNextWrongFalsely : Prop := modeNextRow.holds Try.pinned (OpenSpec.ofChange modeNextWrong)

/-- 'hairsbreadthlaw13.ModeRounds': WHATEVER THE INPUT: true; the input reads as it did. -/
def modeRoundsSpec : ChangeSpec := { name := "modeRounds", fn := fun _ => fun
  | [d1, d2] => { results := [.lit (.bool true)], args := [d1, d2] }
  | _ => none }
def modeRoundsRow : OpenClaim := { program := "ytjinnbfffalmkaa", sum := "fbedeea17ed9c382c61f0a093a19873f5d6f4689605068773947b1beca7cae39", func := "hairsbreadth/hairsbreadthlaw13.ModeRounds", spec := "modeRounds", unfollowed := true, recurses := true, apart := false }
def ModeRoundsSaid : Prop := modeRoundsRow.holds Try.pinned (OpenSpec.ofChange modeRoundsSpec)

/-- ITS FALSE NEIGHBOUR: 'it returns false'. Refute it at one input. -/
def modeRoundsWrong : ChangeSpec := { name := "modeRounds", fn := fun _ => fun
  | [d1, d2] => { results := [.lit (.bool false)], args := [d1, d2] }
  | _ => none }
def ModeRoundsWrongFalsely : Prop := modeRoundsRow.holds Try.pinned (OpenSpec.ofChange modeRoundsWrong)

/-- 'hairsbreadthlaw13.ModeMirror': WHATEVER THE INPUT: true; the input reads as it did. -/
def modeMirrorSpec : ChangeSpec := { name := "modeMirror", fn := fun _ => fun
  | [d1, d2, d3] => { results := [.lit (.bool true)], args := [d1, d2, d3] }
  | _ => none }
def modeMirrorRow : OpenClaim := { program := "ytjinnbfffalmkaa", sum := "fbedeea17ed9c382c61f0a093a19873f5d6f4689605068773947b1beca7cae39", func := "hairsbreadth/hairsbreadthlaw13.ModeMirror", spec := "modeMirror", unfollowed := true, recurses := true, apart := false }
def ModeMirrorSaid : Prop := modeMirrorRow.holds Try.pinned (OpenSpec.ofChange modeMirrorSpec)

/-- ITS FALSE NEIGHBOUR: 'it returns false'. Refute it at one input. -/
def modeMirrorWrong : ChangeSpec := { name := "modeMirror", fn := fun _ => fun
  | [d1, d2, d3] => { results := [.lit (.bool false)], args := [d1, d2, d3] }
  | _ => none }
def ModeMirrorWrongFalsely : Prop := modeMirrorRow.holds Try.pinned (OpenSpec.ofChange modeMirrorWrong)

/-- 'hairsbreadthlaw13.ModeOrder': WHATEVER THE INPUT: true; the input reads as it did. -/
def modeOrderSpec : ChangeSpec := { name := "modeOrder", fn := fun _ => fun
  | [d1, d2, d3, d4] => { results := [.lit (.bool true)], args := [d1, d2, d3, d4] }
  | _ => none }
def modeOrderRow : OpenClaim := { program := "ytjinnbfffalmkaa", sum := "fbedeea17ed9c382c61f0a093a19873f5d6f4689605068773947b1beca7cae39", func := "hairsbreadth/hairsbreadthlaw13.ModeOrder", spec := "modeOrder", unfollowed := true, recurses := true, apart := false }
def ModeOrderSaid : Prop := modeOrderRow.holds Try.pinned (OpenSpec.ofChange modeOrderSpec)

/-- ITS FALSE NEIGHBOUR: 'it returns false'. Refute it at one input. -/
def modeOrderWrong : ChangeSpec := { name := "modeOrder", fn := fun _ => fun
  | [d1, d2, d3, d4] => { results := [.lit (.bool false)], args := [d1, d2, d3, d4] }
  | _ => none }
def ModeOrderWrongFalsely : Prop := modeOrderRow.holds Try.pinned (OpenSpec.ofChange modeOrderWrong)

/-- 'hairsbreadthlaw13.ModeKnown': WHATEVER THE INPUT: true; the input reads as it did. -/
def modeKnownSpec : ChangeSpec := { name := "modeKnown", fn := fun _ => fun
  | [] => { results := [.lit (.bool true)], args := [] }
  | _ => none }
def modeKnownRow : OpenClaim := { program := "ytjinnbfffalmkaa", sum := "fbedeea17ed9c382c61f0a093a19873f5d6f4689605068773947b1beca7cae39", func := "hairsbreadth/hairsbreadthlaw13.ModeKnown", spec := "modeKnown", unfollowed := true, recurses := true, apart := false }
def ModeKnownSaid : Prop := modeKnownRow.holds Try.pinned (OpenSpec.ofChange modeKnownSpec)

/-- ITS FALSE NEIGHBOUR: 'it returns false'. Refute it at one input. -/
def modeKnownWrong : ChangeSpec := { name := "modeKnown", fn := fun _ => fun
  | [] => { results := [.lit (.bool false)], args := [] }
  | _ => none }
def ModeKnownWrongFalsely : Prop := modeKnownRow.holds Try.pinned (OpenSpec.ofChange modeKnownWrong)

/- THE SECOND FORM. 'bulk': how many values and letters a reading holds, each counted each time it is reached (what is shared counts as often as it is met; a slice's spare places count too). A statement '..UptoSaid' is the law's where the arguments, and the package variables that the reading takes, are together of bulk at most 1048576: NARROWER than '..Said'. Prove '..Said' where nothing that the law and all that it calls make is longer than what came in: it says more and counts as full. Else prove '..UptoSaid'. A law counts once. -/
mutual
def uptoBulk {H : Type} : DataW H → Nat
  | .lit (.string bytes) => bytes.length + 1
  | .lit _ => 1
  | .nil => 1
  | .ptr d => uptoBulk d + 1
  | .slice elems spare => uptoBulkAll elems + uptoBulkAll spare + 1
  | .agg parts => uptoBulkAll parts + 1
  | .iface _ d => uptoBulk d + 1
  | .map entries => uptoBulkEntries entries + 1
  | .held _ => 1
def uptoBulkAll {H : Type} : List (DataW H) → Nat
  | [] => 0
  | d :: r => uptoBulk d + uptoBulkAll r
def uptoBulkEntries {H : Type} : List (Lit × DataW H) → Nat
  | [] => 0
  | x :: r => uptoBulkEntry x + uptoBulkEntries r
def uptoBulkEntry {H : Type} : Lit × DataW H → Nat
  | (.string bytes, d) => bytes.length + uptoBulk d + 1
  | (_, d) => uptoBulk d + 1
 end
def uptoSmall : (H : Type) → List (DataW H) → Bool := fun _ ds => decide (uptoBulkAll ds ≤ 1048576)
def OpenSpec.upto (s : _root_.Go.ChangeSpec) : _root_.Go.OpenSpec := { _root_.Go.OpenSpec.ofChange s with cond := some uptoSmall }

/-- 'hairsbreadthlaw13.ModeNext', WHERE WHAT IT READS IS OF BULK AT MOST 1048576: true; the input reads as it did. -/
def modeNextUptoRow : OpenClaim := { program := "ytjinnbfffalmkaa", sum := "fbedeea17ed9c382c61f0a093a19873f5d6f4689605068773947b1beca7cae39", func := "hairsbreadth/hairsbreadthlaw13.ModeNext", spec := "modeNext", unfollowed := true, recurses := true, apart := false, narrowed := true }
def ModeNextUptoSaid : Prop := modeNextUptoRow.holds Try.pinned (OpenSpec.upto modeNextSpec)

/-- 'hairsbreadthlaw13.ModeRounds', WHERE WHAT IT READS IS OF BULK AT MOST 1048576: true; the input reads as it did. -/
def modeRoundsUptoRow : OpenClaim := { program := "ytjinnbfffalmkaa", sum := "fbedeea17ed9c382c61f0a093a19873f5d6f4689605068773947b1beca7cae39", func := "hairsbreadth/hairsbreadthlaw13.ModeRounds", spec := "modeRounds", unfollowed := true, recurses := true, apart := false, narrowed := true }
def ModeRoundsUptoSaid : Prop := modeRoundsUptoRow.holds Try.pinned (OpenSpec.upto modeRoundsSpec)

/-- 'hairsbreadthlaw13.ModeMirror', WHERE WHAT IT READS IS OF BULK AT MOST 1048576: true; the input reads as it did. -/
def modeMirrorUptoRow : OpenClaim := { program := "ytjinnbfffalmkaa", sum := "fbedeea17ed9c382c61f0a093a19873f5d6f4689605068773947b1beca7cae39", func := "hairsbreadth/hairsbreadthlaw13.ModeMirror", spec := "modeMirror", unfollowed := true, recurses := true, apart := false, narrowed := true }
def ModeMirrorUptoSaid : Prop := modeMirrorUptoRow.holds Try.pinned (OpenSpec.upto modeMirrorSpec)

/-- 'hairsbreadthlaw13.ModeOrder', WHERE WHAT IT READS IS OF BULK AT MOST 1048576: true; the input reads as it did. -/
def modeOrderUptoRow : OpenClaim := { program := "ytjinnbfffalmkaa", sum := "fbedeea17ed9c382c61f0a093a19873f5d6f4689605068773947b1beca7cae39", func := "hairsbreadth/hairsbreadthlaw13.ModeOrder", spec := "modeOrder", unfollowed := true, recurses := true, apart := false, narrowed := true }
def ModeOrderUptoSaid : Prop := modeOrderUptoRow.holds Try.pinned (OpenSpec.upto modeOrderSpec)

/-- 'hairsbreadthlaw13.ModeKnown', WHERE WHAT IT READS IS OF BULK AT MOST 1048576: true; the input reads as it did. -/
def modeKnownUptoRow : OpenClaim := { program := "ytjinnbfffalmkaa", sum := "fbedeea17ed9c382c61f0a093a19873f5d6f4689605068773947b1beca7cae39", func := "hairsbreadth/hairsbreadthlaw13.ModeKnown", spec := "modeKnown", unfollowed := true, recurses := true, apart := false, narrowed := true }
def ModeKnownUptoSaid : Prop := modeKnownUptoRow.holds Try.pinned (OpenSpec.upto modeKnownSpec)

end Rows
end Go.Proofs.Ytjinnbfffalmkaa
