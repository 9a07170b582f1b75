/-
  NARROWER THAN 'FOR EVERY INPUT', by the rows' own cells (each row's printed sentence says how): RemAll: laid · RemHalf: laid · RemTurn: laid · RemMultiple: laid · RemStep: laid · RemSpecial: laid · RemKnown: laid.
  DERIVED. THE GIVEN ROWS OF THIS SEAT. 7 by the template 'for every input the law returns true; each argument reads behind the call as it read before'; 0 by the template 'total and deterministic' (their statements: YtjdjonekoodalaaGreatDoorTotals.lean).
  GIVEN WITH THE SEED: the statements are not yours to turn. If you find one false, say at which input.
  Laid BY PROGRAM, IN A SANDBOX (cutbox-rows.mjs): the forced cells as the released guide's own fill.sh prints them over the translation 3f300ea7141d4d78… (all of the seat's roots in one cut). By AI agents, Wed Nov 11 2026. No macro, syntax, notation, axiom, sorry.
-/
import Derived.Test.YtjdjonekoodalaaGreatDoorChecked
import GoSem.Claim
import GoSem.ClaimJoined
import GoSem.ClaimMapViews
import Derived.JoinedTies
import Derived.KernelRfl
namespace Go.Proofs.YtjdjonekoodalaaGreatDoor
/- THE CELL 'sum', in the pinned program and in every row, IS THE sha256 OF THE DUMP (.gsa) THAT YtjdjonekoodalaaGreatDoorProg.lean LOADS. Nothing in Lean hashes anything: it is a label: what it is worth is what the hold of that sum in a sandbox is worth. -/
noncomputable def Tryz.pinned : Pinned := { name := "ytjdjonekoodalaagreatdoor", sum := "3f300ea7141d4d784efab4ef8cc7c54c6fdd5ad6eefb5ea826847c3fbed15e5f", checked := Tryz.checked }
namespace Rows
def none {H : Type} : Left H := { results := [], args := [] }

/- WHAT THE LISTED PACKAGE-LEVEL VARIABLES READ AS WHEN THE CALL BEGINS. Each datum BY PROGRAM (the guide's laid-datum.mjs) off the statement by which the dump's own 'gosem.cut.vars' lays the variable. In a bare row this is a premise. The card (YtjdjonekoodalaaGreatDoorCards.lean) ties it to the program's text. -/
def laid_hairsbreadth_format_table {H : Type} : DataW H := .agg [.agg [.lit (.int .i64 16), .lit (.int .i64 11), .lit (.int .i64 15)], .agg [.lit (.int .i64 32), .lit (.int .i64 24), .lit (.int .i64 127)], .agg [.lit (.int .i64 64), .lit (.int .i64 53), .lit (.int .i64 1023)], .agg [.lit (.int .i64 128), .lit (.int .i64 113), .lit (.int .i64 16383)]]

/-- 'hairsbreadthlaw23.RemAll': WHATEVER THE INPUT: true; the input reads as it did. -/
def remAllSpec : ChangeSpec := { name := "remAll", fn := fun _ => fun
  | [d1, d2, d3] => { results := [.lit (.bool true)], args := [d1, d2, d3] }
  | _ => none }
def remAllRow : OpenClaim := { program := "ytjdjonekoodalaagreatdoor", sum := "3f300ea7141d4d784efab4ef8cc7c54c6fdd5ad6eefb5ea826847c3fbed15e5f", func := "hairsbreadth/hairsbreadthlaw23.RemAll", spec := "remAll", inPlace := ["math/bits.Add64", "math/bits.Sub64"], unfollowed := true, recurses := true, named := ["hairsbreadth/format.table"], apart := false, laid := [("hairsbreadth/format.table", laid_hairsbreadth_format_table)] }
def RemAllSaid : Prop := remAllRow.holds Tryz.pinned (OpenSpec.ofChange remAllSpec)

/-- ITS FALSE NEIGHBOUR: 'it returns false'. Refute it at one input. -/
def remAllWrong : ChangeSpec := { name := "remAll", fn := fun _ => fun
  | [d1, d2, d3] => { results := [.lit (.bool false)], args := [d1, d2, d3] }
  | _ => none }
def RemAllWrongFalsely : Prop := remAllRow.holds Tryz.pinned (OpenSpec.ofChange remAllWrong)

/-- 'hairsbreadthlaw23.RemHalf': WHATEVER THE INPUT: true; the input reads as it did. -/
def remHalfSpec : ChangeSpec := { name := "remHalf", fn := fun _ => fun
  | [d1, d2, d3] => { results := [.lit (.bool true)], args := [d1, d2, d3] }
  | _ => none }
def remHalfRow : OpenClaim := { program := "ytjdjonekoodalaagreatdoor", sum := "3f300ea7141d4d784efab4ef8cc7c54c6fdd5ad6eefb5ea826847c3fbed15e5f", func := "hairsbreadth/hairsbreadthlaw23.RemHalf", spec := "remHalf", inPlace := ["math/bits.Add64", "math/bits.Sub64"], unfollowed := true, recurses := true, named := ["hairsbreadth/format.table"], apart := false, laid := [("hairsbreadth/format.table", laid_hairsbreadth_format_table)] }
def RemHalfSaid : Prop := remHalfRow.holds Tryz.pinned (OpenSpec.ofChange remHalfSpec)

/-- ITS FALSE NEIGHBOUR: 'it returns false'. Refute it at one input. -/
def remHalfWrong : ChangeSpec := { name := "remHalf", fn := fun _ => fun
  | [d1, d2, d3] => { results := [.lit (.bool false)], args := [d1, d2, d3] }
  | _ => none }
def RemHalfWrongFalsely : Prop := remHalfRow.holds Tryz.pinned (OpenSpec.ofChange remHalfWrong)

/-- 'hairsbreadthlaw23.RemTurn': WHATEVER THE INPUT: true; the input reads as it did. -/
def remTurnSpec : ChangeSpec := { name := "remTurn", fn := fun _ => fun
  | [d1, d2, d3] => { results := [.lit (.bool true)], args := [d1, d2, d3] }
  | _ => none }
def remTurnRow : OpenClaim := { program := "ytjdjonekoodalaagreatdoor", sum := "3f300ea7141d4d784efab4ef8cc7c54c6fdd5ad6eefb5ea826847c3fbed15e5f", func := "hairsbreadth/hairsbreadthlaw23.RemTurn", spec := "remTurn", inPlace := ["math/bits.Add64", "math/bits.Sub64"], unfollowed := true, recurses := true, named := ["hairsbreadth/format.table"], apart := false, laid := [("hairsbreadth/format.table", laid_hairsbreadth_format_table)] }
def RemTurnSaid : Prop := remTurnRow.holds Tryz.pinned (OpenSpec.ofChange remTurnSpec)

/-- ITS FALSE NEIGHBOUR: 'it returns false'. Refute it at one input. -/
def remTurnWrong : ChangeSpec := { name := "remTurn", fn := fun _ => fun
  | [d1, d2, d3] => { results := [.lit (.bool false)], args := [d1, d2, d3] }
  | _ => none }
def RemTurnWrongFalsely : Prop := remTurnRow.holds Tryz.pinned (OpenSpec.ofChange remTurnWrong)

/-- 'hairsbreadthlaw23.RemMultiple': WHATEVER THE INPUT: true; the input reads as it did. -/
def remMultipleSpec : ChangeSpec := { name := "remMultiple", fn := fun _ => fun
  | [d1, d2, d3] => { results := [.lit (.bool true)], args := [d1, d2, d3] }
  | _ => none }
def remMultipleRow : OpenClaim := { program := "ytjdjonekoodalaagreatdoor", sum := "3f300ea7141d4d784efab4ef8cc7c54c6fdd5ad6eefb5ea826847c3fbed15e5f", func := "hairsbreadth/hairsbreadthlaw23.RemMultiple", spec := "remMultiple", inPlace := ["math/bits.Add64", "math/bits.Sub64"], unfollowed := true, recurses := true, named := ["hairsbreadth/format.table"], apart := false, laid := [("hairsbreadth/format.table", laid_hairsbreadth_format_table)] }
def RemMultipleSaid : Prop := remMultipleRow.holds Tryz.pinned (OpenSpec.ofChange remMultipleSpec)

/-- ITS FALSE NEIGHBOUR: 'it returns false'. Refute it at one input. -/
def remMultipleWrong : ChangeSpec := { name := "remMultiple", fn := fun _ => fun
  | [d1, d2, d3] => { results := [.lit (.bool false)], args := [d1, d2, d3] }
  | _ => none }
def RemMultipleWrongFalsely : Prop := remMultipleRow.holds Tryz.pinned (OpenSpec.ofChange remMultipleWrong)

/-- 'hairsbreadthlaw23.RemStep': WHATEVER THE INPUT: true; the input reads as it did. -/
def remStepSpec : ChangeSpec := { name := "remStep", fn := fun _ => fun
  | [d1, d2, d3] => { results := [.lit (.bool true)], args := [d1, d2, d3] }
  | _ => none }
def remStepRow : OpenClaim := { program := "ytjdjonekoodalaagreatdoor", sum := "3f300ea7141d4d784efab4ef8cc7c54c6fdd5ad6eefb5ea826847c3fbed15e5f", func := "hairsbreadth/hairsbreadthlaw23.RemStep", spec := "remStep", inPlace := ["math/bits.Add64", "math/bits.Sub64"], unfollowed := true, recurses := true, named := ["hairsbreadth/format.table"], apart := false, laid := [("hairsbreadth/format.table", laid_hairsbreadth_format_table)] }
def RemStepSaid : Prop := remStepRow.holds Tryz.pinned (OpenSpec.ofChange remStepSpec)

/-- ITS FALSE NEIGHBOUR: 'it returns false'. Refute it at one input. -/
def remStepWrong : ChangeSpec := { name := "remStep", fn := fun _ => fun
  | [d1, d2, d3] => { results := [.lit (.bool false)], args := [d1, d2, d3] }
  | _ => none }
def RemStepWrongFalsely : Prop := remStepRow.holds Tryz.pinned (OpenSpec.ofChange remStepWrong)

/-- 'hairsbreadthlaw23.RemSpecial': WHATEVER THE INPUT: true; the input reads as it did. -/
def remSpecialSpec : ChangeSpec := { name := "remSpecial", fn := fun _ => fun
  | [d1, d2, d3] => { results := [.lit (.bool true)], args := [d1, d2, d3] }
  | _ => none }
def remSpecialRow : OpenClaim := { program := "ytjdjonekoodalaagreatdoor", sum := "3f300ea7141d4d784efab4ef8cc7c54c6fdd5ad6eefb5ea826847c3fbed15e5f", func := "hairsbreadth/hairsbreadthlaw23.RemSpecial", spec := "remSpecial", inPlace := ["math/bits.Add64", "math/bits.Sub64"], unfollowed := true, recurses := true, named := ["hairsbreadth/format.table"], apart := false, laid := [("hairsbreadth/format.table", laid_hairsbreadth_format_table)] }
def RemSpecialSaid : Prop := remSpecialRow.holds Tryz.pinned (OpenSpec.ofChange remSpecialSpec)

/-- ITS FALSE NEIGHBOUR: 'it returns false'. Refute it at one input. -/
def remSpecialWrong : ChangeSpec := { name := "remSpecial", fn := fun _ => fun
  | [d1, d2, d3] => { results := [.lit (.bool false)], args := [d1, d2, d3] }
  | _ => none }
def RemSpecialWrongFalsely : Prop := remSpecialRow.holds Tryz.pinned (OpenSpec.ofChange remSpecialWrong)

/-- 'hairsbreadthlaw23.RemKnown': WHATEVER THE INPUT: true; the input reads as it did. -/
def remKnownSpec : ChangeSpec := { name := "remKnown", fn := fun _ => fun
  | [] => { results := [.lit (.bool true)], args := [] }
  | _ => none }
def remKnownRow : OpenClaim := { program := "ytjdjonekoodalaagreatdoor", sum := "3f300ea7141d4d784efab4ef8cc7c54c6fdd5ad6eefb5ea826847c3fbed15e5f", func := "hairsbreadth/hairsbreadthlaw23.RemKnown", spec := "remKnown", inPlace := ["math/bits.Add64", "math/bits.Sub64"], unfollowed := true, recurses := true, named := ["hairsbreadth/format.table"], apart := false, laid := [("hairsbreadth/format.table", laid_hairsbreadth_format_table)] }
def RemKnownSaid : Prop := remKnownRow.holds Tryz.pinned (OpenSpec.ofChange remKnownSpec)

/-- ITS FALSE NEIGHBOUR: 'it returns false'. Refute it at one input. -/
def remKnownWrong : ChangeSpec := { name := "remKnown", fn := fun _ => fun
  | [] => { results := [.lit (.bool false)], args := [] }
  | _ => none }
def RemKnownWrongFalsely : Prop := remKnownRow.holds Tryz.pinned (OpenSpec.ofChange remKnownWrong)

/- THE SECOND FORM. 'bulk': how many values and letters a reading holds, each counted each time it is reached (what is shared counts as often as it is met; a slice's spare places count too). A statement '..UptoSaid' is the law's where the arguments, and the package variables that the reading takes, are together of bulk at most 1048576: NARROWER than '..Said'. Prove '..Said' where nothing that the law and all that it calls make is longer than what came in: it says more and counts as full. Else prove '..UptoSaid'. A law counts once. -/
mutual
def uptoBulk {H : Type} : DataW H → Nat
  | .lit (.string bytes) => bytes.length + 1
  | .lit _ => 1
  | .nil => 1
  | .ptr d => uptoBulk d + 1
  | .slice elems spare => uptoBulkAll elems + uptoBulkAll spare + 1
  | .agg parts => uptoBulkAll parts + 1
  | .iface _ d => uptoBulk d + 1
  | .map entries => uptoBulkEntries entries + 1
  | .held _ => 1
def uptoBulkAll {H : Type} : List (DataW H) → Nat
  | [] => 0
  | d :: r => uptoBulk d + uptoBulkAll r
def uptoBulkEntries {H : Type} : List (Lit × DataW H) → Nat
  | [] => 0
  | x :: r => uptoBulkEntry x + uptoBulkEntries r
def uptoBulkEntry {H : Type} : Lit × DataW H → Nat
  | (.string bytes, d) => bytes.length + uptoBulk d + 1
  | (_, d) => uptoBulk d + 1
 end
def uptoSmall : (H : Type) → List (DataW H) → Bool := fun _ ds => decide (uptoBulkAll ds ≤ 1048576)
def OpenSpec.upto (s : _root_.Go.ChangeSpec) : _root_.Go.OpenSpec := { _root_.Go.OpenSpec.ofChange s with cond := some uptoSmall }

/-- 'hairsbreadthlaw23.RemAll', WHERE WHAT IT READS IS OF BULK AT MOST 1048576: true; the input reads as it did. -/
def remAllUptoRow : OpenClaim := { program := "ytjdjonekoodalaagreatdoor", sum := "3f300ea7141d4d784efab4ef8cc7c54c6fdd5ad6eefb5ea826847c3fbed15e5f", func := "hairsbreadth/hairsbreadthlaw23.RemAll", spec := "remAll", inPlace := ["math/bits.Add64", "math/bits.Sub64"], unfollowed := true, recurses := true, named := ["hairsbreadth/format.table"], apart := false, laid := [("hairsbreadth/format.table", laid_hairsbreadth_format_table)], narrowed := true }
def RemAllUptoSaid : Prop := remAllUptoRow.holds Tryz.pinned (OpenSpec.upto remAllSpec)

/-- 'hairsbreadthlaw23.RemHalf', WHERE WHAT IT READS IS OF BULK AT MOST 1048576: true; the input reads as it did. -/
def remHalfUptoRow : OpenClaim := { program := "ytjdjonekoodalaagreatdoor", sum := "3f300ea7141d4d784efab4ef8cc7c54c6fdd5ad6eefb5ea826847c3fbed15e5f", func := "hairsbreadth/hairsbreadthlaw23.RemHalf", spec := "remHalf", inPlace := ["math/bits.Add64", "math/bits.Sub64"], unfollowed := true, recurses := true, named := ["hairsbreadth/format.table"], apart := false, laid := [("hairsbreadth/format.table", laid_hairsbreadth_format_table)], narrowed := true }
def RemHalfUptoSaid : Prop := remHalfUptoRow.holds Tryz.pinned (OpenSpec.upto remHalfSpec)

/-- 'hairsbreadthlaw23.RemTurn', WHERE WHAT IT READS IS OF BULK AT MOST 1048576: true; the input reads as it did. -/
def remTurnUptoRow : OpenClaim := { program := "ytjdjonekoodalaagreatdoor", sum := "3f300ea7141d4d784efab4ef8cc7c54c6fdd5ad6eefb5ea826847c3fbed15e5f", func := "hairsbreadth/hairsbreadthlaw23.RemTurn", spec := "remTurn", inPlace := ["math/bits.Add64", "math/bits.Sub64"], unfollowed := true, recurses := true, named := ["hairsbreadth/format.table"], apart := false, laid := [("hairsbreadth/format.table", laid_hairsbreadth_format_table)], narrowed := true }
def RemTurnUptoSaid : Prop := remTurnUptoRow.holds Tryz.pinned (OpenSpec.upto remTurnSpec)

/-- 'hairsbreadthlaw23.RemMultiple', WHERE WHAT IT READS IS OF BULK AT MOST 1048576: true; the input reads as it did. -/
def remMultipleUptoRow : OpenClaim := { program := "ytjdjonekoodalaagreatdoor", sum := "3f300ea7141d4d784efab4ef8cc7c54c6fdd5ad6eefb5ea826847c3fbed15e5f", func := "hairsbreadth/hairsbreadthlaw23.RemMultiple", spec := "remMultiple", inPlace := ["math/bits.Add64", "math/bits.Sub64"], unfollowed := true, recurses := true, named := ["hairsbreadth/format.table"], apart := false, laid := [("hairsbreadth/format.table", laid_hairsbreadth_format_table)], narrowed := true }
def RemMultipleUptoSaid : Prop := remMultipleUptoRow.holds Tryz.pinned (OpenSpec.upto remMultipleSpec)

/-- 'hairsbreadthlaw23.RemStep', WHERE WHAT IT READS IS OF BULK AT MOST 1048576: true; the input reads as it did. -/
def remStepUptoRow : OpenClaim := { program := "ytjdjonekoodalaagreatdoor", sum := "3f300ea7141d4d784efab4ef8cc7c54c6fdd5ad6eefb5ea826847c3fbed15e5f", func := "hairsbreadth/hairsbreadthlaw23.RemStep", spec := "remStep", inPlace := ["math/bits.Add64", "math/bits.Sub64"], unfollowed := true, recurses := true, named := ["hairsbreadth/format.table"], apart := false, laid := [("hairsbreadth/format.table", laid_hairsbreadth_format_table)], narrowed := true }
def RemStepUptoSaid : Prop := remStepUptoRow.holds Tryz.pinned (OpenSpec.upto remStepSpec)

/-- 'hairsbreadthlaw23.RemSpecial', WHERE WHAT IT READS IS OF BULK AT MOST 1048576: true; the input reads as it did. -/
def remSpecialUptoRow : OpenClaim := { program := "ytjdjonekoodalaagreatdoor", sum := "3f300ea7141d4d784efab4ef8cc7c54c6fdd5ad6eefb5ea826847c3fbed15e5f", func := "hairsbreadth/hairsbreadthlaw23.RemSpecial", spec := "remSpecial", inPlace := ["math/bits.Add64", "math/bits.Sub64"], unfollowed := true, recurses := true, named := ["hairsbreadth/format.table"], apart := false, laid := [("hairsbreadth/format.table", laid_hairsbreadth_format_table)], narrowed := true }
def RemSpecialUptoSaid : Prop := remSpecialUptoRow.holds Tryz.pinned (OpenSpec.upto remSpecialSpec)

/-- 'hairsbreadthlaw23.RemKnown', WHERE WHAT IT READS IS OF BULK AT MOST 1048576: true; the input reads as it did. -/
def remKnownUptoRow : OpenClaim := { program := "ytjdjonekoodalaagreatdoor", sum := "3f300ea7141d4d784efab4ef8cc7c54c6fdd5ad6eefb5ea826847c3fbed15e5f", func := "hairsbreadth/hairsbreadthlaw23.RemKnown", spec := "remKnown", inPlace := ["math/bits.Add64", "math/bits.Sub64"], unfollowed := true, recurses := true, named := ["hairsbreadth/format.table"], apart := false, laid := [("hairsbreadth/format.table", laid_hairsbreadth_format_table)], narrowed := true }
def RemKnownUptoSaid : Prop := remKnownUptoRow.holds Tryz.pinned (OpenSpec.upto remKnownSpec)

end Rows
end Go.Proofs.YtjdjonekoodalaaGreatDoor
