/-
  NARROWER THAN 'FOR EVERY INPUT', by the rows' own cells (each row's printed sentence says how): PayloadMoves: laid · PayloadBack: laid · PayloadOn: laid · PayloadNone: laid · PayloadKnown: laid.
  DERIVED. THE GIVEN ROWS OF THIS SEAT. 5 by the template 'for every input the law returns true; each argument reads behind the call as it read before'; 0 by the template 'total and deterministic' (their statements: YthnikhhgnogibaaDoorTotals.lean).
  GIVEN WITH THE SEED: the statements are not yours to turn. If you find one false, say at which input.
  Laid BY PROGRAM, IN A SANDBOX (cutbox-rows.mjs): the forced cells as the released guide's own fill.sh prints them over the translation 0eaad3c79981ab7d… (all of the seat's roots in one cut). By AI agents, Wed Nov 11 2026. No macro, syntax, notation, axiom, sorry.
-/
import Derived.Test.YthnikhhgnogibaaDoorChecked
import GoSem.Claim
import GoSem.ClaimJoined
import GoSem.ClaimMapViews
import Derived.JoinedTies
import Derived.KernelRfl
namespace Go.Proofs.YthnikhhgnogibaaDoor
/- THE CELL 'sum', in the pinned program and in every row, IS THE sha256 OF THE DUMP (.gsa) THAT YthnikhhgnogibaaDoorProg.lean LOADS. Nothing in Lean hashes anything: it is a label: what it is worth is what the hold of that sum in a sandbox is worth. -/
noncomputable def Tryd.pinned : Pinned := { name := "ythnikhhgnogibaadoor", sum := "0eaad3c79981ab7dbfb010386cae1c9071d6dd32c1b5eb22536a0e587f764856", checked := Tryd.checked }
namespace Rows
def none {H : Type} : Left H := { results := [], args := [] }

/- WHAT THE LISTED PACKAGE-LEVEL VARIABLES READ AS WHEN THE CALL BEGINS. Each datum BY PROGRAM (the guide's laid-datum.mjs) off the statement by which the dump's own 'gosem.cut.vars' lays the variable. In a bare row this is a premise. The card (YthnikhhgnogibaaDoorCards.lean) ties it to the program's text. -/
def laid_hairsbreadth_format_table {H : Type} : DataW H := .agg [.agg [.lit (.int .i64 16), .lit (.int .i64 11), .lit (.int .i64 15)], .agg [.lit (.int .i64 32), .lit (.int .i64 24), .lit (.int .i64 127)], .agg [.lit (.int .i64 64), .lit (.int .i64 53), .lit (.int .i64 1023)], .agg [.lit (.int .i64 128), .lit (.int .i64 113), .lit (.int .i64 16383)]]

/-- 'hairsbreadthlaw11.PayloadMoves': WHATEVER THE INPUT: true; the input reads as it did. -/
def payloadMovesSpec : ChangeSpec := { name := "payloadMoves", fn := fun _ => fun
  | [d1, d2, d3] => { results := [.lit (.bool true)], args := [d1, d2, d3] }
  | _ => none }
def payloadMovesRow : OpenClaim := { program := "ythnikhhgnogibaadoor", sum := "0eaad3c79981ab7dbfb010386cae1c9071d6dd32c1b5eb22536a0e587f764856", func := "hairsbreadth/hairsbreadthlaw11.PayloadMoves", spec := "payloadMoves", unfollowed := true, recurses := true, named := ["hairsbreadth/format.table"], apart := false, laid := [("hairsbreadth/format.table", laid_hairsbreadth_format_table)] }
def PayloadMovesSaid : Prop := payloadMovesRow.holds Tryd.pinned (OpenSpec.ofChange payloadMovesSpec)

/-- ITS FALSE NEIGHBOUR: 'it returns false'. Refute it at one input. -/
def payloadMovesWrong : ChangeSpec := { name := "payloadMoves", fn := fun _ => fun
  | [d1, d2, d3] => { results := [.lit (.bool false)], args := [d1, d2, d3] }
  | _ => none }
def PayloadMovesWrongFalsely : Prop := payloadMovesRow.holds Tryd.pinned (OpenSpec.ofChange payloadMovesWrong)

/-- 'hairsbreadthlaw11.PayloadBack': WHATEVER THE INPUT: true; the input reads as it did. -/
def payloadBackSpec : ChangeSpec := { name := "payloadBack", fn := fun _ => fun
  | [d1, d2, d3] => { results := [.lit (.bool true)], args := [d1, d2, d3] }
  | _ => none }
def payloadBackRow : OpenClaim := { program := "ythnikhhgnogibaadoor", sum := "0eaad3c79981ab7dbfb010386cae1c9071d6dd32c1b5eb22536a0e587f764856", func := "hairsbreadth/hairsbreadthlaw11.PayloadBack", spec := "payloadBack", unfollowed := true, recurses := true, named := ["hairsbreadth/format.table"], apart := false, laid := [("hairsbreadth/format.table", laid_hairsbreadth_format_table)] }
def PayloadBackSaid : Prop := payloadBackRow.holds Tryd.pinned (OpenSpec.ofChange payloadBackSpec)

/-- ITS FALSE NEIGHBOUR: 'it returns false'. Refute it at one input. -/
def payloadBackWrong : ChangeSpec := { name := "payloadBack", fn := fun _ => fun
  | [d1, d2, d3] => { results := [.lit (.bool false)], args := [d1, d2, d3] }
  | _ => none }
def PayloadBackWrongFalsely : Prop := payloadBackRow.holds Tryd.pinned (OpenSpec.ofChange payloadBackWrong)

/-- 'hairsbreadthlaw11.PayloadOn': WHATEVER THE INPUT: true; the input reads as it did. -/
def payloadOnSpec : ChangeSpec := { name := "payloadOn", fn := fun _ => fun
  | [d1, d2, d3, d4] => { results := [.lit (.bool true)], args := [d1, d2, d3, d4] }
  | _ => none }
def payloadOnRow : OpenClaim := { program := "ythnikhhgnogibaadoor", sum := "0eaad3c79981ab7dbfb010386cae1c9071d6dd32c1b5eb22536a0e587f764856", func := "hairsbreadth/hairsbreadthlaw11.PayloadOn", spec := "payloadOn", unfollowed := true, recurses := true, named := ["hairsbreadth/format.table"], apart := false, laid := [("hairsbreadth/format.table", laid_hairsbreadth_format_table)] }
def PayloadOnSaid : Prop := payloadOnRow.holds Tryd.pinned (OpenSpec.ofChange payloadOnSpec)

/-- ITS FALSE NEIGHBOUR: 'it returns false'. Refute it at one input. -/
def payloadOnWrong : ChangeSpec := { name := "payloadOn", fn := fun _ => fun
  | [d1, d2, d3, d4] => { results := [.lit (.bool false)], args := [d1, d2, d3, d4] }
  | _ => none }
def PayloadOnWrongFalsely : Prop := payloadOnRow.holds Tryd.pinned (OpenSpec.ofChange payloadOnWrong)

/-- 'hairsbreadthlaw11.PayloadNone': WHATEVER THE INPUT: true; the input reads as it did. -/
def payloadNoneSpec : ChangeSpec := { name := "payloadNone", fn := fun _ => fun
  | [d1, d2, d3] => { results := [.lit (.bool true)], args := [d1, d2, d3] }
  | _ => none }
def payloadNoneRow : OpenClaim := { program := "ythnikhhgnogibaadoor", sum := "0eaad3c79981ab7dbfb010386cae1c9071d6dd32c1b5eb22536a0e587f764856", func := "hairsbreadth/hairsbreadthlaw11.PayloadNone", spec := "payloadNone", unfollowed := true, recurses := true, named := ["hairsbreadth/format.table"], apart := false, laid := [("hairsbreadth/format.table", laid_hairsbreadth_format_table)] }
def PayloadNoneSaid : Prop := payloadNoneRow.holds Tryd.pinned (OpenSpec.ofChange payloadNoneSpec)

/-- ITS FALSE NEIGHBOUR: 'it returns false'. Refute it at one input. -/
def payloadNoneWrong : ChangeSpec := { name := "payloadNone", fn := fun _ => fun
  | [d1, d2, d3] => { results := [.lit (.bool false)], args := [d1, d2, d3] }
  | _ => none }
def PayloadNoneWrongFalsely : Prop := payloadNoneRow.holds Tryd.pinned (OpenSpec.ofChange payloadNoneWrong)

/-- 'hairsbreadthlaw11.PayloadKnown': WHATEVER THE INPUT: true; the input reads as it did. -/
def payloadKnownSpec : ChangeSpec := { name := "payloadKnown", fn := fun _ => fun
  | [] => { results := [.lit (.bool true)], args := [] }
  | _ => none }
def payloadKnownRow : OpenClaim := { program := "ythnikhhgnogibaadoor", sum := "0eaad3c79981ab7dbfb010386cae1c9071d6dd32c1b5eb22536a0e587f764856", func := "hairsbreadth/hairsbreadthlaw11.PayloadKnown", spec := "payloadKnown", unfollowed := true, recurses := true, named := ["hairsbreadth/format.table"], apart := false, laid := [("hairsbreadth/format.table", laid_hairsbreadth_format_table)] }
def PayloadKnownSaid : Prop := payloadKnownRow.holds Tryd.pinned (OpenSpec.ofChange payloadKnownSpec)

/-- ITS FALSE NEIGHBOUR: 'it returns false'. Refute it at one input. -/
def payloadKnownWrong : ChangeSpec := { name := "payloadKnown", fn := fun _ => fun
  | [] => { results := [.lit (.bool false)], args := [] }
  | _ => none }
def PayloadKnownWrongFalsely : Prop := payloadKnownRow.holds Tryd.pinned (OpenSpec.ofChange payloadKnownWrong)

/- THE SECOND FORM. 'bulk': how many values and letters a reading holds, each counted each time it is reached (what is shared counts as often as it is met; a slice's spare places count too). A statement '..UptoSaid' is the law's where the arguments, and the package variables that the reading takes, are together of bulk at most 1048576: NARROWER than '..Said'. Prove '..Said' where nothing that the law and all that it calls make is longer than what came in: it says more and counts as full. Else prove '..UptoSaid'. A law counts once. -/
mutual
def uptoBulk {H : Type} : DataW H → Nat
  | .lit (.string bytes) => bytes.length + 1
  | .lit _ => 1
  | .nil => 1
  | .ptr d => uptoBulk d + 1
  | .slice elems spare => uptoBulkAll elems + uptoBulkAll spare + 1
  | .agg parts => uptoBulkAll parts + 1
  | .iface _ d => uptoBulk d + 1
  | .map entries => uptoBulkEntries entries + 1
  | .held _ => 1
def uptoBulkAll {H : Type} : List (DataW H) → Nat
  | [] => 0
  | d :: r => uptoBulk d + uptoBulkAll r
def uptoBulkEntries {H : Type} : List (Lit × DataW H) → Nat
  | [] => 0
  | x :: r => uptoBulkEntry x + uptoBulkEntries r
def uptoBulkEntry {H : Type} : Lit × DataW H → Nat
  | (.string bytes, d) => bytes.length + uptoBulk d + 1
  | (_, d) => uptoBulk d + 1
 end
def uptoSmall : (H : Type) → List (DataW H) → Bool := fun _ ds => decide (uptoBulkAll ds ≤ 1048576)
def OpenSpec.upto (s : _root_.Go.ChangeSpec) : _root_.Go.OpenSpec := { _root_.Go.OpenSpec.ofChange s with cond := some uptoSmall }

/-- 'hairsbreadthlaw11.PayloadMoves', WHERE WHAT IT READS IS OF BULK AT MOST 1048576: true; the input reads as it did. -/
def payloadMovesUptoRow : OpenClaim := { program := "ythnikhhgnogibaadoor", sum := "0eaad3c79981ab7dbfb010386cae1c9071d6dd32c1b5eb22536a0e587f764856", func := "hairsbreadth/hairsbreadthlaw11.PayloadMoves", spec := "payloadMoves", unfollowed := true, recurses := true, named := ["hairsbreadth/format.table"], apart := false, laid := [("hairsbreadth/format.table", laid_hairsbreadth_format_table)], narrowed := true }
def PayloadMovesUptoSaid : Prop := payloadMovesUptoRow.holds Tryd.pinned (OpenSpec.upto payloadMovesSpec)

/-- 'hairsbreadthlaw11.PayloadBack', WHERE WHAT IT READS IS OF BULK AT MOST 1048576: true; the input reads as it did. -/
def payloadBackUptoRow : OpenClaim := { program := "ythnikhhgnogibaadoor", sum := "0eaad3c79981ab7dbfb010386cae1c9071d6dd32c1b5eb22536a0e587f764856", func := "hairsbreadth/hairsbreadthlaw11.PayloadBack", spec := "payloadBack", unfollowed := true, recurses := true, named := ["hairsbreadth/format.table"], apart := false, laid := [("hairsbreadth/format.table", laid_hairsbreadth_format_table)], narrowed := true }
def PayloadBackUptoSaid : Prop := payloadBackUptoRow.holds Tryd.pinned (OpenSpec.upto payloadBackSpec)

/-- 'hairsbreadthlaw11.PayloadOn', WHERE WHAT IT READS IS OF BULK AT MOST 1048576: true; the input reads as it did. -/
def payloadOnUptoRow : OpenClaim := { program := "ythnikhhgnogibaadoor", sum := "0eaad3c79981ab7dbfb010386cae1c9071d6dd32c1b5eb22536a0e587f764856", func := "hairsbreadth/hairsbreadthlaw11.PayloadOn", spec := "payloadOn", unfollowed := true, recurses := true, named := ["hairsbreadth/format.table"], apart := false, laid := [("hairsbreadth/format.table", laid_hairsbreadth_format_table)], narrowed := true }
def PayloadOnUptoSaid : Prop := payloadOnUptoRow.holds Tryd.pinned (OpenSpec.upto payloadOnSpec)

/-- 'hairsbreadthlaw11.PayloadNone', WHERE WHAT IT READS IS OF BULK AT MOST 1048576: true; the input reads as it did. -/
def payloadNoneUptoRow : OpenClaim := { program := "ythnikhhgnogibaadoor", sum := "0eaad3c79981ab7dbfb010386cae1c9071d6dd32c1b5eb22536a0e587f764856", func := "hairsbreadth/hairsbreadthlaw11.PayloadNone", spec := "payloadNone", unfollowed := true, recurses := true, named := ["hairsbreadth/format.table"], apart := false, laid := [("hairsbreadth/format.table", laid_hairsbreadth_format_table)], narrowed := true }
def PayloadNoneUptoSaid : Prop := payloadNoneUptoRow.holds Tryd.pinned (OpenSpec.upto payloadNoneSpec)

/-- 'hairsbreadthlaw11.PayloadKnown', WHERE WHAT IT READS IS OF BULK AT MOST 1048576: true; the input reads as it did. -/
def payloadKnownUptoRow : OpenClaim := { program := "ythnikhhgnogibaadoor", sum := "0eaad3c79981ab7dbfb010386cae1c9071d6dd32c1b5eb22536a0e587f764856", func := "hairsbreadth/hairsbreadthlaw11.PayloadKnown", spec := "payloadKnown", unfollowed := true, recurses := true, named := ["hairsbreadth/format.table"], apart := false, laid := [("hairsbreadth/format.table", laid_hairsbreadth_format_table)], narrowed := true }
def PayloadKnownUptoSaid : Prop := payloadKnownUptoRow.holds Tryd.pinned (OpenSpec.upto payloadKnownSpec)

end Rows
end Go.Proofs.YthnikhhgnogibaaDoor
