/-
  NARROWER THAN 'FOR EVERY INPUT', by the rows' own cells (each row's printed sentence says how): FormatNumbers: laid · FormatFields: laid · FormatBack: laid · FormatFit: laid · FormatOrder: laid · FormatWide: laid · FormatKnown: laid.
  DERIVED. THE GIVEN ROWS OF THIS SEAT. 7 by the template 'for every input the law returns true; each argument reads behind the call as it read before'; 0 by the template 'total and deterministic' (their statements: YtbihcehcdjkkiaaDoorTotals.lean).
  GIVEN WITH THE SEED: the statements are not yours to turn. If you find one false, say at which input.
  Laid BY PROGRAM, IN A SANDBOX (cutbox-rows.mjs): the forced cells as the released guide's own fill.sh prints them over the translation 621c0d01aca223a4… (all of the seat's roots in one cut). By AI agents, Wed Nov 11 2026. No macro, syntax, notation, axiom, sorry.
-/
import Derived.Test.YtbihcehcdjkkiaaDoorChecked
import GoSem.Claim
import GoSem.ClaimJoined
import GoSem.ClaimMapViews
import Derived.JoinedTies
import Derived.KernelRfl
namespace Go.Proofs.YtbihcehcdjkkiaaDoor
/- THE CELL 'sum', in the pinned program and in every row, IS THE sha256 OF THE DUMP (.gsa) THAT YtbihcehcdjkkiaaDoorProg.lean LOADS. Nothing in Lean hashes anything: it is a label: what it is worth is what the hold of that sum in a sandbox is worth. -/
noncomputable def Tryd.pinned : Pinned := { name := "ytbihcehcdjkkiaadoor", sum := "621c0d01aca223a46792674898bc79769ed409f7419ce4c026c92b282d14ccab", checked := Tryd.checked }
namespace Rows
def none {H : Type} : Left H := { results := [], args := [] }

/- WHAT THE LISTED PACKAGE-LEVEL VARIABLES READ AS WHEN THE CALL BEGINS. Each datum BY PROGRAM (the guide's laid-datum.mjs) off the statement by which the dump's own 'gosem.cut.vars' lays the variable. In a bare row this is a premise. The card (YtbihcehcdjkkiaaDoorCards.lean) ties it to the program's text. -/
def laid_hairsbreadth_format_table {H : Type} : DataW H := .agg [.agg [.lit (.int .i64 16), .lit (.int .i64 11), .lit (.int .i64 15)], .agg [.lit (.int .i64 32), .lit (.int .i64 24), .lit (.int .i64 127)], .agg [.lit (.int .i64 64), .lit (.int .i64 53), .lit (.int .i64 1023)], .agg [.lit (.int .i64 128), .lit (.int .i64 113), .lit (.int .i64 16383)]]

/-- 'hairsbreadthlaw07.FormatNumbers': WHATEVER THE INPUT: true; the input reads as it did. -/
def formatNumbersSpec : ChangeSpec := { name := "formatNumbers", fn := fun _ => fun
  | [d1, d2, d3] => { results := [.lit (.bool true)], args := [d1, d2, d3] }
  | _ => none }
def formatNumbersRow : OpenClaim := { program := "ytbihcehcdjkkiaadoor", sum := "621c0d01aca223a46792674898bc79769ed409f7419ce4c026c92b282d14ccab", func := "hairsbreadth/hairsbreadthlaw07.FormatNumbers", spec := "formatNumbers", unfollowed := true, recurses := true, named := ["hairsbreadth/format.table"], apart := false, laid := [("hairsbreadth/format.table", laid_hairsbreadth_format_table)] }
def FormatNumbersSaid : Prop := formatNumbersRow.holds Tryd.pinned (OpenSpec.ofChange formatNumbersSpec)

/-- ITS FALSE NEIGHBOUR: 'it returns false'. Refute it at one input. -/
def formatNumbersWrong : ChangeSpec := { name := "formatNumbers", fn := fun _ => fun
  | [d1, d2, d3] => { results := [.lit (.bool false)], args := [d1, d2, d3] }
  | _ => none }
def FormatNumbersWrongFalsely : Prop := formatNumbersRow.holds Tryd.pinned (OpenSpec.ofChange formatNumbersWrong)

/-- 'hairsbreadthlaw07.FormatFields': WHATEVER THE INPUT: true; the input reads as it did. -/
def formatFieldsSpec : ChangeSpec := { name := "formatFields", fn := fun _ => fun
  | [d1, d2, d3, d4, d5] => { results := [.lit (.bool true)], args := [d1, d2, d3, d4, d5] }
  | _ => none }
def formatFieldsRow : OpenClaim := { program := "ytbihcehcdjkkiaadoor", sum := "621c0d01aca223a46792674898bc79769ed409f7419ce4c026c92b282d14ccab", func := "hairsbreadth/hairsbreadthlaw07.FormatFields", spec := "formatFields", unfollowed := true, recurses := true, named := ["hairsbreadth/format.table"], apart := false, laid := [("hairsbreadth/format.table", laid_hairsbreadth_format_table)] }
def FormatFieldsSaid : Prop := formatFieldsRow.holds Tryd.pinned (OpenSpec.ofChange formatFieldsSpec)

/-- ITS FALSE NEIGHBOUR: 'it returns false'. Refute it at one input. -/
def formatFieldsWrong : ChangeSpec := { name := "formatFields", fn := fun _ => fun
  | [d1, d2, d3, d4, d5] => { results := [.lit (.bool false)], args := [d1, d2, d3, d4, d5] }
  | _ => none }
def FormatFieldsWrongFalsely : Prop := formatFieldsRow.holds Tryd.pinned (OpenSpec.ofChange formatFieldsWrong)

/-- 'hairsbreadthlaw07.FormatBack': WHATEVER THE INPUT: true; the input reads as it did. -/
def formatBackSpec : ChangeSpec := { name := "formatBack", fn := fun _ => fun
  | [d1, d2, d3] => { results := [.lit (.bool true)], args := [d1, d2, d3] }
  | _ => none }
def formatBackRow : OpenClaim := { program := "ytbihcehcdjkkiaadoor", sum := "621c0d01aca223a46792674898bc79769ed409f7419ce4c026c92b282d14ccab", func := "hairsbreadth/hairsbreadthlaw07.FormatBack", spec := "formatBack", inPlace := ["math/bits.Add64"], unfollowed := true, recurses := true, named := ["hairsbreadth/format.table"], apart := false, laid := [("hairsbreadth/format.table", laid_hairsbreadth_format_table)] }
def FormatBackSaid : Prop := formatBackRow.holds Tryd.pinned (OpenSpec.ofChange formatBackSpec)

/-- ITS FALSE NEIGHBOUR: 'it returns false'. Refute it at one input. -/
def formatBackWrong : ChangeSpec := { name := "formatBack", fn := fun _ => fun
  | [d1, d2, d3] => { results := [.lit (.bool false)], args := [d1, d2, d3] }
  | _ => none }
def FormatBackWrongFalsely : Prop := formatBackRow.holds Tryd.pinned (OpenSpec.ofChange formatBackWrong)

/-- 'hairsbreadthlaw07.FormatFit': WHATEVER THE INPUT: true; the input reads as it did. -/
def formatFitSpec : ChangeSpec := { name := "formatFit", fn := fun _ => fun
  | [d1, d2] => { results := [.lit (.bool true)], args := [d1, d2] }
  | _ => none }
def formatFitRow : OpenClaim := { program := "ytbihcehcdjkkiaadoor", sum := "621c0d01aca223a46792674898bc79769ed409f7419ce4c026c92b282d14ccab", func := "hairsbreadth/hairsbreadthlaw07.FormatFit", spec := "formatFit", unfollowed := true, recurses := true, named := ["hairsbreadth/format.table"], apart := false, laid := [("hairsbreadth/format.table", laid_hairsbreadth_format_table)] }
def FormatFitSaid : Prop := formatFitRow.holds Tryd.pinned (OpenSpec.ofChange formatFitSpec)

/-- ITS FALSE NEIGHBOUR: 'it returns false'. Refute it at one input. -/
def formatFitWrong : ChangeSpec := { name := "formatFit", fn := fun _ => fun
  | [d1, d2] => { results := [.lit (.bool false)], args := [d1, d2] }
  | _ => none }
def FormatFitWrongFalsely : Prop := formatFitRow.holds Tryd.pinned (OpenSpec.ofChange formatFitWrong)

/-- 'hairsbreadthlaw07.FormatOrder': WHATEVER THE INPUT: true; the input reads as it did. -/
def formatOrderSpec : ChangeSpec := { name := "formatOrder", fn := fun _ => fun
  | [d] => { results := [.lit (.bool true)], args := [d] }
  | _ => none }
def formatOrderRow : OpenClaim := { program := "ytbihcehcdjkkiaadoor", sum := "621c0d01aca223a46792674898bc79769ed409f7419ce4c026c92b282d14ccab", func := "hairsbreadth/hairsbreadthlaw07.FormatOrder", spec := "formatOrder", inPlace := ["math/bits.Add64"], unfollowed := true, recurses := true, named := ["hairsbreadth/format.table"], apart := false, laid := [("hairsbreadth/format.table", laid_hairsbreadth_format_table)] }
def FormatOrderSaid : Prop := formatOrderRow.holds Tryd.pinned (OpenSpec.ofChange formatOrderSpec)

/-- ITS FALSE NEIGHBOUR: 'it returns false'. Refute it at one input. -/
def formatOrderWrong : ChangeSpec := { name := "formatOrder", fn := fun _ => fun
  | [d] => { results := [.lit (.bool false)], args := [d] }
  | _ => none }
def FormatOrderWrongFalsely : Prop := formatOrderRow.holds Tryd.pinned (OpenSpec.ofChange formatOrderWrong)

/-- 'hairsbreadthlaw07.FormatWide': WHATEVER THE INPUT: true; the input reads as it did. -/
def formatWideSpec : ChangeSpec := { name := "formatWide", fn := fun _ => fun
  | [d] => { results := [.lit (.bool true)], args := [d] }
  | _ => none }
def formatWideRow : OpenClaim := { program := "ytbihcehcdjkkiaadoor", sum := "621c0d01aca223a46792674898bc79769ed409f7419ce4c026c92b282d14ccab", func := "hairsbreadth/hairsbreadthlaw07.FormatWide", spec := "formatWide", unfollowed := true, recurses := true, named := ["hairsbreadth/format.table"], apart := false, laid := [("hairsbreadth/format.table", laid_hairsbreadth_format_table)] }
def FormatWideSaid : Prop := formatWideRow.holds Tryd.pinned (OpenSpec.ofChange formatWideSpec)

/-- ITS FALSE NEIGHBOUR: 'it returns false'. Refute it at one input. -/
def formatWideWrong : ChangeSpec := { name := "formatWide", fn := fun _ => fun
  | [d] => { results := [.lit (.bool false)], args := [d] }
  | _ => none }
def FormatWideWrongFalsely : Prop := formatWideRow.holds Tryd.pinned (OpenSpec.ofChange formatWideWrong)

/-- 'hairsbreadthlaw07.FormatKnown': WHATEVER THE INPUT: true; the input reads as it did. -/
def formatKnownSpec : ChangeSpec := { name := "formatKnown", fn := fun _ => fun
  | [] => { results := [.lit (.bool true)], args := [] }
  | _ => none }
def formatKnownRow : OpenClaim := { program := "ytbihcehcdjkkiaadoor", sum := "621c0d01aca223a46792674898bc79769ed409f7419ce4c026c92b282d14ccab", func := "hairsbreadth/hairsbreadthlaw07.FormatKnown", spec := "formatKnown", unfollowed := true, recurses := true, named := ["hairsbreadth/format.table"], apart := false, laid := [("hairsbreadth/format.table", laid_hairsbreadth_format_table)] }
def FormatKnownSaid : Prop := formatKnownRow.holds Tryd.pinned (OpenSpec.ofChange formatKnownSpec)

/-- ITS FALSE NEIGHBOUR: 'it returns false'. Refute it at one input. -/
def formatKnownWrong : ChangeSpec := { name := "formatKnown", fn := fun _ => fun
  | [] => { results := [.lit (.bool false)], args := [] }
  | _ => none }
def FormatKnownWrongFalsely : Prop := formatKnownRow.holds Tryd.pinned (OpenSpec.ofChange formatKnownWrong)

/- THE SECOND FORM. 'bulk': how many values and letters a reading holds, each counted each time it is reached (what is shared counts as often as it is met; a slice's spare places count too). A statement '..UptoSaid' is the law's where the arguments, and the package variables that the reading takes, are together of bulk at most 1048576: NARROWER than '..Said'. Prove '..Said' where nothing that the law and all that it calls make is longer than what came in: it says more and counts as full. Else prove '..UptoSaid'. A law counts once. -/
mutual
def uptoBulk {H : Type} : DataW H → Nat
  | .lit (.string bytes) => bytes.length + 1
  | .lit _ => 1
  | .nil => 1
  | .ptr d => uptoBulk d + 1
  | .slice elems spare => uptoBulkAll elems + uptoBulkAll spare + 1
  | .agg parts => uptoBulkAll parts + 1
  | .iface _ d => uptoBulk d + 1
  | .map entries => uptoBulkEntries entries + 1
  | .held _ => 1
def uptoBulkAll {H : Type} : List (DataW H) → Nat
  | [] => 0
  | d :: r => uptoBulk d + uptoBulkAll r
def uptoBulkEntries {H : Type} : List (Lit × DataW H) → Nat
  | [] => 0
  | x :: r => uptoBulkEntry x + uptoBulkEntries r
def uptoBulkEntry {H : Type} : Lit × DataW H → Nat
  | (.string bytes, d) => bytes.length + uptoBulk d + 1
  | (_, d) => uptoBulk d + 1
 end
def uptoSmall : (H : Type) → List (DataW H) → Bool := fun _ ds => decide (uptoBulkAll ds ≤ 1048576)
def OpenSpec.upto (s : _root_.Go.ChangeSpec) : _root_.Go.OpenSpec := { _root_.Go.OpenSpec.ofChange s with cond := some uptoSmall }

/-- 'hairsbreadthlaw07.FormatNumbers', WHERE WHAT IT READS IS OF BULK AT MOST 1048576: true; the input reads as it did. -/
def formatNumbersUptoRow : OpenClaim := { program := "ytbihcehcdjkkiaadoor", sum := "621c0d01aca223a46792674898bc79769ed409f7419ce4c026c92b282d14ccab", func := "hairsbreadth/hairsbreadthlaw07.FormatNumbers", spec := "formatNumbers", unfollowed := true, recurses := true, named := ["hairsbreadth/format.table"], apart := false, laid := [("hairsbreadth/format.table", laid_hairsbreadth_format_table)], narrowed := true }
def FormatNumbersUptoSaid : Prop := formatNumbersUptoRow.holds Tryd.pinned (OpenSpec.upto formatNumbersSpec)

/-- 'hairsbreadthlaw07.FormatFields', WHERE WHAT IT READS IS OF BULK AT MOST 1048576: true; the input reads as it did. -/
def formatFieldsUptoRow : OpenClaim := { program := "ytbihcehcdjkkiaadoor", sum := "621c0d01aca223a46792674898bc79769ed409f7419ce4c026c92b282d14ccab", func := "hairsbreadth/hairsbreadthlaw07.FormatFields", spec := "formatFields", unfollowed := true, recurses := true, named := ["hairsbreadth/format.table"], apart := false, laid := [("hairsbreadth/format.table", laid_hairsbreadth_format_table)], narrowed := true }
def FormatFieldsUptoSaid : Prop := formatFieldsUptoRow.holds Tryd.pinned (OpenSpec.upto formatFieldsSpec)

/-- 'hairsbreadthlaw07.FormatBack', WHERE WHAT IT READS IS OF BULK AT MOST 1048576: true; the input reads as it did. -/
def formatBackUptoRow : OpenClaim := { program := "ytbihcehcdjkkiaadoor", sum := "621c0d01aca223a46792674898bc79769ed409f7419ce4c026c92b282d14ccab", func := "hairsbreadth/hairsbreadthlaw07.FormatBack", spec := "formatBack", inPlace := ["math/bits.Add64"], unfollowed := true, recurses := true, named := ["hairsbreadth/format.table"], apart := false, laid := [("hairsbreadth/format.table", laid_hairsbreadth_format_table)], narrowed := true }
def FormatBackUptoSaid : Prop := formatBackUptoRow.holds Tryd.pinned (OpenSpec.upto formatBackSpec)

/-- 'hairsbreadthlaw07.FormatFit', WHERE WHAT IT READS IS OF BULK AT MOST 1048576: true; the input reads as it did. -/
def formatFitUptoRow : OpenClaim := { program := "ytbihcehcdjkkiaadoor", sum := "621c0d01aca223a46792674898bc79769ed409f7419ce4c026c92b282d14ccab", func := "hairsbreadth/hairsbreadthlaw07.FormatFit", spec := "formatFit", unfollowed := true, recurses := true, named := ["hairsbreadth/format.table"], apart := false, laid := [("hairsbreadth/format.table", laid_hairsbreadth_format_table)], narrowed := true }
def FormatFitUptoSaid : Prop := formatFitUptoRow.holds Tryd.pinned (OpenSpec.upto formatFitSpec)

/-- 'hairsbreadthlaw07.FormatOrder', WHERE WHAT IT READS IS OF BULK AT MOST 1048576: true; the input reads as it did. -/
def formatOrderUptoRow : OpenClaim := { program := "ytbihcehcdjkkiaadoor", sum := "621c0d01aca223a46792674898bc79769ed409f7419ce4c026c92b282d14ccab", func := "hairsbreadth/hairsbreadthlaw07.FormatOrder", spec := "formatOrder", inPlace := ["math/bits.Add64"], unfollowed := true, recurses := true, named := ["hairsbreadth/format.table"], apart := false, laid := [("hairsbreadth/format.table", laid_hairsbreadth_format_table)], narrowed := true }
def FormatOrderUptoSaid : Prop := formatOrderUptoRow.holds Tryd.pinned (OpenSpec.upto formatOrderSpec)

/-- 'hairsbreadthlaw07.FormatWide', WHERE WHAT IT READS IS OF BULK AT MOST 1048576: true; the input reads as it did. -/
def formatWideUptoRow : OpenClaim := { program := "ytbihcehcdjkkiaadoor", sum := "621c0d01aca223a46792674898bc79769ed409f7419ce4c026c92b282d14ccab", func := "hairsbreadth/hairsbreadthlaw07.FormatWide", spec := "formatWide", unfollowed := true, recurses := true, named := ["hairsbreadth/format.table"], apart := false, laid := [("hairsbreadth/format.table", laid_hairsbreadth_format_table)], narrowed := true }
def FormatWideUptoSaid : Prop := formatWideUptoRow.holds Tryd.pinned (OpenSpec.upto formatWideSpec)

/-- 'hairsbreadthlaw07.FormatKnown', WHERE WHAT IT READS IS OF BULK AT MOST 1048576: true; the input reads as it did. -/
def formatKnownUptoRow : OpenClaim := { program := "ytbihcehcdjkkiaadoor", sum := "621c0d01aca223a46792674898bc79769ed409f7419ce4c026c92b282d14ccab", func := "hairsbreadth/hairsbreadthlaw07.FormatKnown", spec := "formatKnown", unfollowed := true, recurses := true, named := ["hairsbreadth/format.table"], apart := false, laid := [("hairsbreadth/format.table", laid_hairsbreadth_format_table)], narrowed := true }
def FormatKnownUptoSaid : Prop := formatKnownUptoRow.holds Tryd.pinned (OpenSpec.upto formatKnownSpec)

end Rows
end Go.Proofs.YtbihcehcdjkkiaaDoor
