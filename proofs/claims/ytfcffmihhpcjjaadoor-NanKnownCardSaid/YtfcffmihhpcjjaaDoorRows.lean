/-
  NARROWER THAN 'FOR EVERY INPUT', by the rows' own cells (each row's printed sentence says how): NanQuiets: laid · NanPicks: laid · NanAnswers: laid · NanStays: laid · NanFirst: laid · NanKnown: laid.
  DERIVED. THE GIVEN ROWS OF THIS SEAT. 6 by the template 'for every input the law returns true; each argument reads behind the call as it read before'; 0 by the template 'total and deterministic' (their statements: YtfcffmihhpcjjaaDoorTotals.lean).
  GIVEN WITH THE SEED: the statements are not yours to turn. If you find one false, say at which input.
  Laid BY PROGRAM, IN A SANDBOX (cutbox-rows.mjs): the forced cells as the released guide's own fill.sh prints them over the translation 0118372e4588a728… (all of the seat's roots in one cut). By AI agents, Wed Nov 11 2026. No macro, syntax, notation, axiom, sorry.
-/
import Derived.Test.YtfcffmihhpcjjaaDoorChecked
import GoSem.Claim
import GoSem.ClaimJoined
import GoSem.ClaimMapViews
import Derived.JoinedTies
import Derived.KernelRfl
namespace Go.Proofs.YtfcffmihhpcjjaaDoor
/- THE CELL 'sum', in the pinned program and in every row, IS THE sha256 OF THE DUMP (.gsa) THAT YtfcffmihhpcjjaaDoorProg.lean LOADS. Nothing in Lean hashes anything: it is a label: what it is worth is what the hold of that sum in a sandbox is worth. -/
noncomputable def Tryd.pinned : Pinned := { name := "ytfcffmihhpcjjaadoor", sum := "0118372e4588a728ba93291bb2b283f3fe636cf0c86ef108d56ac57c4a01409c", checked := Tryd.checked }
namespace Rows
def none {H : Type} : Left H := { results := [], args := [] }

/- WHAT THE LISTED PACKAGE-LEVEL VARIABLES READ AS WHEN THE CALL BEGINS. Each datum BY PROGRAM (the guide's laid-datum.mjs) off the statement by which the dump's own 'gosem.cut.vars' lays the variable. In a bare row this is a premise. The card (YtfcffmihhpcjjaaDoorCards.lean) ties it to the program's text. -/
def laid_hairsbreadth_format_table {H : Type} : DataW H := .agg [.agg [.lit (.int .i64 16), .lit (.int .i64 11), .lit (.int .i64 15)], .agg [.lit (.int .i64 32), .lit (.int .i64 24), .lit (.int .i64 127)], .agg [.lit (.int .i64 64), .lit (.int .i64 53), .lit (.int .i64 1023)], .agg [.lit (.int .i64 128), .lit (.int .i64 113), .lit (.int .i64 16383)]]

/-- 'hairsbreadthlaw10.NanQuiets': WHATEVER THE INPUT: true; the input reads as it did. -/
def nanQuietsSpec : ChangeSpec := { name := "nanQuiets", fn := fun _ => fun
  | [d1, d2] => { results := [.lit (.bool true)], args := [d1, d2] }
  | _ => none }
def nanQuietsRow : OpenClaim := { program := "ytfcffmihhpcjjaadoor", sum := "0118372e4588a728ba93291bb2b283f3fe636cf0c86ef108d56ac57c4a01409c", func := "hairsbreadth/hairsbreadthlaw10.NanQuiets", spec := "nanQuiets", unfollowed := true, recurses := true, named := ["hairsbreadth/format.table"], apart := false, laid := [("hairsbreadth/format.table", laid_hairsbreadth_format_table)] }
def NanQuietsSaid : Prop := nanQuietsRow.holds Tryd.pinned (OpenSpec.ofChange nanQuietsSpec)

/-- ITS FALSE NEIGHBOUR: 'it returns false'. Refute it at one input. -/
def nanQuietsWrong : ChangeSpec := { name := "nanQuiets", fn := fun _ => fun
  | [d1, d2] => { results := [.lit (.bool false)], args := [d1, d2] }
  | _ => none }
def NanQuietsWrongFalsely : Prop := nanQuietsRow.holds Tryd.pinned (OpenSpec.ofChange nanQuietsWrong)

/-- 'hairsbreadthlaw10.NanPicks': WHATEVER THE INPUT: true; the input reads as it did. -/
def nanPicksSpec : ChangeSpec := { name := "nanPicks", fn := fun _ => fun
  | [d1, d2, d3] => { results := [.lit (.bool true)], args := [d1, d2, d3] }
  | _ => none }
def nanPicksRow : OpenClaim := { program := "ytfcffmihhpcjjaadoor", sum := "0118372e4588a728ba93291bb2b283f3fe636cf0c86ef108d56ac57c4a01409c", func := "hairsbreadth/hairsbreadthlaw10.NanPicks", spec := "nanPicks", unfollowed := true, recurses := true, named := ["hairsbreadth/format.table"], apart := false, laid := [("hairsbreadth/format.table", laid_hairsbreadth_format_table)] }
def NanPicksSaid : Prop := nanPicksRow.holds Tryd.pinned (OpenSpec.ofChange nanPicksSpec)

/-- ITS FALSE NEIGHBOUR: 'it returns false'. Refute it at one input. -/
def nanPicksWrong : ChangeSpec := { name := "nanPicks", fn := fun _ => fun
  | [d1, d2, d3] => { results := [.lit (.bool false)], args := [d1, d2, d3] }
  | _ => none }
def NanPicksWrongFalsely : Prop := nanPicksRow.holds Tryd.pinned (OpenSpec.ofChange nanPicksWrong)

/-- 'hairsbreadthlaw10.NanAnswers': WHATEVER THE INPUT: true; the input reads as it did. -/
def nanAnswersSpec : ChangeSpec := { name := "nanAnswers", fn := fun _ => fun
  | [d1, d2, d3] => { results := [.lit (.bool true)], args := [d1, d2, d3] }
  | _ => none }
def nanAnswersRow : OpenClaim := { program := "ytfcffmihhpcjjaadoor", sum := "0118372e4588a728ba93291bb2b283f3fe636cf0c86ef108d56ac57c4a01409c", func := "hairsbreadth/hairsbreadthlaw10.NanAnswers", spec := "nanAnswers", unfollowed := true, recurses := true, named := ["hairsbreadth/format.table"], apart := false, laid := [("hairsbreadth/format.table", laid_hairsbreadth_format_table)] }
def NanAnswersSaid : Prop := nanAnswersRow.holds Tryd.pinned (OpenSpec.ofChange nanAnswersSpec)

/-- ITS FALSE NEIGHBOUR: 'it returns false'. Refute it at one input. -/
def nanAnswersWrong : ChangeSpec := { name := "nanAnswers", fn := fun _ => fun
  | [d1, d2, d3] => { results := [.lit (.bool false)], args := [d1, d2, d3] }
  | _ => none }
def NanAnswersWrongFalsely : Prop := nanAnswersRow.holds Tryd.pinned (OpenSpec.ofChange nanAnswersWrong)

/-- 'hairsbreadthlaw10.NanStays': WHATEVER THE INPUT: true; the input reads as it did. -/
def nanStaysSpec : ChangeSpec := { name := "nanStays", fn := fun _ => fun
  | [d1, d2] => { results := [.lit (.bool true)], args := [d1, d2] }
  | _ => none }
def nanStaysRow : OpenClaim := { program := "ytfcffmihhpcjjaadoor", sum := "0118372e4588a728ba93291bb2b283f3fe636cf0c86ef108d56ac57c4a01409c", func := "hairsbreadth/hairsbreadthlaw10.NanStays", spec := "nanStays", inPlace := ["math/bits.Sub64"], unfollowed := true, recurses := true, named := ["hairsbreadth/format.table"], apart := false, laid := [("hairsbreadth/format.table", laid_hairsbreadth_format_table)] }
def NanStaysSaid : Prop := nanStaysRow.holds Tryd.pinned (OpenSpec.ofChange nanStaysSpec)

/-- ITS FALSE NEIGHBOUR: 'it returns false'. Refute it at one input. -/
def nanStaysWrong : ChangeSpec := { name := "nanStays", fn := fun _ => fun
  | [d1, d2] => { results := [.lit (.bool false)], args := [d1, d2] }
  | _ => none }
def NanStaysWrongFalsely : Prop := nanStaysRow.holds Tryd.pinned (OpenSpec.ofChange nanStaysWrong)

/-- 'hairsbreadthlaw10.NanFirst': WHATEVER THE INPUT: true; the input reads as it did. -/
def nanFirstSpec : ChangeSpec := { name := "nanFirst", fn := fun _ => fun
  | [d1, d2, d3, d4] => { results := [.lit (.bool true)], args := [d1, d2, d3, d4] }
  | _ => none }
def nanFirstRow : OpenClaim := { program := "ytfcffmihhpcjjaadoor", sum := "0118372e4588a728ba93291bb2b283f3fe636cf0c86ef108d56ac57c4a01409c", func := "hairsbreadth/hairsbreadthlaw10.NanFirst", spec := "nanFirst", unfollowed := true, recurses := true, named := ["hairsbreadth/format.table"], apart := false, laid := [("hairsbreadth/format.table", laid_hairsbreadth_format_table)] }
def NanFirstSaid : Prop := nanFirstRow.holds Tryd.pinned (OpenSpec.ofChange nanFirstSpec)

/-- ITS FALSE NEIGHBOUR: 'it returns false'. Refute it at one input. -/
def nanFirstWrong : ChangeSpec := { name := "nanFirst", fn := fun _ => fun
  | [d1, d2, d3, d4] => { results := [.lit (.bool false)], args := [d1, d2, d3, d4] }
  | _ => none }
def NanFirstWrongFalsely : Prop := nanFirstRow.holds Tryd.pinned (OpenSpec.ofChange nanFirstWrong)

/-- 'hairsbreadthlaw10.NanKnown': WHATEVER THE INPUT: true; the input reads as it did. -/
def nanKnownSpec : ChangeSpec := { name := "nanKnown", fn := fun _ => fun
  | [] => { results := [.lit (.bool true)], args := [] }
  | _ => none }
def nanKnownRow : OpenClaim := { program := "ytfcffmihhpcjjaadoor", sum := "0118372e4588a728ba93291bb2b283f3fe636cf0c86ef108d56ac57c4a01409c", func := "hairsbreadth/hairsbreadthlaw10.NanKnown", spec := "nanKnown", unfollowed := true, recurses := true, named := ["hairsbreadth/format.table"], apart := false, laid := [("hairsbreadth/format.table", laid_hairsbreadth_format_table)] }
def NanKnownSaid : Prop := nanKnownRow.holds Tryd.pinned (OpenSpec.ofChange nanKnownSpec)

/-- ITS FALSE NEIGHBOUR: 'it returns false'. Refute it at one input. -/
def nanKnownWrong : ChangeSpec := { name := "nanKnown", fn := fun _ => fun
  | [] => { results := [.lit (.bool false)], args := [] }
  | _ => none }
def NanKnownWrongFalsely : Prop := nanKnownRow.holds Tryd.pinned (OpenSpec.ofChange nanKnownWrong)

/- THE SECOND FORM. 'bulk': how many values and letters a reading holds, each counted each time it is reached (what is shared counts as often as it is met; a slice's spare places count too). A statement '..UptoSaid' is the law's where the arguments, and the package variables that the reading takes, are together of bulk at most 1048576: NARROWER than '..Said'. Prove '..Said' where nothing that the law and all that it calls make is longer than what came in: it says more and counts as full. Else prove '..UptoSaid'. A law counts once. -/
mutual
def uptoBulk {H : Type} : DataW H → Nat
  | .lit (.string bytes) => bytes.length + 1
  | .lit _ => 1
  | .nil => 1
  | .ptr d => uptoBulk d + 1
  | .slice elems spare => uptoBulkAll elems + uptoBulkAll spare + 1
  | .agg parts => uptoBulkAll parts + 1
  | .iface _ d => uptoBulk d + 1
  | .map entries => uptoBulkEntries entries + 1
  | .held _ => 1
def uptoBulkAll {H : Type} : List (DataW H) → Nat
  | [] => 0
  | d :: r => uptoBulk d + uptoBulkAll r
def uptoBulkEntries {H : Type} : List (Lit × DataW H) → Nat
  | [] => 0
  | x :: r => uptoBulkEntry x + uptoBulkEntries r
def uptoBulkEntry {H : Type} : Lit × DataW H → Nat
  | (.string bytes, d) => bytes.length + uptoBulk d + 1
  | (_, d) => uptoBulk d + 1
 end
def uptoSmall : (H : Type) → List (DataW H) → Bool := fun _ ds => decide (uptoBulkAll ds ≤ 1048576)
def OpenSpec.upto (s : _root_.Go.ChangeSpec) : _root_.Go.OpenSpec := { _root_.Go.OpenSpec.ofChange s with cond := some uptoSmall }

/-- 'hairsbreadthlaw10.NanQuiets', WHERE WHAT IT READS IS OF BULK AT MOST 1048576: true; the input reads as it did. -/
def nanQuietsUptoRow : OpenClaim := { program := "ytfcffmihhpcjjaadoor", sum := "0118372e4588a728ba93291bb2b283f3fe636cf0c86ef108d56ac57c4a01409c", func := "hairsbreadth/hairsbreadthlaw10.NanQuiets", spec := "nanQuiets", unfollowed := true, recurses := true, named := ["hairsbreadth/format.table"], apart := false, laid := [("hairsbreadth/format.table", laid_hairsbreadth_format_table)], narrowed := true }
def NanQuietsUptoSaid : Prop := nanQuietsUptoRow.holds Tryd.pinned (OpenSpec.upto nanQuietsSpec)

/-- 'hairsbreadthlaw10.NanPicks', WHERE WHAT IT READS IS OF BULK AT MOST 1048576: true; the input reads as it did. -/
def nanPicksUptoRow : OpenClaim := { program := "ytfcffmihhpcjjaadoor", sum := "0118372e4588a728ba93291bb2b283f3fe636cf0c86ef108d56ac57c4a01409c", func := "hairsbreadth/hairsbreadthlaw10.NanPicks", spec := "nanPicks", unfollowed := true, recurses := true, named := ["hairsbreadth/format.table"], apart := false, laid := [("hairsbreadth/format.table", laid_hairsbreadth_format_table)], narrowed := true }
def NanPicksUptoSaid : Prop := nanPicksUptoRow.holds Tryd.pinned (OpenSpec.upto nanPicksSpec)

/-- 'hairsbreadthlaw10.NanAnswers', WHERE WHAT IT READS IS OF BULK AT MOST 1048576: true; the input reads as it did. -/
def nanAnswersUptoRow : OpenClaim := { program := "ytfcffmihhpcjjaadoor", sum := "0118372e4588a728ba93291bb2b283f3fe636cf0c86ef108d56ac57c4a01409c", func := "hairsbreadth/hairsbreadthlaw10.NanAnswers", spec := "nanAnswers", unfollowed := true, recurses := true, named := ["hairsbreadth/format.table"], apart := false, laid := [("hairsbreadth/format.table", laid_hairsbreadth_format_table)], narrowed := true }
def NanAnswersUptoSaid : Prop := nanAnswersUptoRow.holds Tryd.pinned (OpenSpec.upto nanAnswersSpec)

/-- 'hairsbreadthlaw10.NanStays', WHERE WHAT IT READS IS OF BULK AT MOST 1048576: true; the input reads as it did. -/
def nanStaysUptoRow : OpenClaim := { program := "ytfcffmihhpcjjaadoor", sum := "0118372e4588a728ba93291bb2b283f3fe636cf0c86ef108d56ac57c4a01409c", func := "hairsbreadth/hairsbreadthlaw10.NanStays", spec := "nanStays", inPlace := ["math/bits.Sub64"], unfollowed := true, recurses := true, named := ["hairsbreadth/format.table"], apart := false, laid := [("hairsbreadth/format.table", laid_hairsbreadth_format_table)], narrowed := true }
def NanStaysUptoSaid : Prop := nanStaysUptoRow.holds Tryd.pinned (OpenSpec.upto nanStaysSpec)

/-- 'hairsbreadthlaw10.NanFirst', WHERE WHAT IT READS IS OF BULK AT MOST 1048576: true; the input reads as it did. -/
def nanFirstUptoRow : OpenClaim := { program := "ytfcffmihhpcjjaadoor", sum := "0118372e4588a728ba93291bb2b283f3fe636cf0c86ef108d56ac57c4a01409c", func := "hairsbreadth/hairsbreadthlaw10.NanFirst", spec := "nanFirst", unfollowed := true, recurses := true, named := ["hairsbreadth/format.table"], apart := false, laid := [("hairsbreadth/format.table", laid_hairsbreadth_format_table)], narrowed := true }
def NanFirstUptoSaid : Prop := nanFirstUptoRow.holds Tryd.pinned (OpenSpec.upto nanFirstSpec)

/-- 'hairsbreadthlaw10.NanKnown', WHERE WHAT IT READS IS OF BULK AT MOST 1048576: true; the input reads as it did. -/
def nanKnownUptoRow : OpenClaim := { program := "ytfcffmihhpcjjaadoor", sum := "0118372e4588a728ba93291bb2b283f3fe636cf0c86ef108d56ac57c4a01409c", func := "hairsbreadth/hairsbreadthlaw10.NanKnown", spec := "nanKnown", unfollowed := true, recurses := true, named := ["hairsbreadth/format.table"], apart := false, laid := [("hairsbreadth/format.table", laid_hairsbreadth_format_table)], narrowed := true }
def NanKnownUptoSaid : Prop := nanKnownUptoRow.holds Tryd.pinned (OpenSpec.upto nanKnownSpec)

end Rows
end Go.Proofs.YtfcffmihhpcjjaaDoor
