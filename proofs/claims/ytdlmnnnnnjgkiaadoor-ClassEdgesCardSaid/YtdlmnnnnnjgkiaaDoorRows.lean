/-
  NARROWER THAN 'FOR EVERY INPUT', by the rows' own cells (each row's printed sentence says how): ClassOf: laid · ClassAny: laid · ClassOne: laid · ClassEdges: laid · ClassMany: laid · ClassKnown: laid.
  DERIVED. THE GIVEN ROWS OF THIS SEAT. 6 by the template 'for every input the law returns true; each argument reads behind the call as it read before'; 0 by the template 'total and deterministic' (their statements: YtdlmnnnnnjgkiaaDoorTotals.lean).
  GIVEN WITH THE SEED: the statements are not yours to turn. If you find one false, say at which input.
  Laid BY PROGRAM, IN A SANDBOX (cutbox-rows.mjs): the forced cells as the released guide's own fill.sh prints them over the translation 661d56835642763c… (all of the seat's roots in one cut). By AI agents, Wed Nov 11 2026. No macro, syntax, notation, axiom, sorry.
-/
import Derived.Test.YtdlmnnnnnjgkiaaDoorChecked
import GoSem.Claim
import GoSem.ClaimJoined
import GoSem.ClaimMapViews
import Derived.JoinedTies
import Derived.KernelRfl
namespace Go.Proofs.YtdlmnnnnnjgkiaaDoor
/- THE CELL 'sum', in the pinned program and in every row, IS THE sha256 OF THE DUMP (.gsa) THAT YtdlmnnnnnjgkiaaDoorProg.lean LOADS. Nothing in Lean hashes anything: it is a label: what it is worth is what the hold of that sum in a sandbox is worth. -/
noncomputable def Tryd.pinned : Pinned := { name := "ytdlmnnnnnjgkiaadoor", sum := "661d56835642763c933fa5d10ed1ee4ff8e6c2ec96bc690591fa8598e2d0dc0f", checked := Tryd.checked }
namespace Rows
def none {H : Type} : Left H := { results := [], args := [] }

/- WHAT THE LISTED PACKAGE-LEVEL VARIABLES READ AS WHEN THE CALL BEGINS. Each datum BY PROGRAM (the guide's laid-datum.mjs) off the statement by which the dump's own 'gosem.cut.vars' lays the variable. In a bare row this is a premise. The card (YtdlmnnnnnjgkiaaDoorCards.lean) ties it to the program's text. -/
def laid_hairsbreadth_format_table {H : Type} : DataW H := .agg [.agg [.lit (.int .i64 16), .lit (.int .i64 11), .lit (.int .i64 15)], .agg [.lit (.int .i64 32), .lit (.int .i64 24), .lit (.int .i64 127)], .agg [.lit (.int .i64 64), .lit (.int .i64 53), .lit (.int .i64 1023)], .agg [.lit (.int .i64 128), .lit (.int .i64 113), .lit (.int .i64 16383)]]

/-- 'hairsbreadthlaw08.ClassOf': WHATEVER THE INPUT: true; the input reads as it did. -/
def classOfSpec : ChangeSpec := { name := "classOf", fn := fun _ => fun
  | [d1, d2] => { results := [.lit (.bool true)], args := [d1, d2] }
  | _ => none }
def classOfRow : OpenClaim := { program := "ytdlmnnnnnjgkiaadoor", sum := "661d56835642763c933fa5d10ed1ee4ff8e6c2ec96bc690591fa8598e2d0dc0f", func := "hairsbreadth/hairsbreadthlaw08.ClassOf", spec := "classOf", unfollowed := true, recurses := true, named := ["hairsbreadth/format.table"], apart := false, laid := [("hairsbreadth/format.table", laid_hairsbreadth_format_table)] }
def ClassOfSaid : Prop := classOfRow.holds Tryd.pinned (OpenSpec.ofChange classOfSpec)

/-- ITS FALSE NEIGHBOUR: 'it returns false'. Refute it at one input. -/
def classOfWrong : ChangeSpec := { name := "classOf", fn := fun _ => fun
  | [d1, d2] => { results := [.lit (.bool false)], args := [d1, d2] }
  | _ => none }
def ClassOfWrongFalsely : Prop := classOfRow.holds Tryd.pinned (OpenSpec.ofChange classOfWrong)

/-- 'hairsbreadthlaw08.ClassAny': WHATEVER THE INPUT: true; the input reads as it did. -/
def classAnySpec : ChangeSpec := { name := "classAny", fn := fun _ => fun
  | [d1, d2] => { results := [.lit (.bool true)], args := [d1, d2] }
  | _ => none }
def classAnyRow : OpenClaim := { program := "ytdlmnnnnnjgkiaadoor", sum := "661d56835642763c933fa5d10ed1ee4ff8e6c2ec96bc690591fa8598e2d0dc0f", func := "hairsbreadth/hairsbreadthlaw08.ClassAny", spec := "classAny", unfollowed := true, recurses := true, named := ["hairsbreadth/format.table"], apart := false, laid := [("hairsbreadth/format.table", laid_hairsbreadth_format_table)] }
def ClassAnySaid : Prop := classAnyRow.holds Tryd.pinned (OpenSpec.ofChange classAnySpec)

/-- ITS FALSE NEIGHBOUR: 'it returns false'. Refute it at one input. -/
def classAnyWrong : ChangeSpec := { name := "classAny", fn := fun _ => fun
  | [d1, d2] => { results := [.lit (.bool false)], args := [d1, d2] }
  | _ => none }
def ClassAnyWrongFalsely : Prop := classAnyRow.holds Tryd.pinned (OpenSpec.ofChange classAnyWrong)

/-- 'hairsbreadthlaw08.ClassOne': WHATEVER THE INPUT: true; the input reads as it did. -/
def classOneSpec : ChangeSpec := { name := "classOne", fn := fun _ => fun
  | [d1, d2, d3] => { results := [.lit (.bool true)], args := [d1, d2, d3] }
  | _ => none }
def classOneRow : OpenClaim := { program := "ytdlmnnnnnjgkiaadoor", sum := "661d56835642763c933fa5d10ed1ee4ff8e6c2ec96bc690591fa8598e2d0dc0f", func := "hairsbreadth/hairsbreadthlaw08.ClassOne", spec := "classOne", inPlace := ["math/bits.Add64"], unfollowed := true, recurses := true, named := ["hairsbreadth/format.table"], apart := false, laid := [("hairsbreadth/format.table", laid_hairsbreadth_format_table)] }
def ClassOneSaid : Prop := classOneRow.holds Tryd.pinned (OpenSpec.ofChange classOneSpec)

/-- ITS FALSE NEIGHBOUR: 'it returns false'. Refute it at one input. -/
def classOneWrong : ChangeSpec := { name := "classOne", fn := fun _ => fun
  | [d1, d2, d3] => { results := [.lit (.bool false)], args := [d1, d2, d3] }
  | _ => none }
def ClassOneWrongFalsely : Prop := classOneRow.holds Tryd.pinned (OpenSpec.ofChange classOneWrong)

/-- 'hairsbreadthlaw08.ClassEdges': WHATEVER THE INPUT: true; the input reads as it did. -/
def classEdgesSpec : ChangeSpec := { name := "classEdges", fn := fun _ => fun
  | [d1, d2] => { results := [.lit (.bool true)], args := [d1, d2] }
  | _ => none }
def classEdgesRow : OpenClaim := { program := "ytdlmnnnnnjgkiaadoor", sum := "661d56835642763c933fa5d10ed1ee4ff8e6c2ec96bc690591fa8598e2d0dc0f", func := "hairsbreadth/hairsbreadthlaw08.ClassEdges", spec := "classEdges", unfollowed := true, recurses := true, named := ["hairsbreadth/format.table"], apart := false, laid := [("hairsbreadth/format.table", laid_hairsbreadth_format_table)] }
def ClassEdgesSaid : Prop := classEdgesRow.holds Tryd.pinned (OpenSpec.ofChange classEdgesSpec)

/-- ITS FALSE NEIGHBOUR: 'it returns false'. Refute it at one input. -/
def classEdgesWrong : ChangeSpec := { name := "classEdges", fn := fun _ => fun
  | [d1, d2] => { results := [.lit (.bool false)], args := [d1, d2] }
  | _ => none }
def ClassEdgesWrongFalsely : Prop := classEdgesRow.holds Tryd.pinned (OpenSpec.ofChange classEdgesWrong)

/-- 'hairsbreadthlaw08.ClassMany': WHATEVER THE INPUT: true; the input reads as it did. -/
def classManySpec : ChangeSpec := { name := "classMany", fn := fun _ => fun
  | [d1, d2, d3] => { results := [.lit (.bool true)], args := [d1, d2, d3] }
  | _ => none }
def classManyRow : OpenClaim := { program := "ytdlmnnnnnjgkiaadoor", sum := "661d56835642763c933fa5d10ed1ee4ff8e6c2ec96bc690591fa8598e2d0dc0f", func := "hairsbreadth/hairsbreadthlaw08.ClassMany", spec := "classMany", unfollowed := true, recurses := true, named := ["hairsbreadth/format.table"], apart := false, laid := [("hairsbreadth/format.table", laid_hairsbreadth_format_table)] }
def ClassManySaid : Prop := classManyRow.holds Tryd.pinned (OpenSpec.ofChange classManySpec)

/-- ITS FALSE NEIGHBOUR: 'it returns false'. Refute it at one input. -/
def classManyWrong : ChangeSpec := { name := "classMany", fn := fun _ => fun
  | [d1, d2, d3] => { results := [.lit (.bool false)], args := [d1, d2, d3] }
  | _ => none }
def ClassManyWrongFalsely : Prop := classManyRow.holds Tryd.pinned (OpenSpec.ofChange classManyWrong)

/-- 'hairsbreadthlaw08.ClassKnown': WHATEVER THE INPUT: true; the input reads as it did. -/
def classKnownSpec : ChangeSpec := { name := "classKnown", fn := fun _ => fun
  | [] => { results := [.lit (.bool true)], args := [] }
  | _ => none }
def classKnownRow : OpenClaim := { program := "ytdlmnnnnnjgkiaadoor", sum := "661d56835642763c933fa5d10ed1ee4ff8e6c2ec96bc690591fa8598e2d0dc0f", func := "hairsbreadth/hairsbreadthlaw08.ClassKnown", spec := "classKnown", unfollowed := true, recurses := true, named := ["hairsbreadth/format.table"], apart := false, laid := [("hairsbreadth/format.table", laid_hairsbreadth_format_table)] }
def ClassKnownSaid : Prop := classKnownRow.holds Tryd.pinned (OpenSpec.ofChange classKnownSpec)

/-- ITS FALSE NEIGHBOUR: 'it returns false'. Refute it at one input. -/
def classKnownWrong : ChangeSpec := { name := "classKnown", fn := fun _ => fun
  | [] => { results := [.lit (.bool false)], args := [] }
  | _ => none }
def ClassKnownWrongFalsely : Prop := classKnownRow.holds Tryd.pinned (OpenSpec.ofChange classKnownWrong)

/- THE SECOND FORM. 'bulk': how many values and letters a reading holds, each counted each time it is reached (what is shared counts as often as it is met; a slice's spare places count too). A statement '..UptoSaid' is the law's where the arguments, and the package variables that the reading takes, are together of bulk at most 1048576: NARROWER than '..Said'. Prove '..Said' where nothing that the law and all that it calls make is longer than what came in: it says more and counts as full. Else prove '..UptoSaid'. A law counts once. -/
mutual
def uptoBulk {H : Type} : DataW H → Nat
  | .lit (.string bytes) => bytes.length + 1
  | .lit _ => 1
  | .nil => 1
  | .ptr d => uptoBulk d + 1
  | .slice elems spare => uptoBulkAll elems + uptoBulkAll spare + 1
  | .agg parts => uptoBulkAll parts + 1
  | .iface _ d => uptoBulk d + 1
  | .map entries => uptoBulkEntries entries + 1
  | .held _ => 1
def uptoBulkAll {H : Type} : List (DataW H) → Nat
  | [] => 0
  | d :: r => uptoBulk d + uptoBulkAll r
def uptoBulkEntries {H : Type} : List (Lit × DataW H) → Nat
  | [] => 0
  | x :: r => uptoBulkEntry x + uptoBulkEntries r
def uptoBulkEntry {H : Type} : Lit × DataW H → Nat
  | (.string bytes, d) => bytes.length + uptoBulk d + 1
  | (_, d) => uptoBulk d + 1
 end
def uptoSmall : (H : Type) → List (DataW H) → Bool := fun _ ds => decide (uptoBulkAll ds ≤ 1048576)
def OpenSpec.upto (s : _root_.Go.ChangeSpec) : _root_.Go.OpenSpec := { _root_.Go.OpenSpec.ofChange s with cond := some uptoSmall }

/-- 'hairsbreadthlaw08.ClassOf', WHERE WHAT IT READS IS OF BULK AT MOST 1048576: true; the input reads as it did. -/
def classOfUptoRow : OpenClaim := { program := "ytdlmnnnnnjgkiaadoor", sum := "661d56835642763c933fa5d10ed1ee4ff8e6c2ec96bc690591fa8598e2d0dc0f", func := "hairsbreadth/hairsbreadthlaw08.ClassOf", spec := "classOf", unfollowed := true, recurses := true, named := ["hairsbreadth/format.table"], apart := false, laid := [("hairsbreadth/format.table", laid_hairsbreadth_format_table)], narrowed := true }
def ClassOfUptoSaid : Prop := classOfUptoRow.holds Tryd.pinned (OpenSpec.upto classOfSpec)

/-- 'hairsbreadthlaw08.ClassAny', WHERE WHAT IT READS IS OF BULK AT MOST 1048576: true; the input reads as it did. -/
def classAnyUptoRow : OpenClaim := { program := "ytdlmnnnnnjgkiaadoor", sum := "661d56835642763c933fa5d10ed1ee4ff8e6c2ec96bc690591fa8598e2d0dc0f", func := "hairsbreadth/hairsbreadthlaw08.ClassAny", spec := "classAny", unfollowed := true, recurses := true, named := ["hairsbreadth/format.table"], apart := false, laid := [("hairsbreadth/format.table", laid_hairsbreadth_format_table)], narrowed := true }
def ClassAnyUptoSaid : Prop := classAnyUptoRow.holds Tryd.pinned (OpenSpec.upto classAnySpec)

/-- 'hairsbreadthlaw08.ClassOne', WHERE WHAT IT READS IS OF BULK AT MOST 1048576: true; the input reads as it did. -/
def classOneUptoRow : OpenClaim := { program := "ytdlmnnnnnjgkiaadoor", sum := "661d56835642763c933fa5d10ed1ee4ff8e6c2ec96bc690591fa8598e2d0dc0f", func := "hairsbreadth/hairsbreadthlaw08.ClassOne", spec := "classOne", inPlace := ["math/bits.Add64"], unfollowed := true, recurses := true, named := ["hairsbreadth/format.table"], apart := false, laid := [("hairsbreadth/format.table", laid_hairsbreadth_format_table)], narrowed := true }
def ClassOneUptoSaid : Prop := classOneUptoRow.holds Tryd.pinned (OpenSpec.upto classOneSpec)

/-- 'hairsbreadthlaw08.ClassEdges', WHERE WHAT IT READS IS OF BULK AT MOST 1048576: true; the input reads as it did. -/
def classEdgesUptoRow : OpenClaim := { program := "ytdlmnnnnnjgkiaadoor", sum := "661d56835642763c933fa5d10ed1ee4ff8e6c2ec96bc690591fa8598e2d0dc0f", func := "hairsbreadth/hairsbreadthlaw08.ClassEdges", spec := "classEdges", unfollowed := true, recurses := true, named := ["hairsbreadth/format.table"], apart := false, laid := [("hairsbreadth/format.table", laid_hairsbreadth_format_table)], narrowed := true }
def ClassEdgesUptoSaid : Prop := classEdgesUptoRow.holds Tryd.pinned (OpenSpec.upto classEdgesSpec)

/-- 'hairsbreadthlaw08.ClassMany', WHERE WHAT IT READS IS OF BULK AT MOST 1048576: true; the input reads as it did. -/
def classManyUptoRow : OpenClaim := { program := "ytdlmnnnnnjgkiaadoor", sum := "661d56835642763c933fa5d10ed1ee4ff8e6c2ec96bc690591fa8598e2d0dc0f", func := "hairsbreadth/hairsbreadthlaw08.ClassMany", spec := "classMany", unfollowed := true, recurses := true, named := ["hairsbreadth/format.table"], apart := false, laid := [("hairsbreadth/format.table", laid_hairsbreadth_format_table)], narrowed := true }
def ClassManyUptoSaid : Prop := classManyUptoRow.holds Tryd.pinned (OpenSpec.upto classManySpec)

/-- 'hairsbreadthlaw08.ClassKnown', WHERE WHAT IT READS IS OF BULK AT MOST 1048576: true; the input reads as it did. -/
def classKnownUptoRow : OpenClaim := { program := "ytdlmnnnnnjgkiaadoor", sum := "661d56835642763c933fa5d10ed1ee4ff8e6c2ec96bc690591fa8598e2d0dc0f", func := "hairsbreadth/hairsbreadthlaw08.ClassKnown", spec := "classKnown", unfollowed := true, recurses := true, named := ["hairsbreadth/format.table"], apart := false, laid := [("hairsbreadth/format.table", laid_hairsbreadth_format_table)], narrowed := true }
def ClassKnownUptoSaid : Prop := classKnownUptoRow.holds Tryd.pinned (OpenSpec.upto classKnownSpec)

end Rows
end Go.Proofs.YtdlmnnnnnjgkiaaDoor
