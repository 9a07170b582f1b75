/-
  NARROWER THAN 'FOR EVERY INPUT', by the rows' own cells (each row's printed sentence says how): DivAll: laid · DivBack: laid · DivOne: laid · DivPowers: laid · DivTurn: laid · DivSpecial: laid · DivKnown: laid.
  DERIVED. THE GIVEN ROWS OF THIS SEAT. 7 by the template 'for every input the law returns true; each argument reads behind the call as it read before'; 0 by the template 'total and deterministic' (their statements: YtnlmceafleeaiaaGreatDoorTotals.lean).
  GIVEN WITH THE SEED: the statements are not yours to turn. If you find one false, say at which input.
  Laid BY PROGRAM, IN A SANDBOX (cutbox-rows.mjs): the forced cells as the released guide's own fill.sh prints them over the translation 52b011fc9c8aa31e… (all of the seat's roots in one cut). By AI agents, Wed Nov 11 2026. No macro, syntax, notation, axiom, sorry.
-/
import Derived.Test.YtnlmceafleeaiaaGreatDoorChecked
import GoSem.Claim
import GoSem.ClaimJoined
import GoSem.ClaimMapViews
import Derived.JoinedTies
import Derived.KernelRfl
namespace Go.Proofs.YtnlmceafleeaiaaGreatDoor
/- THE CELL 'sum', in the pinned program and in every row, IS THE sha256 OF THE DUMP (.gsa) THAT YtnlmceafleeaiaaGreatDoorProg.lean LOADS. Nothing in Lean hashes anything: it is a label: what it is worth is what the hold of that sum in a sandbox is worth. -/
noncomputable def Tryz.pinned : Pinned := { name := "ytnlmceafleeaiaagreatdoor", sum := "52b011fc9c8aa31e22a838b396f09eb942469cc4836ffdf340b2cabc55fc5683", checked := Tryz.checked }
namespace Rows
def none {H : Type} : Left H := { results := [], args := [] }

/- WHAT THE LISTED PACKAGE-LEVEL VARIABLES READ AS WHEN THE CALL BEGINS. Each datum BY PROGRAM (the guide's laid-datum.mjs) off the statement by which the dump's own 'gosem.cut.vars' lays the variable. In a bare row this is a premise. The card (YtnlmceafleeaiaaGreatDoorCards.lean) ties it to the program's text. -/
def laid_hairsbreadth_format_table {H : Type} : DataW H := .agg [.agg [.lit (.int .i64 16), .lit (.int .i64 11), .lit (.int .i64 15)], .agg [.lit (.int .i64 32), .lit (.int .i64 24), .lit (.int .i64 127)], .agg [.lit (.int .i64 64), .lit (.int .i64 53), .lit (.int .i64 1023)], .agg [.lit (.int .i64 128), .lit (.int .i64 113), .lit (.int .i64 16383)]]

/-- 'hairsbreadthlaw21.DivAll': WHATEVER THE INPUT: true; the input reads as it did. -/
def divAllSpec : ChangeSpec := { name := "divAll", fn := fun _ => fun
  | [d1, d2, d3, d4] => { results := [.lit (.bool true)], args := [d1, d2, d3, d4] }
  | _ => none }
def divAllRow : OpenClaim := { program := "ytnlmceafleeaiaagreatdoor", sum := "52b011fc9c8aa31e22a838b396f09eb942469cc4836ffdf340b2cabc55fc5683", func := "hairsbreadth/hairsbreadthlaw21.DivAll", spec := "divAll", inPlace := ["math/bits.Add64", "math/bits.Sub64"], unfollowed := true, recurses := true, named := ["hairsbreadth/format.table"], apart := false, laid := [("hairsbreadth/format.table", laid_hairsbreadth_format_table)] }
def DivAllSaid : Prop := divAllRow.holds Tryz.pinned (OpenSpec.ofChange divAllSpec)

/-- ITS FALSE NEIGHBOUR: 'it returns false'. Refute it at one input. -/
def divAllWrong : ChangeSpec := { name := "divAll", fn := fun _ => fun
  | [d1, d2, d3, d4] => { results := [.lit (.bool false)], args := [d1, d2, d3, d4] }
  | _ => none }
def DivAllWrongFalsely : Prop := divAllRow.holds Tryz.pinned (OpenSpec.ofChange divAllWrong)

/-- 'hairsbreadthlaw21.DivBack': WHATEVER THE INPUT: true; the input reads as it did. -/
def divBackSpec : ChangeSpec := { name := "divBack", fn := fun _ => fun
  | [d1, d2, d3] => { results := [.lit (.bool true)], args := [d1, d2, d3] }
  | _ => none }
def divBackRow : OpenClaim := { program := "ytnlmceafleeaiaagreatdoor", sum := "52b011fc9c8aa31e22a838b396f09eb942469cc4836ffdf340b2cabc55fc5683", func := "hairsbreadth/hairsbreadthlaw21.DivBack", spec := "divBack", inPlace := ["math/bits.Add64", "math/bits.Sub64"], unfollowed := true, recurses := true, named := ["hairsbreadth/format.table"], apart := false, laid := [("hairsbreadth/format.table", laid_hairsbreadth_format_table)] }
def DivBackSaid : Prop := divBackRow.holds Tryz.pinned (OpenSpec.ofChange divBackSpec)

/-- ITS FALSE NEIGHBOUR: 'it returns false'. Refute it at one input. -/
def divBackWrong : ChangeSpec := { name := "divBack", fn := fun _ => fun
  | [d1, d2, d3] => { results := [.lit (.bool false)], args := [d1, d2, d3] }
  | _ => none }
def DivBackWrongFalsely : Prop := divBackRow.holds Tryz.pinned (OpenSpec.ofChange divBackWrong)

/-- 'hairsbreadthlaw21.DivOne': WHATEVER THE INPUT: true; the input reads as it did. -/
def divOneSpec : ChangeSpec := { name := "divOne", fn := fun _ => fun
  | [d1, d2, d3] => { results := [.lit (.bool true)], args := [d1, d2, d3] }
  | _ => none }
def divOneRow : OpenClaim := { program := "ytnlmceafleeaiaagreatdoor", sum := "52b011fc9c8aa31e22a838b396f09eb942469cc4836ffdf340b2cabc55fc5683", func := "hairsbreadth/hairsbreadthlaw21.DivOne", spec := "divOne", inPlace := ["math/bits.Add64", "math/bits.Sub64"], unfollowed := true, recurses := true, named := ["hairsbreadth/format.table"], apart := false, laid := [("hairsbreadth/format.table", laid_hairsbreadth_format_table)] }
def DivOneSaid : Prop := divOneRow.holds Tryz.pinned (OpenSpec.ofChange divOneSpec)

/-- ITS FALSE NEIGHBOUR: 'it returns false'. Refute it at one input. -/
def divOneWrong : ChangeSpec := { name := "divOne", fn := fun _ => fun
  | [d1, d2, d3] => { results := [.lit (.bool false)], args := [d1, d2, d3] }
  | _ => none }
def DivOneWrongFalsely : Prop := divOneRow.holds Tryz.pinned (OpenSpec.ofChange divOneWrong)

/-- 'hairsbreadthlaw21.DivPowers': WHATEVER THE INPUT: true; the input reads as it did. -/
def divPowersSpec : ChangeSpec := { name := "divPowers", fn := fun _ => fun
  | [d1, d2, d3, d4] => { results := [.lit (.bool true)], args := [d1, d2, d3, d4] }
  | _ => none }
def divPowersRow : OpenClaim := { program := "ytnlmceafleeaiaagreatdoor", sum := "52b011fc9c8aa31e22a838b396f09eb942469cc4836ffdf340b2cabc55fc5683", func := "hairsbreadth/hairsbreadthlaw21.DivPowers", spec := "divPowers", inPlace := ["math/bits.Add64", "math/bits.Sub64"], unfollowed := true, recurses := true, named := ["hairsbreadth/format.table"], apart := false, laid := [("hairsbreadth/format.table", laid_hairsbreadth_format_table)] }
def DivPowersSaid : Prop := divPowersRow.holds Tryz.pinned (OpenSpec.ofChange divPowersSpec)

/-- ITS FALSE NEIGHBOUR: 'it returns false'. Refute it at one input. -/
def divPowersWrong : ChangeSpec := { name := "divPowers", fn := fun _ => fun
  | [d1, d2, d3, d4] => { results := [.lit (.bool false)], args := [d1, d2, d3, d4] }
  | _ => none }
def DivPowersWrongFalsely : Prop := divPowersRow.holds Tryz.pinned (OpenSpec.ofChange divPowersWrong)

/-- 'hairsbreadthlaw21.DivTurn': WHATEVER THE INPUT: true; the input reads as it did. -/
def divTurnSpec : ChangeSpec := { name := "divTurn", fn := fun _ => fun
  | [d1, d2, d3, d4] => { results := [.lit (.bool true)], args := [d1, d2, d3, d4] }
  | _ => none }
def divTurnRow : OpenClaim := { program := "ytnlmceafleeaiaagreatdoor", sum := "52b011fc9c8aa31e22a838b396f09eb942469cc4836ffdf340b2cabc55fc5683", func := "hairsbreadth/hairsbreadthlaw21.DivTurn", spec := "divTurn", inPlace := ["math/bits.Add64", "math/bits.Sub64"], unfollowed := true, recurses := true, named := ["hairsbreadth/format.table"], apart := false, laid := [("hairsbreadth/format.table", laid_hairsbreadth_format_table)] }
def DivTurnSaid : Prop := divTurnRow.holds Tryz.pinned (OpenSpec.ofChange divTurnSpec)

/-- ITS FALSE NEIGHBOUR: 'it returns false'. Refute it at one input. -/
def divTurnWrong : ChangeSpec := { name := "divTurn", fn := fun _ => fun
  | [d1, d2, d3, d4] => { results := [.lit (.bool false)], args := [d1, d2, d3, d4] }
  | _ => none }
def DivTurnWrongFalsely : Prop := divTurnRow.holds Tryz.pinned (OpenSpec.ofChange divTurnWrong)

/-- 'hairsbreadthlaw21.DivSpecial': WHATEVER THE INPUT: true; the input reads as it did. -/
def divSpecialSpec : ChangeSpec := { name := "divSpecial", fn := fun _ => fun
  | [d1, d2, d3, d4] => { results := [.lit (.bool true)], args := [d1, d2, d3, d4] }
  | _ => none }
def divSpecialRow : OpenClaim := { program := "ytnlmceafleeaiaagreatdoor", sum := "52b011fc9c8aa31e22a838b396f09eb942469cc4836ffdf340b2cabc55fc5683", func := "hairsbreadth/hairsbreadthlaw21.DivSpecial", spec := "divSpecial", inPlace := ["math/bits.Add64", "math/bits.Sub64"], unfollowed := true, recurses := true, named := ["hairsbreadth/format.table"], apart := false, laid := [("hairsbreadth/format.table", laid_hairsbreadth_format_table)] }
def DivSpecialSaid : Prop := divSpecialRow.holds Tryz.pinned (OpenSpec.ofChange divSpecialSpec)

/-- ITS FALSE NEIGHBOUR: 'it returns false'. Refute it at one input. -/
def divSpecialWrong : ChangeSpec := { name := "divSpecial", fn := fun _ => fun
  | [d1, d2, d3, d4] => { results := [.lit (.bool false)], args := [d1, d2, d3, d4] }
  | _ => none }
def DivSpecialWrongFalsely : Prop := divSpecialRow.holds Tryz.pinned (OpenSpec.ofChange divSpecialWrong)

/-- 'hairsbreadthlaw21.DivKnown': WHATEVER THE INPUT: true; the input reads as it did. -/
def divKnownSpec : ChangeSpec := { name := "divKnown", fn := fun _ => fun
  | [] => { results := [.lit (.bool true)], args := [] }
  | _ => none }
def divKnownRow : OpenClaim := { program := "ytnlmceafleeaiaagreatdoor", sum := "52b011fc9c8aa31e22a838b396f09eb942469cc4836ffdf340b2cabc55fc5683", func := "hairsbreadth/hairsbreadthlaw21.DivKnown", spec := "divKnown", inPlace := ["math/bits.Add64", "math/bits.Sub64"], unfollowed := true, recurses := true, named := ["hairsbreadth/format.table"], apart := false, laid := [("hairsbreadth/format.table", laid_hairsbreadth_format_table)] }
def DivKnownSaid : Prop := divKnownRow.holds Tryz.pinned (OpenSpec.ofChange divKnownSpec)

/-- ITS FALSE NEIGHBOUR: 'it returns false'. Refute it at one input. -/
def divKnownWrong : ChangeSpec := { name := "divKnown", fn := fun _ => fun
  | [] => { results := [.lit (.bool false)], args := [] }
  | _ => none }
def DivKnownWrongFalsely : Prop := divKnownRow.holds Tryz.pinned (OpenSpec.ofChange divKnownWrong)

/- THE SECOND FORM. 'bulk': how many values and letters a reading holds, each counted each time it is reached (what is shared counts as often as it is met; a slice's spare places count too). A statement '..UptoSaid' is the law's where the arguments, and the package variables that the reading takes, are together of bulk at most 1048576: NARROWER than '..Said'. Prove '..Said' where nothing that the law and all that it calls make is longer than what came in: it says more and counts as full. Else prove '..UptoSaid'. A law counts once. -/
mutual
def uptoBulk {H : Type} : DataW H → Nat
  | .lit (.string bytes) => bytes.length + 1
  | .lit _ => 1
  | .nil => 1
  | .ptr d => uptoBulk d + 1
  | .slice elems spare => uptoBulkAll elems + uptoBulkAll spare + 1
  | .agg parts => uptoBulkAll parts + 1
  | .iface _ d => uptoBulk d + 1
  | .map entries => uptoBulkEntries entries + 1
  | .held _ => 1
def uptoBulkAll {H : Type} : List (DataW H) → Nat
  | [] => 0
  | d :: r => uptoBulk d + uptoBulkAll r
def uptoBulkEntries {H : Type} : List (Lit × DataW H) → Nat
  | [] => 0
  | x :: r => uptoBulkEntry x + uptoBulkEntries r
def uptoBulkEntry {H : Type} : Lit × DataW H → Nat
  | (.string bytes, d) => bytes.length + uptoBulk d + 1
  | (_, d) => uptoBulk d + 1
 end
def uptoSmall : (H : Type) → List (DataW H) → Bool := fun _ ds => decide (uptoBulkAll ds ≤ 1048576)
def OpenSpec.upto (s : _root_.Go.ChangeSpec) : _root_.Go.OpenSpec := { _root_.Go.OpenSpec.ofChange s with cond := some uptoSmall }

/-- 'hairsbreadthlaw21.DivAll', WHERE WHAT IT READS IS OF BULK AT MOST 1048576: true; the input reads as it did. -/
def divAllUptoRow : OpenClaim := { program := "ytnlmceafleeaiaagreatdoor", sum := "52b011fc9c8aa31e22a838b396f09eb942469cc4836ffdf340b2cabc55fc5683", func := "hairsbreadth/hairsbreadthlaw21.DivAll", spec := "divAll", inPlace := ["math/bits.Add64", "math/bits.Sub64"], unfollowed := true, recurses := true, named := ["hairsbreadth/format.table"], apart := false, laid := [("hairsbreadth/format.table", laid_hairsbreadth_format_table)], narrowed := true }
def DivAllUptoSaid : Prop := divAllUptoRow.holds Tryz.pinned (OpenSpec.upto divAllSpec)

/-- 'hairsbreadthlaw21.DivBack', WHERE WHAT IT READS IS OF BULK AT MOST 1048576: true; the input reads as it did. -/
def divBackUptoRow : OpenClaim := { program := "ytnlmceafleeaiaagreatdoor", sum := "52b011fc9c8aa31e22a838b396f09eb942469cc4836ffdf340b2cabc55fc5683", func := "hairsbreadth/hairsbreadthlaw21.DivBack", spec := "divBack", inPlace := ["math/bits.Add64", "math/bits.Sub64"], unfollowed := true, recurses := true, named := ["hairsbreadth/format.table"], apart := false, laid := [("hairsbreadth/format.table", laid_hairsbreadth_format_table)], narrowed := true }
def DivBackUptoSaid : Prop := divBackUptoRow.holds Tryz.pinned (OpenSpec.upto divBackSpec)

/-- 'hairsbreadthlaw21.DivOne', WHERE WHAT IT READS IS OF BULK AT MOST 1048576: true; the input reads as it did. -/
def divOneUptoRow : OpenClaim := { program := "ytnlmceafleeaiaagreatdoor", sum := "52b011fc9c8aa31e22a838b396f09eb942469cc4836ffdf340b2cabc55fc5683", func := "hairsbreadth/hairsbreadthlaw21.DivOne", spec := "divOne", inPlace := ["math/bits.Add64", "math/bits.Sub64"], unfollowed := true, recurses := true, named := ["hairsbreadth/format.table"], apart := false, laid := [("hairsbreadth/format.table", laid_hairsbreadth_format_table)], narrowed := true }
def DivOneUptoSaid : Prop := divOneUptoRow.holds Tryz.pinned (OpenSpec.upto divOneSpec)

/-- 'hairsbreadthlaw21.DivPowers', WHERE WHAT IT READS IS OF BULK AT MOST 1048576: true; the input reads as it did. -/
def divPowersUptoRow : OpenClaim := { program := "ytnlmceafleeaiaagreatdoor", sum := "52b011fc9c8aa31e22a838b396f09eb942469cc4836ffdf340b2cabc55fc5683", func := "hairsbreadth/hairsbreadthlaw21.DivPowers", spec := "divPowers", inPlace := ["math/bits.Add64", "math/bits.Sub64"], unfollowed := true, recurses := true, named := ["hairsbreadth/format.table"], apart := false, laid := [("hairsbreadth/format.table", laid_hairsbreadth_format_table)], narrowed := true }
def DivPowersUptoSaid : Prop := divPowersUptoRow.holds Tryz.pinned (OpenSpec.upto divPowersSpec)

/-- 'hairsbreadthlaw21.DivTurn', WHERE WHAT IT READS IS OF BULK AT MOST 1048576: true; the input reads as it did. -/
def divTurnUptoRow : OpenClaim := { program := "ytnlmceafleeaiaagreatdoor", sum := "52b011fc9c8aa31e22a838b396f09eb942469cc4836ffdf340b2cabc55fc5683", func := "hairsbreadth/hairsbreadthlaw21.DivTurn", spec := "divTurn", inPlace := ["math/bits.Add64", "math/bits.Sub64"], unfollowed := true, recurses := true, named := ["hairsbreadth/format.table"], apart := false, laid := [("hairsbreadth/format.table", laid_hairsbreadth_format_table)], narrowed := true }
def DivTurnUptoSaid : Prop := divTurnUptoRow.holds Tryz.pinned (OpenSpec.upto divTurnSpec)

/-- 'hairsbreadthlaw21.DivSpecial', WHERE WHAT IT READS IS OF BULK AT MOST 1048576: true; the input reads as it did. -/
def divSpecialUptoRow : OpenClaim := { program := "ytnlmceafleeaiaagreatdoor", sum := "52b011fc9c8aa31e22a838b396f09eb942469cc4836ffdf340b2cabc55fc5683", func := "hairsbreadth/hairsbreadthlaw21.DivSpecial", spec := "divSpecial", inPlace := ["math/bits.Add64", "math/bits.Sub64"], unfollowed := true, recurses := true, named := ["hairsbreadth/format.table"], apart := false, laid := [("hairsbreadth/format.table", laid_hairsbreadth_format_table)], narrowed := true }
def DivSpecialUptoSaid : Prop := divSpecialUptoRow.holds Tryz.pinned (OpenSpec.upto divSpecialSpec)

/-- 'hairsbreadthlaw21.DivKnown', WHERE WHAT IT READS IS OF BULK AT MOST 1048576: true; the input reads as it did. -/
def divKnownUptoRow : OpenClaim := { program := "ytnlmceafleeaiaagreatdoor", sum := "52b011fc9c8aa31e22a838b396f09eb942469cc4836ffdf340b2cabc55fc5683", func := "hairsbreadth/hairsbreadthlaw21.DivKnown", spec := "divKnown", inPlace := ["math/bits.Add64", "math/bits.Sub64"], unfollowed := true, recurses := true, named := ["hairsbreadth/format.table"], apart := false, laid := [("hairsbreadth/format.table", laid_hairsbreadth_format_table)], narrowed := true }
def DivKnownUptoSaid : Prop := divKnownUptoRow.holds Tryz.pinned (OpenSpec.upto divKnownSpec)

end Rows
end Go.Proofs.YtnlmceafleeaiaaGreatDoor
