/-
  NARROWER THAN 'FOR EVERY INPUT', by the rows' own cells (each row's printed sentence says how): AddsubAdds: laid · AddsubSubs: laid · AddsubExact: laid · AddsubTurn: laid · AddsubNought: laid · AddsubNear: laid · AddsubOrder: laid · AddsubKnown: laid.
  DERIVED. THE GIVEN ROWS OF THIS SEAT. 8 by the template 'for every input the law returns true; each argument reads behind the call as it read before'; 0 by the template 'total and deterministic' (their statements: YtnaamckhignjeaaGreatDoorTotals.lean).
  GIVEN WITH THE SEED: the statements are not yours to turn. If you find one false, say at which input.
  Laid BY PROGRAM, IN A SANDBOX (cutbox-rows.mjs): the forced cells as the released guide's own fill.sh prints them over the translation ec32eec80ea59271… (all of the seat's roots in one cut). By AI agents, Wed Nov 11 2026. No macro, syntax, notation, axiom, sorry.
-/
import Derived.Test.YtnaamckhignjeaaGreatDoorChecked
import GoSem.Claim
import GoSem.ClaimJoined
import GoSem.ClaimMapViews
import Derived.JoinedTies
import Derived.KernelRfl
namespace Go.Proofs.YtnaamckhignjeaaGreatDoor
/- THE CELL 'sum', in the pinned program and in every row, IS THE sha256 OF THE DUMP (.gsa) THAT YtnaamckhignjeaaGreatDoorProg.lean LOADS. Nothing in Lean hashes anything: it is a label: what it is worth is what the hold of that sum in a sandbox is worth. -/
noncomputable def Tryz.pinned : Pinned := { name := "ytnaamckhignjeaagreatdoor", sum := "ec32eec80ea5927158950a24d0706502df3e3f4f42e42ad4ddb6675752790d08", checked := Tryz.checked }
namespace Rows
def none {H : Type} : Left H := { results := [], args := [] }

/- WHAT THE LISTED PACKAGE-LEVEL VARIABLES READ AS WHEN THE CALL BEGINS. Each datum BY PROGRAM (the guide's laid-datum.mjs) off the statement by which the dump's own 'gosem.cut.vars' lays the variable. In a bare row this is a premise. The card (YtnaamckhignjeaaGreatDoorCards.lean) ties it to the program's text. -/
def laid_hairsbreadth_format_table {H : Type} : DataW H := .agg [.agg [.lit (.int .i64 16), .lit (.int .i64 11), .lit (.int .i64 15)], .agg [.lit (.int .i64 32), .lit (.int .i64 24), .lit (.int .i64 127)], .agg [.lit (.int .i64 64), .lit (.int .i64 53), .lit (.int .i64 1023)], .agg [.lit (.int .i64 128), .lit (.int .i64 113), .lit (.int .i64 16383)]]

/-- 'hairsbreadthlaw18.AddsubAdds': WHATEVER THE INPUT: true; the input reads as it did. -/
def addsubAddsSpec : ChangeSpec := { name := "addsubAdds", fn := fun _ => fun
  | [d1, d2, d3, d4] => { results := [.lit (.bool true)], args := [d1, d2, d3, d4] }
  | _ => none }
def addsubAddsRow : OpenClaim := { program := "ytnaamckhignjeaagreatdoor", sum := "ec32eec80ea5927158950a24d0706502df3e3f4f42e42ad4ddb6675752790d08", func := "hairsbreadth/hairsbreadthlaw18.AddsubAdds", spec := "addsubAdds", inPlace := ["math/bits.Add64", "math/bits.Sub64"], unfollowed := true, recurses := true, named := ["hairsbreadth/format.table"], apart := false, laid := [("hairsbreadth/format.table", laid_hairsbreadth_format_table)] }
def AddsubAddsSaid : Prop := addsubAddsRow.holds Tryz.pinned (OpenSpec.ofChange addsubAddsSpec)

/-- ITS FALSE NEIGHBOUR: 'it returns false'. Refute it at one input. -/
def addsubAddsWrong : ChangeSpec := { name := "addsubAdds", fn := fun _ => fun
  | [d1, d2, d3, d4] => { results := [.lit (.bool false)], args := [d1, d2, d3, d4] }
  | _ => none }
def AddsubAddsWrongFalsely : Prop := addsubAddsRow.holds Tryz.pinned (OpenSpec.ofChange addsubAddsWrong)

/-- 'hairsbreadthlaw18.AddsubSubs': WHATEVER THE INPUT: true; the input reads as it did. -/
def addsubSubsSpec : ChangeSpec := { name := "addsubSubs", fn := fun _ => fun
  | [d1, d2, d3, d4, d5, d6] => { results := [.lit (.bool true)], args := [d1, d2, d3, d4, d5, d6] }
  | _ => none }
def addsubSubsRow : OpenClaim := { program := "ytnaamckhignjeaagreatdoor", sum := "ec32eec80ea5927158950a24d0706502df3e3f4f42e42ad4ddb6675752790d08", func := "hairsbreadth/hairsbreadthlaw18.AddsubSubs", spec := "addsubSubs", inPlace := ["math/bits.Add64", "math/bits.Sub64"], unfollowed := true, recurses := true, named := ["hairsbreadth/format.table"], apart := false, laid := [("hairsbreadth/format.table", laid_hairsbreadth_format_table)] }
def AddsubSubsSaid : Prop := addsubSubsRow.holds Tryz.pinned (OpenSpec.ofChange addsubSubsSpec)

/-- ITS FALSE NEIGHBOUR: 'it returns false'. Refute it at one input. -/
def addsubSubsWrong : ChangeSpec := { name := "addsubSubs", fn := fun _ => fun
  | [d1, d2, d3, d4, d5, d6] => { results := [.lit (.bool false)], args := [d1, d2, d3, d4, d5, d6] }
  | _ => none }
def AddsubSubsWrongFalsely : Prop := addsubSubsRow.holds Tryz.pinned (OpenSpec.ofChange addsubSubsWrong)

/-- 'hairsbreadthlaw18.AddsubExact': WHATEVER THE INPUT: true; the input reads as it did. -/
def addsubExactSpec : ChangeSpec := { name := "addsubExact", fn := fun _ => fun
  | [d1, d2, d3, d4] => { results := [.lit (.bool true)], args := [d1, d2, d3, d4] }
  | _ => none }
def addsubExactRow : OpenClaim := { program := "ytnaamckhignjeaagreatdoor", sum := "ec32eec80ea5927158950a24d0706502df3e3f4f42e42ad4ddb6675752790d08", func := "hairsbreadth/hairsbreadthlaw18.AddsubExact", spec := "addsubExact", inPlace := ["math/bits.Add64", "math/bits.Sub64"], unfollowed := true, recurses := true, named := ["hairsbreadth/format.table"], apart := false, laid := [("hairsbreadth/format.table", laid_hairsbreadth_format_table)] }
def AddsubExactSaid : Prop := addsubExactRow.holds Tryz.pinned (OpenSpec.ofChange addsubExactSpec)

/-- ITS FALSE NEIGHBOUR: 'it returns false'. Refute it at one input. -/
def addsubExactWrong : ChangeSpec := { name := "addsubExact", fn := fun _ => fun
  | [d1, d2, d3, d4] => { results := [.lit (.bool false)], args := [d1, d2, d3, d4] }
  | _ => none }
def AddsubExactWrongFalsely : Prop := addsubExactRow.holds Tryz.pinned (OpenSpec.ofChange addsubExactWrong)

/-- 'hairsbreadthlaw18.AddsubTurn': WHATEVER THE INPUT: true; the input reads as it did. -/
def addsubTurnSpec : ChangeSpec := { name := "addsubTurn", fn := fun _ => fun
  | [d1, d2, d3, d4] => { results := [.lit (.bool true)], args := [d1, d2, d3, d4] }
  | _ => none }
def addsubTurnRow : OpenClaim := { program := "ytnaamckhignjeaagreatdoor", sum := "ec32eec80ea5927158950a24d0706502df3e3f4f42e42ad4ddb6675752790d08", func := "hairsbreadth/hairsbreadthlaw18.AddsubTurn", spec := "addsubTurn", inPlace := ["math/bits.Add64", "math/bits.Sub64"], unfollowed := true, recurses := true, named := ["hairsbreadth/format.table"], apart := false, laid := [("hairsbreadth/format.table", laid_hairsbreadth_format_table)] }
def AddsubTurnSaid : Prop := addsubTurnRow.holds Tryz.pinned (OpenSpec.ofChange addsubTurnSpec)

/-- ITS FALSE NEIGHBOUR: 'it returns false'. Refute it at one input. -/
def addsubTurnWrong : ChangeSpec := { name := "addsubTurn", fn := fun _ => fun
  | [d1, d2, d3, d4] => { results := [.lit (.bool false)], args := [d1, d2, d3, d4] }
  | _ => none }
def AddsubTurnWrongFalsely : Prop := addsubTurnRow.holds Tryz.pinned (OpenSpec.ofChange addsubTurnWrong)

/-- 'hairsbreadthlaw18.AddsubNought': WHATEVER THE INPUT: true; the input reads as it did. -/
def addsubNoughtSpec : ChangeSpec := { name := "addsubNought", fn := fun _ => fun
  | [d1, d2, d3, d4] => { results := [.lit (.bool true)], args := [d1, d2, d3, d4] }
  | _ => none }
def addsubNoughtRow : OpenClaim := { program := "ytnaamckhignjeaagreatdoor", sum := "ec32eec80ea5927158950a24d0706502df3e3f4f42e42ad4ddb6675752790d08", func := "hairsbreadth/hairsbreadthlaw18.AddsubNought", spec := "addsubNought", inPlace := ["math/bits.Add64", "math/bits.Sub64"], unfollowed := true, recurses := true, named := ["hairsbreadth/format.table"], apart := false, laid := [("hairsbreadth/format.table", laid_hairsbreadth_format_table)] }
def AddsubNoughtSaid : Prop := addsubNoughtRow.holds Tryz.pinned (OpenSpec.ofChange addsubNoughtSpec)

/-- ITS FALSE NEIGHBOUR: 'it returns false'. Refute it at one input. -/
def addsubNoughtWrong : ChangeSpec := { name := "addsubNought", fn := fun _ => fun
  | [d1, d2, d3, d4] => { results := [.lit (.bool false)], args := [d1, d2, d3, d4] }
  | _ => none }
def AddsubNoughtWrongFalsely : Prop := addsubNoughtRow.holds Tryz.pinned (OpenSpec.ofChange addsubNoughtWrong)

/-- 'hairsbreadthlaw18.AddsubNear': WHATEVER THE INPUT: true; the input reads as it did. -/
def addsubNearSpec : ChangeSpec := { name := "addsubNear", fn := fun _ => fun
  | [d1, d2, d3, d4] => { results := [.lit (.bool true)], args := [d1, d2, d3, d4] }
  | _ => none }
def addsubNearRow : OpenClaim := { program := "ytnaamckhignjeaagreatdoor", sum := "ec32eec80ea5927158950a24d0706502df3e3f4f42e42ad4ddb6675752790d08", func := "hairsbreadth/hairsbreadthlaw18.AddsubNear", spec := "addsubNear", inPlace := ["math/bits.Add64", "math/bits.Sub64"], unfollowed := true, recurses := true, named := ["hairsbreadth/format.table"], apart := false, laid := [("hairsbreadth/format.table", laid_hairsbreadth_format_table)] }
def AddsubNearSaid : Prop := addsubNearRow.holds Tryz.pinned (OpenSpec.ofChange addsubNearSpec)

/-- ITS FALSE NEIGHBOUR: 'it returns false'. Refute it at one input. -/
def addsubNearWrong : ChangeSpec := { name := "addsubNear", fn := fun _ => fun
  | [d1, d2, d3, d4] => { results := [.lit (.bool false)], args := [d1, d2, d3, d4] }
  | _ => none }
def AddsubNearWrongFalsely : Prop := addsubNearRow.holds Tryz.pinned (OpenSpec.ofChange addsubNearWrong)

/-- 'hairsbreadthlaw18.AddsubOrder': WHATEVER THE INPUT: true; the input reads as it did. -/
def addsubOrderSpec : ChangeSpec := { name := "addsubOrder", fn := fun _ => fun
  | [d1, d2, d3, d4, d5] => { results := [.lit (.bool true)], args := [d1, d2, d3, d4, d5] }
  | _ => none }
def addsubOrderRow : OpenClaim := { program := "ytnaamckhignjeaagreatdoor", sum := "ec32eec80ea5927158950a24d0706502df3e3f4f42e42ad4ddb6675752790d08", func := "hairsbreadth/hairsbreadthlaw18.AddsubOrder", spec := "addsubOrder", inPlace := ["math/bits.Add64", "math/bits.Sub64"], unfollowed := true, recurses := true, named := ["hairsbreadth/format.table"], apart := false, laid := [("hairsbreadth/format.table", laid_hairsbreadth_format_table)] }
def AddsubOrderSaid : Prop := addsubOrderRow.holds Tryz.pinned (OpenSpec.ofChange addsubOrderSpec)

/-- ITS FALSE NEIGHBOUR: 'it returns false'. Refute it at one input. -/
def addsubOrderWrong : ChangeSpec := { name := "addsubOrder", fn := fun _ => fun
  | [d1, d2, d3, d4, d5] => { results := [.lit (.bool false)], args := [d1, d2, d3, d4, d5] }
  | _ => none }
def AddsubOrderWrongFalsely : Prop := addsubOrderRow.holds Tryz.pinned (OpenSpec.ofChange addsubOrderWrong)

/-- 'hairsbreadthlaw18.AddsubKnown': WHATEVER THE INPUT: true; the input reads as it did. -/
def addsubKnownSpec : ChangeSpec := { name := "addsubKnown", fn := fun _ => fun
  | [] => { results := [.lit (.bool true)], args := [] }
  | _ => none }
def addsubKnownRow : OpenClaim := { program := "ytnaamckhignjeaagreatdoor", sum := "ec32eec80ea5927158950a24d0706502df3e3f4f42e42ad4ddb6675752790d08", func := "hairsbreadth/hairsbreadthlaw18.AddsubKnown", spec := "addsubKnown", inPlace := ["math/bits.Add64", "math/bits.Sub64"], unfollowed := true, recurses := true, named := ["hairsbreadth/format.table"], apart := false, laid := [("hairsbreadth/format.table", laid_hairsbreadth_format_table)] }
def AddsubKnownSaid : Prop := addsubKnownRow.holds Tryz.pinned (OpenSpec.ofChange addsubKnownSpec)

/-- ITS FALSE NEIGHBOUR: 'it returns false'. Refute it at one input. -/
def addsubKnownWrong : ChangeSpec := { name := "addsubKnown", fn := fun _ => fun
  | [] => { results := [.lit (.bool false)], args := [] }
  | _ => none }
def AddsubKnownWrongFalsely : Prop := addsubKnownRow.holds Tryz.pinned (OpenSpec.ofChange addsubKnownWrong)

/- THE SECOND FORM. 'bulk': how many values and letters a reading holds, each counted each time it is reached (what is shared counts as often as it is met; a slice's spare places count too). A statement '..UptoSaid' is the law's where the arguments, and the package variables that the reading takes, are together of bulk at most 1048576: NARROWER than '..Said'. Prove '..Said' where nothing that the law and all that it calls make is longer than what came in: it says more and counts as full. Else prove '..UptoSaid'. A law counts once. -/
mutual
def uptoBulk {H : Type} : DataW H → Nat
  | .lit (.string bytes) => bytes.length + 1
  | .lit _ => 1
  | .nil => 1
  | .ptr d => uptoBulk d + 1
  | .slice elems spare => uptoBulkAll elems + uptoBulkAll spare + 1
  | .agg parts => uptoBulkAll parts + 1
  | .iface _ d => uptoBulk d + 1
  | .map entries => uptoBulkEntries entries + 1
  | .held _ => 1
def uptoBulkAll {H : Type} : List (DataW H) → Nat
  | [] => 0
  | d :: r => uptoBulk d + uptoBulkAll r
def uptoBulkEntries {H : Type} : List (Lit × DataW H) → Nat
  | [] => 0
  | x :: r => uptoBulkEntry x + uptoBulkEntries r
def uptoBulkEntry {H : Type} : Lit × DataW H → Nat
  | (.string bytes, d) => bytes.length + uptoBulk d + 1
  | (_, d) => uptoBulk d + 1
 end
def uptoSmall : (H : Type) → List (DataW H) → Bool := fun _ ds => decide (uptoBulkAll ds ≤ 1048576)
def OpenSpec.upto (s : _root_.Go.ChangeSpec) : _root_.Go.OpenSpec := { _root_.Go.OpenSpec.ofChange s with cond := some uptoSmall }

/-- 'hairsbreadthlaw18.AddsubAdds', WHERE WHAT IT READS IS OF BULK AT MOST 1048576: true; the input reads as it did. -/
def addsubAddsUptoRow : OpenClaim := { program := "ytnaamckhignjeaagreatdoor", sum := "ec32eec80ea5927158950a24d0706502df3e3f4f42e42ad4ddb6675752790d08", func := "hairsbreadth/hairsbreadthlaw18.AddsubAdds", spec := "addsubAdds", inPlace := ["math/bits.Add64", "math/bits.Sub64"], unfollowed := true, recurses := true, named := ["hairsbreadth/format.table"], apart := false, laid := [("hairsbreadth/format.table", laid_hairsbreadth_format_table)], narrowed := true }
def AddsubAddsUptoSaid : Prop := addsubAddsUptoRow.holds Tryz.pinned (OpenSpec.upto addsubAddsSpec)

/-- 'hairsbreadthlaw18.AddsubSubs', WHERE WHAT IT READS IS OF BULK AT MOST 1048576: true; the input reads as it did. -/
def addsubSubsUptoRow : OpenClaim := { program := "ytnaamckhignjeaagreatdoor", sum := "ec32eec80ea5927158950a24d0706502df3e3f4f42e42ad4ddb6675752790d08", func := "hairsbreadth/hairsbreadthlaw18.AddsubSubs", spec := "addsubSubs", inPlace := ["math/bits.Add64", "math/bits.Sub64"], unfollowed := true, recurses := true, named := ["hairsbreadth/format.table"], apart := false, laid := [("hairsbreadth/format.table", laid_hairsbreadth_format_table)], narrowed := true }
def AddsubSubsUptoSaid : Prop := addsubSubsUptoRow.holds Tryz.pinned (OpenSpec.upto addsubSubsSpec)

/-- 'hairsbreadthlaw18.AddsubExact', WHERE WHAT IT READS IS OF BULK AT MOST 1048576: true; the input reads as it did. -/
def addsubExactUptoRow : OpenClaim := { program := "ytnaamckhignjeaagreatdoor", sum := "ec32eec80ea5927158950a24d0706502df3e3f4f42e42ad4ddb6675752790d08", func := "hairsbreadth/hairsbreadthlaw18.AddsubExact", spec := "addsubExact", inPlace := ["math/bits.Add64", "math/bits.Sub64"], unfollowed := true, recurses := true, named := ["hairsbreadth/format.table"], apart := false, laid := [("hairsbreadth/format.table", laid_hairsbreadth_format_table)], narrowed := true }
def AddsubExactUptoSaid : Prop := addsubExactUptoRow.holds Tryz.pinned (OpenSpec.upto addsubExactSpec)

/-- 'hairsbreadthlaw18.AddsubTurn', WHERE WHAT IT READS IS OF BULK AT MOST 1048576: true; the input reads as it did. -/
def addsubTurnUptoRow : OpenClaim := { program := "ytnaamckhignjeaagreatdoor", sum := "ec32eec80ea5927158950a24d0706502df3e3f4f42e42ad4ddb6675752790d08", func := "hairsbreadth/hairsbreadthlaw18.AddsubTurn", spec := "addsubTurn", inPlace := ["math/bits.Add64", "math/bits.Sub64"], unfollowed := true, recurses := true, named := ["hairsbreadth/format.table"], apart := false, laid := [("hairsbreadth/format.table", laid_hairsbreadth_format_table)], narrowed := true }
def AddsubTurnUptoSaid : Prop := addsubTurnUptoRow.holds Tryz.pinned (OpenSpec.upto addsubTurnSpec)

/-- 'hairsbreadthlaw18.AddsubNought', WHERE WHAT IT READS IS OF BULK AT MOST 1048576: true; the input reads as it did. -/
def addsubNoughtUptoRow : OpenClaim := { program := "ytnaamckhignjeaagreatdoor", sum := "ec32eec80ea5927158950a24d0706502df3e3f4f42e42ad4ddb6675752790d08", func := "hairsbreadth/hairsbreadthlaw18.AddsubNought", spec := "addsubNought", inPlace := ["math/bits.Add64", "math/bits.Sub64"], unfollowed := true, recurses := true, named := ["hairsbreadth/format.table"], apart := false, laid := [("hairsbreadth/format.table", laid_hairsbreadth_format_table)], narrowed := true }
def AddsubNoughtUptoSaid : Prop := addsubNoughtUptoRow.holds Tryz.pinned (OpenSpec.upto addsubNoughtSpec)

/-- 'hairsbreadthlaw18.AddsubNear', WHERE WHAT IT READS IS OF BULK AT MOST 1048576: true; the input reads as it did. -/
def addsubNearUptoRow : OpenClaim := { program := "ytnaamckhignjeaagreatdoor", sum := "ec32eec80ea5927158950a24d0706502df3e3f4f42e42ad4ddb6675752790d08", func := "hairsbreadth/hairsbreadthlaw18.AddsubNear", spec := "addsubNear", inPlace := ["math/bits.Add64", "math/bits.Sub64"], unfollowed := true, recurses := true, named := ["hairsbreadth/format.table"], apart := false, laid := [("hairsbreadth/format.table", laid_hairsbreadth_format_table)], narrowed := true }
def AddsubNearUptoSaid : Prop := addsubNearUptoRow.holds Tryz.pinned (OpenSpec.upto addsubNearSpec)

/-- 'hairsbreadthlaw18.AddsubOrder', WHERE WHAT IT READS IS OF BULK AT MOST 1048576: true; the input reads as it did. -/
def addsubOrderUptoRow : OpenClaim := { program := "ytnaamckhignjeaagreatdoor", sum := "ec32eec80ea5927158950a24d0706502df3e3f4f42e42ad4ddb6675752790d08", func := "hairsbreadth/hairsbreadthlaw18.AddsubOrder", spec := "addsubOrder", inPlace := ["math/bits.Add64", "math/bits.Sub64"], unfollowed := true, recurses := true, named := ["hairsbreadth/format.table"], apart := false, laid := [("hairsbreadth/format.table", laid_hairsbreadth_format_table)], narrowed := true }
def AddsubOrderUptoSaid : Prop := addsubOrderUptoRow.holds Tryz.pinned (OpenSpec.upto addsubOrderSpec)

/-- 'hairsbreadthlaw18.AddsubKnown', WHERE WHAT IT READS IS OF BULK AT MOST 1048576: true; the input reads as it did. -/
def addsubKnownUptoRow : OpenClaim := { program := "ytnaamckhignjeaagreatdoor", sum := "ec32eec80ea5927158950a24d0706502df3e3f4f42e42ad4ddb6675752790d08", func := "hairsbreadth/hairsbreadthlaw18.AddsubKnown", spec := "addsubKnown", inPlace := ["math/bits.Add64", "math/bits.Sub64"], unfollowed := true, recurses := true, named := ["hairsbreadth/format.table"], apart := false, laid := [("hairsbreadth/format.table", laid_hairsbreadth_format_table)], narrowed := true }
def AddsubKnownUptoSaid : Prop := addsubKnownUptoRow.holds Tryz.pinned (OpenSpec.upto addsubKnownSpec)

end Rows
end Go.Proofs.YtnaamckhignjeaaGreatDoor
