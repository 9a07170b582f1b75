/-
  NARROWER THAN 'FOR EVERY INPUT', by the rows' own cells (each row's printed sentence says how): MulAll: laid · MulTerms: laid · MulWide: laid · MulTurn: laid · MulOne: laid · MulOrder: laid · MulSpecial: laid · MulKnown: laid.
  DERIVED. THE GIVEN ROWS OF THIS SEAT. 8 by the template 'for every input the law returns true; each argument reads behind the call as it read before'; 0 by the template 'total and deterministic' (their statements: YtjnohbpebdnngaaGreatDoorTotals.lean).
  GIVEN WITH THE SEED: the statements are not yours to turn. If you find one false, say at which input.
  Laid BY PROGRAM, IN A SANDBOX (cutbox-rows.mjs): the forced cells as the released guide's own fill.sh prints them over the translation 77041da764585623… (all of the seat's roots in one cut). By AI agents, Wed Nov 11 2026. No macro, syntax, notation, axiom, sorry.
-/
import Derived.Test.YtjnohbpebdnngaaGreatDoorChecked
import GoSem.Claim
import GoSem.ClaimJoined
import GoSem.ClaimMapViews
import Derived.JoinedTies
import Derived.KernelRfl
namespace Go.Proofs.YtjnohbpebdnngaaGreatDoor
/- THE CELL 'sum', in the pinned program and in every row, IS THE sha256 OF THE DUMP (.gsa) THAT YtjnohbpebdnngaaGreatDoorProg.lean LOADS. Nothing in Lean hashes anything: it is a label: what it is worth is what the hold of that sum in a sandbox is worth. -/
noncomputable def Tryz.pinned : Pinned := { name := "ytjnohbpebdnngaagreatdoor", sum := "77041da76458562319a77e01a7f6a3df3003e2ac889c10e82c9ca616736b84b4", checked := Tryz.checked }
namespace Rows
def none {H : Type} : Left H := { results := [], args := [] }

/- WHAT THE LISTED PACKAGE-LEVEL VARIABLES READ AS WHEN THE CALL BEGINS. Each datum BY PROGRAM (the guide's laid-datum.mjs) off the statement by which the dump's own 'gosem.cut.vars' lays the variable. In a bare row this is a premise. The card (YtjnohbpebdnngaaGreatDoorCards.lean) ties it to the program's text. -/
def laid_hairsbreadth_format_table {H : Type} : DataW H := .agg [.agg [.lit (.int .i64 16), .lit (.int .i64 11), .lit (.int .i64 15)], .agg [.lit (.int .i64 32), .lit (.int .i64 24), .lit (.int .i64 127)], .agg [.lit (.int .i64 64), .lit (.int .i64 53), .lit (.int .i64 1023)], .agg [.lit (.int .i64 128), .lit (.int .i64 113), .lit (.int .i64 16383)]]

/-- 'hairsbreadthlaw19.MulAll': WHATEVER THE INPUT: true; the input reads as it did. -/
def mulAllSpec : ChangeSpec := { name := "mulAll", fn := fun _ => fun
  | [d1, d2, d3, d4] => { results := [.lit (.bool true)], args := [d1, d2, d3, d4] }
  | _ => none }
def mulAllRow : OpenClaim := { program := "ytjnohbpebdnngaagreatdoor", sum := "77041da76458562319a77e01a7f6a3df3003e2ac889c10e82c9ca616736b84b4", func := "hairsbreadth/hairsbreadthlaw19.MulAll", spec := "mulAll", inPlace := ["math/bits.Add64"], unfollowed := true, recurses := true, named := ["hairsbreadth/format.table"], apart := false, laid := [("hairsbreadth/format.table", laid_hairsbreadth_format_table)] }
def MulAllSaid : Prop := mulAllRow.holds Tryz.pinned (OpenSpec.ofChange mulAllSpec)

/-- ITS FALSE NEIGHBOUR: 'it returns false'. Refute it at one input. -/
def mulAllWrong : ChangeSpec := { name := "mulAll", fn := fun _ => fun
  | [d1, d2, d3, d4] => { results := [.lit (.bool false)], args := [d1, d2, d3, d4] }
  | _ => none }
def MulAllWrongFalsely : Prop := mulAllRow.holds Tryz.pinned (OpenSpec.ofChange mulAllWrong)

/-- 'hairsbreadthlaw19.MulTerms': WHATEVER THE INPUT: true; the input reads as it did. -/
def mulTermsSpec : ChangeSpec := { name := "mulTerms", fn := fun _ => fun
  | [d1, d2] => { results := [.lit (.bool true)], args := [d1, d2] }
  | _ => none }
def mulTermsRow : OpenClaim := { program := "ytjnohbpebdnngaagreatdoor", sum := "77041da76458562319a77e01a7f6a3df3003e2ac889c10e82c9ca616736b84b4", func := "hairsbreadth/hairsbreadthlaw19.MulTerms", spec := "mulTerms", inPlace := ["math/bits.Add64"], unfollowed := true, recurses := true, named := ["hairsbreadth/format.table"], apart := false, laid := [("hairsbreadth/format.table", laid_hairsbreadth_format_table)] }
def MulTermsSaid : Prop := mulTermsRow.holds Tryz.pinned (OpenSpec.ofChange mulTermsSpec)

/-- ITS FALSE NEIGHBOUR: 'it returns false'. Refute it at one input. -/
def mulTermsWrong : ChangeSpec := { name := "mulTerms", fn := fun _ => fun
  | [d1, d2] => { results := [.lit (.bool false)], args := [d1, d2] }
  | _ => none }
def MulTermsWrongFalsely : Prop := mulTermsRow.holds Tryz.pinned (OpenSpec.ofChange mulTermsWrong)

/-- 'hairsbreadthlaw19.MulWide': WHATEVER THE INPUT: true; the input reads as it did. -/
def mulWideSpec : ChangeSpec := { name := "mulWide", fn := fun _ => fun
  | [d1, d2, d3, d4] => { results := [.lit (.bool true)], args := [d1, d2, d3, d4] }
  | _ => none }
def mulWideRow : OpenClaim := { program := "ytjnohbpebdnngaagreatdoor", sum := "77041da76458562319a77e01a7f6a3df3003e2ac889c10e82c9ca616736b84b4", func := "hairsbreadth/hairsbreadthlaw19.MulWide", spec := "mulWide", inPlace := ["math/bits.Add64"], unfollowed := true, recurses := true, named := ["hairsbreadth/format.table"], apart := false, laid := [("hairsbreadth/format.table", laid_hairsbreadth_format_table)] }
def MulWideSaid : Prop := mulWideRow.holds Tryz.pinned (OpenSpec.ofChange mulWideSpec)

/-- ITS FALSE NEIGHBOUR: 'it returns false'. Refute it at one input. -/
def mulWideWrong : ChangeSpec := { name := "mulWide", fn := fun _ => fun
  | [d1, d2, d3, d4] => { results := [.lit (.bool false)], args := [d1, d2, d3, d4] }
  | _ => none }
def MulWideWrongFalsely : Prop := mulWideRow.holds Tryz.pinned (OpenSpec.ofChange mulWideWrong)

/-- 'hairsbreadthlaw19.MulTurn': WHATEVER THE INPUT: true; the input reads as it did. -/
def mulTurnSpec : ChangeSpec := { name := "mulTurn", fn := fun _ => fun
  | [d1, d2, d3, d4] => { results := [.lit (.bool true)], args := [d1, d2, d3, d4] }
  | _ => none }
def mulTurnRow : OpenClaim := { program := "ytjnohbpebdnngaagreatdoor", sum := "77041da76458562319a77e01a7f6a3df3003e2ac889c10e82c9ca616736b84b4", func := "hairsbreadth/hairsbreadthlaw19.MulTurn", spec := "mulTurn", inPlace := ["math/bits.Add64"], unfollowed := true, recurses := true, named := ["hairsbreadth/format.table"], apart := false, laid := [("hairsbreadth/format.table", laid_hairsbreadth_format_table)] }
def MulTurnSaid : Prop := mulTurnRow.holds Tryz.pinned (OpenSpec.ofChange mulTurnSpec)

/-- ITS FALSE NEIGHBOUR: 'it returns false'. Refute it at one input. -/
def mulTurnWrong : ChangeSpec := { name := "mulTurn", fn := fun _ => fun
  | [d1, d2, d3, d4] => { results := [.lit (.bool false)], args := [d1, d2, d3, d4] }
  | _ => none }
def MulTurnWrongFalsely : Prop := mulTurnRow.holds Tryz.pinned (OpenSpec.ofChange mulTurnWrong)

/-- 'hairsbreadthlaw19.MulOne': WHATEVER THE INPUT: true; the input reads as it did. -/
def mulOneSpec : ChangeSpec := { name := "mulOne", fn := fun _ => fun
  | [d1, d2, d3] => { results := [.lit (.bool true)], args := [d1, d2, d3] }
  | _ => none }
def mulOneRow : OpenClaim := { program := "ytjnohbpebdnngaagreatdoor", sum := "77041da76458562319a77e01a7f6a3df3003e2ac889c10e82c9ca616736b84b4", func := "hairsbreadth/hairsbreadthlaw19.MulOne", spec := "mulOne", inPlace := ["math/bits.Add64", "math/bits.Sub64"], unfollowed := true, recurses := true, named := ["hairsbreadth/format.table"], apart := false, laid := [("hairsbreadth/format.table", laid_hairsbreadth_format_table)] }
def MulOneSaid : Prop := mulOneRow.holds Tryz.pinned (OpenSpec.ofChange mulOneSpec)

/-- ITS FALSE NEIGHBOUR: 'it returns false'. Refute it at one input. -/
def mulOneWrong : ChangeSpec := { name := "mulOne", fn := fun _ => fun
  | [d1, d2, d3] => { results := [.lit (.bool false)], args := [d1, d2, d3] }
  | _ => none }
def MulOneWrongFalsely : Prop := mulOneRow.holds Tryz.pinned (OpenSpec.ofChange mulOneWrong)

/-- 'hairsbreadthlaw19.MulOrder': WHATEVER THE INPUT: true; the input reads as it did. -/
def mulOrderSpec : ChangeSpec := { name := "mulOrder", fn := fun _ => fun
  | [d1, d2, d3, d4, d5] => { results := [.lit (.bool true)], args := [d1, d2, d3, d4, d5] }
  | _ => none }
def mulOrderRow : OpenClaim := { program := "ytjnohbpebdnngaagreatdoor", sum := "77041da76458562319a77e01a7f6a3df3003e2ac889c10e82c9ca616736b84b4", func := "hairsbreadth/hairsbreadthlaw19.MulOrder", spec := "mulOrder", inPlace := ["math/bits.Add64"], unfollowed := true, recurses := true, named := ["hairsbreadth/format.table"], apart := false, laid := [("hairsbreadth/format.table", laid_hairsbreadth_format_table)] }
def MulOrderSaid : Prop := mulOrderRow.holds Tryz.pinned (OpenSpec.ofChange mulOrderSpec)

/-- ITS FALSE NEIGHBOUR: 'it returns false'. Refute it at one input. -/
def mulOrderWrong : ChangeSpec := { name := "mulOrder", fn := fun _ => fun
  | [d1, d2, d3, d4, d5] => { results := [.lit (.bool false)], args := [d1, d2, d3, d4, d5] }
  | _ => none }
def MulOrderWrongFalsely : Prop := mulOrderRow.holds Tryz.pinned (OpenSpec.ofChange mulOrderWrong)

/-- 'hairsbreadthlaw19.MulSpecial': WHATEVER THE INPUT: true; the input reads as it did. -/
def mulSpecialSpec : ChangeSpec := { name := "mulSpecial", fn := fun _ => fun
  | [d1, d2, d3, d4] => { results := [.lit (.bool true)], args := [d1, d2, d3, d4] }
  | _ => none }
def mulSpecialRow : OpenClaim := { program := "ytjnohbpebdnngaagreatdoor", sum := "77041da76458562319a77e01a7f6a3df3003e2ac889c10e82c9ca616736b84b4", func := "hairsbreadth/hairsbreadthlaw19.MulSpecial", spec := "mulSpecial", inPlace := ["math/bits.Add64"], unfollowed := true, recurses := true, named := ["hairsbreadth/format.table"], apart := false, laid := [("hairsbreadth/format.table", laid_hairsbreadth_format_table)] }
def MulSpecialSaid : Prop := mulSpecialRow.holds Tryz.pinned (OpenSpec.ofChange mulSpecialSpec)

/-- ITS FALSE NEIGHBOUR: 'it returns false'. Refute it at one input. -/
def mulSpecialWrong : ChangeSpec := { name := "mulSpecial", fn := fun _ => fun
  | [d1, d2, d3, d4] => { results := [.lit (.bool false)], args := [d1, d2, d3, d4] }
  | _ => none }
def MulSpecialWrongFalsely : Prop := mulSpecialRow.holds Tryz.pinned (OpenSpec.ofChange mulSpecialWrong)

/-- 'hairsbreadthlaw19.MulKnown': WHATEVER THE INPUT: true; the input reads as it did. -/
def mulKnownSpec : ChangeSpec := { name := "mulKnown", fn := fun _ => fun
  | [] => { results := [.lit (.bool true)], args := [] }
  | _ => none }
def mulKnownRow : OpenClaim := { program := "ytjnohbpebdnngaagreatdoor", sum := "77041da76458562319a77e01a7f6a3df3003e2ac889c10e82c9ca616736b84b4", func := "hairsbreadth/hairsbreadthlaw19.MulKnown", spec := "mulKnown", inPlace := ["math/bits.Add64"], unfollowed := true, recurses := true, named := ["hairsbreadth/format.table"], apart := false, laid := [("hairsbreadth/format.table", laid_hairsbreadth_format_table)] }
def MulKnownSaid : Prop := mulKnownRow.holds Tryz.pinned (OpenSpec.ofChange mulKnownSpec)

/-- ITS FALSE NEIGHBOUR: 'it returns false'. Refute it at one input. -/
def mulKnownWrong : ChangeSpec := { name := "mulKnown", fn := fun _ => fun
  | [] => { results := [.lit (.bool false)], args := [] }
  | _ => none }
def MulKnownWrongFalsely : Prop := mulKnownRow.holds Tryz.pinned (OpenSpec.ofChange mulKnownWrong)

/- THE SECOND FORM. 'bulk': how many values and letters a reading holds, each counted each time it is reached (what is shared counts as often as it is met; a slice's spare places count too). A statement '..UptoSaid' is the law's where the arguments, and the package variables that the reading takes, are together of bulk at most 1048576: NARROWER than '..Said'. Prove '..Said' where nothing that the law and all that it calls make is longer than what came in: it says more and counts as full. Else prove '..UptoSaid'. A law counts once. -/
mutual
def uptoBulk {H : Type} : DataW H → Nat
  | .lit (.string bytes) => bytes.length + 1
  | .lit _ => 1
  | .nil => 1
  | .ptr d => uptoBulk d + 1
  | .slice elems spare => uptoBulkAll elems + uptoBulkAll spare + 1
  | .agg parts => uptoBulkAll parts + 1
  | .iface _ d => uptoBulk d + 1
  | .map entries => uptoBulkEntries entries + 1
  | .held _ => 1
def uptoBulkAll {H : Type} : List (DataW H) → Nat
  | [] => 0
  | d :: r => uptoBulk d + uptoBulkAll r
def uptoBulkEntries {H : Type} : List (Lit × DataW H) → Nat
  | [] => 0
  | x :: r => uptoBulkEntry x + uptoBulkEntries r
def uptoBulkEntry {H : Type} : Lit × DataW H → Nat
  | (.string bytes, d) => bytes.length + uptoBulk d + 1
  | (_, d) => uptoBulk d + 1
 end
def uptoSmall : (H : Type) → List (DataW H) → Bool := fun _ ds => decide (uptoBulkAll ds ≤ 1048576)
def OpenSpec.upto (s : _root_.Go.ChangeSpec) : _root_.Go.OpenSpec := { _root_.Go.OpenSpec.ofChange s with cond := some uptoSmall }

/-- 'hairsbreadthlaw19.MulAll', WHERE WHAT IT READS IS OF BULK AT MOST 1048576: true; the input reads as it did. -/
def mulAllUptoRow : OpenClaim := { program := "ytjnohbpebdnngaagreatdoor", sum := "77041da76458562319a77e01a7f6a3df3003e2ac889c10e82c9ca616736b84b4", func := "hairsbreadth/hairsbreadthlaw19.MulAll", spec := "mulAll", inPlace := ["math/bits.Add64"], unfollowed := true, recurses := true, named := ["hairsbreadth/format.table"], apart := false, laid := [("hairsbreadth/format.table", laid_hairsbreadth_format_table)], narrowed := true }
def MulAllUptoSaid : Prop := mulAllUptoRow.holds Tryz.pinned (OpenSpec.upto mulAllSpec)

/-- 'hairsbreadthlaw19.MulTerms', WHERE WHAT IT READS IS OF BULK AT MOST 1048576: true; the input reads as it did. -/
def mulTermsUptoRow : OpenClaim := { program := "ytjnohbpebdnngaagreatdoor", sum := "77041da76458562319a77e01a7f6a3df3003e2ac889c10e82c9ca616736b84b4", func := "hairsbreadth/hairsbreadthlaw19.MulTerms", spec := "mulTerms", inPlace := ["math/bits.Add64"], unfollowed := true, recurses := true, named := ["hairsbreadth/format.table"], apart := false, laid := [("hairsbreadth/format.table", laid_hairsbreadth_format_table)], narrowed := true }
def MulTermsUptoSaid : Prop := mulTermsUptoRow.holds Tryz.pinned (OpenSpec.upto mulTermsSpec)

/-- 'hairsbreadthlaw19.MulWide', WHERE WHAT IT READS IS OF BULK AT MOST 1048576: true; the input reads as it did. -/
def mulWideUptoRow : OpenClaim := { program := "ytjnohbpebdnngaagreatdoor", sum := "77041da76458562319a77e01a7f6a3df3003e2ac889c10e82c9ca616736b84b4", func := "hairsbreadth/hairsbreadthlaw19.MulWide", spec := "mulWide", inPlace := ["math/bits.Add64"], unfollowed := true, recurses := true, named := ["hairsbreadth/format.table"], apart := false, laid := [("hairsbreadth/format.table", laid_hairsbreadth_format_table)], narrowed := true }
def MulWideUptoSaid : Prop := mulWideUptoRow.holds Tryz.pinned (OpenSpec.upto mulWideSpec)

/-- 'hairsbreadthlaw19.MulTurn', WHERE WHAT IT READS IS OF BULK AT MOST 1048576: true; the input reads as it did. -/
def mulTurnUptoRow : OpenClaim := { program := "ytjnohbpebdnngaagreatdoor", sum := "77041da76458562319a77e01a7f6a3df3003e2ac889c10e82c9ca616736b84b4", func := "hairsbreadth/hairsbreadthlaw19.MulTurn", spec := "mulTurn", inPlace := ["math/bits.Add64"], unfollowed := true, recurses := true, named := ["hairsbreadth/format.table"], apart := false, laid := [("hairsbreadth/format.table", laid_hairsbreadth_format_table)], narrowed := true }
def MulTurnUptoSaid : Prop := mulTurnUptoRow.holds Tryz.pinned (OpenSpec.upto mulTurnSpec)

/-- 'hairsbreadthlaw19.MulOne', WHERE WHAT IT READS IS OF BULK AT MOST 1048576: true; the input reads as it did. -/
def mulOneUptoRow : OpenClaim := { program := "ytjnohbpebdnngaagreatdoor", sum := "77041da76458562319a77e01a7f6a3df3003e2ac889c10e82c9ca616736b84b4", func := "hairsbreadth/hairsbreadthlaw19.MulOne", spec := "mulOne", inPlace := ["math/bits.Add64", "math/bits.Sub64"], unfollowed := true, recurses := true, named := ["hairsbreadth/format.table"], apart := false, laid := [("hairsbreadth/format.table", laid_hairsbreadth_format_table)], narrowed := true }
def MulOneUptoSaid : Prop := mulOneUptoRow.holds Tryz.pinned (OpenSpec.upto mulOneSpec)

/-- 'hairsbreadthlaw19.MulOrder', WHERE WHAT IT READS IS OF BULK AT MOST 1048576: true; the input reads as it did. -/
def mulOrderUptoRow : OpenClaim := { program := "ytjnohbpebdnngaagreatdoor", sum := "77041da76458562319a77e01a7f6a3df3003e2ac889c10e82c9ca616736b84b4", func := "hairsbreadth/hairsbreadthlaw19.MulOrder", spec := "mulOrder", inPlace := ["math/bits.Add64"], unfollowed := true, recurses := true, named := ["hairsbreadth/format.table"], apart := false, laid := [("hairsbreadth/format.table", laid_hairsbreadth_format_table)], narrowed := true }
def MulOrderUptoSaid : Prop := mulOrderUptoRow.holds Tryz.pinned (OpenSpec.upto mulOrderSpec)

/-- 'hairsbreadthlaw19.MulSpecial', WHERE WHAT IT READS IS OF BULK AT MOST 1048576: true; the input reads as it did. -/
def mulSpecialUptoRow : OpenClaim := { program := "ytjnohbpebdnngaagreatdoor", sum := "77041da76458562319a77e01a7f6a3df3003e2ac889c10e82c9ca616736b84b4", func := "hairsbreadth/hairsbreadthlaw19.MulSpecial", spec := "mulSpecial", inPlace := ["math/bits.Add64"], unfollowed := true, recurses := true, named := ["hairsbreadth/format.table"], apart := false, laid := [("hairsbreadth/format.table", laid_hairsbreadth_format_table)], narrowed := true }
def MulSpecialUptoSaid : Prop := mulSpecialUptoRow.holds Tryz.pinned (OpenSpec.upto mulSpecialSpec)

/-- 'hairsbreadthlaw19.MulKnown', WHERE WHAT IT READS IS OF BULK AT MOST 1048576: true; the input reads as it did. -/
def mulKnownUptoRow : OpenClaim := { program := "ytjnohbpebdnngaagreatdoor", sum := "77041da76458562319a77e01a7f6a3df3003e2ac889c10e82c9ca616736b84b4", func := "hairsbreadth/hairsbreadthlaw19.MulKnown", spec := "mulKnown", inPlace := ["math/bits.Add64"], unfollowed := true, recurses := true, named := ["hairsbreadth/format.table"], apart := false, laid := [("hairsbreadth/format.table", laid_hairsbreadth_format_table)], narrowed := true }
def MulKnownUptoSaid : Prop := mulKnownUptoRow.holds Tryz.pinned (OpenSpec.upto mulKnownSpec)

end Rows
end Go.Proofs.YtjnohbpebdnngaaGreatDoor
