/-
  NARROWER THAN 'FOR EVERY INPUT', by the rows' own cells (each row's printed sentence says how): FmaAll: laid · FmaRest: laid · FmaSum: laid · FmaProduct: laid · FmaTurn: laid · FmaNan: laid · FmaKnown: laid.
  DERIVED. THE GIVEN ROWS OF THIS SEAT. 7 by the template 'for every input the law returns true; each argument reads behind the call as it read before'; 0 by the template 'total and deterministic' (their statements: YtdcdbcccchadfaaGreatDoorTotals.lean).
  GIVEN WITH THE SEED: the statements are not yours to turn. If you find one false, say at which input.
  Laid BY PROGRAM, IN A SANDBOX (cutbox-rows.mjs): the forced cells as the released guide's own fill.sh prints them over the translation 1f89701cefd7bb06… (all of the seat's roots in one cut). By AI agents, Wed Nov 11 2026. No macro, syntax, notation, axiom, sorry.
-/
import Derived.Test.YtdcdbcccchadfaaGreatDoorChecked
import GoSem.Claim
import GoSem.ClaimJoined
import GoSem.ClaimMapViews
import Derived.JoinedTies
import Derived.KernelRfl
namespace Go.Proofs.YtdcdbcccchadfaaGreatDoor
/- THE CELL 'sum', in the pinned program and in every row, IS THE sha256 OF THE DUMP (.gsa) THAT YtdcdbcccchadfaaGreatDoorProg.lean LOADS. Nothing in Lean hashes anything: it is a label: what it is worth is what the hold of that sum in a sandbox is worth. -/
noncomputable def Tryz.pinned : Pinned := { name := "ytdcdbcccchadfaagreatdoor", sum := "1f89701cefd7bb0650ded080bcb06baa525d9f39cdd5792c020ed0d8e0d0c49a", checked := Tryz.checked }
namespace Rows
def none {H : Type} : Left H := { results := [], args := [] }

/- WHAT THE LISTED PACKAGE-LEVEL VARIABLES READ AS WHEN THE CALL BEGINS. Each datum BY PROGRAM (the guide's laid-datum.mjs) off the statement by which the dump's own 'gosem.cut.vars' lays the variable. In a bare row this is a premise. The card (YtdcdbcccchadfaaGreatDoorCards.lean) ties it to the program's text. -/
def laid_hairsbreadth_format_table {H : Type} : DataW H := .agg [.agg [.lit (.int .i64 16), .lit (.int .i64 11), .lit (.int .i64 15)], .agg [.lit (.int .i64 32), .lit (.int .i64 24), .lit (.int .i64 127)], .agg [.lit (.int .i64 64), .lit (.int .i64 53), .lit (.int .i64 1023)], .agg [.lit (.int .i64 128), .lit (.int .i64 113), .lit (.int .i64 16383)]]

/-- 'hairsbreadthlaw20.FmaAll': WHATEVER THE INPUT: true; the input reads as it did. -/
def fmaAllSpec : ChangeSpec := { name := "fmaAll", fn := fun _ => fun
  | [d1, d2, d3, d4, d5] => { results := [.lit (.bool true)], args := [d1, d2, d3, d4, d5] }
  | _ => none }
def fmaAllRow : OpenClaim := { program := "ytdcdbcccchadfaagreatdoor", sum := "1f89701cefd7bb0650ded080bcb06baa525d9f39cdd5792c020ed0d8e0d0c49a", func := "hairsbreadth/hairsbreadthlaw20.FmaAll", spec := "fmaAll", inPlace := ["math/bits.Add64", "math/bits.Sub64"], unfollowed := true, recurses := true, named := ["hairsbreadth/format.table"], apart := false, laid := [("hairsbreadth/format.table", laid_hairsbreadth_format_table)] }
def FmaAllSaid : Prop := fmaAllRow.holds Tryz.pinned (OpenSpec.ofChange fmaAllSpec)

/-- ITS FALSE NEIGHBOUR: 'it returns false'. Refute it at one input. -/
def fmaAllWrong : ChangeSpec := { name := "fmaAll", fn := fun _ => fun
  | [d1, d2, d3, d4, d5] => { results := [.lit (.bool false)], args := [d1, d2, d3, d4, d5] }
  | _ => none }
def FmaAllWrongFalsely : Prop := fmaAllRow.holds Tryz.pinned (OpenSpec.ofChange fmaAllWrong)

/-- 'hairsbreadthlaw20.FmaRest': WHATEVER THE INPUT: true; the input reads as it did. -/
def fmaRestSpec : ChangeSpec := { name := "fmaRest", fn := fun _ => fun
  | [d1, d2, d3, d4] => { results := [.lit (.bool true)], args := [d1, d2, d3, d4] }
  | _ => none }
def fmaRestRow : OpenClaim := { program := "ytdcdbcccchadfaagreatdoor", sum := "1f89701cefd7bb0650ded080bcb06baa525d9f39cdd5792c020ed0d8e0d0c49a", func := "hairsbreadth/hairsbreadthlaw20.FmaRest", spec := "fmaRest", inPlace := ["math/bits.Add64", "math/bits.Sub64"], unfollowed := true, recurses := true, named := ["hairsbreadth/format.table"], apart := false, laid := [("hairsbreadth/format.table", laid_hairsbreadth_format_table)] }
def FmaRestSaid : Prop := fmaRestRow.holds Tryz.pinned (OpenSpec.ofChange fmaRestSpec)

/-- ITS FALSE NEIGHBOUR: 'it returns false'. Refute it at one input. -/
def fmaRestWrong : ChangeSpec := { name := "fmaRest", fn := fun _ => fun
  | [d1, d2, d3, d4] => { results := [.lit (.bool false)], args := [d1, d2, d3, d4] }
  | _ => none }
def FmaRestWrongFalsely : Prop := fmaRestRow.holds Tryz.pinned (OpenSpec.ofChange fmaRestWrong)

/-- 'hairsbreadthlaw20.FmaSum': WHATEVER THE INPUT: true; the input reads as it did. -/
def fmaSumSpec : ChangeSpec := { name := "fmaSum", fn := fun _ => fun
  | [d1, d2, d3, d4] => { results := [.lit (.bool true)], args := [d1, d2, d3, d4] }
  | _ => none }
def fmaSumRow : OpenClaim := { program := "ytdcdbcccchadfaagreatdoor", sum := "1f89701cefd7bb0650ded080bcb06baa525d9f39cdd5792c020ed0d8e0d0c49a", func := "hairsbreadth/hairsbreadthlaw20.FmaSum", spec := "fmaSum", inPlace := ["math/bits.Add64", "math/bits.Sub64"], unfollowed := true, recurses := true, named := ["hairsbreadth/format.table"], apart := false, laid := [("hairsbreadth/format.table", laid_hairsbreadth_format_table)] }
def FmaSumSaid : Prop := fmaSumRow.holds Tryz.pinned (OpenSpec.ofChange fmaSumSpec)

/-- ITS FALSE NEIGHBOUR: 'it returns false'. Refute it at one input. -/
def fmaSumWrong : ChangeSpec := { name := "fmaSum", fn := fun _ => fun
  | [d1, d2, d3, d4] => { results := [.lit (.bool false)], args := [d1, d2, d3, d4] }
  | _ => none }
def FmaSumWrongFalsely : Prop := fmaSumRow.holds Tryz.pinned (OpenSpec.ofChange fmaSumWrong)

/-- 'hairsbreadthlaw20.FmaProduct': WHATEVER THE INPUT: true; the input reads as it did. -/
def fmaProductSpec : ChangeSpec := { name := "fmaProduct", fn := fun _ => fun
  | [d1, d2, d3, d4, d5] => { results := [.lit (.bool true)], args := [d1, d2, d3, d4, d5] }
  | _ => none }
def fmaProductRow : OpenClaim := { program := "ytdcdbcccchadfaagreatdoor", sum := "1f89701cefd7bb0650ded080bcb06baa525d9f39cdd5792c020ed0d8e0d0c49a", func := "hairsbreadth/hairsbreadthlaw20.FmaProduct", spec := "fmaProduct", inPlace := ["math/bits.Add64", "math/bits.Sub64"], unfollowed := true, recurses := true, named := ["hairsbreadth/format.table"], apart := false, laid := [("hairsbreadth/format.table", laid_hairsbreadth_format_table)] }
def FmaProductSaid : Prop := fmaProductRow.holds Tryz.pinned (OpenSpec.ofChange fmaProductSpec)

/-- ITS FALSE NEIGHBOUR: 'it returns false'. Refute it at one input. -/
def fmaProductWrong : ChangeSpec := { name := "fmaProduct", fn := fun _ => fun
  | [d1, d2, d3, d4, d5] => { results := [.lit (.bool false)], args := [d1, d2, d3, d4, d5] }
  | _ => none }
def FmaProductWrongFalsely : Prop := fmaProductRow.holds Tryz.pinned (OpenSpec.ofChange fmaProductWrong)

/-- 'hairsbreadthlaw20.FmaTurn': WHATEVER THE INPUT: true; the input reads as it did. -/
def fmaTurnSpec : ChangeSpec := { name := "fmaTurn", fn := fun _ => fun
  | [d1, d2, d3, d4, d5] => { results := [.lit (.bool true)], args := [d1, d2, d3, d4, d5] }
  | _ => none }
def fmaTurnRow : OpenClaim := { program := "ytdcdbcccchadfaagreatdoor", sum := "1f89701cefd7bb0650ded080bcb06baa525d9f39cdd5792c020ed0d8e0d0c49a", func := "hairsbreadth/hairsbreadthlaw20.FmaTurn", spec := "fmaTurn", inPlace := ["math/bits.Add64", "math/bits.Sub64"], unfollowed := true, recurses := true, named := ["hairsbreadth/format.table"], apart := false, laid := [("hairsbreadth/format.table", laid_hairsbreadth_format_table)] }
def FmaTurnSaid : Prop := fmaTurnRow.holds Tryz.pinned (OpenSpec.ofChange fmaTurnSpec)

/-- ITS FALSE NEIGHBOUR: 'it returns false'. Refute it at one input. -/
def fmaTurnWrong : ChangeSpec := { name := "fmaTurn", fn := fun _ => fun
  | [d1, d2, d3, d4, d5] => { results := [.lit (.bool false)], args := [d1, d2, d3, d4, d5] }
  | _ => none }
def FmaTurnWrongFalsely : Prop := fmaTurnRow.holds Tryz.pinned (OpenSpec.ofChange fmaTurnWrong)

/-- 'hairsbreadthlaw20.FmaNan': WHATEVER THE INPUT: true; the input reads as it did. -/
def fmaNanSpec : ChangeSpec := { name := "fmaNan", fn := fun _ => fun
  | [d1, d2, d3, d4, d5] => { results := [.lit (.bool true)], args := [d1, d2, d3, d4, d5] }
  | _ => none }
def fmaNanRow : OpenClaim := { program := "ytdcdbcccchadfaagreatdoor", sum := "1f89701cefd7bb0650ded080bcb06baa525d9f39cdd5792c020ed0d8e0d0c49a", func := "hairsbreadth/hairsbreadthlaw20.FmaNan", spec := "fmaNan", inPlace := ["math/bits.Add64", "math/bits.Sub64"], unfollowed := true, recurses := true, named := ["hairsbreadth/format.table"], apart := false, laid := [("hairsbreadth/format.table", laid_hairsbreadth_format_table)] }
def FmaNanSaid : Prop := fmaNanRow.holds Tryz.pinned (OpenSpec.ofChange fmaNanSpec)

/-- ITS FALSE NEIGHBOUR: 'it returns false'. Refute it at one input. -/
def fmaNanWrong : ChangeSpec := { name := "fmaNan", fn := fun _ => fun
  | [d1, d2, d3, d4, d5] => { results := [.lit (.bool false)], args := [d1, d2, d3, d4, d5] }
  | _ => none }
def FmaNanWrongFalsely : Prop := fmaNanRow.holds Tryz.pinned (OpenSpec.ofChange fmaNanWrong)

/-- 'hairsbreadthlaw20.FmaKnown': WHATEVER THE INPUT: true; the input reads as it did. -/
def fmaKnownSpec : ChangeSpec := { name := "fmaKnown", fn := fun _ => fun
  | [] => { results := [.lit (.bool true)], args := [] }
  | _ => none }
def fmaKnownRow : OpenClaim := { program := "ytdcdbcccchadfaagreatdoor", sum := "1f89701cefd7bb0650ded080bcb06baa525d9f39cdd5792c020ed0d8e0d0c49a", func := "hairsbreadth/hairsbreadthlaw20.FmaKnown", spec := "fmaKnown", inPlace := ["math/bits.Add64", "math/bits.Sub64"], unfollowed := true, recurses := true, named := ["hairsbreadth/format.table"], apart := false, laid := [("hairsbreadth/format.table", laid_hairsbreadth_format_table)] }
def FmaKnownSaid : Prop := fmaKnownRow.holds Tryz.pinned (OpenSpec.ofChange fmaKnownSpec)

/-- ITS FALSE NEIGHBOUR: 'it returns false'. Refute it at one input. -/
def fmaKnownWrong : ChangeSpec := { name := "fmaKnown", fn := fun _ => fun
  | [] => { results := [.lit (.bool false)], args := [] }
  | _ => none }
def FmaKnownWrongFalsely : Prop := fmaKnownRow.holds Tryz.pinned (OpenSpec.ofChange fmaKnownWrong)

/- THE SECOND FORM. 'bulk': how many values and letters a reading holds, each counted each time it is reached (what is shared counts as often as it is met; a slice's spare places count too). A statement '..UptoSaid' is the law's where the arguments, and the package variables that the reading takes, are together of bulk at most 1048576: NARROWER than '..Said'. Prove '..Said' where nothing that the law and all that it calls make is longer than what came in: it says more and counts as full. Else prove '..UptoSaid'. A law counts once. -/
mutual
def uptoBulk {H : Type} : DataW H → Nat
  | .lit (.string bytes) => bytes.length + 1
  | .lit _ => 1
  | .nil => 1
  | .ptr d => uptoBulk d + 1
  | .slice elems spare => uptoBulkAll elems + uptoBulkAll spare + 1
  | .agg parts => uptoBulkAll parts + 1
  | .iface _ d => uptoBulk d + 1
  | .map entries => uptoBulkEntries entries + 1
  | .held _ => 1
def uptoBulkAll {H : Type} : List (DataW H) → Nat
  | [] => 0
  | d :: r => uptoBulk d + uptoBulkAll r
def uptoBulkEntries {H : Type} : List (Lit × DataW H) → Nat
  | [] => 0
  | x :: r => uptoBulkEntry x + uptoBulkEntries r
def uptoBulkEntry {H : Type} : Lit × DataW H → Nat
  | (.string bytes, d) => bytes.length + uptoBulk d + 1
  | (_, d) => uptoBulk d + 1
 end
def uptoSmall : (H : Type) → List (DataW H) → Bool := fun _ ds => decide (uptoBulkAll ds ≤ 1048576)
def OpenSpec.upto (s : _root_.Go.ChangeSpec) : _root_.Go.OpenSpec := { _root_.Go.OpenSpec.ofChange s with cond := some uptoSmall }

/-- 'hairsbreadthlaw20.FmaAll', WHERE WHAT IT READS IS OF BULK AT MOST 1048576: true; the input reads as it did. -/
def fmaAllUptoRow : OpenClaim := { program := "ytdcdbcccchadfaagreatdoor", sum := "1f89701cefd7bb0650ded080bcb06baa525d9f39cdd5792c020ed0d8e0d0c49a", func := "hairsbreadth/hairsbreadthlaw20.FmaAll", spec := "fmaAll", inPlace := ["math/bits.Add64", "math/bits.Sub64"], unfollowed := true, recurses := true, named := ["hairsbreadth/format.table"], apart := false, laid := [("hairsbreadth/format.table", laid_hairsbreadth_format_table)], narrowed := true }
def FmaAllUptoSaid : Prop := fmaAllUptoRow.holds Tryz.pinned (OpenSpec.upto fmaAllSpec)

/-- 'hairsbreadthlaw20.FmaRest', WHERE WHAT IT READS IS OF BULK AT MOST 1048576: true; the input reads as it did. -/
def fmaRestUptoRow : OpenClaim := { program := "ytdcdbcccchadfaagreatdoor", sum := "1f89701cefd7bb0650ded080bcb06baa525d9f39cdd5792c020ed0d8e0d0c49a", func := "hairsbreadth/hairsbreadthlaw20.FmaRest", spec := "fmaRest", inPlace := ["math/bits.Add64", "math/bits.Sub64"], unfollowed := true, recurses := true, named := ["hairsbreadth/format.table"], apart := false, laid := [("hairsbreadth/format.table", laid_hairsbreadth_format_table)], narrowed := true }
def FmaRestUptoSaid : Prop := fmaRestUptoRow.holds Tryz.pinned (OpenSpec.upto fmaRestSpec)

/-- 'hairsbreadthlaw20.FmaSum', WHERE WHAT IT READS IS OF BULK AT MOST 1048576: true; the input reads as it did. -/
def fmaSumUptoRow : OpenClaim := { program := "ytdcdbcccchadfaagreatdoor", sum := "1f89701cefd7bb0650ded080bcb06baa525d9f39cdd5792c020ed0d8e0d0c49a", func := "hairsbreadth/hairsbreadthlaw20.FmaSum", spec := "fmaSum", inPlace := ["math/bits.Add64", "math/bits.Sub64"], unfollowed := true, recurses := true, named := ["hairsbreadth/format.table"], apart := false, laid := [("hairsbreadth/format.table", laid_hairsbreadth_format_table)], narrowed := true }
def FmaSumUptoSaid : Prop := fmaSumUptoRow.holds Tryz.pinned (OpenSpec.upto fmaSumSpec)

/-- 'hairsbreadthlaw20.FmaProduct', WHERE WHAT IT READS IS OF BULK AT MOST 1048576: true; the input reads as it did. -/
def fmaProductUptoRow : OpenClaim := { program := "ytdcdbcccchadfaagreatdoor", sum := "1f89701cefd7bb0650ded080bcb06baa525d9f39cdd5792c020ed0d8e0d0c49a", func := "hairsbreadth/hairsbreadthlaw20.FmaProduct", spec := "fmaProduct", inPlace := ["math/bits.Add64", "math/bits.Sub64"], unfollowed := true, recurses := true, named := ["hairsbreadth/format.table"], apart := false, laid := [("hairsbreadth/format.table", laid_hairsbreadth_format_table)], narrowed := true }
def FmaProductUptoSaid : Prop := fmaProductUptoRow.holds Tryz.pinned (OpenSpec.upto fmaProductSpec)

/-- 'hairsbreadthlaw20.FmaTurn', WHERE WHAT IT READS IS OF BULK AT MOST 1048576: true; the input reads as it did. -/
def fmaTurnUptoRow : OpenClaim := { program := "ytdcdbcccchadfaagreatdoor", sum := "1f89701cefd7bb0650ded080bcb06baa525d9f39cdd5792c020ed0d8e0d0c49a", func := "hairsbreadth/hairsbreadthlaw20.FmaTurn", spec := "fmaTurn", inPlace := ["math/bits.Add64", "math/bits.Sub64"], unfollowed := true, recurses := true, named := ["hairsbreadth/format.table"], apart := false, laid := [("hairsbreadth/format.table", laid_hairsbreadth_format_table)], narrowed := true }
def FmaTurnUptoSaid : Prop := fmaTurnUptoRow.holds Tryz.pinned (OpenSpec.upto fmaTurnSpec)

/-- 'hairsbreadthlaw20.FmaNan', WHERE WHAT IT READS IS OF BULK AT MOST 1048576: true; the input reads as it did. -/
def fmaNanUptoRow : OpenClaim := { program := "ytdcdbcccchadfaagreatdoor", sum := "1f89701cefd7bb0650ded080bcb06baa525d9f39cdd5792c020ed0d8e0d0c49a", func := "hairsbreadth/hairsbreadthlaw20.FmaNan", spec := "fmaNan", inPlace := ["math/bits.Add64", "math/bits.Sub64"], unfollowed := true, recurses := true, named := ["hairsbreadth/format.table"], apart := false, laid := [("hairsbreadth/format.table", laid_hairsbreadth_format_table)], narrowed := true }
def FmaNanUptoSaid : Prop := fmaNanUptoRow.holds Tryz.pinned (OpenSpec.upto fmaNanSpec)

/-- 'hairsbreadthlaw20.FmaKnown', WHERE WHAT IT READS IS OF BULK AT MOST 1048576: true; the input reads as it did. -/
def fmaKnownUptoRow : OpenClaim := { program := "ytdcdbcccchadfaagreatdoor", sum := "1f89701cefd7bb0650ded080bcb06baa525d9f39cdd5792c020ed0d8e0d0c49a", func := "hairsbreadth/hairsbreadthlaw20.FmaKnown", spec := "fmaKnown", inPlace := ["math/bits.Add64", "math/bits.Sub64"], unfollowed := true, recurses := true, named := ["hairsbreadth/format.table"], apart := false, laid := [("hairsbreadth/format.table", laid_hairsbreadth_format_table)], narrowed := true }
def FmaKnownUptoSaid : Prop := fmaKnownUptoRow.holds Tryz.pinned (OpenSpec.upto fmaKnownSpec)

end Rows
end Go.Proofs.YtdcdbcccchadfaaGreatDoor
