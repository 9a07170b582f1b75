/-
  NARROWER THAN 'FOR EVERY INPUT', by the rows' own cells (each row's printed sentence says how): SqrtAll: laid · SqrtBetween: laid · SqrtSquare: laid · SqrtOrder: laid · SqrtFour: laid · SqrtNegative: laid · SqrtKnown: laid.
  DERIVED. THE GIVEN ROWS OF THIS SEAT. 7 by the template 'for every input the law returns true; each argument reads behind the call as it read before'; 0 by the template 'total and deterministic' (their statements: YtbighggnfkdncaaGreatDoorTotals.lean).
  GIVEN WITH THE SEED: the statements are not yours to turn. If you find one false, say at which input.
  Laid BY PROGRAM, IN A SANDBOX (cutbox-rows.mjs): the forced cells as the released guide's own fill.sh prints them over the translation 1806f772f6ee9115… (all of the seat's roots in one cut). By AI agents, Wed Nov 11 2026. No macro, syntax, notation, axiom, sorry.
-/
import Derived.Test.YtbighggnfkdncaaGreatDoorChecked
import GoSem.Claim
import GoSem.ClaimJoined
import GoSem.ClaimMapViews
import Derived.JoinedTies
import Derived.KernelRfl
namespace Go.Proofs.YtbighggnfkdncaaGreatDoor
/- THE CELL 'sum', in the pinned program and in every row, IS THE sha256 OF THE DUMP (.gsa) THAT YtbighggnfkdncaaGreatDoorProg.lean LOADS. Nothing in Lean hashes anything: it is a label: what it is worth is what the hold of that sum in a sandbox is worth. -/
noncomputable def Tryz.pinned : Pinned := { name := "ytbighggnfkdncaagreatdoor", sum := "1806f772f6ee91158b6ba5164a2a0e60848425b5e0c183085569bae0544ba811", checked := Tryz.checked }
namespace Rows
def none {H : Type} : Left H := { results := [], args := [] }

/- WHAT THE LISTED PACKAGE-LEVEL VARIABLES READ AS WHEN THE CALL BEGINS. Each datum BY PROGRAM (the guide's laid-datum.mjs) off the statement by which the dump's own 'gosem.cut.vars' lays the variable. In a bare row this is a premise. The card (YtbighggnfkdncaaGreatDoorCards.lean) ties it to the program's text. -/
def laid_hairsbreadth_format_table {H : Type} : DataW H := .agg [.agg [.lit (.int .i64 16), .lit (.int .i64 11), .lit (.int .i64 15)], .agg [.lit (.int .i64 32), .lit (.int .i64 24), .lit (.int .i64 127)], .agg [.lit (.int .i64 64), .lit (.int .i64 53), .lit (.int .i64 1023)], .agg [.lit (.int .i64 128), .lit (.int .i64 113), .lit (.int .i64 16383)]]

/-- 'hairsbreadthlaw22.SqrtAll': WHATEVER THE INPUT: true; the input reads as it did. -/
def sqrtAllSpec : ChangeSpec := { name := "sqrtAll", fn := fun _ => fun
  | [d1, d2, d3] => { results := [.lit (.bool true)], args := [d1, d2, d3] }
  | _ => none }
def sqrtAllRow : OpenClaim := { program := "ytbighggnfkdncaagreatdoor", sum := "1806f772f6ee91158b6ba5164a2a0e60848425b5e0c183085569bae0544ba811", func := "hairsbreadth/hairsbreadthlaw22.SqrtAll", spec := "sqrtAll", inPlace := ["math/bits.Add64"], unfollowed := true, recurses := true, named := ["hairsbreadth/format.table"], apart := false, laid := [("hairsbreadth/format.table", laid_hairsbreadth_format_table)] }
def SqrtAllSaid : Prop := sqrtAllRow.holds Tryz.pinned (OpenSpec.ofChange sqrtAllSpec)

/-- ITS FALSE NEIGHBOUR: 'it returns false'. Refute it at one input. -/
def sqrtAllWrong : ChangeSpec := { name := "sqrtAll", fn := fun _ => fun
  | [d1, d2, d3] => { results := [.lit (.bool false)], args := [d1, d2, d3] }
  | _ => none }
def SqrtAllWrongFalsely : Prop := sqrtAllRow.holds Tryz.pinned (OpenSpec.ofChange sqrtAllWrong)

/-- 'hairsbreadthlaw22.SqrtBetween': WHATEVER THE INPUT: true; the input reads as it did. -/
def sqrtBetweenSpec : ChangeSpec := { name := "sqrtBetween", fn := fun _ => fun
  | [d1, d2, d3] => { results := [.lit (.bool true)], args := [d1, d2, d3] }
  | _ => none }
def sqrtBetweenRow : OpenClaim := { program := "ytbighggnfkdncaagreatdoor", sum := "1806f772f6ee91158b6ba5164a2a0e60848425b5e0c183085569bae0544ba811", func := "hairsbreadth/hairsbreadthlaw22.SqrtBetween", spec := "sqrtBetween", inPlace := ["math/bits.Add64", "math/bits.Sub64"], unfollowed := true, recurses := true, named := ["hairsbreadth/format.table"], apart := false, laid := [("hairsbreadth/format.table", laid_hairsbreadth_format_table)] }
def SqrtBetweenSaid : Prop := sqrtBetweenRow.holds Tryz.pinned (OpenSpec.ofChange sqrtBetweenSpec)

/-- ITS FALSE NEIGHBOUR: 'it returns false'. Refute it at one input. -/
def sqrtBetweenWrong : ChangeSpec := { name := "sqrtBetween", fn := fun _ => fun
  | [d1, d2, d3] => { results := [.lit (.bool false)], args := [d1, d2, d3] }
  | _ => none }
def SqrtBetweenWrongFalsely : Prop := sqrtBetweenRow.holds Tryz.pinned (OpenSpec.ofChange sqrtBetweenWrong)

/-- 'hairsbreadthlaw22.SqrtSquare': WHATEVER THE INPUT: true; the input reads as it did. -/
def sqrtSquareSpec : ChangeSpec := { name := "sqrtSquare", fn := fun _ => fun
  | [d1, d2, d3] => { results := [.lit (.bool true)], args := [d1, d2, d3] }
  | _ => none }
def sqrtSquareRow : OpenClaim := { program := "ytbighggnfkdncaagreatdoor", sum := "1806f772f6ee91158b6ba5164a2a0e60848425b5e0c183085569bae0544ba811", func := "hairsbreadth/hairsbreadthlaw22.SqrtSquare", spec := "sqrtSquare", inPlace := ["math/bits.Add64"], unfollowed := true, recurses := true, named := ["hairsbreadth/format.table"], apart := false, laid := [("hairsbreadth/format.table", laid_hairsbreadth_format_table)] }
def SqrtSquareSaid : Prop := sqrtSquareRow.holds Tryz.pinned (OpenSpec.ofChange sqrtSquareSpec)

/-- ITS FALSE NEIGHBOUR: 'it returns false'. Refute it at one input. -/
def sqrtSquareWrong : ChangeSpec := { name := "sqrtSquare", fn := fun _ => fun
  | [d1, d2, d3] => { results := [.lit (.bool false)], args := [d1, d2, d3] }
  | _ => none }
def SqrtSquareWrongFalsely : Prop := sqrtSquareRow.holds Tryz.pinned (OpenSpec.ofChange sqrtSquareWrong)

/-- 'hairsbreadthlaw22.SqrtOrder': WHATEVER THE INPUT: true; the input reads as it did. -/
def sqrtOrderSpec : ChangeSpec := { name := "sqrtOrder", fn := fun _ => fun
  | [d1, d2, d3, d4] => { results := [.lit (.bool true)], args := [d1, d2, d3, d4] }
  | _ => none }
def sqrtOrderRow : OpenClaim := { program := "ytbighggnfkdncaagreatdoor", sum := "1806f772f6ee91158b6ba5164a2a0e60848425b5e0c183085569bae0544ba811", func := "hairsbreadth/hairsbreadthlaw22.SqrtOrder", spec := "sqrtOrder", inPlace := ["math/bits.Add64"], unfollowed := true, recurses := true, named := ["hairsbreadth/format.table"], apart := false, laid := [("hairsbreadth/format.table", laid_hairsbreadth_format_table)] }
def SqrtOrderSaid : Prop := sqrtOrderRow.holds Tryz.pinned (OpenSpec.ofChange sqrtOrderSpec)

/-- ITS FALSE NEIGHBOUR: 'it returns false'. Refute it at one input. -/
def sqrtOrderWrong : ChangeSpec := { name := "sqrtOrder", fn := fun _ => fun
  | [d1, d2, d3, d4] => { results := [.lit (.bool false)], args := [d1, d2, d3, d4] }
  | _ => none }
def SqrtOrderWrongFalsely : Prop := sqrtOrderRow.holds Tryz.pinned (OpenSpec.ofChange sqrtOrderWrong)

/-- 'hairsbreadthlaw22.SqrtFour': WHATEVER THE INPUT: true; the input reads as it did. -/
def sqrtFourSpec : ChangeSpec := { name := "sqrtFour", fn := fun _ => fun
  | [d1, d2, d3] => { results := [.lit (.bool true)], args := [d1, d2, d3] }
  | _ => none }
def sqrtFourRow : OpenClaim := { program := "ytbighggnfkdncaagreatdoor", sum := "1806f772f6ee91158b6ba5164a2a0e60848425b5e0c183085569bae0544ba811", func := "hairsbreadth/hairsbreadthlaw22.SqrtFour", spec := "sqrtFour", inPlace := ["math/bits.Add64", "math/bits.Sub64"], unfollowed := true, recurses := true, named := ["hairsbreadth/format.table"], apart := false, laid := [("hairsbreadth/format.table", laid_hairsbreadth_format_table)] }
def SqrtFourSaid : Prop := sqrtFourRow.holds Tryz.pinned (OpenSpec.ofChange sqrtFourSpec)

/-- ITS FALSE NEIGHBOUR: 'it returns false'. Refute it at one input. -/
def sqrtFourWrong : ChangeSpec := { name := "sqrtFour", fn := fun _ => fun
  | [d1, d2, d3] => { results := [.lit (.bool false)], args := [d1, d2, d3] }
  | _ => none }
def SqrtFourWrongFalsely : Prop := sqrtFourRow.holds Tryz.pinned (OpenSpec.ofChange sqrtFourWrong)

/-- 'hairsbreadthlaw22.SqrtNegative': WHATEVER THE INPUT: true; the input reads as it did. -/
def sqrtNegativeSpec : ChangeSpec := { name := "sqrtNegative", fn := fun _ => fun
  | [d1, d2, d3] => { results := [.lit (.bool true)], args := [d1, d2, d3] }
  | _ => none }
def sqrtNegativeRow : OpenClaim := { program := "ytbighggnfkdncaagreatdoor", sum := "1806f772f6ee91158b6ba5164a2a0e60848425b5e0c183085569bae0544ba811", func := "hairsbreadth/hairsbreadthlaw22.SqrtNegative", spec := "sqrtNegative", inPlace := ["math/bits.Add64"], unfollowed := true, recurses := true, named := ["hairsbreadth/format.table"], apart := false, laid := [("hairsbreadth/format.table", laid_hairsbreadth_format_table)] }
def SqrtNegativeSaid : Prop := sqrtNegativeRow.holds Tryz.pinned (OpenSpec.ofChange sqrtNegativeSpec)

/-- ITS FALSE NEIGHBOUR: 'it returns false'. Refute it at one input. -/
def sqrtNegativeWrong : ChangeSpec := { name := "sqrtNegative", fn := fun _ => fun
  | [d1, d2, d3] => { results := [.lit (.bool false)], args := [d1, d2, d3] }
  | _ => none }
def SqrtNegativeWrongFalsely : Prop := sqrtNegativeRow.holds Tryz.pinned (OpenSpec.ofChange sqrtNegativeWrong)

/-- 'hairsbreadthlaw22.SqrtKnown': WHATEVER THE INPUT: true; the input reads as it did. -/
def sqrtKnownSpec : ChangeSpec := { name := "sqrtKnown", fn := fun _ => fun
  | [] => { results := [.lit (.bool true)], args := [] }
  | _ => none }
def sqrtKnownRow : OpenClaim := { program := "ytbighggnfkdncaagreatdoor", sum := "1806f772f6ee91158b6ba5164a2a0e60848425b5e0c183085569bae0544ba811", func := "hairsbreadth/hairsbreadthlaw22.SqrtKnown", spec := "sqrtKnown", inPlace := ["math/bits.Add64"], unfollowed := true, recurses := true, named := ["hairsbreadth/format.table"], apart := false, laid := [("hairsbreadth/format.table", laid_hairsbreadth_format_table)] }
def SqrtKnownSaid : Prop := sqrtKnownRow.holds Tryz.pinned (OpenSpec.ofChange sqrtKnownSpec)

/-- ITS FALSE NEIGHBOUR: 'it returns false'. Refute it at one input. -/
def sqrtKnownWrong : ChangeSpec := { name := "sqrtKnown", fn := fun _ => fun
  | [] => { results := [.lit (.bool false)], args := [] }
  | _ => none }
def SqrtKnownWrongFalsely : Prop := sqrtKnownRow.holds Tryz.pinned (OpenSpec.ofChange sqrtKnownWrong)

/- THE SECOND FORM. 'bulk': how many values and letters a reading holds, each counted each time it is reached (what is shared counts as often as it is met; a slice's spare places count too). A statement '..UptoSaid' is the law's where the arguments, and the package variables that the reading takes, are together of bulk at most 1048576: NARROWER than '..Said'. Prove '..Said' where nothing that the law and all that it calls make is longer than what came in: it says more and counts as full. Else prove '..UptoSaid'. A law counts once. -/
mutual
def uptoBulk {H : Type} : DataW H → Nat
  | .lit (.string bytes) => bytes.length + 1
  | .lit _ => 1
  | .nil => 1
  | .ptr d => uptoBulk d + 1
  | .slice elems spare => uptoBulkAll elems + uptoBulkAll spare + 1
  | .agg parts => uptoBulkAll parts + 1
  | .iface _ d => uptoBulk d + 1
  | .map entries => uptoBulkEntries entries + 1
  | .held _ => 1
def uptoBulkAll {H : Type} : List (DataW H) → Nat
  | [] => 0
  | d :: r => uptoBulk d + uptoBulkAll r
def uptoBulkEntries {H : Type} : List (Lit × DataW H) → Nat
  | [] => 0
  | x :: r => uptoBulkEntry x + uptoBulkEntries r
def uptoBulkEntry {H : Type} : Lit × DataW H → Nat
  | (.string bytes, d) => bytes.length + uptoBulk d + 1
  | (_, d) => uptoBulk d + 1
 end
def uptoSmall : (H : Type) → List (DataW H) → Bool := fun _ ds => decide (uptoBulkAll ds ≤ 1048576)
def OpenSpec.upto (s : _root_.Go.ChangeSpec) : _root_.Go.OpenSpec := { _root_.Go.OpenSpec.ofChange s with cond := some uptoSmall }

/-- 'hairsbreadthlaw22.SqrtAll', WHERE WHAT IT READS IS OF BULK AT MOST 1048576: true; the input reads as it did. -/
def sqrtAllUptoRow : OpenClaim := { program := "ytbighggnfkdncaagreatdoor", sum := "1806f772f6ee91158b6ba5164a2a0e60848425b5e0c183085569bae0544ba811", func := "hairsbreadth/hairsbreadthlaw22.SqrtAll", spec := "sqrtAll", inPlace := ["math/bits.Add64"], unfollowed := true, recurses := true, named := ["hairsbreadth/format.table"], apart := false, laid := [("hairsbreadth/format.table", laid_hairsbreadth_format_table)], narrowed := true }
def SqrtAllUptoSaid : Prop := sqrtAllUptoRow.holds Tryz.pinned (OpenSpec.upto sqrtAllSpec)

/-- 'hairsbreadthlaw22.SqrtBetween', WHERE WHAT IT READS IS OF BULK AT MOST 1048576: true; the input reads as it did. -/
def sqrtBetweenUptoRow : OpenClaim := { program := "ytbighggnfkdncaagreatdoor", sum := "1806f772f6ee91158b6ba5164a2a0e60848425b5e0c183085569bae0544ba811", func := "hairsbreadth/hairsbreadthlaw22.SqrtBetween", spec := "sqrtBetween", inPlace := ["math/bits.Add64", "math/bits.Sub64"], unfollowed := true, recurses := true, named := ["hairsbreadth/format.table"], apart := false, laid := [("hairsbreadth/format.table", laid_hairsbreadth_format_table)], narrowed := true }
def SqrtBetweenUptoSaid : Prop := sqrtBetweenUptoRow.holds Tryz.pinned (OpenSpec.upto sqrtBetweenSpec)

/-- 'hairsbreadthlaw22.SqrtSquare', WHERE WHAT IT READS IS OF BULK AT MOST 1048576: true; the input reads as it did. -/
def sqrtSquareUptoRow : OpenClaim := { program := "ytbighggnfkdncaagreatdoor", sum := "1806f772f6ee91158b6ba5164a2a0e60848425b5e0c183085569bae0544ba811", func := "hairsbreadth/hairsbreadthlaw22.SqrtSquare", spec := "sqrtSquare", inPlace := ["math/bits.Add64"], unfollowed := true, recurses := true, named := ["hairsbreadth/format.table"], apart := false, laid := [("hairsbreadth/format.table", laid_hairsbreadth_format_table)], narrowed := true }
def SqrtSquareUptoSaid : Prop := sqrtSquareUptoRow.holds Tryz.pinned (OpenSpec.upto sqrtSquareSpec)

/-- 'hairsbreadthlaw22.SqrtOrder', WHERE WHAT IT READS IS OF BULK AT MOST 1048576: true; the input reads as it did. -/
def sqrtOrderUptoRow : OpenClaim := { program := "ytbighggnfkdncaagreatdoor", sum := "1806f772f6ee91158b6ba5164a2a0e60848425b5e0c183085569bae0544ba811", func := "hairsbreadth/hairsbreadthlaw22.SqrtOrder", spec := "sqrtOrder", inPlace := ["math/bits.Add64"], unfollowed := true, recurses := true, named := ["hairsbreadth/format.table"], apart := false, laid := [("hairsbreadth/format.table", laid_hairsbreadth_format_table)], narrowed := true }
def SqrtOrderUptoSaid : Prop := sqrtOrderUptoRow.holds Tryz.pinned (OpenSpec.upto sqrtOrderSpec)

/-- 'hairsbreadthlaw22.SqrtFour', WHERE WHAT IT READS IS OF BULK AT MOST 1048576: true; the input reads as it did. -/
def sqrtFourUptoRow : OpenClaim := { program := "ytbighggnfkdncaagreatdoor", sum := "1806f772f6ee91158b6ba5164a2a0e60848425b5e0c183085569bae0544ba811", func := "hairsbreadth/hairsbreadthlaw22.SqrtFour", spec := "sqrtFour", inPlace := ["math/bits.Add64", "math/bits.Sub64"], unfollowed := true, recurses := true, named := ["hairsbreadth/format.table"], apart := false, laid := [("hairsbreadth/format.table", laid_hairsbreadth_format_table)], narrowed := true }
def SqrtFourUptoSaid : Prop := sqrtFourUptoRow.holds Tryz.pinned (OpenSpec.upto sqrtFourSpec)

/-- 'hairsbreadthlaw22.SqrtNegative', WHERE WHAT IT READS IS OF BULK AT MOST 1048576: true; the input reads as it did. -/
def sqrtNegativeUptoRow : OpenClaim := { program := "ytbighggnfkdncaagreatdoor", sum := "1806f772f6ee91158b6ba5164a2a0e60848425b5e0c183085569bae0544ba811", func := "hairsbreadth/hairsbreadthlaw22.SqrtNegative", spec := "sqrtNegative", inPlace := ["math/bits.Add64"], unfollowed := true, recurses := true, named := ["hairsbreadth/format.table"], apart := false, laid := [("hairsbreadth/format.table", laid_hairsbreadth_format_table)], narrowed := true }
def SqrtNegativeUptoSaid : Prop := sqrtNegativeUptoRow.holds Tryz.pinned (OpenSpec.upto sqrtNegativeSpec)

/-- 'hairsbreadthlaw22.SqrtKnown', WHERE WHAT IT READS IS OF BULK AT MOST 1048576: true; the input reads as it did. -/
def sqrtKnownUptoRow : OpenClaim := { program := "ytbighggnfkdncaagreatdoor", sum := "1806f772f6ee91158b6ba5164a2a0e60848425b5e0c183085569bae0544ba811", func := "hairsbreadth/hairsbreadthlaw22.SqrtKnown", spec := "sqrtKnown", inPlace := ["math/bits.Add64"], unfollowed := true, recurses := true, named := ["hairsbreadth/format.table"], apart := false, laid := [("hairsbreadth/format.table", laid_hairsbreadth_format_table)], narrowed := true }
def SqrtKnownUptoSaid : Prop := sqrtKnownUptoRow.holds Tryz.pinned (OpenSpec.upto sqrtKnownSpec)

end Rows
end Go.Proofs.YtbighggnfkdncaaGreatDoor
