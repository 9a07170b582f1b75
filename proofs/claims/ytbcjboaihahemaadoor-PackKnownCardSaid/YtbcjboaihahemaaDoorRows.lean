/-
  NARROWER THAN 'FOR EVERY INPUT', by the rows' own cells (each row's printed sentence says how): PackNeighbours: laid · PackJam: laid · PackMirror: laid · PackOrder: laid · PackTiny: laid · PackKnown: laid.
  DERIVED. THE GIVEN ROWS OF THIS SEAT. 6 by the template 'for every input the law returns true; each argument reads behind the call as it read before'; 0 by the template 'total and deterministic' (their statements: YtbcjboaihahemaaDoorTotals.lean).
  GIVEN WITH THE SEED: the statements are not yours to turn. If you find one false, say at which input.
  Laid BY PROGRAM, IN A SANDBOX (cutbox-rows.mjs): the forced cells as the released guide's own fill.sh prints them over the translation d9708d3751492f53… (all of the seat's roots in one cut). By AI agents, Wed Nov 11 2026. No macro, syntax, notation, axiom, sorry.
-/
import Derived.Test.YtbcjboaihahemaaDoorChecked
import GoSem.Claim
import GoSem.ClaimJoined
import GoSem.ClaimMapViews
import Derived.JoinedTies
import Derived.KernelRfl
namespace Go.Proofs.YtbcjboaihahemaaDoor
/- THE CELL 'sum', in the pinned program and in every row, IS THE sha256 OF THE DUMP (.gsa) THAT YtbcjboaihahemaaDoorProg.lean LOADS. Nothing in Lean hashes anything: it is a label: what it is worth is what the hold of that sum in a sandbox is worth. -/
noncomputable def Tryd.pinned : Pinned := { name := "ytbcjboaihahemaadoor", sum := "d9708d3751492f5327a53f8426f5c2b01d29eeddfcb5476ab4c20e5ef5fdf394", checked := Tryd.checked }
namespace Rows
def none {H : Type} : Left H := { results := [], args := [] }

/- WHAT THE LISTED PACKAGE-LEVEL VARIABLES READ AS WHEN THE CALL BEGINS. Each datum BY PROGRAM (the guide's laid-datum.mjs) off the statement by which the dump's own 'gosem.cut.vars' lays the variable. In a bare row this is a premise. The card (YtbcjboaihahemaaDoorCards.lean) ties it to the program's text. -/
def laid_hairsbreadth_format_table {H : Type} : DataW H := .agg [.agg [.lit (.int .i64 16), .lit (.int .i64 11), .lit (.int .i64 15)], .agg [.lit (.int .i64 32), .lit (.int .i64 24), .lit (.int .i64 127)], .agg [.lit (.int .i64 64), .lit (.int .i64 53), .lit (.int .i64 1023)], .agg [.lit (.int .i64 128), .lit (.int .i64 113), .lit (.int .i64 16383)]]

/-- 'hairsbreadthlaw16.PackNeighbours': WHATEVER THE INPUT: true; the input reads as it did. -/
def packNeighboursSpec : ChangeSpec := { name := "packNeighbours", fn := fun _ => fun
  | [d1, d2, d3, d4] => { results := [.lit (.bool true)], args := [d1, d2, d3, d4] }
  | _ => none }
def packNeighboursRow : OpenClaim := { program := "ytbcjboaihahemaadoor", sum := "d9708d3751492f5327a53f8426f5c2b01d29eeddfcb5476ab4c20e5ef5fdf394", func := "hairsbreadth/hairsbreadthlaw16.PackNeighbours", spec := "packNeighbours", inPlace := ["math/bits.Add64"], unfollowed := true, recurses := true, named := ["hairsbreadth/format.table"], apart := false, laid := [("hairsbreadth/format.table", laid_hairsbreadth_format_table)] }
def PackNeighboursSaid : Prop := packNeighboursRow.holds Tryd.pinned (OpenSpec.ofChange packNeighboursSpec)

/-- ITS FALSE NEIGHBOUR: 'it returns false'. Refute it at one input. -/
def packNeighboursWrong : ChangeSpec := { name := "packNeighbours", fn := fun _ => fun
  | [d1, d2, d3, d4] => { results := [.lit (.bool false)], args := [d1, d2, d3, d4] }
  | _ => none }
def PackNeighboursWrongFalsely : Prop := packNeighboursRow.holds Tryd.pinned (OpenSpec.ofChange packNeighboursWrong)

/-- 'hairsbreadthlaw16.PackJam': WHATEVER THE INPUT: true; the input reads as it did. -/
def packJamSpec : ChangeSpec := { name := "packJam", fn := fun _ => fun
  | [d1, d2, d3, d4, d5, d6] => { results := [.lit (.bool true)], args := [d1, d2, d3, d4, d5, d6] }
  | _ => none }
def packJamRow : OpenClaim := { program := "ytbcjboaihahemaadoor", sum := "d9708d3751492f5327a53f8426f5c2b01d29eeddfcb5476ab4c20e5ef5fdf394", func := "hairsbreadth/hairsbreadthlaw16.PackJam", spec := "packJam", inPlace := ["math/bits.Add64"], unfollowed := true, recurses := true, named := ["hairsbreadth/format.table"], apart := false, laid := [("hairsbreadth/format.table", laid_hairsbreadth_format_table)] }
def PackJamSaid : Prop := packJamRow.holds Tryd.pinned (OpenSpec.ofChange packJamSpec)

/-- ITS FALSE NEIGHBOUR: 'it returns false'. Refute it at one input. -/
def packJamWrong : ChangeSpec := { name := "packJam", fn := fun _ => fun
  | [d1, d2, d3, d4, d5, d6] => { results := [.lit (.bool false)], args := [d1, d2, d3, d4, d5, d6] }
  | _ => none }
def PackJamWrongFalsely : Prop := packJamRow.holds Tryd.pinned (OpenSpec.ofChange packJamWrong)

/-- 'hairsbreadthlaw16.PackMirror': WHATEVER THE INPUT: true; the input reads as it did. -/
def packMirrorSpec : ChangeSpec := { name := "packMirror", fn := fun _ => fun
  | [d1, d2, d3, d4] => { results := [.lit (.bool true)], args := [d1, d2, d3, d4] }
  | _ => none }
def packMirrorRow : OpenClaim := { program := "ytbcjboaihahemaadoor", sum := "d9708d3751492f5327a53f8426f5c2b01d29eeddfcb5476ab4c20e5ef5fdf394", func := "hairsbreadth/hairsbreadthlaw16.PackMirror", spec := "packMirror", inPlace := ["math/bits.Add64"], unfollowed := true, recurses := true, named := ["hairsbreadth/format.table"], apart := false, laid := [("hairsbreadth/format.table", laid_hairsbreadth_format_table)] }
def PackMirrorSaid : Prop := packMirrorRow.holds Tryd.pinned (OpenSpec.ofChange packMirrorSpec)

/-- ITS FALSE NEIGHBOUR: 'it returns false'. Refute it at one input. -/
def packMirrorWrong : ChangeSpec := { name := "packMirror", fn := fun _ => fun
  | [d1, d2, d3, d4] => { results := [.lit (.bool false)], args := [d1, d2, d3, d4] }
  | _ => none }
def PackMirrorWrongFalsely : Prop := packMirrorRow.holds Tryd.pinned (OpenSpec.ofChange packMirrorWrong)

/-- 'hairsbreadthlaw16.PackOrder': WHATEVER THE INPUT: true; the input reads as it did. -/
def packOrderSpec : ChangeSpec := { name := "packOrder", fn := fun _ => fun
  | [d1, d2, d3, d4, d5, d6] => { results := [.lit (.bool true)], args := [d1, d2, d3, d4, d5, d6] }
  | _ => none }
def packOrderRow : OpenClaim := { program := "ytbcjboaihahemaadoor", sum := "d9708d3751492f5327a53f8426f5c2b01d29eeddfcb5476ab4c20e5ef5fdf394", func := "hairsbreadth/hairsbreadthlaw16.PackOrder", spec := "packOrder", inPlace := ["math/bits.Add64"], unfollowed := true, recurses := true, named := ["hairsbreadth/format.table"], apart := false, laid := [("hairsbreadth/format.table", laid_hairsbreadth_format_table)] }
def PackOrderSaid : Prop := packOrderRow.holds Tryd.pinned (OpenSpec.ofChange packOrderSpec)

/-- ITS FALSE NEIGHBOUR: 'it returns false'. Refute it at one input. -/
def packOrderWrong : ChangeSpec := { name := "packOrder", fn := fun _ => fun
  | [d1, d2, d3, d4, d5, d6] => { results := [.lit (.bool false)], args := [d1, d2, d3, d4, d5, d6] }
  | _ => none }
def PackOrderWrongFalsely : Prop := packOrderRow.holds Tryd.pinned (OpenSpec.ofChange packOrderWrong)

/-- 'hairsbreadthlaw16.PackTiny': WHATEVER THE INPUT: true; the input reads as it did. -/
def packTinySpec : ChangeSpec := { name := "packTiny", fn := fun _ => fun
  | [d1, d2, d3, d4, d5] => { results := [.lit (.bool true)], args := [d1, d2, d3, d4, d5] }
  | _ => none }
def packTinyRow : OpenClaim := { program := "ytbcjboaihahemaadoor", sum := "d9708d3751492f5327a53f8426f5c2b01d29eeddfcb5476ab4c20e5ef5fdf394", func := "hairsbreadth/hairsbreadthlaw16.PackTiny", spec := "packTiny", inPlace := ["math/bits.Add64", "math/bits.Sub64"], unfollowed := true, recurses := true, named := ["hairsbreadth/format.table"], apart := false, laid := [("hairsbreadth/format.table", laid_hairsbreadth_format_table)] }
def PackTinySaid : Prop := packTinyRow.holds Tryd.pinned (OpenSpec.ofChange packTinySpec)

/-- ITS FALSE NEIGHBOUR: 'it returns false'. Refute it at one input. -/
def packTinyWrong : ChangeSpec := { name := "packTiny", fn := fun _ => fun
  | [d1, d2, d3, d4, d5] => { results := [.lit (.bool false)], args := [d1, d2, d3, d4, d5] }
  | _ => none }
def PackTinyWrongFalsely : Prop := packTinyRow.holds Tryd.pinned (OpenSpec.ofChange packTinyWrong)

/-- 'hairsbreadthlaw16.PackKnown': WHATEVER THE INPUT: true; the input reads as it did. -/
def packKnownSpec : ChangeSpec := { name := "packKnown", fn := fun _ => fun
  | [] => { results := [.lit (.bool true)], args := [] }
  | _ => none }
def packKnownRow : OpenClaim := { program := "ytbcjboaihahemaadoor", sum := "d9708d3751492f5327a53f8426f5c2b01d29eeddfcb5476ab4c20e5ef5fdf394", func := "hairsbreadth/hairsbreadthlaw16.PackKnown", spec := "packKnown", inPlace := ["math/bits.Add64"], unfollowed := true, recurses := true, named := ["hairsbreadth/format.table"], apart := false, laid := [("hairsbreadth/format.table", laid_hairsbreadth_format_table)] }
def PackKnownSaid : Prop := packKnownRow.holds Tryd.pinned (OpenSpec.ofChange packKnownSpec)

/-- ITS FALSE NEIGHBOUR: 'it returns false'. Refute it at one input. -/
def packKnownWrong : ChangeSpec := { name := "packKnown", fn := fun _ => fun
  | [] => { results := [.lit (.bool false)], args := [] }
  | _ => none }
def PackKnownWrongFalsely : Prop := packKnownRow.holds Tryd.pinned (OpenSpec.ofChange packKnownWrong)

/- THE SECOND FORM. 'bulk': how many values and letters a reading holds, each counted each time it is reached (what is shared counts as often as it is met; a slice's spare places count too). A statement '..UptoSaid' is the law's where the arguments, and the package variables that the reading takes, are together of bulk at most 1048576: NARROWER than '..Said'. Prove '..Said' where nothing that the law and all that it calls make is longer than what came in: it says more and counts as full. Else prove '..UptoSaid'. A law counts once. -/
mutual
def uptoBulk {H : Type} : DataW H → Nat
  | .lit (.string bytes) => bytes.length + 1
  | .lit _ => 1
  | .nil => 1
  | .ptr d => uptoBulk d + 1
  | .slice elems spare => uptoBulkAll elems + uptoBulkAll spare + 1
  | .agg parts => uptoBulkAll parts + 1
  | .iface _ d => uptoBulk d + 1
  | .map entries => uptoBulkEntries entries + 1
  | .held _ => 1
def uptoBulkAll {H : Type} : List (DataW H) → Nat
  | [] => 0
  | d :: r => uptoBulk d + uptoBulkAll r
def uptoBulkEntries {H : Type} : List (Lit × DataW H) → Nat
  | [] => 0
  | x :: r => uptoBulkEntry x + uptoBulkEntries r
def uptoBulkEntry {H : Type} : Lit × DataW H → Nat
  | (.string bytes, d) => bytes.length + uptoBulk d + 1
  | (_, d) => uptoBulk d + 1
 end
def uptoSmall : (H : Type) → List (DataW H) → Bool := fun _ ds => decide (uptoBulkAll ds ≤ 1048576)
def OpenSpec.upto (s : _root_.Go.ChangeSpec) : _root_.Go.OpenSpec := { _root_.Go.OpenSpec.ofChange s with cond := some uptoSmall }

/-- 'hairsbreadthlaw16.PackNeighbours', WHERE WHAT IT READS IS OF BULK AT MOST 1048576: true; the input reads as it did. -/
def packNeighboursUptoRow : OpenClaim := { program := "ytbcjboaihahemaadoor", sum := "d9708d3751492f5327a53f8426f5c2b01d29eeddfcb5476ab4c20e5ef5fdf394", func := "hairsbreadth/hairsbreadthlaw16.PackNeighbours", spec := "packNeighbours", inPlace := ["math/bits.Add64"], unfollowed := true, recurses := true, named := ["hairsbreadth/format.table"], apart := false, laid := [("hairsbreadth/format.table", laid_hairsbreadth_format_table)], narrowed := true }
def PackNeighboursUptoSaid : Prop := packNeighboursUptoRow.holds Tryd.pinned (OpenSpec.upto packNeighboursSpec)

/-- 'hairsbreadthlaw16.PackJam', WHERE WHAT IT READS IS OF BULK AT MOST 1048576: true; the input reads as it did. -/
def packJamUptoRow : OpenClaim := { program := "ytbcjboaihahemaadoor", sum := "d9708d3751492f5327a53f8426f5c2b01d29eeddfcb5476ab4c20e5ef5fdf394", func := "hairsbreadth/hairsbreadthlaw16.PackJam", spec := "packJam", inPlace := ["math/bits.Add64"], unfollowed := true, recurses := true, named := ["hairsbreadth/format.table"], apart := false, laid := [("hairsbreadth/format.table", laid_hairsbreadth_format_table)], narrowed := true }
def PackJamUptoSaid : Prop := packJamUptoRow.holds Tryd.pinned (OpenSpec.upto packJamSpec)

/-- 'hairsbreadthlaw16.PackMirror', WHERE WHAT IT READS IS OF BULK AT MOST 1048576: true; the input reads as it did. -/
def packMirrorUptoRow : OpenClaim := { program := "ytbcjboaihahemaadoor", sum := "d9708d3751492f5327a53f8426f5c2b01d29eeddfcb5476ab4c20e5ef5fdf394", func := "hairsbreadth/hairsbreadthlaw16.PackMirror", spec := "packMirror", inPlace := ["math/bits.Add64"], unfollowed := true, recurses := true, named := ["hairsbreadth/format.table"], apart := false, laid := [("hairsbreadth/format.table", laid_hairsbreadth_format_table)], narrowed := true }
def PackMirrorUptoSaid : Prop := packMirrorUptoRow.holds Tryd.pinned (OpenSpec.upto packMirrorSpec)

/-- 'hairsbreadthlaw16.PackOrder', WHERE WHAT IT READS IS OF BULK AT MOST 1048576: true; the input reads as it did. -/
def packOrderUptoRow : OpenClaim := { program := "ytbcjboaihahemaadoor", sum := "d9708d3751492f5327a53f8426f5c2b01d29eeddfcb5476ab4c20e5ef5fdf394", func := "hairsbreadth/hairsbreadthlaw16.PackOrder", spec := "packOrder", inPlace := ["math/bits.Add64"], unfollowed := true, recurses := true, named := ["hairsbreadth/format.table"], apart := false, laid := [("hairsbreadth/format.table", laid_hairsbreadth_format_table)], narrowed := true }
def PackOrderUptoSaid : Prop := packOrderUptoRow.holds Tryd.pinned (OpenSpec.upto packOrderSpec)

/-- 'hairsbreadthlaw16.PackTiny', WHERE WHAT IT READS IS OF BULK AT MOST 1048576: true; the input reads as it did. -/
def packTinyUptoRow : OpenClaim := { program := "ytbcjboaihahemaadoor", sum := "d9708d3751492f5327a53f8426f5c2b01d29eeddfcb5476ab4c20e5ef5fdf394", func := "hairsbreadth/hairsbreadthlaw16.PackTiny", spec := "packTiny", inPlace := ["math/bits.Add64", "math/bits.Sub64"], unfollowed := true, recurses := true, named := ["hairsbreadth/format.table"], apart := false, laid := [("hairsbreadth/format.table", laid_hairsbreadth_format_table)], narrowed := true }
def PackTinyUptoSaid : Prop := packTinyUptoRow.holds Tryd.pinned (OpenSpec.upto packTinySpec)

/-- 'hairsbreadthlaw16.PackKnown', WHERE WHAT IT READS IS OF BULK AT MOST 1048576: true; the input reads as it did. -/
def packKnownUptoRow : OpenClaim := { program := "ytbcjboaihahemaadoor", sum := "d9708d3751492f5327a53f8426f5c2b01d29eeddfcb5476ab4c20e5ef5fdf394", func := "hairsbreadth/hairsbreadthlaw16.PackKnown", spec := "packKnown", inPlace := ["math/bits.Add64"], unfollowed := true, recurses := true, named := ["hairsbreadth/format.table"], apart := false, laid := [("hairsbreadth/format.table", laid_hairsbreadth_format_table)], narrowed := true }
def PackKnownUptoSaid : Prop := packKnownUptoRow.holds Tryd.pinned (OpenSpec.upto packKnownSpec)

end Rows
end Go.Proofs.YtbcjboaihahemaaDoor
