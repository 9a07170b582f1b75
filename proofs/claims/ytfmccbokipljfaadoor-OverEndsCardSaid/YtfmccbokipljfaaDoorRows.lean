/-
  NARROWER THAN 'FOR EVERY INPUT', by the rows' own cells (each row's printed sentence says how): OverEnds: laid · OverMirror: laid · OverNeighbours: laid · OverReach: laid · OverKnown: laid.
  DERIVED. THE GIVEN ROWS OF THIS SEAT. 5 by the template 'for every input the law returns true; each argument reads behind the call as it read before'; 0 by the template 'total and deterministic' (their statements: YtfmccbokipljfaaDoorTotals.lean).
  GIVEN WITH THE SEED: the statements are not yours to turn. If you find one false, say at which input.
  Laid BY PROGRAM, IN A SANDBOX (cutbox-rows.mjs): the forced cells as the released guide's own fill.sh prints them over the translation ab167c2cb3201e2a… (all of the seat's roots in one cut). By AI agents, Wed Nov 11 2026. No macro, syntax, notation, axiom, sorry.
-/
import Derived.Test.YtfmccbokipljfaaDoorChecked
import GoSem.Claim
import GoSem.ClaimJoined
import GoSem.ClaimMapViews
import Derived.JoinedTies
import Derived.KernelRfl
namespace Go.Proofs.YtfmccbokipljfaaDoor
/- THE CELL 'sum', in the pinned program and in every row, IS THE sha256 OF THE DUMP (.gsa) THAT YtfmccbokipljfaaDoorProg.lean LOADS. Nothing in Lean hashes anything: it is a label: what it is worth is what the hold of that sum in a sandbox is worth. -/
noncomputable def Tryd.pinned : Pinned := { name := "ytfmccbokipljfaadoor", sum := "ab167c2cb3201e2ab8e28278ddcfd7e22f7f1cc86982c4b6e32c381cc7f0961c", checked := Tryd.checked }
namespace Rows
def none {H : Type} : Left H := { results := [], args := [] }

/- WHAT THE LISTED PACKAGE-LEVEL VARIABLES READ AS WHEN THE CALL BEGINS. Each datum BY PROGRAM (the guide's laid-datum.mjs) off the statement by which the dump's own 'gosem.cut.vars' lays the variable. In a bare row this is a premise. The card (YtfmccbokipljfaaDoorCards.lean) ties it to the program's text. -/
def laid_hairsbreadth_format_table {H : Type} : DataW H := .agg [.agg [.lit (.int .i64 16), .lit (.int .i64 11), .lit (.int .i64 15)], .agg [.lit (.int .i64 32), .lit (.int .i64 24), .lit (.int .i64 127)], .agg [.lit (.int .i64 64), .lit (.int .i64 53), .lit (.int .i64 1023)], .agg [.lit (.int .i64 128), .lit (.int .i64 113), .lit (.int .i64 16383)]]

/-- 'hairsbreadthlaw14.OverEnds': WHATEVER THE INPUT: true; the input reads as it did. -/
def overEndsSpec : ChangeSpec := { name := "overEnds", fn := fun _ => fun
  | [d1, d2, d3, d4] => { results := [.lit (.bool true)], args := [d1, d2, d3, d4] }
  | _ => none }
def overEndsRow : OpenClaim := { program := "ytfmccbokipljfaadoor", sum := "ab167c2cb3201e2ab8e28278ddcfd7e22f7f1cc86982c4b6e32c381cc7f0961c", func := "hairsbreadth/hairsbreadthlaw14.OverEnds", spec := "overEnds", unfollowed := true, recurses := true, named := ["hairsbreadth/format.table"], apart := false, laid := [("hairsbreadth/format.table", laid_hairsbreadth_format_table)] }
def OverEndsSaid : Prop := overEndsRow.holds Tryd.pinned (OpenSpec.ofChange overEndsSpec)

/-- ITS FALSE NEIGHBOUR: 'it returns false'. Refute it at one input. -/
def overEndsWrong : ChangeSpec := { name := "overEnds", fn := fun _ => fun
  | [d1, d2, d3, d4] => { results := [.lit (.bool false)], args := [d1, d2, d3, d4] }
  | _ => none }
def OverEndsWrongFalsely : Prop := overEndsRow.holds Tryd.pinned (OpenSpec.ofChange overEndsWrong)

/-- 'hairsbreadthlaw14.OverMirror': WHATEVER THE INPUT: true; the input reads as it did. -/
def overMirrorSpec : ChangeSpec := { name := "overMirror", fn := fun _ => fun
  | [d1, d2] => { results := [.lit (.bool true)], args := [d1, d2] }
  | _ => none }
def overMirrorRow : OpenClaim := { program := "ytfmccbokipljfaadoor", sum := "ab167c2cb3201e2ab8e28278ddcfd7e22f7f1cc86982c4b6e32c381cc7f0961c", func := "hairsbreadth/hairsbreadthlaw14.OverMirror", spec := "overMirror", unfollowed := true, recurses := true, named := ["hairsbreadth/format.table"], apart := false, laid := [("hairsbreadth/format.table", laid_hairsbreadth_format_table)] }
def OverMirrorSaid : Prop := overMirrorRow.holds Tryd.pinned (OpenSpec.ofChange overMirrorSpec)

/-- ITS FALSE NEIGHBOUR: 'it returns false'. Refute it at one input. -/
def overMirrorWrong : ChangeSpec := { name := "overMirror", fn := fun _ => fun
  | [d1, d2] => { results := [.lit (.bool false)], args := [d1, d2] }
  | _ => none }
def OverMirrorWrongFalsely : Prop := overMirrorRow.holds Tryd.pinned (OpenSpec.ofChange overMirrorWrong)

/-- 'hairsbreadthlaw14.OverNeighbours': WHATEVER THE INPUT: true; the input reads as it did. -/
def overNeighboursSpec : ChangeSpec := { name := "overNeighbours", fn := fun _ => fun
  | [d1, d2] => { results := [.lit (.bool true)], args := [d1, d2] }
  | _ => none }
def overNeighboursRow : OpenClaim := { program := "ytfmccbokipljfaadoor", sum := "ab167c2cb3201e2ab8e28278ddcfd7e22f7f1cc86982c4b6e32c381cc7f0961c", func := "hairsbreadth/hairsbreadthlaw14.OverNeighbours", spec := "overNeighbours", inPlace := ["math/bits.Sub64", "math/bits.Add64"], unfollowed := true, recurses := true, named := ["hairsbreadth/format.table"], apart := false, laid := [("hairsbreadth/format.table", laid_hairsbreadth_format_table)] }
def OverNeighboursSaid : Prop := overNeighboursRow.holds Tryd.pinned (OpenSpec.ofChange overNeighboursSpec)

/-- ITS FALSE NEIGHBOUR: 'it returns false'. Refute it at one input. -/
def overNeighboursWrong : ChangeSpec := { name := "overNeighbours", fn := fun _ => fun
  | [d1, d2] => { results := [.lit (.bool false)], args := [d1, d2] }
  | _ => none }
def OverNeighboursWrongFalsely : Prop := overNeighboursRow.holds Tryd.pinned (OpenSpec.ofChange overNeighboursWrong)

/-- 'hairsbreadthlaw14.OverReach': WHATEVER THE INPUT: true; the input reads as it did. -/
def overReachSpec : ChangeSpec := { name := "overReach", fn := fun _ => fun
  | [d1, d2] => { results := [.lit (.bool true)], args := [d1, d2] }
  | _ => none }
def overReachRow : OpenClaim := { program := "ytfmccbokipljfaadoor", sum := "ab167c2cb3201e2ab8e28278ddcfd7e22f7f1cc86982c4b6e32c381cc7f0961c", func := "hairsbreadth/hairsbreadthlaw14.OverReach", spec := "overReach", inPlace := ["math/bits.Add64"], unfollowed := true, recurses := true, named := ["hairsbreadth/format.table"], apart := false, laid := [("hairsbreadth/format.table", laid_hairsbreadth_format_table)] }
def OverReachSaid : Prop := overReachRow.holds Tryd.pinned (OpenSpec.ofChange overReachSpec)

/-- ITS FALSE NEIGHBOUR: 'it returns false'. Refute it at one input. -/
def overReachWrong : ChangeSpec := { name := "overReach", fn := fun _ => fun
  | [d1, d2] => { results := [.lit (.bool false)], args := [d1, d2] }
  | _ => none }
def OverReachWrongFalsely : Prop := overReachRow.holds Tryd.pinned (OpenSpec.ofChange overReachWrong)

/-- 'hairsbreadthlaw14.OverKnown': WHATEVER THE INPUT: true; the input reads as it did. -/
def overKnownSpec : ChangeSpec := { name := "overKnown", fn := fun _ => fun
  | [] => { results := [.lit (.bool true)], args := [] }
  | _ => none }
def overKnownRow : OpenClaim := { program := "ytfmccbokipljfaadoor", sum := "ab167c2cb3201e2ab8e28278ddcfd7e22f7f1cc86982c4b6e32c381cc7f0961c", func := "hairsbreadth/hairsbreadthlaw14.OverKnown", spec := "overKnown", unfollowed := true, recurses := true, named := ["hairsbreadth/format.table"], apart := false, laid := [("hairsbreadth/format.table", laid_hairsbreadth_format_table)] }
def OverKnownSaid : Prop := overKnownRow.holds Tryd.pinned (OpenSpec.ofChange overKnownSpec)

/-- ITS FALSE NEIGHBOUR: 'it returns false'. Refute it at one input. -/
def overKnownWrong : ChangeSpec := { name := "overKnown", fn := fun _ => fun
  | [] => { results := [.lit (.bool false)], args := [] }
  | _ => none }
def OverKnownWrongFalsely : Prop := overKnownRow.holds Tryd.pinned (OpenSpec.ofChange overKnownWrong)

/- THE SECOND FORM. 'bulk': how many values and letters a reading holds, each counted each time it is reached (what is shared counts as often as it is met; a slice's spare places count too). A statement '..UptoSaid' is the law's where the arguments, and the package variables that the reading takes, are together of bulk at most 1048576: NARROWER than '..Said'. Prove '..Said' where nothing that the law and all that it calls make is longer than what came in: it says more and counts as full. Else prove '..UptoSaid'. A law counts once. -/
mutual
def uptoBulk {H : Type} : DataW H → Nat
  | .lit (.string bytes) => bytes.length + 1
  | .lit _ => 1
  | .nil => 1
  | .ptr d => uptoBulk d + 1
  | .slice elems spare => uptoBulkAll elems + uptoBulkAll spare + 1
  | .agg parts => uptoBulkAll parts + 1
  | .iface _ d => uptoBulk d + 1
  | .map entries => uptoBulkEntries entries + 1
  | .held _ => 1
def uptoBulkAll {H : Type} : List (DataW H) → Nat
  | [] => 0
  | d :: r => uptoBulk d + uptoBulkAll r
def uptoBulkEntries {H : Type} : List (Lit × DataW H) → Nat
  | [] => 0
  | x :: r => uptoBulkEntry x + uptoBulkEntries r
def uptoBulkEntry {H : Type} : Lit × DataW H → Nat
  | (.string bytes, d) => bytes.length + uptoBulk d + 1
  | (_, d) => uptoBulk d + 1
 end
def uptoSmall : (H : Type) → List (DataW H) → Bool := fun _ ds => decide (uptoBulkAll ds ≤ 1048576)
def OpenSpec.upto (s : _root_.Go.ChangeSpec) : _root_.Go.OpenSpec := { _root_.Go.OpenSpec.ofChange s with cond := some uptoSmall }

/-- 'hairsbreadthlaw14.OverEnds', WHERE WHAT IT READS IS OF BULK AT MOST 1048576: true; the input reads as it did. -/
def overEndsUptoRow : OpenClaim := { program := "ytfmccbokipljfaadoor", sum := "ab167c2cb3201e2ab8e28278ddcfd7e22f7f1cc86982c4b6e32c381cc7f0961c", func := "hairsbreadth/hairsbreadthlaw14.OverEnds", spec := "overEnds", unfollowed := true, recurses := true, named := ["hairsbreadth/format.table"], apart := false, laid := [("hairsbreadth/format.table", laid_hairsbreadth_format_table)], narrowed := true }
def OverEndsUptoSaid : Prop := overEndsUptoRow.holds Tryd.pinned (OpenSpec.upto overEndsSpec)

/-- 'hairsbreadthlaw14.OverMirror', WHERE WHAT IT READS IS OF BULK AT MOST 1048576: true; the input reads as it did. -/
def overMirrorUptoRow : OpenClaim := { program := "ytfmccbokipljfaadoor", sum := "ab167c2cb3201e2ab8e28278ddcfd7e22f7f1cc86982c4b6e32c381cc7f0961c", func := "hairsbreadth/hairsbreadthlaw14.OverMirror", spec := "overMirror", unfollowed := true, recurses := true, named := ["hairsbreadth/format.table"], apart := false, laid := [("hairsbreadth/format.table", laid_hairsbreadth_format_table)], narrowed := true }
def OverMirrorUptoSaid : Prop := overMirrorUptoRow.holds Tryd.pinned (OpenSpec.upto overMirrorSpec)

/-- 'hairsbreadthlaw14.OverNeighbours', WHERE WHAT IT READS IS OF BULK AT MOST 1048576: true; the input reads as it did. -/
def overNeighboursUptoRow : OpenClaim := { program := "ytfmccbokipljfaadoor", sum := "ab167c2cb3201e2ab8e28278ddcfd7e22f7f1cc86982c4b6e32c381cc7f0961c", func := "hairsbreadth/hairsbreadthlaw14.OverNeighbours", spec := "overNeighbours", inPlace := ["math/bits.Sub64", "math/bits.Add64"], unfollowed := true, recurses := true, named := ["hairsbreadth/format.table"], apart := false, laid := [("hairsbreadth/format.table", laid_hairsbreadth_format_table)], narrowed := true }
def OverNeighboursUptoSaid : Prop := overNeighboursUptoRow.holds Tryd.pinned (OpenSpec.upto overNeighboursSpec)

/-- 'hairsbreadthlaw14.OverReach', WHERE WHAT IT READS IS OF BULK AT MOST 1048576: true; the input reads as it did. -/
def overReachUptoRow : OpenClaim := { program := "ytfmccbokipljfaadoor", sum := "ab167c2cb3201e2ab8e28278ddcfd7e22f7f1cc86982c4b6e32c381cc7f0961c", func := "hairsbreadth/hairsbreadthlaw14.OverReach", spec := "overReach", inPlace := ["math/bits.Add64"], unfollowed := true, recurses := true, named := ["hairsbreadth/format.table"], apart := false, laid := [("hairsbreadth/format.table", laid_hairsbreadth_format_table)], narrowed := true }
def OverReachUptoSaid : Prop := overReachUptoRow.holds Tryd.pinned (OpenSpec.upto overReachSpec)

/-- 'hairsbreadthlaw14.OverKnown', WHERE WHAT IT READS IS OF BULK AT MOST 1048576: true; the input reads as it did. -/
def overKnownUptoRow : OpenClaim := { program := "ytfmccbokipljfaadoor", sum := "ab167c2cb3201e2ab8e28278ddcfd7e22f7f1cc86982c4b6e32c381cc7f0961c", func := "hairsbreadth/hairsbreadthlaw14.OverKnown", spec := "overKnown", unfollowed := true, recurses := true, named := ["hairsbreadth/format.table"], apart := false, laid := [("hairsbreadth/format.table", laid_hairsbreadth_format_table)], narrowed := true }
def OverKnownUptoSaid : Prop := overKnownUptoRow.holds Tryd.pinned (OpenSpec.upto overKnownSpec)

end Rows
end Go.Proofs.YtfmccbokipljfaaDoor
