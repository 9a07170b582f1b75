/-
  NARROWER THAN 'FOR EVERY INPUT', by the rows' own cells (each row's printed sentence says how): FlagSets: laid · FlagJoins: laid · FlagNames: laid · FlagOrder: laid · FlagKnown: laid.
  DERIVED. THE GIVEN ROWS OF THIS SEAT. 5 by the template 'for every input the law returns true; each argument reads behind the call as it read before'; 0 by the template 'total and deterministic' (their statements: YteobcedcgkfmjaaDoorTotals.lean).
  GIVEN WITH THE SEED: the statements are not yours to turn. If you find one false, say at which input.
  Laid BY PROGRAM, IN A SANDBOX (cutbox-rows.mjs): the forced cells as the released guide's own fill.sh prints them over the translation 9260385f741bb554… (all of the seat's roots in one cut). By AI agents, Wed Nov 11 2026. No macro, syntax, notation, axiom, sorry.
-/
import Derived.Test.YteobcedcgkfmjaaDoorChecked
import GoSem.Claim
import GoSem.ClaimJoined
import GoSem.ClaimMapViews
import Derived.JoinedTies
import Derived.KernelRfl
namespace Go.Proofs.YteobcedcgkfmjaaDoor
/- THE CELL 'sum', in the pinned program and in every row, IS THE sha256 OF THE DUMP (.gsa) THAT YteobcedcgkfmjaaDoorProg.lean LOADS. Nothing in Lean hashes anything: it is a label: what it is worth is what the hold of that sum in a sandbox is worth. -/
noncomputable def Tryd.pinned : Pinned := { name := "yteobcedcgkfmjaadoor", sum := "9260385f741bb554595fc39133c4fd0e98c89bda834ca0fd4e9097172958c877", checked := Tryd.checked }
namespace Rows
def none {H : Type} : Left H := { results := [], args := [] }

/- WHAT THE LISTED PACKAGE-LEVEL VARIABLES READ AS WHEN THE CALL BEGINS. Each datum BY PROGRAM (the guide's laid-datum.mjs) off the statement by which the dump's own 'gosem.cut.vars' lays the variable. In a bare row this is a premise. The card (YteobcedcgkfmjaaDoorCards.lean) ties it to the program's text. -/
def laid_hairsbreadth_flag_names {H : Type} : DataW H := .agg [.lit (.string [105, 110, 118, 97, 108, 105, 100]), .lit (.string [100, 105, 118, 122, 101, 114, 111]), .lit (.string [111, 118, 101, 114, 102, 108, 111, 119]), .lit (.string [117, 110, 100, 101, 114, 102, 108, 111, 119]), .lit (.string [105, 110, 101, 120, 97, 99, 116])]

/-- 'hairsbreadthlaw12.FlagSets': WHATEVER THE INPUT: true; the input reads as it did. -/
def flagSetsSpec : ChangeSpec := { name := "flagSets", fn := fun _ => fun
  | [d1, d2, d3] => { results := [.lit (.bool true)], args := [d1, d2, d3] }
  | _ => none }
def flagSetsRow : OpenClaim := { program := "yteobcedcgkfmjaadoor", sum := "9260385f741bb554595fc39133c4fd0e98c89bda834ca0fd4e9097172958c877", func := "hairsbreadth/hairsbreadthlaw12.FlagSets", spec := "flagSets", unfollowed := true, recurses := true, named := ["hairsbreadth/flag.names"], apart := false, laid := [("hairsbreadth/flag.names", laid_hairsbreadth_flag_names)] }
def FlagSetsSaid : Prop := flagSetsRow.holds Tryd.pinned (OpenSpec.ofChange flagSetsSpec)

/-- ITS FALSE NEIGHBOUR: 'it returns false'. Refute it at one input. -/
def flagSetsWrong : ChangeSpec := { name := "flagSets", fn := fun _ => fun
  | [d1, d2, d3] => { results := [.lit (.bool false)], args := [d1, d2, d3] }
  | _ => none }
def FlagSetsWrongFalsely : Prop := flagSetsRow.holds Tryd.pinned (OpenSpec.ofChange flagSetsWrong)

/-- 'hairsbreadthlaw12.FlagJoins': WHATEVER THE INPUT: true; the input reads as it did. -/
def flagJoinsSpec : ChangeSpec := { name := "flagJoins", fn := fun _ => fun
  | [d1, d2] => { results := [.lit (.bool true)], args := [d1, d2] }
  | _ => none }
def flagJoinsRow : OpenClaim := { program := "yteobcedcgkfmjaadoor", sum := "9260385f741bb554595fc39133c4fd0e98c89bda834ca0fd4e9097172958c877", func := "hairsbreadth/hairsbreadthlaw12.FlagJoins", spec := "flagJoins", unfollowed := true, recurses := true, named := ["hairsbreadth/flag.names"], apart := false, laid := [("hairsbreadth/flag.names", laid_hairsbreadth_flag_names)] }
def FlagJoinsSaid : Prop := flagJoinsRow.holds Tryd.pinned (OpenSpec.ofChange flagJoinsSpec)

/-- ITS FALSE NEIGHBOUR: 'it returns false'. Refute it at one input. -/
def flagJoinsWrong : ChangeSpec := { name := "flagJoins", fn := fun _ => fun
  | [d1, d2] => { results := [.lit (.bool false)], args := [d1, d2] }
  | _ => none }
def FlagJoinsWrongFalsely : Prop := flagJoinsRow.holds Tryd.pinned (OpenSpec.ofChange flagJoinsWrong)

/-- 'hairsbreadthlaw12.FlagNames': WHATEVER THE INPUT: true; the input reads as it did. -/
def flagNamesSpec : ChangeSpec := { name := "flagNames", fn := fun _ => fun
  | [d1, d2] => { results := [.lit (.bool true)], args := [d1, d2] }
  | _ => none }
def flagNamesRow : OpenClaim := { program := "yteobcedcgkfmjaadoor", sum := "9260385f741bb554595fc39133c4fd0e98c89bda834ca0fd4e9097172958c877", func := "hairsbreadth/hairsbreadthlaw12.FlagNames", spec := "flagNames", unfollowed := true, recurses := true, named := ["hairsbreadth/flag.names"], apart := false, laid := [("hairsbreadth/flag.names", laid_hairsbreadth_flag_names)] }
def FlagNamesSaid : Prop := flagNamesRow.holds Tryd.pinned (OpenSpec.ofChange flagNamesSpec)

/-- ITS FALSE NEIGHBOUR: 'it returns false'. Refute it at one input. -/
def flagNamesWrong : ChangeSpec := { name := "flagNames", fn := fun _ => fun
  | [d1, d2] => { results := [.lit (.bool false)], args := [d1, d2] }
  | _ => none }
def FlagNamesWrongFalsely : Prop := flagNamesRow.holds Tryd.pinned (OpenSpec.ofChange flagNamesWrong)

/-- 'hairsbreadthlaw12.FlagOrder': WHATEVER THE INPUT: true; the input reads as it did. -/
def flagOrderSpec : ChangeSpec := { name := "flagOrder", fn := fun _ => fun
  | [d1, d2, d3] => { results := [.lit (.bool true)], args := [d1, d2, d3] }
  | _ => none }
def flagOrderRow : OpenClaim := { program := "yteobcedcgkfmjaadoor", sum := "9260385f741bb554595fc39133c4fd0e98c89bda834ca0fd4e9097172958c877", func := "hairsbreadth/hairsbreadthlaw12.FlagOrder", spec := "flagOrder", unfollowed := true, recurses := true, named := ["hairsbreadth/flag.names"], apart := false, laid := [("hairsbreadth/flag.names", laid_hairsbreadth_flag_names)] }
def FlagOrderSaid : Prop := flagOrderRow.holds Tryd.pinned (OpenSpec.ofChange flagOrderSpec)

/-- ITS FALSE NEIGHBOUR: 'it returns false'. Refute it at one input. -/
def flagOrderWrong : ChangeSpec := { name := "flagOrder", fn := fun _ => fun
  | [d1, d2, d3] => { results := [.lit (.bool false)], args := [d1, d2, d3] }
  | _ => none }
def FlagOrderWrongFalsely : Prop := flagOrderRow.holds Tryd.pinned (OpenSpec.ofChange flagOrderWrong)

/-- 'hairsbreadthlaw12.FlagKnown': WHATEVER THE INPUT: true; the input reads as it did. -/
def flagKnownSpec : ChangeSpec := { name := "flagKnown", fn := fun _ => fun
  | [] => { results := [.lit (.bool true)], args := [] }
  | _ => none }
def flagKnownRow : OpenClaim := { program := "yteobcedcgkfmjaadoor", sum := "9260385f741bb554595fc39133c4fd0e98c89bda834ca0fd4e9097172958c877", func := "hairsbreadth/hairsbreadthlaw12.FlagKnown", spec := "flagKnown", unfollowed := true, recurses := true, named := ["hairsbreadth/flag.names"], apart := false, laid := [("hairsbreadth/flag.names", laid_hairsbreadth_flag_names)] }
def FlagKnownSaid : Prop := flagKnownRow.holds Tryd.pinned (OpenSpec.ofChange flagKnownSpec)

/-- ITS FALSE NEIGHBOUR: 'it returns false'. Refute it at one input. -/
def flagKnownWrong : ChangeSpec := { name := "flagKnown", fn := fun _ => fun
  | [] => { results := [.lit (.bool false)], args := [] }
  | _ => none }
def FlagKnownWrongFalsely : Prop := flagKnownRow.holds Tryd.pinned (OpenSpec.ofChange flagKnownWrong)

/- THE SECOND FORM. 'bulk': how many values and letters a reading holds, each counted each time it is reached (what is shared counts as often as it is met; a slice's spare places count too). A statement '..UptoSaid' is the law's where the arguments, and the package variables that the reading takes, are together of bulk at most 1048576: NARROWER than '..Said'. Prove '..Said' where nothing that the law and all that it calls make is longer than what came in: it says more and counts as full. Else prove '..UptoSaid'. A law counts once. -/
mutual
def uptoBulk {H : Type} : DataW H → Nat
  | .lit (.string bytes) => bytes.length + 1
  | .lit _ => 1
  | .nil => 1
  | .ptr d => uptoBulk d + 1
  | .slice elems spare => uptoBulkAll elems + uptoBulkAll spare + 1
  | .agg parts => uptoBulkAll parts + 1
  | .iface _ d => uptoBulk d + 1
  | .map entries => uptoBulkEntries entries + 1
  | .held _ => 1
def uptoBulkAll {H : Type} : List (DataW H) → Nat
  | [] => 0
  | d :: r => uptoBulk d + uptoBulkAll r
def uptoBulkEntries {H : Type} : List (Lit × DataW H) → Nat
  | [] => 0
  | x :: r => uptoBulkEntry x + uptoBulkEntries r
def uptoBulkEntry {H : Type} : Lit × DataW H → Nat
  | (.string bytes, d) => bytes.length + uptoBulk d + 1
  | (_, d) => uptoBulk d + 1
 end
def uptoSmall : (H : Type) → List (DataW H) → Bool := fun _ ds => decide (uptoBulkAll ds ≤ 1048576)
def OpenSpec.upto (s : _root_.Go.ChangeSpec) : _root_.Go.OpenSpec := { _root_.Go.OpenSpec.ofChange s with cond := some uptoSmall }

/-- 'hairsbreadthlaw12.FlagSets', WHERE WHAT IT READS IS OF BULK AT MOST 1048576: true; the input reads as it did. -/
def flagSetsUptoRow : OpenClaim := { program := "yteobcedcgkfmjaadoor", sum := "9260385f741bb554595fc39133c4fd0e98c89bda834ca0fd4e9097172958c877", func := "hairsbreadth/hairsbreadthlaw12.FlagSets", spec := "flagSets", unfollowed := true, recurses := true, named := ["hairsbreadth/flag.names"], apart := false, laid := [("hairsbreadth/flag.names", laid_hairsbreadth_flag_names)], narrowed := true }
def FlagSetsUptoSaid : Prop := flagSetsUptoRow.holds Tryd.pinned (OpenSpec.upto flagSetsSpec)

/-- 'hairsbreadthlaw12.FlagJoins', WHERE WHAT IT READS IS OF BULK AT MOST 1048576: true; the input reads as it did. -/
def flagJoinsUptoRow : OpenClaim := { program := "yteobcedcgkfmjaadoor", sum := "9260385f741bb554595fc39133c4fd0e98c89bda834ca0fd4e9097172958c877", func := "hairsbreadth/hairsbreadthlaw12.FlagJoins", spec := "flagJoins", unfollowed := true, recurses := true, named := ["hairsbreadth/flag.names"], apart := false, laid := [("hairsbreadth/flag.names", laid_hairsbreadth_flag_names)], narrowed := true }
def FlagJoinsUptoSaid : Prop := flagJoinsUptoRow.holds Tryd.pinned (OpenSpec.upto flagJoinsSpec)

/-- 'hairsbreadthlaw12.FlagNames', WHERE WHAT IT READS IS OF BULK AT MOST 1048576: true; the input reads as it did. -/
def flagNamesUptoRow : OpenClaim := { program := "yteobcedcgkfmjaadoor", sum := "9260385f741bb554595fc39133c4fd0e98c89bda834ca0fd4e9097172958c877", func := "hairsbreadth/hairsbreadthlaw12.FlagNames", spec := "flagNames", unfollowed := true, recurses := true, named := ["hairsbreadth/flag.names"], apart := false, laid := [("hairsbreadth/flag.names", laid_hairsbreadth_flag_names)], narrowed := true }
def FlagNamesUptoSaid : Prop := flagNamesUptoRow.holds Tryd.pinned (OpenSpec.upto flagNamesSpec)

/-- 'hairsbreadthlaw12.FlagOrder', WHERE WHAT IT READS IS OF BULK AT MOST 1048576: true; the input reads as it did. -/
def flagOrderUptoRow : OpenClaim := { program := "yteobcedcgkfmjaadoor", sum := "9260385f741bb554595fc39133c4fd0e98c89bda834ca0fd4e9097172958c877", func := "hairsbreadth/hairsbreadthlaw12.FlagOrder", spec := "flagOrder", unfollowed := true, recurses := true, named := ["hairsbreadth/flag.names"], apart := false, laid := [("hairsbreadth/flag.names", laid_hairsbreadth_flag_names)], narrowed := true }
def FlagOrderUptoSaid : Prop := flagOrderUptoRow.holds Tryd.pinned (OpenSpec.upto flagOrderSpec)

/-- 'hairsbreadthlaw12.FlagKnown', WHERE WHAT IT READS IS OF BULK AT MOST 1048576: true; the input reads as it did. -/
def flagKnownUptoRow : OpenClaim := { program := "yteobcedcgkfmjaadoor", sum := "9260385f741bb554595fc39133c4fd0e98c89bda834ca0fd4e9097172958c877", func := "hairsbreadth/hairsbreadthlaw12.FlagKnown", spec := "flagKnown", unfollowed := true, recurses := true, named := ["hairsbreadth/flag.names"], apart := false, laid := [("hairsbreadth/flag.names", laid_hairsbreadth_flag_names)], narrowed := true }
def FlagKnownUptoSaid : Prop := flagKnownUptoRow.holds Tryd.pinned (OpenSpec.upto flagKnownSpec)

end Rows
end Go.Proofs.YteobcedcgkfmjaaDoor
