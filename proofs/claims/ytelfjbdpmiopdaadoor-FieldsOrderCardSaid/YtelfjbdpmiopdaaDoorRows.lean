/-
  NARROWER THAN 'FOR EVERY INPUT', by the rows' own cells (each row's printed sentence says how): FieldsUnpack: laid · FieldsPack: laid · FieldsBack: laid · FieldsOrder: laid · FieldsReach: laid · FieldsWide: laid · FieldsKnown: laid.
  DERIVED. THE GIVEN ROWS OF THIS SEAT. 7 by the template 'for every input the law returns true; each argument reads behind the call as it read before'; 0 by the template 'total and deterministic' (their statements: YtelfjbdpmiopdaaDoorTotals.lean).
  GIVEN WITH THE SEED: the statements are not yours to turn. If you find one false, say at which input.
  Laid BY PROGRAM, IN A SANDBOX (cutbox-rows.mjs): the forced cells as the released guide's own fill.sh prints them over the translation fdc2f6d0c9ac613e… (all of the seat's roots in one cut). By AI agents, Wed Nov 11 2026. No macro, syntax, notation, axiom, sorry.
-/
import Derived.Test.YtelfjbdpmiopdaaDoorChecked
import GoSem.Claim
import GoSem.ClaimJoined
import GoSem.ClaimMapViews
import Derived.JoinedTies
import Derived.KernelRfl
namespace Go.Proofs.YtelfjbdpmiopdaaDoor
/- THE CELL 'sum', in the pinned program and in every row, IS THE sha256 OF THE DUMP (.gsa) THAT YtelfjbdpmiopdaaDoorProg.lean LOADS. Nothing in Lean hashes anything: it is a label: what it is worth is what the hold of that sum in a sandbox is worth. -/
noncomputable def Tryd.pinned : Pinned := { name := "ytelfjbdpmiopdaadoor", sum := "fdc2f6d0c9ac613ecb3ff6d9a4cb0ef683e2d4dab5299f0410dd7af856eb351d", checked := Tryd.checked }
namespace Rows
def none {H : Type} : Left H := { results := [], args := [] }

/- WHAT THE LISTED PACKAGE-LEVEL VARIABLES READ AS WHEN THE CALL BEGINS. Each datum BY PROGRAM (the guide's laid-datum.mjs) off the statement by which the dump's own 'gosem.cut.vars' lays the variable. In a bare row this is a premise. The card (YtelfjbdpmiopdaaDoorCards.lean) ties it to the program's text. -/
def laid_hairsbreadth_format_table {H : Type} : DataW H := .agg [.agg [.lit (.int .i64 16), .lit (.int .i64 11), .lit (.int .i64 15)], .agg [.lit (.int .i64 32), .lit (.int .i64 24), .lit (.int .i64 127)], .agg [.lit (.int .i64 64), .lit (.int .i64 53), .lit (.int .i64 1023)], .agg [.lit (.int .i64 128), .lit (.int .i64 113), .lit (.int .i64 16383)]]

/-- 'hairsbreadthlaw09.FieldsUnpack': WHATEVER THE INPUT: true; the input reads as it did. -/
def fieldsUnpackSpec : ChangeSpec := { name := "fieldsUnpack", fn := fun _ => fun
  | [d1, d2] => { results := [.lit (.bool true)], args := [d1, d2] }
  | _ => none }
def fieldsUnpackRow : OpenClaim := { program := "ytelfjbdpmiopdaadoor", sum := "fdc2f6d0c9ac613ecb3ff6d9a4cb0ef683e2d4dab5299f0410dd7af856eb351d", func := "hairsbreadth/hairsbreadthlaw09.FieldsUnpack", spec := "fieldsUnpack", inPlace := ["math/bits.Add64"], unfollowed := true, recurses := true, named := ["hairsbreadth/format.table"], apart := false, laid := [("hairsbreadth/format.table", laid_hairsbreadth_format_table)] }
def FieldsUnpackSaid : Prop := fieldsUnpackRow.holds Tryd.pinned (OpenSpec.ofChange fieldsUnpackSpec)

/-- ITS FALSE NEIGHBOUR: 'it returns false'. Refute it at one input. -/
def fieldsUnpackWrong : ChangeSpec := { name := "fieldsUnpack", fn := fun _ => fun
  | [d1, d2] => { results := [.lit (.bool false)], args := [d1, d2] }
  | _ => none }
def FieldsUnpackWrongFalsely : Prop := fieldsUnpackRow.holds Tryd.pinned (OpenSpec.ofChange fieldsUnpackWrong)

/-- 'hairsbreadthlaw09.FieldsPack': WHATEVER THE INPUT: true; the input reads as it did. -/
def fieldsPackSpec : ChangeSpec := { name := "fieldsPack", fn := fun _ => fun
  | [d1, d2] => { results := [.lit (.bool true)], args := [d1, d2] }
  | _ => none }
def fieldsPackRow : OpenClaim := { program := "ytelfjbdpmiopdaadoor", sum := "fdc2f6d0c9ac613ecb3ff6d9a4cb0ef683e2d4dab5299f0410dd7af856eb351d", func := "hairsbreadth/hairsbreadthlaw09.FieldsPack", spec := "fieldsPack", inPlace := ["math/bits.Add64"], unfollowed := true, recurses := true, named := ["hairsbreadth/format.table"], apart := false, laid := [("hairsbreadth/format.table", laid_hairsbreadth_format_table)] }
def FieldsPackSaid : Prop := fieldsPackRow.holds Tryd.pinned (OpenSpec.ofChange fieldsPackSpec)

/-- ITS FALSE NEIGHBOUR: 'it returns false'. Refute it at one input. -/
def fieldsPackWrong : ChangeSpec := { name := "fieldsPack", fn := fun _ => fun
  | [d1, d2] => { results := [.lit (.bool false)], args := [d1, d2] }
  | _ => none }
def FieldsPackWrongFalsely : Prop := fieldsPackRow.holds Tryd.pinned (OpenSpec.ofChange fieldsPackWrong)

/-- 'hairsbreadthlaw09.FieldsBack': WHATEVER THE INPUT: true; the input reads as it did. -/
def fieldsBackSpec : ChangeSpec := { name := "fieldsBack", fn := fun _ => fun
  | [d1, d2, d3] => { results := [.lit (.bool true)], args := [d1, d2, d3] }
  | _ => none }
def fieldsBackRow : OpenClaim := { program := "ytelfjbdpmiopdaadoor", sum := "fdc2f6d0c9ac613ecb3ff6d9a4cb0ef683e2d4dab5299f0410dd7af856eb351d", func := "hairsbreadth/hairsbreadthlaw09.FieldsBack", spec := "fieldsBack", inPlace := ["math/bits.Add64"], unfollowed := true, recurses := true, named := ["hairsbreadth/format.table"], apart := false, laid := [("hairsbreadth/format.table", laid_hairsbreadth_format_table)] }
def FieldsBackSaid : Prop := fieldsBackRow.holds Tryd.pinned (OpenSpec.ofChange fieldsBackSpec)

/-- ITS FALSE NEIGHBOUR: 'it returns false'. Refute it at one input. -/
def fieldsBackWrong : ChangeSpec := { name := "fieldsBack", fn := fun _ => fun
  | [d1, d2, d3] => { results := [.lit (.bool false)], args := [d1, d2, d3] }
  | _ => none }
def FieldsBackWrongFalsely : Prop := fieldsBackRow.holds Tryd.pinned (OpenSpec.ofChange fieldsBackWrong)

/-- 'hairsbreadthlaw09.FieldsOrder': WHATEVER THE INPUT: true; the input reads as it did. -/
def fieldsOrderSpec : ChangeSpec := { name := "fieldsOrder", fn := fun _ => fun
  | [d1, d2, d3] => { results := [.lit (.bool true)], args := [d1, d2, d3] }
  | _ => none }
def fieldsOrderRow : OpenClaim := { program := "ytelfjbdpmiopdaadoor", sum := "fdc2f6d0c9ac613ecb3ff6d9a4cb0ef683e2d4dab5299f0410dd7af856eb351d", func := "hairsbreadth/hairsbreadthlaw09.FieldsOrder", spec := "fieldsOrder", inPlace := ["math/bits.Add64"], unfollowed := true, recurses := true, named := ["hairsbreadth/format.table"], apart := false, laid := [("hairsbreadth/format.table", laid_hairsbreadth_format_table)] }
def FieldsOrderSaid : Prop := fieldsOrderRow.holds Tryd.pinned (OpenSpec.ofChange fieldsOrderSpec)

/-- ITS FALSE NEIGHBOUR: 'it returns false'. Refute it at one input. -/
def fieldsOrderWrong : ChangeSpec := { name := "fieldsOrder", fn := fun _ => fun
  | [d1, d2, d3] => { results := [.lit (.bool false)], args := [d1, d2, d3] }
  | _ => none }
def FieldsOrderWrongFalsely : Prop := fieldsOrderRow.holds Tryd.pinned (OpenSpec.ofChange fieldsOrderWrong)

/-- 'hairsbreadthlaw09.FieldsReach': WHATEVER THE INPUT: true; the input reads as it did. -/
def fieldsReachSpec : ChangeSpec := { name := "fieldsReach", fn := fun _ => fun
  | [d1, d2] => { results := [.lit (.bool true)], args := [d1, d2] }
  | _ => none }
def fieldsReachRow : OpenClaim := { program := "ytelfjbdpmiopdaadoor", sum := "fdc2f6d0c9ac613ecb3ff6d9a4cb0ef683e2d4dab5299f0410dd7af856eb351d", func := "hairsbreadth/hairsbreadthlaw09.FieldsReach", spec := "fieldsReach", inPlace := ["math/bits.Add64"], unfollowed := true, recurses := true, named := ["hairsbreadth/format.table"], apart := false, laid := [("hairsbreadth/format.table", laid_hairsbreadth_format_table)] }
def FieldsReachSaid : Prop := fieldsReachRow.holds Tryd.pinned (OpenSpec.ofChange fieldsReachSpec)

/-- ITS FALSE NEIGHBOUR: 'it returns false'. Refute it at one input. -/
def fieldsReachWrong : ChangeSpec := { name := "fieldsReach", fn := fun _ => fun
  | [d1, d2] => { results := [.lit (.bool false)], args := [d1, d2] }
  | _ => none }
def FieldsReachWrongFalsely : Prop := fieldsReachRow.holds Tryd.pinned (OpenSpec.ofChange fieldsReachWrong)

/-- 'hairsbreadthlaw09.FieldsWide': WHATEVER THE INPUT: true; the input reads as it did. -/
def fieldsWideSpec : ChangeSpec := { name := "fieldsWide", fn := fun _ => fun
  | [d1, d2] => { results := [.lit (.bool true)], args := [d1, d2] }
  | _ => none }
def fieldsWideRow : OpenClaim := { program := "ytelfjbdpmiopdaadoor", sum := "fdc2f6d0c9ac613ecb3ff6d9a4cb0ef683e2d4dab5299f0410dd7af856eb351d", func := "hairsbreadth/hairsbreadthlaw09.FieldsWide", spec := "fieldsWide", inPlace := ["math/bits.Add64"], unfollowed := true, recurses := true, named := ["hairsbreadth/format.table"], apart := false, laid := [("hairsbreadth/format.table", laid_hairsbreadth_format_table)] }
def FieldsWideSaid : Prop := fieldsWideRow.holds Tryd.pinned (OpenSpec.ofChange fieldsWideSpec)

/-- ITS FALSE NEIGHBOUR: 'it returns false'. Refute it at one input. -/
def fieldsWideWrong : ChangeSpec := { name := "fieldsWide", fn := fun _ => fun
  | [d1, d2] => { results := [.lit (.bool false)], args := [d1, d2] }
  | _ => none }
def FieldsWideWrongFalsely : Prop := fieldsWideRow.holds Tryd.pinned (OpenSpec.ofChange fieldsWideWrong)

/-- 'hairsbreadthlaw09.FieldsKnown': WHATEVER THE INPUT: true; the input reads as it did. -/
def fieldsKnownSpec : ChangeSpec := { name := "fieldsKnown", fn := fun _ => fun
  | [] => { results := [.lit (.bool true)], args := [] }
  | _ => none }
def fieldsKnownRow : OpenClaim := { program := "ytelfjbdpmiopdaadoor", sum := "fdc2f6d0c9ac613ecb3ff6d9a4cb0ef683e2d4dab5299f0410dd7af856eb351d", func := "hairsbreadth/hairsbreadthlaw09.FieldsKnown", spec := "fieldsKnown", inPlace := ["math/bits.Add64"], unfollowed := true, recurses := true, named := ["hairsbreadth/format.table"], apart := false, laid := [("hairsbreadth/format.table", laid_hairsbreadth_format_table)] }
def FieldsKnownSaid : Prop := fieldsKnownRow.holds Tryd.pinned (OpenSpec.ofChange fieldsKnownSpec)

/-- ITS FALSE NEIGHBOUR: 'it returns false'. Refute it at one input. -/
def fieldsKnownWrong : ChangeSpec := { name := "fieldsKnown", fn := fun _ => fun
  | [] => { results := [.lit (.bool false)], args := [] }
  | _ => none }
def FieldsKnownWrongFalsely : Prop := fieldsKnownRow.holds Tryd.pinned (OpenSpec.ofChange fieldsKnownWrong)

/- THE SECOND FORM. 'bulk': how many values and letters a reading holds, each counted each time it is reached (what is shared counts as often as it is met; a slice's spare places count too). A statement '..UptoSaid' is the law's where the arguments, and the package variables that the reading takes, are together of bulk at most 1048576: NARROWER than '..Said'. Prove '..Said' where nothing that the law and all that it calls make is longer than what came in: it says more and counts as full. Else prove '..UptoSaid'. A law counts once. -/
mutual
def uptoBulk {H : Type} : DataW H → Nat
  | .lit (.string bytes) => bytes.length + 1
  | .lit _ => 1
  | .nil => 1
  | .ptr d => uptoBulk d + 1
  | .slice elems spare => uptoBulkAll elems + uptoBulkAll spare + 1
  | .agg parts => uptoBulkAll parts + 1
  | .iface _ d => uptoBulk d + 1
  | .map entries => uptoBulkEntries entries + 1
  | .held _ => 1
def uptoBulkAll {H : Type} : List (DataW H) → Nat
  | [] => 0
  | d :: r => uptoBulk d + uptoBulkAll r
def uptoBulkEntries {H : Type} : List (Lit × DataW H) → Nat
  | [] => 0
  | x :: r => uptoBulkEntry x + uptoBulkEntries r
def uptoBulkEntry {H : Type} : Lit × DataW H → Nat
  | (.string bytes, d) => bytes.length + uptoBulk d + 1
  | (_, d) => uptoBulk d + 1
 end
def uptoSmall : (H : Type) → List (DataW H) → Bool := fun _ ds => decide (uptoBulkAll ds ≤ 1048576)
def OpenSpec.upto (s : _root_.Go.ChangeSpec) : _root_.Go.OpenSpec := { _root_.Go.OpenSpec.ofChange s with cond := some uptoSmall }

/-- 'hairsbreadthlaw09.FieldsUnpack', WHERE WHAT IT READS IS OF BULK AT MOST 1048576: true; the input reads as it did. -/
def fieldsUnpackUptoRow : OpenClaim := { program := "ytelfjbdpmiopdaadoor", sum := "fdc2f6d0c9ac613ecb3ff6d9a4cb0ef683e2d4dab5299f0410dd7af856eb351d", func := "hairsbreadth/hairsbreadthlaw09.FieldsUnpack", spec := "fieldsUnpack", inPlace := ["math/bits.Add64"], unfollowed := true, recurses := true, named := ["hairsbreadth/format.table"], apart := false, laid := [("hairsbreadth/format.table", laid_hairsbreadth_format_table)], narrowed := true }
def FieldsUnpackUptoSaid : Prop := fieldsUnpackUptoRow.holds Tryd.pinned (OpenSpec.upto fieldsUnpackSpec)

/-- 'hairsbreadthlaw09.FieldsPack', WHERE WHAT IT READS IS OF BULK AT MOST 1048576: true; the input reads as it did. -/
def fieldsPackUptoRow : OpenClaim := { program := "ytelfjbdpmiopdaadoor", sum := "fdc2f6d0c9ac613ecb3ff6d9a4cb0ef683e2d4dab5299f0410dd7af856eb351d", func := "hairsbreadth/hairsbreadthlaw09.FieldsPack", spec := "fieldsPack", inPlace := ["math/bits.Add64"], unfollowed := true, recurses := true, named := ["hairsbreadth/format.table"], apart := false, laid := [("hairsbreadth/format.table", laid_hairsbreadth_format_table)], narrowed := true }
def FieldsPackUptoSaid : Prop := fieldsPackUptoRow.holds Tryd.pinned (OpenSpec.upto fieldsPackSpec)

/-- 'hairsbreadthlaw09.FieldsBack', WHERE WHAT IT READS IS OF BULK AT MOST 1048576: true; the input reads as it did. -/
def fieldsBackUptoRow : OpenClaim := { program := "ytelfjbdpmiopdaadoor", sum := "fdc2f6d0c9ac613ecb3ff6d9a4cb0ef683e2d4dab5299f0410dd7af856eb351d", func := "hairsbreadth/hairsbreadthlaw09.FieldsBack", spec := "fieldsBack", inPlace := ["math/bits.Add64"], unfollowed := true, recurses := true, named := ["hairsbreadth/format.table"], apart := false, laid := [("hairsbreadth/format.table", laid_hairsbreadth_format_table)], narrowed := true }
def FieldsBackUptoSaid : Prop := fieldsBackUptoRow.holds Tryd.pinned (OpenSpec.upto fieldsBackSpec)

/-- 'hairsbreadthlaw09.FieldsOrder', WHERE WHAT IT READS IS OF BULK AT MOST 1048576: true; the input reads as it did. -/
def fieldsOrderUptoRow : OpenClaim := { program := "ytelfjbdpmiopdaadoor", sum := "fdc2f6d0c9ac613ecb3ff6d9a4cb0ef683e2d4dab5299f0410dd7af856eb351d", func := "hairsbreadth/hairsbreadthlaw09.FieldsOrder", spec := "fieldsOrder", inPlace := ["math/bits.Add64"], unfollowed := true, recurses := true, named := ["hairsbreadth/format.table"], apart := false, laid := [("hairsbreadth/format.table", laid_hairsbreadth_format_table)], narrowed := true }
def FieldsOrderUptoSaid : Prop := fieldsOrderUptoRow.holds Tryd.pinned (OpenSpec.upto fieldsOrderSpec)

/-- 'hairsbreadthlaw09.FieldsReach', WHERE WHAT IT READS IS OF BULK AT MOST 1048576: true; the input reads as it did. -/
def fieldsReachUptoRow : OpenClaim := { program := "ytelfjbdpmiopdaadoor", sum := "fdc2f6d0c9ac613ecb3ff6d9a4cb0ef683e2d4dab5299f0410dd7af856eb351d", func := "hairsbreadth/hairsbreadthlaw09.FieldsReach", spec := "fieldsReach", inPlace := ["math/bits.Add64"], unfollowed := true, recurses := true, named := ["hairsbreadth/format.table"], apart := false, laid := [("hairsbreadth/format.table", laid_hairsbreadth_format_table)], narrowed := true }
def FieldsReachUptoSaid : Prop := fieldsReachUptoRow.holds Tryd.pinned (OpenSpec.upto fieldsReachSpec)

/-- 'hairsbreadthlaw09.FieldsWide', WHERE WHAT IT READS IS OF BULK AT MOST 1048576: true; the input reads as it did. -/
def fieldsWideUptoRow : OpenClaim := { program := "ytelfjbdpmiopdaadoor", sum := "fdc2f6d0c9ac613ecb3ff6d9a4cb0ef683e2d4dab5299f0410dd7af856eb351d", func := "hairsbreadth/hairsbreadthlaw09.FieldsWide", spec := "fieldsWide", inPlace := ["math/bits.Add64"], unfollowed := true, recurses := true, named := ["hairsbreadth/format.table"], apart := false, laid := [("hairsbreadth/format.table", laid_hairsbreadth_format_table)], narrowed := true }
def FieldsWideUptoSaid : Prop := fieldsWideUptoRow.holds Tryd.pinned (OpenSpec.upto fieldsWideSpec)

/-- 'hairsbreadthlaw09.FieldsKnown', WHERE WHAT IT READS IS OF BULK AT MOST 1048576: true; the input reads as it did. -/
def fieldsKnownUptoRow : OpenClaim := { program := "ytelfjbdpmiopdaadoor", sum := "fdc2f6d0c9ac613ecb3ff6d9a4cb0ef683e2d4dab5299f0410dd7af856eb351d", func := "hairsbreadth/hairsbreadthlaw09.FieldsKnown", spec := "fieldsKnown", inPlace := ["math/bits.Add64"], unfollowed := true, recurses := true, named := ["hairsbreadth/format.table"], apart := false, laid := [("hairsbreadth/format.table", laid_hairsbreadth_format_table)], narrowed := true }
def FieldsKnownUptoSaid : Prop := fieldsKnownUptoRow.holds Tryd.pinned (OpenSpec.upto fieldsKnownSpec)

end Rows
end Go.Proofs.YtelfjbdpmiopdaaDoor
