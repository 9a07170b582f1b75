/-
  Contracts of the program's word.Add and word.Sub.
-/
import Derived.Test.YtkhcbioohoeegaaDoorRows
import Derived.WalkKit
import Derived.WalkSpells
import Derived.WalkLawsBesides
import Derived.Lib.Hide
import Derived.Laws.Externs
import Derived.Shelf.Spec.BitsCarry
import Derived.Shelf.Bits.Mul64
import Derived.Test.YtkhcbioohoeegaaDoorBitsM
set_option maxRecDepth 100000
namespace Go.Proofs.YtkhcbioohoeegaaDoor
open Go.RowKit

set_option maxHeartbeats 400000 in
theorem zero_any (ah al : Int) (u1 : U64 ah) (u2 : U64 al) (w : World) :
    Calls Tryd.prog 27 #[.agg #[.int .u64 ah, .int .u64 al]] w fun e w' =>
      e = .returned (.bool (val ah al == 0)) ∧ Below w.heap.size w w' := by
  have hz := val_zero u1 u2
  have Hz := Lib.hid hz
  clear hz u1 u2
  go_enter Tryd.func27, Tryd.ntmps27
  go_wp2
  all_goals
    go_ret
    exact ⟨by rw [Hz.out]; simp [*], (Below.refl _ _).alloc (Nat.le_refl _) _⟩

set_option maxHeartbeats 400000 in
theorem bit_any (ah al i : Int) (u1 : U64 ah) (u2 : U64 al) (w : World) :
    Calls Tryd.prog 28 #[.agg #[.int .u64 ah, .int .u64 al], .int .i64 i] w fun e w' =>
      e = .returned (.bool (bitI (val ah al) i)) ∧ Below w.heap.size w w' := by
  by_cases h0 : i < 0
  · rw [bit_out_lo h0]
    go_enter Tryd.func28, Tryd.ntmps28
    go_wp2
    go_ret
    exact ⟨rfl, (Below.refl _ _).alloc (Nat.le_refl _) _⟩
  · by_cases h1 : 127 < i
    · rw [bit_out_hi h1]
      go_enter Tryd.func28, Tryd.ntmps28
      go_wp2
      go_ret
      exact ⟨rfl, (Below.refl _ _).alloc (Nat.le_refl _) _⟩
    · by_cases h2 : i < 64
      · rw [← bit_lo u2 (by omega) h2]
        go_enter Tryd.func28, Tryd.ntmps28
        go_wp2
        go_ret
        exact ⟨rfl, (Below.refl _ _).alloc (Nat.le_refl _) _⟩
      · rw [← bit_hi u1 u2 (by omega) (by omega)]
        go_enter Tryd.func28, Tryd.ntmps28
        go_wp2
        go_ret
        exact ⟨rfl, (Below.refl _ _).alloc (Nat.le_refl _) _⟩

end Go.Proofs.YtkhcbioohoeegaaDoor
