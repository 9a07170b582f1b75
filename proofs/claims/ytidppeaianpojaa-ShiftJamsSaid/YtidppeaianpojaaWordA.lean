/-
  Contracts of the program's word.Add and word.Sub.
-/
import Derived.Test.YtidppeaianpojaaRows
import Derived.WalkKit
import Derived.WalkSpells
import Derived.WalkLawsBesides
import Derived.Lib.Hide
import Derived.Laws.Externs
import Derived.Shelf.Spec.BitsCarry
import Derived.Shelf.Bits.Mul64
import Derived.Test.YtidppeaianpojaaBitsM
namespace Go.Proofs.Ytidppeaianpojaa
open Go.RowKit

theorem bits_sub (x y c : Int) (hx : U64 x) (hy : U64 y) (hc0 : 0 ≤ c) (hc : c ≤ 1) (w : World) :
    (callFunc 48 #[.int .u64 x, .int .u64 y, .int .u64 c]).run Try.prog w = .ok (.value (.tuple #[.int .u64 (subLo x y c), .int .u64 (subC x y c)])) w := by
  obtain ⟨X, rfl⟩ := Int.eq_ofNat_of_zero_le hx.1
  obtain ⟨Y, rfl⟩ := Int.eq_ofNat_of_zero_le hy.1
  obtain ⟨C, rfl⟩ := Int.eq_ofNat_of_zero_le hc0
  rw [run_callFunc_extern Try.func48 (by kernel_rfl) (by kernel_rfl) (by kernel_rfl) (e := sub64Entry) (by kernel_rfl), run_sub64 X Y C (by omega)]
  have e1 : (((X + 18446744073709551616 - Y - C) % 18446744073709551616 : Nat) : Int) = subLo X Y C := by
    have := hy.2
    unfold subLo; omega
  have e2 : ((if X < Y + C then 1 else 0 : Nat) : Int) = subC X Y C := by
    unfold subC; split <;> split <;> omega
  rw [e1, e2]
  rfl

end Go.Proofs.Ytidppeaianpojaa
