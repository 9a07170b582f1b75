/-
  Contracts of the program's word.Add and word.Sub.
-/
import Derived.Test.YthoffjogpmkjkaaRows
import Derived.WalkKit
import Derived.WalkSpells
import Derived.WalkLawsBesides
import Derived.Lib.Hide
import Derived.Laws.Externs
import Derived.Shelf.Spec.BitsCarry
import Derived.Shelf.Bits.Mul64
import Derived.Test.YthoffjogpmkjkaaBitsM
namespace Go.Proofs.Ythoffjogpmkjkaa
open Go.RowKit

theorem bits_add (x y c : Int) (hx : U64 x) (hy : U64 y) (hc0 : 0 ≤ c) (hc : c ≤ 1) (w : World) :
    (callFunc 54 #[.int .u64 x, .int .u64 y, .int .u64 c]).run Try.prog w = .ok (.value (.tuple #[.int .u64 (addLo x y c), .int .u64 (addC x y c)])) w := by
  rw [run_callFunc_extern Try.func54 (by kernel_rfl) (by kernel_rfl) (by kernel_rfl) (e := add64Entry) (by kernel_rfl), run_add64 x y c hx.1 hy.1 hc0 hc]
  rfl

theorem bits_sub (x y c : Int) (hx : U64 x) (hy : U64 y) (hc0 : 0 ≤ c) (hc : c ≤ 1) (w : World) :
    (callFunc 56 #[.int .u64 x, .int .u64 y, .int .u64 c]).run Try.prog w = .ok (.value (.tuple #[.int .u64 (subLo x y c), .int .u64 (subC x y c)])) w := by
  obtain ⟨X, rfl⟩ := Int.eq_ofNat_of_zero_le hx.1
  obtain ⟨Y, rfl⟩ := Int.eq_ofNat_of_zero_le hy.1
  obtain ⟨C, rfl⟩ := Int.eq_ofNat_of_zero_le hc0
  rw [run_callFunc_extern Try.func56 (by kernel_rfl) (by kernel_rfl) (by kernel_rfl) (e := sub64Entry) (by kernel_rfl), run_sub64 X Y C (by omega)]
  have e1 : (((X + 18446744073709551616 - Y - C) % 18446744073709551616 : Nat) : Int) = subLo X Y C := by
    have := hy.2
    unfold subLo; omega
  have e2 : ((if X < Y + C then 1 else 0 : Nat) : Int) = subC X Y C := by
    unfold subC; split <;> split <;> omega
  rw [e1, e2]
  rfl

set_option maxHeartbeats 400000 in
theorem add_any (ah al bh bl : Int) (u1 : U64 ah) (u2 : U64 al) (u3 : U64 bh) (u4 : U64 bl) (w : World) :
    Calls Try.prog 38 #[.agg #[.int .u64 ah, .int .u64 al], .agg #[.int .u64 bh, .int .u64 bl]] w fun e w' =>
      e = .returned (.tuple #[.agg #[.int .u64 (hiOf (val ah al + val bh bl)), .int .u64 (loOf (val ah al + val bh bl))], .bool (decide (full ≤ val ah al + val bh bl))]) ∧ Below w.heap.size w w' := by
  rw [← add_lo u2 u4, ← add_hi u2 u4, ← add_carry u2 u4 u1 u3]
  have k1 := bits_add al bl 0 u2 u4 (by omega) (by omega)
  have k2 := bits_add ah bh (addC al bl 0) u1 u3 (addC_01 u2 u4 (by omega) (by omega)).1 (addC_01 u2 u4 (by omega) (by omega)).2
  clear u1 u2 u3 u4
  go_enter Try.func38, Try.ntmps38
  go_wp2
  refine bodyPost_ret (v := .tuple #[.agg #[.int .u64 (addLo ah bh (addC al bl 0)), .int .u64 (addLo al bl 0)], .bool (addC ah bh (addC al bl 0) != 0)]) (by simp [results, Try.results38, go_sem]) rfl ⟨rfl, ?_⟩
  exact (((Below.refl _ _).alloc (Nat.le_refl _) _).alloc (by simp) _).alloc (by simp; omega) _

set_option maxHeartbeats 400000 in
theorem zero_any (ah al : Int) (u1 : U64 ah) (u2 : U64 al) (w : World) :
    Calls Try.prog 39 #[.agg #[.int .u64 ah, .int .u64 al]] w fun e w' =>
      e = .returned (.bool (val ah al == 0)) ∧ Below w.heap.size w w' := by
  have hz := val_zero u1 u2
  have Hz := Lib.hid hz
  clear hz u1 u2
  go_enter Try.func39, Try.ntmps39
  go_wp2
  all_goals
    go_ret
    exact ⟨by rw [Hz.out]; simp [*], (Below.refl _ _).alloc (Nat.le_refl _) _⟩

set_option maxHeartbeats 1000000 in
theorem mul64_nat (x y : Nat) (hx : x < 18446744073709551616) (hy : y < 18446744073709551616) (w : World) :
    Calls Try.prog 80 #[.int .u64 x, .int .u64 y] w fun e w' =>
      e = .returned (.tuple #[.int .u64 ((x * y / 18446744073709551616 : Nat) : Int), .int .u64 ((x * y % 18446744073709551616 : Nat) : Int)]) ∧ w = w' := by
  obtain ⟨bd, bt, bw, hhi⟩ := Lib.mul64_hi x y hx hy
  have ba := Lib.half_mul_le (a := x / 4294967296) (b := y / 4294967296) (by omega) (by omega)
  have bb := Lib.half_mul_le (a := x / 4294967296) (b := y % 4294967296) (by omega) (by omega)
  have bc := Lib.half_mul_le (a := x % 4294967296) (b := y / 4294967296) (by omega) (by omega)
  have ba' : x / 4294967296 * (y / 4294967296) < 18446744073709551616 := by omega
  have bb' : x / 4294967296 * (y % 4294967296) < 18446744073709551616 := by omega
  have bc' : x % 4294967296 * (y / 4294967296) < 18446744073709551616 := by omega
  have bh1 : x / 4294967296 * (y / 4294967296) + (x / 4294967296 * (y % 4294967296) + x % 4294967296 * (y % 4294967296) / 4294967296) / 4294967296 < 18446744073709551616 := by omega
  have bh : x / 4294967296 * (y / 4294967296) + (x / 4294967296 * (y % 4294967296) + x % 4294967296 * (y % 4294967296) / 4294967296) / 4294967296 + ((x / 4294967296 * (y % 4294967296) + x % 4294967296 * (y % 4294967296) / 4294967296) % 4294967296 + x % 4294967296 * (y / 4294967296)) / 4294967296 < 18446744073709551616 := by omega
  go_enter Try.func80, Try.ntmps80
  go_wp2
  simp only [Mul64.maskN x hx, Mul64.maskN y hy, Mul64.divN, Mul64.mulN, Mul64.addN, Mul64.wrapN _ bd, Mul64.wrapN _ bb', Mul64.wrapN _ bt, Mul64.maskN _ bt, Mul64.wrapN _ bc', Mul64.wrapN _ bw, Mul64.wrapN _ ba', Mul64.wrapN _ bh1, Mul64.wrapN _ bh, Mul64.wrapM (x * y)]
  rw [hhi]
  go_ret2
  exact ⟨rfl, rfl⟩

theorem mul64_any (x y : Int) (u1 : U64 x) (u2 : U64 y) (w : World) :
    Calls Try.prog 80 #[.int .u64 x, .int .u64 y] w fun e w' =>
      e = .returned (.tuple #[.int .u64 (hiOf (x * y)), .int .u64 (loOf (x * y))]) ∧ w = w' := by
  obtain ⟨X, rfl⟩ := Int.eq_ofNat_of_zero_le u1.1
  obtain ⟨Y, rfl⟩ := Int.eq_ofNat_of_zero_le u2.1
  have hx : X < 18446744073709551616 := by have := u1.2; omega
  have hy : Y < 18446744073709551616 := by have := u2.2; omega
  have hp : X * Y < 18446744073709551616 * 18446744073709551616 := Nat.mul_lt_mul'' hx hy
  have e1 : ((X * Y / 18446744073709551616 : Nat) : Int) = hiOf ((X : Int) * (Y : Int)) := by
    rw [← Int.natCast_mul]; unfold hiOf; omega
  have e2 : ((X * Y % 18446744073709551616 : Nat) : Int) = loOf ((X : Int) * (Y : Int)) := by
    rw [← Int.natCast_mul]; unfold loOf; omega
  rw [← e1, ← e2]
  exact mul64_nat X Y hx hy w

set_option maxHeartbeats 400000 in
theorem mul_any (x y : Int) (u1 : U64 x) (u2 : U64 y) (w : World) :
    Calls Try.prog 61 #[.int .u64 x, .int .u64 y] w fun e w' =>
      e = .returned (.agg #[.int .u64 (hiOf (x * y)), .int .u64 (loOf (x * y))]) ∧ Below w.heap.size w w' := by
  go_enter Try.func61, Try.ntmps61
  go_wp2_with (go_at_call 80; refine (mul64_any x y u1 u2 _).mono ?_; rintro e w' ⟨rfl, rfl⟩)
  refine bodyPost_ret (v := .agg #[.int .u64 (hiOf (x * y)), .int .u64 (loOf (x * y))]) (by simp [results, Try.results61, go_sem]) rfl ⟨rfl, ?_⟩
  exact (Below.refl _ _).alloc (Nat.le_refl _) _

end Go.Proofs.Ythoffjogpmkjkaa
