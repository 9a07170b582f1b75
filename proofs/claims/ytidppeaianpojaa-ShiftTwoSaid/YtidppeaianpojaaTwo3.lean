/-
  The walk of the statement ShiftTwo.
-/
import Derived.Test.YtidppeaianpojaaGoes3
import Derived.Test.YtidppeaianpojaaRef3
set_option linter.unusedVariables false
set_option linter.unusedSimpArgs false
namespace Go.Proofs.Ytidppeaianpojaa
open Go.RowKit
attribute [local go_sem ↓] Go.wp_at_zero Go.wp_at_succ

theorem small_b3 (n : Int) : Small (n % full) := small_wide (by have := (mod_f n).2; have h : full ≤ wfull * wfull := by decide +kernel
                                                                omega)
theorem full_le_w : full ≤ wfull := by decide +kernel
theorem mod_w_f (x : Int) : x % wfull % full = x % full := by unfold wfull full; omega
theorem bitsL {A n : Int} {w : World} {v : Value} (x : IsNum w v (A % full * 2 ^ min n.toNat 300)) : Calls Try.prog 12 #[v] w fun e w' => e = .returned (.agg #[.int .u64 (hiOf (A * 2 ^ n.toNat)), .int .u64 (loOf (A * 2 ^ n.toNat))]) ∧ Below w.heap.size w w' :=
  (bits_num2 x).mono fun e w' ⟨he, hb⟩ => ⟨he.trans (by
    have h : A % full * 2 ^ min n.toNat 300 % full = A * 2 ^ n.toNat % full := by
      have h1 := mul_near (A % full) n.toNat
      have h2 : A % full * 2 ^ min n.toNat 300 % full = A % full * 2 ^ n.toNat % full := by rw [← mod_w_f, h1, mod_w_f]
      rw [h2, Int.mul_emod, Int.emod_emod_of_dvd A (Int.dvd_refl _), ← Int.mul_emod]
    rw [(hl_congr h).1, (hl_congr h).2]), hb⟩
theorem bitsR {A n : Int} {w : World} {v : Value} (x : IsNum w v (A % full / 2 ^ min n.toNat 300)) : Calls Try.prog 12 #[v] w fun e w' => e = .returned (.agg #[.int .u64 (hiOf (A % full / 2 ^ n.toNat)), .int .u64 (loOf (A % full / 2 ^ n.toNat))]) ∧ Below w.heap.size w w' :=
  (bits_num2 x).mono fun e w' ⟨he, hb⟩ => ⟨he.trans (by rw [div_near (mod_f A).1 (Int.lt_of_lt_of_le (mod_f A).2 full_le_w)]), hb⟩
theorem bitsJ {A n : Int} {w : World} {v : Value} (x : IsNum w v (jamN (A % full) (min n.toNat 300))) : Calls Try.prog 12 #[v] w fun e w' => e = .returned (.agg #[.int .u64 (hiOf (jamN (A % full) n.toNat)), .int .u64 (loOf (jamN (A % full) n.toNat))]) ∧ Below w.heap.size w w' :=
  (bits_num2 x).mono fun e w' ⟨he, hb⟩ => ⟨he.trans (by rw [jam_near (mod_f A).1 (Int.lt_of_lt_of_le (mod_f A).2 full_le_w)]), hb⟩
set_option maxHeartbeats 4000000 in
set_option maxRecDepth 100000 in
theorem two3_walk (A n : Int)
     (n0 : -9223372036854775808 ≤ n) (n1 : n ≤ 9223372036854775807) (w : World) :
    Calls Try.prog 3 #[.agg #[.int .u64 (hiOf (A)), .int .u64 (loOf (A))], .int .i64 n] w fun e w' => e = .returned (.bool true) ∧ Below w.heap.size w w' := by
  have S := Lib.hid (small_b3 A)
  go_enter Try.func3, Try.ntmps3
  go_wp2_with fail
  (with_reducible refine (bigN A _).mono ?_); rintro e w1 ⟨vx, rfl, nvx, hb⟩
  have hz := bC (bA (Below.refl _ _) _) hb
  have cX0_0 := cell_later hb (a := ⟨w.heap.size, 0, none⟩) (v := .int .u64 (hiOf (A))) (by go_simp)
  have cX0_1 := cell_later hb (a := ⟨w.heap.size, 1, none⟩) (v := .int .u64 (loOf (A))) (by go_simp)
  have sX0 : w.heap.size < w1.heap.size := World.block_lt_of_cell? _ _ cX0_0
  have kk := hz
  clear hb hz
  go_wp2_with fail
  (with_reducible refine (leftB A n n0 n1 _).mono ?_); rintro e w2 ⟨rfl, hb⟩
  replace nvx := nvx.later hb
  replace cX0_0 := cell_later hb cX0_0; replace cX0_1 := cell_later hb cX0_1
  replace sX0 : w.heap.size < w2.heap.size := World.block_lt_of_cell? _ _ cX0_0
  replace kk := bC kk hb
  clear hb
  go_wp2_with fail
  (with_reducible refine (ref3_left nvx S.out n).mono ?_); rintro e w3 ⟨v1, rfl, nv1, hb⟩
  replace nvx := nvx.later hb
  replace cX0_0 := cell_later hb cX0_0; replace cX0_1 := cell_later hb cX0_1
  replace sX0 : w.heap.size < w3.heap.size := World.block_lt_of_cell? _ _ cX0_0
  replace kk := bC kk hb
  clear hb
  go_wp2_with fail
  (with_reducible refine (bitsL nv1).mono ?_); rintro e w4 ⟨rfl, hb⟩
  replace nvx := nvx.later hb
  replace nv1 := nv1.later hb
  replace cX0_0 := cell_later hb cX0_0; replace cX0_1 := cell_later hb cX0_1
  replace sX0 : w.heap.size < w4.heap.size := World.block_lt_of_cell? _ _ cX0_0
  replace kk := bC kk hb
  clear hb
  go_wp2_with fail
  (with_reducible refine (rightB A n n0 n1 _).mono ?_); rintro e w5 ⟨rfl, hb⟩
  replace nvx := nvx.later hb
  replace nv1 := nv1.later hb
  replace cX0_0 := cell_later hb cX0_0; replace cX0_1 := cell_later hb cX0_1
  replace sX0 : w.heap.size < w5.heap.size := World.block_lt_of_cell? _ _ cX0_0
  replace kk := bC kk hb
  clear hb
  go_wp2_with fail
  (with_reducible refine (ref3_right nvx n).mono ?_); rintro e w6 ⟨v2, rfl, nv2, hb⟩
  replace nvx := nvx.later hb
  replace nv1 := nv1.later hb
  replace cX0_0 := cell_later hb cX0_0; replace cX0_1 := cell_later hb cX0_1
  replace sX0 : w.heap.size < w6.heap.size := World.block_lt_of_cell? _ _ cX0_0
  replace kk := bC kk hb
  clear hb
  go_wp2_with fail
  (with_reducible refine (bitsR nv2).mono ?_); rintro e w7 ⟨rfl, hb⟩
  replace nvx := nvx.later hb
  replace nv1 := nv1.later hb
  replace nv2 := nv2.later hb
  replace cX0_0 := cell_later hb cX0_0; replace cX0_1 := cell_later hb cX0_1
  replace sX0 : w.heap.size < w7.heap.size := World.block_lt_of_cell? _ _ cX0_0
  replace kk := bC kk hb
  clear hb
  go_wp2_with fail
  (with_reducible refine (jamB A n n0 n1 _).mono ?_); rintro e w8 ⟨rfl, hb⟩
  replace nvx := nvx.later hb
  replace nv1 := nv1.later hb
  replace nv2 := nv2.later hb
  clear cX0_0 cX0_1 sX0
  replace kk := bC kk hb
  clear hb
  go_wp2_with fail
  (with_reducible refine (ref3_jam nvx S.out n).mono ?_); rintro e w9 ⟨v3, rfl, nv3, hb⟩
  replace nvx := nvx.later hb
  replace nv1 := nv1.later hb
  replace nv2 := nv2.later hb
  replace kk := bC kk hb
  clear hb
  go_wp2_with fail
  (with_reducible refine (bitsJ nv3).mono ?_); rintro e w10 ⟨rfl, hb⟩
  replace nvx := nvx.later hb
  replace nv1 := nv1.later hb
  replace nv2 := nv2.later hb
  replace nv3 := nv3.later hb
  replace kk := bC kk hb
  clear hb
  go_wp2_with fail
  (with_reducible refine (goes3_any _).mono ?_); rintro e w11 ⟨rfl, hb⟩
  replace nvx := nvx.later hb
  replace nv1 := nv1.later hb
  replace nv2 := nv2.later hb
  replace nv3 := nv3.later hb
  replace kk := bC kk hb
  clear hb
  go_wp2_with fail
  go_ret
  exact ⟨rfl, kk⟩

theorem two3_law (ah al n : Int) (uah : U64 ah) (ual : U64 al) (hn : -9223372036854775808 ≤ n ∧ n ≤ 9223372036854775807) (w : World) :
    Calls Try.prog 3 #[.agg #[.int .u64 ah, .int .u64 al], .int .i64 n] w fun e w' => e = .returned (.bool true) ∧ Below w.heap.size w w' := by
  have h := two3_walk (val ah al) n hn.1 hn.2 w
  rw [(hl_val uah ual).1, (hl_val uah ual).2] at h
  exact h


end Go.Proofs.Ytidppeaianpojaa
