/-
  The walk of the statement ShiftFour.
-/
import Derived.Test.YtidppeaianpojaaGoes3
import Derived.Test.YtidppeaianpojaaRef3
set_option linter.unusedVariables false
set_option linter.unusedSimpArgs false
namespace Go.Proofs.Ytidppeaianpojaa
open Go.RowKit
attribute [local go_sem ↓] Go.wp_at_zero Go.wp_at_succ

theorem small_w3 (n : Int) : Small (n % wfull) := small_wide (by have := (mod_w n).2; have h : wfull ≤ wfull * wfull := by decide +kernel
                                                                 omega)
theorem lowL {A n : Int} {w : World} {v : Value} (x : IsNum w v (A % wfull * 2 ^ min n.toNat 300)) : Calls Try.prog 21 #[v] w fun e w' => e = .returned (.agg #[.int .u64 (wd0 (A * 2 ^ n.toNat)), .int .u64 (wd1 (A * 2 ^ n.toNat)), .int .u64 (wd2 (A * 2 ^ n.toNat)), .int .u64 (wd3 (A * 2 ^ n.toNat))]) ∧ Below w.heap.size w w' :=
  (low_num x).mono fun e w' ⟨he, hb⟩ => ⟨he.trans (by
    have h : A % wfull * 2 ^ min n.toNat 300 % wfull = A * 2 ^ n.toNat % wfull := by
      rw [mul_near (A % wfull) n.toNat, Int.mul_emod, Int.emod_emod_of_dvd A (Int.dvd_refl _), ← Int.mul_emod]
    obtain ⟨e0, e1, e2, e3⟩ := wd_congr h
    rw [e0, e1, e2, e3]), hb⟩
theorem lowR {A n : Int} {w : World} {v : Value} (x : IsNum w v (A % wfull / 2 ^ min n.toNat 300)) : Calls Try.prog 21 #[v] w fun e w' => e = .returned (.agg #[.int .u64 (wd0 (A % wfull / 2 ^ n.toNat)), .int .u64 (wd1 (A % wfull / 2 ^ n.toNat)), .int .u64 (wd2 (A % wfull / 2 ^ n.toNat)), .int .u64 (wd3 (A % wfull / 2 ^ n.toNat))]) ∧ Below w.heap.size w w' :=
  (low_num x).mono fun e w' ⟨he, hb⟩ => ⟨he.trans (by rw [div_near (mod_w A).1 (mod_w A).2]), hb⟩
theorem lowJ {A n : Int} {w : World} {v : Value} (x : IsNum w v (jamN (A % wfull) (min n.toNat 300))) : Calls Try.prog 21 #[v] w fun e w' => e = .returned (.agg #[.int .u64 (wd0 (jamN (A % wfull) n.toNat)), .int .u64 (wd1 (jamN (A % wfull) n.toNat)), .int .u64 (wd2 (jamN (A % wfull) n.toNat)), .int .u64 (wd3 (jamN (A % wfull) n.toNat))]) ∧ Below w.heap.size w w' :=
  (low_num x).mono fun e w' ⟨he, hb⟩ => ⟨he.trans (by rw [jam_near (mod_w A).1 (mod_w A).2]), hb⟩
theorem lostB (A n : Int) (n0 : -9223372036854775808 ≤ n) (n1 : n ≤ 9223372036854775807) (lb : Bool) (h : (A % wfull % 2 ^ n.toNat != 0) = lb) (w : World) : Calls Try.prog 24 #[.agg #[.int .u64 (wd0 (A)), .int .u64 (wd1 (A)), .int .u64 (wd2 (A)), .int .u64 (wd3 (A))], .int .i64 n] w fun e w' => e = .returned (.bool lb) ∧ Below w.heap.size w w' := by
  subst h; exact lostW A n n0 n1 w
theorem ref3_lostB {A n : Int} {lb : Bool} {w : World} {v : Value} (x : IsNum w v (A % wfull)) (hs : Small (A % wfull)) (h : (A % wfull % 2 ^ n.toNat != 0) = lb) : Calls Try.prog 25 #[v, .int .i64 n] w fun e w' => e = .returned (.bool lb) ∧ Below w.heap.size w w' := by
  have g := ref3_lost x hs n
  rw [mod_near (mod_w A).1 (mod_w A).2, h] at g
  exact g
set_option maxHeartbeats 4000000 in
set_option maxRecDepth 100000 in
theorem four3_walk (A n : Int)
     (lb : Bool) (n0 : -9223372036854775808 ≤ n) (n1 : n ≤ 9223372036854775807) (LB : Hid ((A % wfull % 2 ^ n.toNat != 0) = lb)) (w : World) :
    Calls Try.prog 4 #[.agg #[.int .u64 (wd0 (A)), .int .u64 (wd1 (A)), .int .u64 (wd2 (A)), .int .u64 (wd3 (A))], .int .i64 n] w fun e w' => e = .returned (.bool true) ∧ Below w.heap.size w w' := by
  have S := Lib.hid (small_w3 A)
  have E0 := eqw3 (wd0 (A * 2 ^ n.toNat)) (wd1 (A * 2 ^ n.toNat)) (wd2 (A * 2 ^ n.toNat)) (wd3 (A * 2 ^ n.toNat))
  have E1 := eqw3 (wd0 (A % wfull / 2 ^ n.toNat)) (wd1 (A % wfull / 2 ^ n.toNat)) (wd2 (A % wfull / 2 ^ n.toNat)) (wd3 (A % wfull / 2 ^ n.toNat))
  have E2 := eqw3 (wd0 (jamN (A % wfull) n.toNat)) (wd1 (jamN (A % wfull) n.toNat)) (wd2 (jamN (A % wfull) n.toNat)) (wd3 (jamN (A % wfull) n.toNat))
  go_enter Try.func4, Try.ntmps4
  go_wp2_with fail
  (with_reducible refine (wideN A _).mono ?_); rintro e w1 ⟨vx, rfl, nvx, hb⟩
  have hz := bC (bA (Below.refl _ _) _) hb
  have cX0_0 := cell_later hb (a := ⟨w.heap.size, 0, none⟩) (v := .int .u64 (wd0 (A))) (by go_simp)
  have cX0_1 := cell_later hb (a := ⟨w.heap.size, 1, none⟩) (v := .int .u64 (wd1 (A))) (by go_simp)
  have cX0_2 := cell_later hb (a := ⟨w.heap.size, 2, none⟩) (v := .int .u64 (wd2 (A))) (by go_simp)
  have cX0_3 := cell_later hb (a := ⟨w.heap.size, 3, none⟩) (v := .int .u64 (wd3 (A))) (by go_simp)
  have sX0 : w.heap.size < w1.heap.size := World.block_lt_of_cell? _ _ cX0_0
  have kk := hz
  clear hb hz
  go_wp2_with fail
  (with_reducible refine (wleftW A n n0 n1 _).mono ?_); rintro e w2 ⟨rfl, hb⟩
  replace nvx := nvx.later hb
  replace cX0_0 := cell_later hb cX0_0; replace cX0_1 := cell_later hb cX0_1; replace cX0_2 := cell_later hb cX0_2; replace cX0_3 := cell_later hb cX0_3
  replace sX0 : w.heap.size < w2.heap.size := World.block_lt_of_cell? _ _ cX0_0
  replace kk := bC kk hb
  clear hb
  go_wp2_with fail
  (with_reducible refine (ref3_left nvx S.out n).mono ?_); rintro e w3 ⟨v1, rfl, nv1, hb⟩
  replace nvx := nvx.later hb
  replace cX0_0 := cell_later hb cX0_0; replace cX0_1 := cell_later hb cX0_1; replace cX0_2 := cell_later hb cX0_2; replace cX0_3 := cell_later hb cX0_3
  replace sX0 : w.heap.size < w3.heap.size := World.block_lt_of_cell? _ _ cX0_0
  replace kk := bC kk hb
  clear hb
  go_wp2_with fail
  (with_reducible refine (lowL nv1).mono ?_); rintro e w4 ⟨rfl, hb⟩
  replace nvx := nvx.later hb
  replace nv1 := nv1.later hb
  replace cX0_0 := cell_later hb cX0_0; replace cX0_1 := cell_later hb cX0_1; replace cX0_2 := cell_later hb cX0_2; replace cX0_3 := cell_later hb cX0_3
  replace sX0 : w.heap.size < w4.heap.size := World.block_lt_of_cell? _ _ cX0_0
  replace kk := bC kk hb
  clear hb
  go_wp2_with fail
  (with_reducible refine (wrightW A n n0 n1 _).mono ?_); rintro e w5 ⟨rfl, hb⟩
  replace nvx := nvx.later hb
  replace nv1 := nv1.later hb
  replace cX0_0 := cell_later hb cX0_0; replace cX0_1 := cell_later hb cX0_1; replace cX0_2 := cell_later hb cX0_2; replace cX0_3 := cell_later hb cX0_3
  replace sX0 : w.heap.size < w5.heap.size := World.block_lt_of_cell? _ _ cX0_0
  replace kk := bC kk hb
  clear hb
  go_wp2_with fail
  (with_reducible refine (ref3_right nvx n).mono ?_); rintro e w6 ⟨v2, rfl, nv2, hb⟩
  replace nvx := nvx.later hb
  replace nv1 := nv1.later hb
  replace cX0_0 := cell_later hb cX0_0; replace cX0_1 := cell_later hb cX0_1; replace cX0_2 := cell_later hb cX0_2; replace cX0_3 := cell_later hb cX0_3
  replace sX0 : w.heap.size < w6.heap.size := World.block_lt_of_cell? _ _ cX0_0
  replace kk := bC kk hb
  clear hb
  go_wp2_with fail
  (with_reducible refine (lowR nv2).mono ?_); rintro e w7 ⟨rfl, hb⟩
  replace nvx := nvx.later hb
  replace nv1 := nv1.later hb
  replace nv2 := nv2.later hb
  replace cX0_0 := cell_later hb cX0_0; replace cX0_1 := cell_later hb cX0_1; replace cX0_2 := cell_later hb cX0_2; replace cX0_3 := cell_later hb cX0_3
  replace sX0 : w.heap.size < w7.heap.size := World.block_lt_of_cell? _ _ cX0_0
  replace kk := bC kk hb
  clear hb
  go_wp2_with fail
  (with_reducible refine (wjamW A n n0 n1 _).mono ?_); rintro e w8 ⟨rfl, hb⟩
  replace nvx := nvx.later hb
  replace nv1 := nv1.later hb
  replace nv2 := nv2.later hb
  replace cX0_0 := cell_later hb cX0_0; replace cX0_1 := cell_later hb cX0_1; replace cX0_2 := cell_later hb cX0_2; replace cX0_3 := cell_later hb cX0_3
  replace sX0 : w.heap.size < w8.heap.size := World.block_lt_of_cell? _ _ cX0_0
  replace kk := bC kk hb
  clear hb
  go_wp2_with fail
  (with_reducible refine (ref3_jam nvx S.out n).mono ?_); rintro e w9 ⟨v3, rfl, nv3, hb⟩
  replace nvx := nvx.later hb
  replace nv1 := nv1.later hb
  replace nv2 := nv2.later hb
  replace cX0_0 := cell_later hb cX0_0; replace cX0_1 := cell_later hb cX0_1; replace cX0_2 := cell_later hb cX0_2; replace cX0_3 := cell_later hb cX0_3
  replace sX0 : w.heap.size < w9.heap.size := World.block_lt_of_cell? _ _ cX0_0
  replace kk := bC kk hb
  clear hb
  go_wp2_with fail
  (with_reducible refine (lowJ nv3).mono ?_); rintro e w10 ⟨rfl, hb⟩
  replace nvx := nvx.later hb
  replace nv1 := nv1.later hb
  replace nv2 := nv2.later hb
  replace nv3 := nv3.later hb
  replace cX0_0 := cell_later hb cX0_0; replace cX0_1 := cell_later hb cX0_1; replace cX0_2 := cell_later hb cX0_2; replace cX0_3 := cell_later hb cX0_3
  replace sX0 : w.heap.size < w10.heap.size := World.block_lt_of_cell? _ _ cX0_0
  replace kk := bC kk hb
  clear hb
  go_wp2_with fail
  (with_reducible refine (lostB A n n0 n1 lb LB.out _).mono ?_); rintro e w11 ⟨rfl, hb⟩
  replace nvx := nvx.later hb
  replace nv1 := nv1.later hb
  replace nv2 := nv2.later hb
  replace nv3 := nv3.later hb
  clear cX0_0 cX0_1 cX0_2 cX0_3 sX0
  replace kk := bC kk hb
  clear hb
  go_wp2_with fail
  (with_reducible refine (ref3_lostB nvx S.out LB.out).mono ?_); rintro e w12 ⟨rfl, hb⟩
  replace nvx := nvx.later hb
  replace nv1 := nv1.later hb
  replace nv2 := nv2.later hb
  replace nv3 := nv3.later hb
  replace kk := bC kk hb
  clear hb
  go_wp2_with fail
  (with_reducible refine (goes3_any _).mono ?_); rintro e w13 ⟨rfl, hb⟩
  replace nvx := nvx.later hb
  replace nv1 := nv1.later hb
  replace nv2 := nv2.later hb
  replace nv3 := nv3.later hb
  replace kk := bC kk hb
  clear hb
  go_wp2_with fail
  go_ret
  exact ⟨rfl, kk⟩

theorem four3_law (a0 a1 a2 a3 n : Int) (ua0 : U64 a0) (ua1 : U64 a1) (ua2 : U64 a2) (ua3 : U64 a3) (hn : -9223372036854775808 ≤ n ∧ n ≤ 9223372036854775807) (w : World) :
    Calls Try.prog 4 #[.agg #[.int .u64 a0, .int .u64 a1, .int .u64 a2, .int .u64 a3], .int .i64 n] w fun e w' => e = .returned (.bool true) ∧ Below w.heap.size w w' := by
  have h := four3_walk (wval a0 a1 a2 a3) n _ hn.1 hn.2 (Lib.hid rfl) w
  obtain ⟨e0, e1, e2, e3⟩ := wd_wval ua0 ua1 ua2 ua3
  rw [e0, e1, e2, e3] at h
  exact h


end Go.Proofs.Ytidppeaianpojaa
