/-
  The document's answer of stage 5: Mod.
-/
import Derived.Test.YtlmgebanfjclcaaRef5
import Derived.Test.YtlmgebanfjclcaaGnA
import Derived.Test.YtlmgebanfjclcaaGcA
set_option linter.unusedVariables false
set_option maxRecDepth 100000
namespace Go.Proofs.Ytlmgebanfjclcaa
open Go.RowKit
attribute [local go_sem ↓] Go.wp_at_zero Go.wp_at_succ

theorem mod5_bound (r : Int) {k : Nat} (hk : k ≤ 40000) : r % full * 2 ^ k < bp 90000 := by
  have h1 := (mod_f r).2; have h0 := (mod_f r).1
  have h2 := two_pow_le hk
  have e1 : (2 : Int) ^ 40000 = bp 1250 := by
    unfold bp
    rw [show (4294967296 : Int) = 2 ^ 32 from rfl, ← Int.pow_mul]
  rw [e1] at h2
  clear e1
  have hp := two_pow_pos k
  have hf : (0 : Int) ≤ full := by decide +kernel
  have h3 : r % full * 2 ^ k ≤ full * bp 1250 := Int.mul_le_mul (by omega) h2 (by omega) hf
  have h4 : full * bp 1250 = bp 1254 := by rw [show full = bp 4 from rfl, ← bp_add]
  have h6 := bp_le (show 1255 ≤ 90000 by decide)
  have h7 := bp_succ 1254
  have h8 := bp_pos 1254
  generalize bp 1254 = x at *
  generalize bp 1255 = y at *
  generalize bp 90000 = z at *
  omega
theorem small5 (r : Int) : Small (r % full) := small_of (k := 5) (by
  have h1 := (mod_f r).2
  have h2 : bp 5 = bp 4 * 4294967296 := by rw [bp_succ, Int.mul_comm]
  have h3 : bp 4 = full := rfl
  have h4 : 0 < full := by decide
  omega) (by decide)
set_option maxHeartbeats 4000000 in
theorem ref5_mod (r d : Int) (k : Nat) (hk : k ≤ 40000) (h : r % full < d % full) (w : World) :
    Calls Try.prog 15 #[.agg #[.int .u64 (hiOf r), .int .u64 (loOf r)], .int .i64 k, .agg #[.int .u64 (hiOf d), .int .u64 (loOf d)]] w fun e w' =>
      e = .returned (.tuple #[.agg #[.int .u64 (hiOf (r % full * 2 ^ k % (d % full))), .int .u64 (loOf (r % full * 2 ^ k % (d % full)))], .bool (decide (r % full * 2 ^ k / (d % full) % 2 = 1)), .bool true]) ∧ Below w.heap.size w w' := by
  have h0 := (mod_f r).1
  have RN := Lib.hid (bigN r)
  have DN := Lib.hid (bigN d)
  have hc : decide (0 ≤ cmpI (r % full) (d % full)) = false := by
    unfold cmpI; rw [if_pos h]; decide
  have CM := Lib.hid (fun w v v' (x : IsNum w v (r % full)) (y : IsNum w v' (d % full)) => cmp_num x y)
  have SH := Lib.hid (fun w v (x : IsNum w v (r % full)) => shl_num x (small5 r) k (by omega))
  have DV := Lib.hid (fun w v v' (x : IsNum w v (r % full * 2 ^ k)) (y : IsNum w v' (d % full)) => div_num x y (by omega) (mod5_bound r hk) (half5 d))
  have BT := Lib.hid (fun w v (x : IsNum w v (r % full * 2 ^ k / (d % full))) => bit_num x 0 (by decide) (by decide))
  rw [show bitN (r % full * 2 ^ k / (d % full)) 0 = decide (r % full * 2 ^ k / (d % full) % 2 = 1) by have := bitN_at (r % full * 2 ^ k / (d % full)) 0; rw [Int.pow_zero, Int.ediv_one] at this; exact this] at BT
  have g1 : decide ((k : Int) < 0) = false := by simp
  have g2 : decide (40000 < (k : Int)) = false := by simp; omega
  generalize decide (r % full * 2 ^ k / (d % full) % 2 = 1) = ob at *
  generalize r % full * 2 ^ k / (d % full) = q at *
  generalize r % full * 2 ^ k % (d % full) = m at *
  generalize r % full * 2 ^ k = p at *
  generalize cmpI (r % full) (d % full) = c at *
  generalize r % full = R at *
  generalize d % full = D at *
  clear h h0 hk
  go_enter Try.func15, Try.ntmps15
  go_wp2_with fail
  (with_reducible refine (DN.out _).mono ?_); rintro e w1 ⟨v1, rfl, n1, hb⟩
  have kk := bC (bA (bA (bA (Below.refl _ _) _) _) _) hb
  have cR0 := cell_later hb (a := ⟨w.heap.size, 0, none⟩) (v := .int .u64 (hiOf r)) (by go_simp)
  have cR1 := cell_later hb (a := ⟨w.heap.size, 1, none⟩) (v := .int .u64 (loOf r)) (by go_simp)
  have sR := World.block_lt_of_cell? _ _ cR0
  have b0 := cell_later hb (a := ⟨w.heap.size + 1 + 1, 0, none⟩) (v := .int .u64 0) (by go_simp)
  have b1 := cell_later hb (a := ⟨w.heap.size + 1 + 1, 1, none⟩) (v := .int .u64 0) (by go_simp)
  have f0 := frozen_later hb (a := ⟨w.heap.size + 1 + 1, 0, none⟩) (v := .int .u64 0) (by go_simp) (by go_simp)
  have f1 := frozen_later hb (a := ⟨w.heap.size + 1 + 1, 1, none⟩) (v := .int .u64 0) (by go_simp) (by go_simp)
  have br : BoxF w1 (w.heap.size + 1 + 1) 0 0 := ⟨Box.of b0 b1, f0, f1⟩
  clear hb DN b0 b1 f0 f1
  go_wp2_with fail
  (with_reducible refine (RN.out _).mono ?_); rintro e w2 ⟨v2, rfl, n2, hb⟩
  replace kk := bC kk hb; replace br := br.later hb; replace n1 := n1.later hb
  clear hb RN cR0 cR1 sR
  go_wp2_with fail
  (with_reducible refine (CM.out _ _ _ n2 n1).mono ?_); rintro e w3 ⟨rfl, hb⟩
  replace kk := bC kk hb; replace br := br.later hb; replace n1 := n1.later hb; replace n2 := n2.later hb
  clear hb CM
  go_wp2_with fail
  (with_reducible refine (SH.out _ _ n2).mono ?_); rintro e w4 ⟨v4, rfl, n4, hb⟩
  replace kk := bC kk hb; replace br := br.later hb; replace n1 := n1.later hb
  clear hb SH n2
  go_wp2_with fail
  (with_reducible refine (DV.out _ _ _ n4 n1).mono ?_); rintro e w5 ⟨v5, v6, rfl, n5, n6, hb⟩
  replace kk := bC kk hb; replace br := br.later hb
  clear hb DV n1 n4
  go_wp2_with fail
  (with_reducible refine (bits_num2 n6).mono ?_); rintro e w6 ⟨rfl, hb⟩
  replace kk := bC kk hb; replace br := br.later hb; replace n5 := n5.later hb
  clear hb n6
  go_wp2_with fail
  (with_reducible refine (BT.out _ _ n5).mono ?_); rintro e w7 ⟨rfl, hb⟩
  replace kk := bC kk hb; replace br := br.later hb
  clear hb n5 BT
  have KEY := Lib.hid (And.intro (br.set (hiOf m) (loOf m)) (bS kk (by omega : w.heap.size ≤ w.heap.size + 1 + 1) (hiOf m) (loOf m)))
  obtain ⟨⟨_, c0, c1⟩, f0, f1⟩ := br
  clear kk
  go_wp2_with fail
  obtain ⟨⟨⟨_, e0, e1⟩, _, _⟩, kb⟩ := KEY.out
  refine bodyPost_ret (v := .tuple #[.agg #[.int .u64 (hiOf m), .int .u64 (loOf m)], .bool ob, .bool true]) ?_ rfl ⟨rfl, kb⟩
  clear c0 c1 f0 f1 kb
  simp [results, Try.results15, go_sem, e0, e1]

end Go.Proofs.Ytlmgebanfjclcaa
