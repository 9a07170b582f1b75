/-
  Numbers rounded to their leading bits: the document's answers.
-/
import Derived.Test.YtmlobelcoggncaaRound15M
import Derived.Test.YtmlobelcoggncaaGmA
import Derived.Test.YtmlobelcoggncaaGnB
import Derived.Test.YtmlobelcoggncaaGnA
set_option linter.unusedVariables false
set_option linter.unusedSimpArgs false
set_option maxRecDepth 100000
namespace Go.Proofs.Ytmlobelcoggncaa
open Go.RowKit
attribute [local go_sem ↓] Go.wp_at_zero Go.wp_at_succ

theorem len_zero15 {w : World} {ao : Option Addr} {k cap : Nat} {n : Int} (x : IsNum w (.slice ao k cap) n) : ((k : Int) == 0) = (n == 0) := by
  obtain ⟨ao', k', cap', ds, e, h1, rfl, h3⟩ := x
  cases e
  have := zero_len h1 h3
  rw [Bool.eq_iff_iff]; simp only [beq_iff_eq, ← this]
  omega
theorem ref15_rest_le_true (q n : Int) (v : Value) (h : n ≤ 0) (w : World) : Calls Try.prog 31 #[v, .int .i64 n, .bool true] w fun e w' => e = .returned (.int .i64 (restQ q n true)) ∧ Below w.heap.size w w' := by
  rw [show restQ q n true = 1 by unfold restQ; rw [if_pos h]; rfl]
  have g : decide (n ≤ 0) = true := by simp [h]
  clear h
  go_enter Try.func31, Try.ntmps31
  go_wp2_with fail
  go_ret
  exact ⟨rfl, Below.refl _ _⟩
theorem ref15_rest_le_false (q n : Int) (v : Value) (h : n ≤ 0) (w : World) : Calls Try.prog 31 #[v, .int .i64 n, .bool false] w fun e w' => e = .returned (.int .i64 (restQ q n false)) ∧ Below w.heap.size w w' := by
  rw [show restQ q n false = 0 by unfold restQ; rw [if_pos h]; rfl]
  have g : decide (n ≤ 0) = true := by simp [h]
  clear h
  go_enter Try.func31, Try.ntmps31
  go_wp2_with fail
  go_ret
  exact ⟨rfl, Below.refl _ _⟩
set_option maxHeartbeats 1000000 in
theorem ref15_rest_in_zero (q n r L L2 n1 p c : Int) (v : Value) (LQ : Hid (∀ w v, IsNum w v q → Calls Try.prog 33 #[v] w fun e w' => e = .returned (.int .i64 L) ∧ w = w')) (CQ : Hid (∀ w v, IsNum w v q → Calls Try.prog 53 #[v, .int .i64 n] w (RetNum w r))) (zr : (r == 0) = true) (gn : decide (n ≤ 0) = false) (gl : decide (n ≤ (L : Int)) = true) (w : World) (nq : IsNum w v q) : Calls Try.prog 31 #[v, .int .i64 n, .bool false] w fun e w' => e = .returned (.int .i64 0) ∧ Below w.heap.size w w' := by
  go_enter Try.func31, Try.ntmps31
  go_wp2_with fail
  (with_reducible refine (LQ.out _ _ nq).mono ?_); rintro e wz ⟨rfl, rfl⟩
  go_wp2_with fail
  (with_reducible refine (CQ.out _ _ nq).mono ?_); rintro e w1 ⟨vn1, rfl, n1, hb⟩
  replace nq := nq.later hb
  have kk := bC (Below.refl _ _) hb
  clear hb
  clear nq
  obtain ⟨ao, kl, cap, es, rfl, hd, hn, hnorm⟩ := id n1
  have hz := (len_zero15 n1).trans zr
  clear hd hn hnorm
  go_wp2_with fail
  go_ret
  exact ⟨rfl, kk⟩
set_option maxHeartbeats 1000000 in
theorem ref15_rest_in_zmore (q n r L L2 n1 p c : Int) (v : Value) (LQ : Hid (∀ w v, IsNum w v q → Calls Try.prog 33 #[v] w fun e w' => e = .returned (.int .i64 L) ∧ w = w')) (CQ : Hid (∀ w v, IsNum w v q → Calls Try.prog 53 #[v, .int .i64 n] w (RetNum w r))) (zr : (r == 0) = true) (LR : Hid (∀ w v, IsNum w v r → Calls Try.prog 33 #[v] w fun e w' => e = .returned (.int .i64 L2) ∧ w = w')) (gn : decide (n ≤ 0) = false) (gl : decide (n ≤ (L : Int)) = true) (g2 : decide (L2 < n) = true) (w : World) (nq : IsNum w v q) : Calls Try.prog 31 #[v, .int .i64 n, .bool true] w fun e w' => e = .returned (.int .i64 1) ∧ Below w.heap.size w w' := by
  go_enter Try.func31, Try.ntmps31
  go_wp2_with fail
  (with_reducible refine (LQ.out _ _ nq).mono ?_); rintro e wz ⟨rfl, rfl⟩
  go_wp2_with fail
  (with_reducible refine (CQ.out _ _ nq).mono ?_); rintro e w1 ⟨vn1, rfl, n1, hb⟩
  replace nq := nq.later hb
  have kk := bC (Below.refl _ _) hb
  clear hb
  clear nq
  obtain ⟨ao, kl, cap, es, rfl, hd, hn, hnorm⟩ := id n1
  have hz := (len_zero15 n1).trans zr
  clear hd hn hnorm
  go_wp2_with fail
  (with_reducible refine (LR.out _ _ n1).mono ?_); rintro e wz ⟨rfl, rfl⟩
  go_wp2_with fail
  go_ret
  exact ⟨rfl, kk⟩
set_option maxHeartbeats 1000000 in
theorem ref15_rest_in_less_false (q n r L L2 n1 p c : Int) (v : Value) (LQ : Hid (∀ w v, IsNum w v q → Calls Try.prog 33 #[v] w fun e w' => e = .returned (.int .i64 L) ∧ w = w')) (CQ : Hid (∀ w v, IsNum w v q → Calls Try.prog 53 #[v, .int .i64 n] w (RetNum w r))) (zr : (r == 0) = false) (LR : Hid (∀ w v, IsNum w v r → Calls Try.prog 33 #[v] w fun e w' => e = .returned (.int .i64 L2) ∧ w = w')) (gn : decide (n ≤ 0) = false) (gl : decide (n ≤ (L : Int)) = true) (g2 : decide (L2 < n) = true) (w : World) (nq : IsNum w v q) : Calls Try.prog 31 #[v, .int .i64 n, .bool false] w fun e w' => e = .returned (.int .i64 1) ∧ Below w.heap.size w w' := by
  go_enter Try.func31, Try.ntmps31
  go_wp2_with fail
  (with_reducible refine (LQ.out _ _ nq).mono ?_); rintro e wz ⟨rfl, rfl⟩
  go_wp2_with fail
  (with_reducible refine (CQ.out _ _ nq).mono ?_); rintro e w1 ⟨vn1, rfl, n1, hb⟩
  replace nq := nq.later hb
  have kk := bC (Below.refl _ _) hb
  clear hb
  clear nq
  obtain ⟨ao, kl, cap, es, rfl, hd, hn, hnorm⟩ := id n1
  have hz := (len_zero15 n1).trans zr
  clear hd hn hnorm
  go_wp2_with fail
  (with_reducible refine (LR.out _ _ n1).mono ?_); rintro e wz ⟨rfl, rfl⟩
  go_wp2_with fail
  go_ret
  exact ⟨rfl, kk⟩
set_option maxHeartbeats 1000000 in
theorem ref15_rest_in_less_true (q n r L L2 n1 p c : Int) (v : Value) (LQ : Hid (∀ w v, IsNum w v q → Calls Try.prog 33 #[v] w fun e w' => e = .returned (.int .i64 L) ∧ w = w')) (CQ : Hid (∀ w v, IsNum w v q → Calls Try.prog 53 #[v, .int .i64 n] w (RetNum w r))) (zr : (r == 0) = false) (LR : Hid (∀ w v, IsNum w v r → Calls Try.prog 33 #[v] w fun e w' => e = .returned (.int .i64 L2) ∧ w = w')) (gn : decide (n ≤ 0) = false) (gl : decide (n ≤ (L : Int)) = true) (g2 : decide (L2 < n) = true) (w : World) (nq : IsNum w v q) : Calls Try.prog 31 #[v, .int .i64 n, .bool true] w fun e w' => e = .returned (.int .i64 1) ∧ Below w.heap.size w w' := by
  go_enter Try.func31, Try.ntmps31
  go_wp2_with fail
  (with_reducible refine (LQ.out _ _ nq).mono ?_); rintro e wz ⟨rfl, rfl⟩
  go_wp2_with fail
  (with_reducible refine (CQ.out _ _ nq).mono ?_); rintro e w1 ⟨vn1, rfl, n1, hb⟩
  replace nq := nq.later hb
  have kk := bC (Below.refl _ _) hb
  clear hb
  clear nq
  obtain ⟨ao, kl, cap, es, rfl, hd, hn, hnorm⟩ := id n1
  have hz := (len_zero15 n1).trans zr
  clear hd hn hnorm
  go_wp2_with fail
  (with_reducible refine (LR.out _ _ n1).mono ?_); rintro e wz ⟨rfl, rfl⟩
  go_wp2_with fail
  go_ret
  exact ⟨rfl, kk⟩
set_option maxHeartbeats 1000000 in
theorem ref15_rest_out_zero (q n r L L2 n1 p c : Int) (v : Value) (LQ : Hid (∀ w v, IsNum w v q → Calls Try.prog 33 #[v] w fun e w' => e = .returned (.int .i64 L) ∧ w = w')) (zr : (q == 0) = true) (gn : decide (n ≤ 0) = false) (gl : decide (n ≤ (L : Int)) = false) (w : World) (nq : IsNum w v q) : Calls Try.prog 31 #[v, .int .i64 n, .bool false] w fun e w' => e = .returned (.int .i64 0) ∧ Below w.heap.size w w' := by
  go_enter Try.func31, Try.ntmps31
  go_wp2_with fail
  (with_reducible refine (LQ.out _ _ nq).mono ?_); rintro e wz ⟨rfl, rfl⟩
  obtain ⟨ao, kl, cap, es, rfl, hd, hn, hnorm⟩ := id nq
  have hz := (len_zero15 nq).trans zr
  clear hd hn hnorm
  go_wp2_with fail
  go_ret
  exact ⟨rfl, (Below.refl _ _)⟩
set_option maxHeartbeats 1000000 in
theorem ref15_rest_out_zmore (q n r L L2 n1 p c : Int) (v : Value) (LQ : Hid (∀ w v, IsNum w v q → Calls Try.prog 33 #[v] w fun e w' => e = .returned (.int .i64 L) ∧ w = w')) (zr : (q == 0) = true) (gn : decide (n ≤ 0) = false) (gl : decide (n ≤ (L : Int)) = false) (g2 : decide (L < n) = true) (w : World) (nq : IsNum w v q) : Calls Try.prog 31 #[v, .int .i64 n, .bool true] w fun e w' => e = .returned (.int .i64 1) ∧ Below w.heap.size w w' := by
  go_enter Try.func31, Try.ntmps31
  go_wp2_with fail
  (with_reducible refine (LQ.out _ _ nq).mono ?_); rintro e wz ⟨rfl, rfl⟩
  obtain ⟨ao, kl, cap, es, rfl, hd, hn, hnorm⟩ := id nq
  have hz := (len_zero15 nq).trans zr
  clear hd hn hnorm
  go_wp2_with fail
  (with_reducible refine (LQ.out _ _ nq).mono ?_); rintro e wz ⟨rfl, rfl⟩
  go_wp2_with fail
  go_ret
  exact ⟨rfl, (Below.refl _ _)⟩
set_option maxHeartbeats 1000000 in
theorem ref15_rest_out_less_false (q n r L L2 n1 p c : Int) (v : Value) (LQ : Hid (∀ w v, IsNum w v q → Calls Try.prog 33 #[v] w fun e w' => e = .returned (.int .i64 L) ∧ w = w')) (zr : (q == 0) = false) (gn : decide (n ≤ 0) = false) (gl : decide (n ≤ (L : Int)) = false) (g2 : decide (L < n) = true) (w : World) (nq : IsNum w v q) : Calls Try.prog 31 #[v, .int .i64 n, .bool false] w fun e w' => e = .returned (.int .i64 1) ∧ Below w.heap.size w w' := by
  go_enter Try.func31, Try.ntmps31
  go_wp2_with fail
  (with_reducible refine (LQ.out _ _ nq).mono ?_); rintro e wz ⟨rfl, rfl⟩
  obtain ⟨ao, kl, cap, es, rfl, hd, hn, hnorm⟩ := id nq
  have hz := (len_zero15 nq).trans zr
  clear hd hn hnorm
  go_wp2_with fail
  (with_reducible refine (LQ.out _ _ nq).mono ?_); rintro e wz ⟨rfl, rfl⟩
  go_wp2_with fail
  go_ret
  exact ⟨rfl, (Below.refl _ _)⟩
set_option maxHeartbeats 1000000 in
theorem ref15_rest_out_less_true (q n r L L2 n1 p c : Int) (v : Value) (LQ : Hid (∀ w v, IsNum w v q → Calls Try.prog 33 #[v] w fun e w' => e = .returned (.int .i64 L) ∧ w = w')) (zr : (q == 0) = false) (gn : decide (n ≤ 0) = false) (gl : decide (n ≤ (L : Int)) = false) (g2 : decide (L < n) = true) (w : World) (nq : IsNum w v q) : Calls Try.prog 31 #[v, .int .i64 n, .bool true] w fun e w' => e = .returned (.int .i64 1) ∧ Below w.heap.size w w' := by
  go_enter Try.func31, Try.ntmps31
  go_wp2_with fail
  (with_reducible refine (LQ.out _ _ nq).mono ?_); rintro e wz ⟨rfl, rfl⟩
  obtain ⟨ao, kl, cap, es, rfl, hd, hn, hnorm⟩ := id nq
  have hz := (len_zero15 nq).trans zr
  clear hd hn hnorm
  go_wp2_with fail
  (with_reducible refine (LQ.out _ _ nq).mono ?_); rintro e wz ⟨rfl, rfl⟩
  go_wp2_with fail
  go_ret
  exact ⟨rfl, (Below.refl _ _)⟩
set_option maxHeartbeats 1000000 in
theorem ref15_rest_in_half (q n r L L2 n1 p c : Int) (v : Value) (LQ : Hid (∀ w v, IsNum w v q → Calls Try.prog 33 #[v] w fun e w' => e = .returned (.int .i64 L) ∧ w = w')) (CQ : Hid (∀ w v, IsNum w v q → Calls Try.prog 53 #[v, .int .i64 n] w (RetNum w r))) (zr : (r == 0) = false) (LR : Hid (∀ w v, IsNum w v r → Calls Try.prog 33 #[v] w fun e w' => e = .returned (.int .i64 L2) ∧ w = w')) (FQ : Hid (∀ w, Calls Try.prog 55 #[.int .i64 n1] w (RetNum w p))) (w1 : IntKind.i64.wrap (n - 1) = n1) (w1x : wrap64 (n - 1) = n1) (CM : Hid (∀ w u v, IsNum w u r → IsNum w v p → Calls Try.prog 54 #[u, v] w fun e w' => e = .returned (.int .i64 c) ∧ Below w.heap.size w w')) (gc : (c == 0) = true) (gn : decide (n ≤ 0) = false) (gl : decide (n ≤ (L : Int)) = true) (g2 : decide (L2 < n) = false) (w : World) (nq : IsNum w v q) : Calls Try.prog 31 #[v, .int .i64 n, .bool false] w fun e w' => e = .returned (.int .i64 2) ∧ Below w.heap.size w w' := by
  go_enter Try.func31, Try.ntmps31
  go_wp2_with fail
  (with_reducible refine (LQ.out _ _ nq).mono ?_); rintro e wz ⟨rfl, rfl⟩
  go_wp2_with fail
  (with_reducible refine (CQ.out _ _ nq).mono ?_); rintro e w1 ⟨vn1, rfl, n1, hb⟩
  replace nq := nq.later hb
  have kk := bC (Below.refl _ _) hb
  clear hb
  clear nq
  obtain ⟨ao, kl, cap, es, rfl, hd, hn, hnorm⟩ := id n1
  have hz := (len_zero15 n1).trans zr
  clear hd hn hnorm
  go_wp2_with fail
  (with_reducible refine (LR.out _ _ n1).mono ?_); rintro e wz ⟨rfl, rfl⟩
  go_wp2_with fail
  (with_reducible refine (FQ.out _).mono ?_); rintro e w2 ⟨vn2, rfl, n2, hb⟩
  replace n1 := n1.later hb
  replace kk := bC kk hb
  clear hb
  go_wp2_with fail
  (with_reducible refine (CM.out _ _ _ n1 n2).mono ?_); rintro e w3 ⟨rfl, hb⟩
  replace n1 := n1.later hb
  replace n2 := n2.later hb
  replace kk := bC kk hb
  clear hb
  clear n1 n2
  go_wp2_with fail
  go_ret
  exact ⟨rfl, kk⟩
set_option maxHeartbeats 1000000 in
theorem ref15_rest_in_more (q n r L L2 n1 p c : Int) (v : Value) (LQ : Hid (∀ w v, IsNum w v q → Calls Try.prog 33 #[v] w fun e w' => e = .returned (.int .i64 L) ∧ w = w')) (CQ : Hid (∀ w v, IsNum w v q → Calls Try.prog 53 #[v, .int .i64 n] w (RetNum w r))) (zr : (r == 0) = false) (LR : Hid (∀ w v, IsNum w v r → Calls Try.prog 33 #[v] w fun e w' => e = .returned (.int .i64 L2) ∧ w = w')) (FQ : Hid (∀ w, Calls Try.prog 55 #[.int .i64 n1] w (RetNum w p))) (w1 : IntKind.i64.wrap (n - 1) = n1) (w1x : wrap64 (n - 1) = n1) (CM : Hid (∀ w u v, IsNum w u r → IsNum w v p → Calls Try.prog 54 #[u, v] w fun e w' => e = .returned (.int .i64 c) ∧ Below w.heap.size w w')) (gc : (c == 0) = false) (gn : decide (n ≤ 0) = false) (gl : decide (n ≤ (L : Int)) = true) (g2 : decide (L2 < n) = false) (w : World) (nq : IsNum w v q) : Calls Try.prog 31 #[v, .int .i64 n, .bool false] w fun e w' => e = .returned (.int .i64 3) ∧ Below w.heap.size w w' := by
  go_enter Try.func31, Try.ntmps31
  go_wp2_with fail
  (with_reducible refine (LQ.out _ _ nq).mono ?_); rintro e wz ⟨rfl, rfl⟩
  go_wp2_with fail
  (with_reducible refine (CQ.out _ _ nq).mono ?_); rintro e w1 ⟨vn1, rfl, n1, hb⟩
  replace nq := nq.later hb
  have kk := bC (Below.refl _ _) hb
  clear hb
  clear nq
  obtain ⟨ao, kl, cap, es, rfl, hd, hn, hnorm⟩ := id n1
  have hz := (len_zero15 n1).trans zr
  clear hd hn hnorm
  go_wp2_with fail
  (with_reducible refine (LR.out _ _ n1).mono ?_); rintro e wz ⟨rfl, rfl⟩
  go_wp2_with fail
  (with_reducible refine (FQ.out _).mono ?_); rintro e w2 ⟨vn2, rfl, n2, hb⟩
  replace n1 := n1.later hb
  replace kk := bC kk hb
  clear hb
  go_wp2_with fail
  (with_reducible refine (CM.out _ _ _ n1 n2).mono ?_); rintro e w3 ⟨rfl, hb⟩
  replace n1 := n1.later hb
  replace n2 := n2.later hb
  replace kk := bC kk hb
  clear hb
  clear n1 n2
  go_wp2_with fail
  go_ret
  exact ⟨rfl, kk⟩
set_option maxHeartbeats 1000000 in
theorem ref15_rest_in_over (q n r L L2 n1 p c : Int) (v : Value) (LQ : Hid (∀ w v, IsNum w v q → Calls Try.prog 33 #[v] w fun e w' => e = .returned (.int .i64 L) ∧ w = w')) (CQ : Hid (∀ w v, IsNum w v q → Calls Try.prog 53 #[v, .int .i64 n] w (RetNum w r))) (zr : (r == 0) = false) (LR : Hid (∀ w v, IsNum w v r → Calls Try.prog 33 #[v] w fun e w' => e = .returned (.int .i64 L2) ∧ w = w')) (gn : decide (n ≤ 0) = false) (gl : decide (n ≤ (L : Int)) = true) (g2 : decide (L2 < n) = false) (w : World) (nq : IsNum w v q) : Calls Try.prog 31 #[v, .int .i64 n, .bool true] w fun e w' => e = .returned (.int .i64 3) ∧ Below w.heap.size w w' := by
  go_enter Try.func31, Try.ntmps31
  go_wp2_with fail
  (with_reducible refine (LQ.out _ _ nq).mono ?_); rintro e wz ⟨rfl, rfl⟩
  go_wp2_with fail
  (with_reducible refine (CQ.out _ _ nq).mono ?_); rintro e w1 ⟨vn1, rfl, n1, hb⟩
  replace nq := nq.later hb
  have kk := bC (Below.refl _ _) hb
  clear hb
  clear nq
  obtain ⟨ao, kl, cap, es, rfl, hd, hn, hnorm⟩ := id n1
  have hz := (len_zero15 n1).trans zr
  clear hd hn hnorm
  go_wp2_with fail
  (with_reducible refine (LR.out _ _ n1).mono ?_); rintro e wz ⟨rfl, rfl⟩
  go_wp2_with fail
  go_ret
  exact ⟨rfl, kk⟩
theorem len_lt {q : Int} (h : 0 ≤ q) {n : Int} (n0 : 0 < n) : decide ((blen q : Int) < n) = decide (q < 2 ^ (n.toNat - 1)) := by
  have := blen_gt h (n.toNat - 1)
  rw [decide_eq_decide] at this ⊢
  omega
theorem small_len {q : Int} (h : 0 ≤ q) (hl : blen q ≤ 100000) : Small q := by
  have h1 := lt_blen q h
  have h2 := two_pow_le hl
  unfold Small
  rw [bp_two]
  have h3 : (2 : Int) ^ 100000 ≤ 2 ^ (32 * 100000) := two_pow_le (by decide)
  omega
theorem ref15_rest (q n : Int) (more : Bool) (v : Value) (hl : blen q ≤ 100000) (n1 : n ≤ 9223372036854775807) (w : World) (nq : IsNum w v q) : Calls Try.prog 31 #[v, .int .i64 n, .bool more] w fun e w' => e = .returned (.int .i64 (restQ q n more)) ∧ Below w.heap.size w w' := by
  by_cases h0 : n ≤ 0
  · cases more
    · exact ref15_rest_le_false q n v h0 w
    · exact ref15_rest_le_true q n v h0 w
  · have q0 := nq.nonneg
    have gn : decide (n ≤ 0) = false := by simp; omega
    have LQ := Lib.hid fun w v (h : IsNum w v q) => len_num h
    have hr := Int.emod_nonneg q (pow_pos' n.toNat)
    have hm := Int.emod_lt_of_pos q (two_pow_pos n.toNat)
    have en : (n.toNat : Int) = n := by omega
    unfold restQ
    rw [if_neg h0]
    by_cases hn : n ≤ (blen q : Int)
    · have gl : decide (n ≤ (blen q : Int)) = true := by simp [hn]
      have hs := small_len q0 hl
      have CQ := Lib.hid fun w v (h : IsNum w v q) => cut_num h hs n.toNat (by omega)
      rw [en] at CQ
      have LR := Lib.hid fun w v (h : IsNum w v (q % 2 ^ n.toNat)) => len_num h
      have lt := len_lt hr (n := n) (by omega)
      by_cases z : q % 2 ^ n.toNat = 0
      · have zr : (q % 2 ^ n.toNat == 0) = true := by simp [z]
        cases more
        · rw [if_pos ⟨z, rfl⟩]
          exact ref15_rest_in_zero q n _ _ 0 0 0 0 v LQ CQ zr gn gl w nq
        · have g2 : q % 2 ^ n.toNat < 2 ^ (n.toNat - 1) := by rw [z]; exact two_pow_pos _
          rw [if_neg (by simp), if_pos g2]
          exact ref15_rest_in_zmore q n _ _ _ 0 0 0 v LQ CQ zr LR gn gl (by rw [lt]; simp [g2]) w nq
      · have zr : (q % 2 ^ n.toNat == 0) = false := by simp [z]
        rw [if_neg (by simp [z])]
        by_cases g2 : q % 2 ^ n.toNat < 2 ^ (n.toNat - 1)
        · rw [if_pos g2]
          cases more
          · exact ref15_rest_in_less_false q n _ _ _ 0 0 0 v LQ CQ zr LR gn gl (by rw [lt]; simp [g2]) w nq
          · exact ref15_rest_in_less_true q n _ _ _ 0 0 0 v LQ CQ zr LR gn gl (by rw [lt]; simp [g2]) w nq
        · have g3 : decide ((blen (q % 2 ^ n.toNat) : Int) < n) = false := by rw [lt]; simp [g2]
          rw [if_neg g2]
          cases more
          · have FQ := Lib.hid fun w => fullN (n.toNat - 1) (by omega) w
            rw [show ((n.toNat - 1 : Nat) : Int) = n - 1 by omega] at FQ
            have CM := Lib.hid fun w u v (h : IsNum w u (q % 2 ^ n.toNat)) (h2 : IsNum w v (2 ^ (n.toNat - 1))) => cmp_num h h2
            by_cases e : q % 2 ^ n.toNat = 2 ^ (n.toNat - 1)
            · rw [if_pos ⟨rfl, e⟩]
              exact ref15_rest_in_half q n _ _ _ _ _ _ v LQ CQ zr LR FQ (IntWalk.i64_in _ (by omega)) (by unfold wrap64; omega) CM (by unfold cmpI; rw [e]; simp) gn gl g3 w nq
            · rw [if_neg (by simp [e])]
              exact ref15_rest_in_more q n _ _ _ _ _ _ v LQ CQ zr LR FQ (IntWalk.i64_in _ (by omega)) (by unfold wrap64; omega) CM (by unfold cmpI; rw [if_neg (by omega), if_pos (by omega)]; rfl) gn gl g3 w nq
          · rw [if_neg (by simp)]
            exact ref15_rest_in_over q n _ _ _ 0 0 0 v LQ CQ zr LR gn gl g3 w nq
    · have gl : decide (n ≤ (blen q : Int)) = false := by simp; omega
      have g2 : decide ((blen q : Int) < n) = true := by simp; omega
      have lt := len_lt q0 (n := n) (by omega)
      have e : q % 2 ^ n.toNat = q := by
        have h1 := lt_blen q q0
        have h2 := two_pow_le (show blen q ≤ n.toNat by omega)
        exact Int.emod_eq_of_lt q0 (by omega)
      have g3 : q < 2 ^ (n.toNat - 1) := by rw [g2] at lt; exact of_decide_eq_true lt.symm
      rw [e]
      by_cases z : q = 0
      · have zr : (q == 0) = true := by simp [z]
        cases more
        · rw [if_pos ⟨z, rfl⟩]
          exact ref15_rest_out_zero q n 0 _ 0 0 0 0 v LQ zr gn gl w nq
        · rw [if_neg (by simp), if_pos g3]
          exact ref15_rest_out_zmore q n 0 _ 0 0 0 0 v LQ zr gn gl g2 w nq
      · have zr : (q == 0) = false := by simp [z]
        rw [if_neg (by simp [z]), if_pos g3]
        cases more
        · exact ref15_rest_out_less_false q n 0 _ 0 0 0 0 v LQ zr gn gl g2 w nq
        · exact ref15_rest_out_less_true q n 0 _ 0 0 0 0 v LQ zr gn gl g2 w nq
theorem nil_num15 (w : World) : IsNum w (.slice none 0 0) 0 := ⟨none, 0, 0, [], rfl, ⟨rfl, Nat.le_refl _, by decide, fun d h => (by cases h), fun h => absurd h (by decide)⟩, rfl, norm_nil⟩
set_option maxHeartbeats 1000000 in
theorem ref15_cut_le_up (q n r L fl m : Int) (n9 : Int) (od ng more : Bool) (v : Value) (RS : Hid (∀ w v, IsNum w v q → Calls Try.prog 31 #[v, .int .i64 n, .bool more] w fun e w' => e = .returned (.int .i64 r) ∧ Below w.heap.size w w')) (gn : decide (n ≤ 0) = true) (w1 : IntKind.i64.wrap (-n) = n9) (w1x : wrap64 (-n) = n9) (SH : Hid (∀ w v, IsNum w v q → Calls Try.prog 32 #[v, .int .i64 n9] w (RetNum w fl))) (BT : Hid (∀ w v, IsNum w v fl → Calls Try.prog 36 #[v, .int .i64 0] w fun e w' => e = .returned (.bool od) ∧ Below w.heap.size w w')) (NX : Hid (∀ w, Calls Try.prog 35 #[.int .u8 m, .bool ng, .bool od, .int .i64 r] w fun e w' => e = .returned (.bool true) ∧ Below w.heap.size w w')) (u1 : U64 1) (AD : Hid (∀ w u v, IsNum w u fl → IsNum w v 1 → Calls Try.prog 37 #[u, v] w (RetNum w (fl + 1)))) (w : World) (nq : IsNum w v q) : Calls Try.prog 12 #[v, .int .i64 n, .bool more, .int .u8 m, .bool ng] w fun e w' => ∃ u, e = .returned (.tuple #[u, .int .i64 r]) ∧ IsNum w' u (fl + 1) ∧ Below w.heap.size w w' := by
  go_enter Try.func12, Try.ntmps12
  go_wp2_with fail
  (with_reducible refine (RS.out _ _ nq).mono ?_); rintro e w1 ⟨rfl, hb⟩
  replace nq := nq.later hb
  have kk := bC (Below.refl _ _) hb
  clear hb
  go_wp2_with fail
  (with_reducible refine (SH.out _ _ nq).mono ?_); rintro e w2 ⟨vn1, rfl, n1, hb⟩
  replace nq := nq.later hb
  replace kk := bC kk hb
  clear hb
  clear nq
  go_wp2_with fail
  (with_reducible refine (BT.out _ _ n1).mono ?_); rintro e w3 ⟨rfl, hb⟩
  replace n1 := n1.later hb
  replace kk := bC kk hb
  clear hb
  go_wp2_with fail
  (with_reducible refine (NX.out _).mono ?_); rintro e w4 ⟨rfl, hb⟩
  replace n1 := n1.later hb
  replace kk := bC kk hb
  clear hb
  go_wp2_with fail
  (with_reducible refine (of_num 1 u1 _).mono ?_); rintro e w5 ⟨vn2, rfl, n2, hb⟩
  replace n1 := n1.later hb
  replace kk := bC kk hb
  clear hb
  go_wp2_with fail
  (with_reducible refine (AD.out _ _ _ n1 n2).mono ?_); rintro e w6 ⟨vn3, rfl, n3, hb⟩
  replace n1 := n1.later hb
  replace n2 := n2.later hb
  replace kk := bC kk hb
  clear hb
  clear n1 n2
  go_wp2_with fail
  go_ret2
  exact ⟨_, rfl, n3, kk⟩
set_option maxHeartbeats 1000000 in
theorem ref15_cut_le_no (q n r L fl m : Int) (n9 : Int) (od ng more : Bool) (v : Value) (RS : Hid (∀ w v, IsNum w v q → Calls Try.prog 31 #[v, .int .i64 n, .bool more] w fun e w' => e = .returned (.int .i64 r) ∧ Below w.heap.size w w')) (gn : decide (n ≤ 0) = true) (w1 : IntKind.i64.wrap (-n) = n9) (w1x : wrap64 (-n) = n9) (SH : Hid (∀ w v, IsNum w v q → Calls Try.prog 32 #[v, .int .i64 n9] w (RetNum w fl))) (BT : Hid (∀ w v, IsNum w v fl → Calls Try.prog 36 #[v, .int .i64 0] w fun e w' => e = .returned (.bool od) ∧ Below w.heap.size w w')) (NX : Hid (∀ w, Calls Try.prog 35 #[.int .u8 m, .bool ng, .bool od, .int .i64 r] w fun e w' => e = .returned (.bool false) ∧ Below w.heap.size w w')) (w : World) (nq : IsNum w v q) : Calls Try.prog 12 #[v, .int .i64 n, .bool more, .int .u8 m, .bool ng] w fun e w' => ∃ u, e = .returned (.tuple #[u, .int .i64 r]) ∧ IsNum w' u fl ∧ Below w.heap.size w w' := by
  go_enter Try.func12, Try.ntmps12
  go_wp2_with fail
  (with_reducible refine (RS.out _ _ nq).mono ?_); rintro e w1 ⟨rfl, hb⟩
  replace nq := nq.later hb
  have kk := bC (Below.refl _ _) hb
  clear hb
  go_wp2_with fail
  (with_reducible refine (SH.out _ _ nq).mono ?_); rintro e w2 ⟨vn1, rfl, n1, hb⟩
  replace nq := nq.later hb
  replace kk := bC kk hb
  clear hb
  clear nq
  go_wp2_with fail
  (with_reducible refine (BT.out _ _ n1).mono ?_); rintro e w3 ⟨rfl, hb⟩
  replace n1 := n1.later hb
  replace kk := bC kk hb
  clear hb
  go_wp2_with fail
  (with_reducible refine (NX.out _).mono ?_); rintro e w4 ⟨rfl, hb⟩
  replace n1 := n1.later hb
  replace kk := bC kk hb
  clear hb
  go_wp2_with fail
  go_ret2
  exact ⟨_, rfl, n1, kk⟩
set_option maxHeartbeats 1000000 in
theorem ref15_cut_in_up (q n r L fl m : Int) (n9 : Int) (od ng more : Bool) (v : Value) (RS : Hid (∀ w v, IsNum w v q → Calls Try.prog 31 #[v, .int .i64 n, .bool more] w fun e w' => e = .returned (.int .i64 r) ∧ Below w.heap.size w w')) (gn : decide (n ≤ 0) = false) (LQ : Hid (∀ w v, IsNum w v q → Calls Try.prog 33 #[v] w fun e w' => e = .returned (.int .i64 L) ∧ w = w')) (gl : decide (n ≤ (L : Int)) = true) (SH : Hid (∀ w v, IsNum w v q → Calls Try.prog 34 #[v, .int .i64 n] w (RetNum w fl))) (BT : Hid (∀ w v, IsNum w v fl → Calls Try.prog 36 #[v, .int .i64 0] w fun e w' => e = .returned (.bool od) ∧ Below w.heap.size w w')) (NX : Hid (∀ w, Calls Try.prog 35 #[.int .u8 m, .bool ng, .bool od, .int .i64 r] w fun e w' => e = .returned (.bool true) ∧ Below w.heap.size w w')) (u1 : U64 1) (AD : Hid (∀ w u v, IsNum w u fl → IsNum w v 1 → Calls Try.prog 37 #[u, v] w (RetNum w (fl + 1)))) (w : World) (nq : IsNum w v q) : Calls Try.prog 12 #[v, .int .i64 n, .bool more, .int .u8 m, .bool ng] w fun e w' => ∃ u, e = .returned (.tuple #[u, .int .i64 r]) ∧ IsNum w' u (fl + 1) ∧ Below w.heap.size w w' := by
  go_enter Try.func12, Try.ntmps12
  go_wp2_with fail
  (with_reducible refine (RS.out _ _ nq).mono ?_); rintro e w1 ⟨rfl, hb⟩
  replace nq := nq.later hb
  have kk := bC (Below.refl _ _) hb
  clear hb
  go_wp2_with fail
  (with_reducible refine (LQ.out _ _ nq).mono ?_); rintro e wz ⟨rfl, rfl⟩
  go_wp2_with fail
  (with_reducible refine (SH.out _ _ nq).mono ?_); rintro e w2 ⟨vn1, rfl, n1, hb⟩
  replace nq := nq.later hb
  replace kk := bC kk hb
  clear hb
  clear nq
  go_wp2_with fail
  (with_reducible refine (BT.out _ _ n1).mono ?_); rintro e w3 ⟨rfl, hb⟩
  replace n1 := n1.later hb
  replace kk := bC kk hb
  clear hb
  go_wp2_with fail
  (with_reducible refine (NX.out _).mono ?_); rintro e w4 ⟨rfl, hb⟩
  replace n1 := n1.later hb
  replace kk := bC kk hb
  clear hb
  go_wp2_with fail
  (with_reducible refine (of_num 1 u1 _).mono ?_); rintro e w5 ⟨vn2, rfl, n2, hb⟩
  replace n1 := n1.later hb
  replace kk := bC kk hb
  clear hb
  go_wp2_with fail
  (with_reducible refine (AD.out _ _ _ n1 n2).mono ?_); rintro e w6 ⟨vn3, rfl, n3, hb⟩
  replace n1 := n1.later hb
  replace n2 := n2.later hb
  replace kk := bC kk hb
  clear hb
  clear n1 n2
  go_wp2_with fail
  go_ret2
  exact ⟨_, rfl, n3, kk⟩
set_option maxHeartbeats 1000000 in
theorem ref15_cut_in_no (q n r L fl m : Int) (n9 : Int) (od ng more : Bool) (v : Value) (RS : Hid (∀ w v, IsNum w v q → Calls Try.prog 31 #[v, .int .i64 n, .bool more] w fun e w' => e = .returned (.int .i64 r) ∧ Below w.heap.size w w')) (gn : decide (n ≤ 0) = false) (LQ : Hid (∀ w v, IsNum w v q → Calls Try.prog 33 #[v] w fun e w' => e = .returned (.int .i64 L) ∧ w = w')) (gl : decide (n ≤ (L : Int)) = true) (SH : Hid (∀ w v, IsNum w v q → Calls Try.prog 34 #[v, .int .i64 n] w (RetNum w fl))) (BT : Hid (∀ w v, IsNum w v fl → Calls Try.prog 36 #[v, .int .i64 0] w fun e w' => e = .returned (.bool od) ∧ Below w.heap.size w w')) (NX : Hid (∀ w, Calls Try.prog 35 #[.int .u8 m, .bool ng, .bool od, .int .i64 r] w fun e w' => e = .returned (.bool false) ∧ Below w.heap.size w w')) (w : World) (nq : IsNum w v q) : Calls Try.prog 12 #[v, .int .i64 n, .bool more, .int .u8 m, .bool ng] w fun e w' => ∃ u, e = .returned (.tuple #[u, .int .i64 r]) ∧ IsNum w' u fl ∧ Below w.heap.size w w' := by
  go_enter Try.func12, Try.ntmps12
  go_wp2_with fail
  (with_reducible refine (RS.out _ _ nq).mono ?_); rintro e w1 ⟨rfl, hb⟩
  replace nq := nq.later hb
  have kk := bC (Below.refl _ _) hb
  clear hb
  go_wp2_with fail
  (with_reducible refine (LQ.out _ _ nq).mono ?_); rintro e wz ⟨rfl, rfl⟩
  go_wp2_with fail
  (with_reducible refine (SH.out _ _ nq).mono ?_); rintro e w2 ⟨vn1, rfl, n1, hb⟩
  replace nq := nq.later hb
  replace kk := bC kk hb
  clear hb
  clear nq
  go_wp2_with fail
  (with_reducible refine (BT.out _ _ n1).mono ?_); rintro e w3 ⟨rfl, hb⟩
  replace n1 := n1.later hb
  replace kk := bC kk hb
  clear hb
  go_wp2_with fail
  (with_reducible refine (NX.out _).mono ?_); rintro e w4 ⟨rfl, hb⟩
  replace n1 := n1.later hb
  replace kk := bC kk hb
  clear hb
  go_wp2_with fail
  go_ret2
  exact ⟨_, rfl, n1, kk⟩
set_option maxHeartbeats 1000000 in
theorem ref15_cut_out_up (q n r L fl m : Int) (n9 : Int) (od ng more : Bool) (v : Value) (RS : Hid (∀ w v, IsNum w v q → Calls Try.prog 31 #[v, .int .i64 n, .bool more] w fun e w' => e = .returned (.int .i64 r) ∧ Below w.heap.size w w')) (gn : decide (n ≤ 0) = false) (LQ : Hid (∀ w v, IsNum w v q → Calls Try.prog 33 #[v] w fun e w' => e = .returned (.int .i64 L) ∧ w = w')) (gl : decide (n ≤ (L : Int)) = false) (fl0 : fl = 0) (BT : Hid (∀ w v, IsNum w v fl → Calls Try.prog 36 #[v, .int .i64 0] w fun e w' => e = .returned (.bool od) ∧ Below w.heap.size w w')) (NX : Hid (∀ w, Calls Try.prog 35 #[.int .u8 m, .bool ng, .bool od, .int .i64 r] w fun e w' => e = .returned (.bool true) ∧ Below w.heap.size w w')) (u1 : U64 1) (AD : Hid (∀ w u v, IsNum w u fl → IsNum w v 1 → Calls Try.prog 37 #[u, v] w (RetNum w (fl + 1)))) (w : World) (nq : IsNum w v q) : Calls Try.prog 12 #[v, .int .i64 n, .bool more, .int .u8 m, .bool ng] w fun e w' => ∃ u, e = .returned (.tuple #[u, .int .i64 r]) ∧ IsNum w' u (fl + 1) ∧ Below w.heap.size w w' := by
  go_enter Try.func12, Try.ntmps12
  go_wp2_with fail
  (with_reducible refine (RS.out _ _ nq).mono ?_); rintro e w1 ⟨rfl, hb⟩
  replace nq := nq.later hb
  have kk := bC (Below.refl _ _) hb
  clear hb
  go_wp2_with fail
  (with_reducible refine (LQ.out _ _ nq).mono ?_); rintro e wz ⟨rfl, rfl⟩
  clear nq
  have n1 : IsNum w1 (.slice none 0 0) fl := by rw [fl0]; exact nil_num15 _
  go_wp2_with fail
  (with_reducible refine (BT.out _ _ n1).mono ?_); rintro e w2 ⟨rfl, hb⟩
  replace n1 := n1.later hb
  replace kk := bC kk hb
  clear hb
  go_wp2_with fail
  (with_reducible refine (NX.out _).mono ?_); rintro e w3 ⟨rfl, hb⟩
  replace n1 := n1.later hb
  replace kk := bC kk hb
  clear hb
  go_wp2_with fail
  (with_reducible refine (of_num 1 u1 _).mono ?_); rintro e w4 ⟨vn2, rfl, n2, hb⟩
  replace n1 := n1.later hb
  replace kk := bC kk hb
  clear hb
  go_wp2_with fail
  (with_reducible refine (AD.out _ _ _ n1 n2).mono ?_); rintro e w5 ⟨vn3, rfl, n3, hb⟩
  replace n1 := n1.later hb
  replace n2 := n2.later hb
  replace kk := bC kk hb
  clear hb
  clear n1 n2
  go_wp2_with fail
  go_ret2
  exact ⟨_, rfl, n3, kk⟩
set_option maxHeartbeats 1000000 in
theorem ref15_cut_out_no (q n r L fl m : Int) (n9 : Int) (od ng more : Bool) (v : Value) (RS : Hid (∀ w v, IsNum w v q → Calls Try.prog 31 #[v, .int .i64 n, .bool more] w fun e w' => e = .returned (.int .i64 r) ∧ Below w.heap.size w w')) (gn : decide (n ≤ 0) = false) (LQ : Hid (∀ w v, IsNum w v q → Calls Try.prog 33 #[v] w fun e w' => e = .returned (.int .i64 L) ∧ w = w')) (gl : decide (n ≤ (L : Int)) = false) (fl0 : fl = 0) (BT : Hid (∀ w v, IsNum w v fl → Calls Try.prog 36 #[v, .int .i64 0] w fun e w' => e = .returned (.bool od) ∧ Below w.heap.size w w')) (NX : Hid (∀ w, Calls Try.prog 35 #[.int .u8 m, .bool ng, .bool od, .int .i64 r] w fun e w' => e = .returned (.bool false) ∧ Below w.heap.size w w')) (w : World) (nq : IsNum w v q) : Calls Try.prog 12 #[v, .int .i64 n, .bool more, .int .u8 m, .bool ng] w fun e w' => ∃ u, e = .returned (.tuple #[u, .int .i64 r]) ∧ IsNum w' u fl ∧ Below w.heap.size w w' := by
  go_enter Try.func12, Try.ntmps12
  go_wp2_with fail
  (with_reducible refine (RS.out _ _ nq).mono ?_); rintro e w1 ⟨rfl, hb⟩
  replace nq := nq.later hb
  have kk := bC (Below.refl _ _) hb
  clear hb
  go_wp2_with fail
  (with_reducible refine (LQ.out _ _ nq).mono ?_); rintro e wz ⟨rfl, rfl⟩
  clear nq
  have n1 : IsNum w1 (.slice none 0 0) fl := by rw [fl0]; exact nil_num15 _
  go_wp2_with fail
  (with_reducible refine (BT.out _ _ n1).mono ?_); rintro e w2 ⟨rfl, hb⟩
  replace n1 := n1.later hb
  replace kk := bC kk hb
  clear hb
  go_wp2_with fail
  (with_reducible refine (NX.out _).mono ?_); rintro e w3 ⟨rfl, hb⟩
  replace n1 := n1.later hb
  replace kk := bC kk hb
  clear hb
  go_wp2_with fail
  go_ret2
  exact ⟨_, rfl, n1, kk⟩
theorem ref15_cut (q n : Int) (more : Bool) (m : Int) (ng : Bool) (v : Value) (hl : blen q ≤ 100000) (n0 : -100000 ≤ n) (n1 : n ≤ 9223372036854775807) (w : World) (nq : IsNum w v q) :
    Calls Try.prog 12 #[v, .int .i64 n, .bool more, .int .u8 m, .bool ng] w fun e w' => ∃ u, e = .returned (.tuple #[u, .int .i64 (restQ q n more)]) ∧ IsNum w' u (cutQ q n more m ng) ∧ Below w.heap.size w w' := by
  have q0 := nq.nonneg
  have RS := Lib.hid fun w v (h : IsNum w v q) => ref15_rest q n more v hl n1 w h
  have LQ := Lib.hid fun w v (h : IsNum w v q) => len_num h
  have BT := Lib.hid fun w v (h : IsNum w v (floorQ q n)) => bit_num h 0 (by decide) (by decide)
  have NX := Lib.hid (ref13_next m ng (decide (floorQ q n % 2 = 1)) (restQ q n more))
  rw [bitN_zero] at BT
  have hs := small_len q0 hl
  have SF : Small (floorQ q n) := by
    have h1 := lt_blen q q0
    have h2 := two_pow_le hl
    unfold floorQ
    split
    · have h3 := Int.mul_le_mul_of_nonneg_right (show q ≤ 2 ^ 100000 by omega) (show (0 : Int) ≤ 2 ^ (-n).toNat by have := two_pow_pos (-n).toNat; omega)
      rw [← Int.pow_add] at h3
      have h4 := two_pow_le (show 100000 + (-n).toNat ≤ 200000 by omega)
      unfold Small; rw [bp_two]
      have h5 : (2 : Int) ^ 200000 < 2 ^ (32 * 100000) := by
        have := two_pow_le (show 200000 + 1 ≤ 32 * 100000 by decide)
        rw [Int.pow_succ] at this
        have := two_pow_pos 200000
        omega
      omega
    · have := div_back q n.toNat q0
      unfold Small at *; omega
  have AD := Lib.hid fun w u v (h : IsNum w u (floorQ q n)) (h2 : IsNum w v 1) => add_num h h2 SF (small_of (k := 1) (by decide) (by decide))
  have U1 : U64 1 := by unfold U64; decide
  unfold cutQ
  by_cases h0 : n ≤ 0
  · have gn : decide (n ≤ 0) = true := by simp [h0]
    have SH := Lib.hid fun w v (h : IsNum w v q) => shl_num h hs (-n).toNat (by omega)
    rw [show q * 2 ^ (-n).toNat = floorQ q n by unfold floorQ; rw [if_pos h0], show ((-n).toNat : Int) = -n by omega] at SH
    by_cases c : nextM m ng (decide (floorQ q n % 2 = 1)) (restQ q n more) = true
    · rw [if_pos c]; rw [c] at NX
      exact ref15_cut_le_up q n _ 0 _ m _ _ ng more v RS gn (IntWalk.i64_in _ (by omega)) (by unfold wrap64; omega) SH BT NX U1 AD w nq
    · rw [if_neg c]; rw [Bool.eq_false_iff.2 c] at NX
      exact ref15_cut_le_no q n _ 0 _ m _ _ ng more v RS gn (IntWalk.i64_in _ (by omega)) (by unfold wrap64; omega) SH BT NX w nq
  · have gn : decide (n ≤ 0) = false := by simp; omega
    by_cases hn : n ≤ (blen q : Int)
    · have gl : decide (n ≤ (blen q : Int)) = true := by simp [hn]
      have SH := Lib.hid fun w v (h : IsNum w v q) => shr_num h n.toNat (by omega)
      rw [show q / 2 ^ n.toNat = floorQ q n by unfold floorQ; rw [if_neg h0], show (n.toNat : Int) = n by omega] at SH
      by_cases c : nextM m ng (decide (floorQ q n % 2 = 1)) (restQ q n more) = true
      · rw [if_pos c]; rw [c] at NX
        exact ref15_cut_in_up q n _ _ _ m 0 _ ng more v RS gn LQ gl SH BT NX U1 AD w nq
      · rw [if_neg c]; rw [Bool.eq_false_iff.2 c] at NX
        exact ref15_cut_in_no q n _ _ _ m 0 _ ng more v RS gn LQ gl SH BT NX w nq
    · have gl : decide (n ≤ (blen q : Int)) = false := by simp; omega
      have z : floorQ q n = 0 := by
        have h1 := lt_blen q q0
        have h2 := two_pow_le (show blen q ≤ n.toNat by omega)
        unfold floorQ; rw [if_neg h0]
        exact Int.ediv_eq_zero_of_lt q0 (by omega)
      by_cases c : nextM m ng (decide (floorQ q n % 2 = 1)) (restQ q n more) = true
      · rw [if_pos c]; rw [c] at NX
        exact ref15_cut_out_up q n _ _ _ m 0 _ ng more v RS gn LQ gl z BT NX U1 AD w nq
      · rw [if_neg c]; rw [Bool.eq_false_iff.2 c] at NX
        exact ref15_cut_out_no q n _ _ _ m 0 _ ng more v RS gn LQ gl z BT NX w nq


end Go.Proofs.Ytmlobelcoggncaa
