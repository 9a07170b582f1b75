/-
  Contracts of the document's answers of stage 3: shifts and jams of numbers of any size.
-/
import Derived.Test.YtidppeaianpojaaNumN
import Derived.Test.YtidppeaianpojaaNumG
import Derived.Test.YtidppeaianpojaaMath3
set_option linter.unusedVariables false
namespace Go.Proofs.Ytidppeaianpojaa
open Go.RowKit
attribute [local go_sem ↓] Go.wp_at_zero Go.wp_at_succ

theorem near_any (n : Int) (w : World) :
    Calls Try.prog 35 #[.int .i64 n] w fun e w' => e = .returned (.int .i64 ((min n.toNat 300 : Nat) : Int)) ∧ Below w.heap.size w w' := by
  rcases Int.lt_trichotomy n 0 with h0 | rfl | h0
  · rw [show ((min (n : Int).toNat 300 : Nat) : Int) = 0 by omega]
    go_enter Try.func35, Try.ntmps35
    go_wp2
    go_ret
    exact ⟨rfl, Below.refl _ _⟩
  · rw [show ((min (0 : Int).toNat 300 : Nat) : Int) = 0 by decide]
    go_enter Try.func35, Try.ntmps35
    go_wp2
    go_ret
    exact ⟨rfl, Below.refl _ _⟩
  · rcases Int.lt_trichotomy n 300 with h1 | rfl | h1
    · rw [show ((min (n : Int).toNat 300 : Nat) : Int) = n by omega]
      go_enter Try.func35, Try.ntmps35
      go_wp2
      go_ret
      exact ⟨rfl, Below.refl _ _⟩
    · rw [show ((min (300 : Int).toNat 300 : Nat) : Int) = 300 by decide]
      go_enter Try.func35, Try.ntmps35
      go_wp2
      go_ret
      exact ⟨rfl, Below.refl _ _⟩
    · rw [show ((min (n : Int).toNat 300 : Nat) : Int) = 300 by omega]
      go_enter Try.func35, Try.ntmps35
      go_wp2
      go_ret
      exact ⟨rfl, Below.refl _ _⟩

theorem ref3_left {w : World} {v : Value} {x : Int} (nx : IsNum w v x) (hs : Small x) (n : Int) :
    Calls Try.prog 13 #[v, .int .i64 n] w (RetNum w (x * 2 ^ min n.toNat 300)) := by
  have H := Lib.hid hs
  have N := Lib.hid (near_any n)
  have hm : min n.toNat 300 < 3200000 := by omega
  generalize min n.toNat 300 = k at *
  clear hs
  go_enter Try.func13, Try.ntmps13
  go_wp2_with fail
  (with_reducible refine (N.out _).mono ?_); rintro e w1 ⟨rfl, hb⟩
  replace nx := nx.later hb
  go_wp2_with fail
  (with_reducible refine (shl_num nx H.out k hm).mono ?_); rintro e w2 ⟨v2, rfl, nv, hb2⟩
  go_wp2_with fail
  go_ret
  exact ⟨_, rfl, nv, bC hb hb2⟩
theorem ref3_right {w : World} {v : Value} {x : Int} (nx : IsNum w v x) (n : Int) :
    Calls Try.prog 15 #[v, .int .i64 n] w (RetNum w (x / 2 ^ min n.toNat 300)) := by
  have N := Lib.hid (near_any n)
  have hm : ((min n.toNat 300 : Nat) : Int) ≤ 9223372036854775807 := by omega
  generalize min n.toNat 300 = k at *
  go_enter Try.func15, Try.ntmps15
  go_wp2_with fail
  (with_reducible refine (N.out _).mono ?_); rintro e w1 ⟨rfl, hb⟩
  replace nx := nx.later hb
  go_wp2_with fail
  (with_reducible refine (shr_num nx k hm).mono ?_); rintro e w2 ⟨v2, rfl, nv, hb2⟩
  go_wp2_with fail
  go_ret
  exact ⟨_, rfl, nv, bC hb hb2⟩
theorem len_pos {w : World} {ao : Option Addr} {k cap : Nat} {n : Int} (x : IsNum w (.slice ao k cap) n) : decide (0 < k) = (n != 0) := by
  obtain ⟨ao', k', cap', ds, e, h1, rfl, h3⟩ := x
  cases e
  have := zero_len h1 h3
  rw [Bool.eq_iff_iff]; simp only [decide_eq_true_eq, bne_iff_ne, ne_eq, ← this]
  omega
theorem ref3_lost {w : World} {v : Value} {x : Int} (nx : IsNum w v x) (hs : Small x) (n : Int) :
    Calls Try.prog 25 #[v, .int .i64 n] w fun e w' => e = .returned (.bool (x % 2 ^ min n.toNat 300 != 0)) ∧ Below w.heap.size w w' := by
  have H := Lib.hid hs
  have N := Lib.hid (near_any n)
  have hm : min n.toNat 300 < 3200000 := by omega
  generalize min n.toNat 300 = k at *
  clear hs
  obtain ⟨r, hr⟩ : ∃ r, (x % 2 ^ k != 0) = r := ⟨_, rfl⟩
  rw [hr]
  have HR := Lib.hid hr
  clear hr
  go_enter Try.func25, Try.ntmps25
  go_wp2_with fail
  (with_reducible refine (N.out _).mono ?_); rintro e w1 ⟨rfl, hb⟩
  replace nx := nx.later hb
  go_wp2_with fail
  (with_reducible refine (cut_num nx H.out k hm).mono ?_); rintro e w2 ⟨v2, rfl, nv, hb2⟩
  obtain ⟨ao, kl, cap, es, rfl, hd, hn, hnorm⟩ := id nv
  have hz := (len_pos nv).trans HR.out
  have HB2 := Lib.hid (bC hb hb2)
  clear hd hn hnorm nx nv N H hm hb hb2 HR
  go_wp2_with fail
  go_ret
  exact ⟨rfl, HB2.out⟩
theorem bitN_zero (q : Int) : bitN q 0 = decide (q % 2 = 1) := by
  unfold bitN; rw [Bool.eq_iff_iff]; simp
set_option maxHeartbeats 4000000 in
theorem ref3_jam {w : World} {v : Value} {x : Int} (nx : IsNum w v x) (hs : Small x) (n : Int) :
    Calls Try.prog 17 #[v, .int .i64 n] w (RetNum w (jamN x (min n.toNat 300))) := by
  have hx := nx.nonneg
  have d := div_back x (min n.toNat 300) hx
  have HQ : Hid (Small (x / 2 ^ min n.toNat 300)) := Lib.hid (by unfold Small at *; omega)
  have H1 : Hid (Small 1) := Lib.hid (small_of (k := 1) (by decide) (by decide))
  have R := Lib.hid (fun w v (nx : IsNum w v x) => ref3_right nx n)
  have L := Lib.hid (fun w v (nx : IsNum w v x) => ref3_lost nx hs n)
  have JE : Hid (jamN x (min n.toNat 300) = if x % 2 ^ min n.toNat 300 = 0 then x / 2 ^ min n.toNat 300 else x / 2 ^ min n.toNat 300 / 2 * 2 + 1) := Lib.hid rfl
  generalize jamN x (min n.toNat 300) = j at *
  by_cases ha : x % 2 ^ min n.toNat 300 = 0
  · have e : j = x / 2 ^ min n.toNat 300 := by rw [JE.out, if_pos ha]
    rw [show (x % 2 ^ min n.toNat 300 != 0) = false by simp [ha]] at L
    rw [e]
    generalize x / 2 ^ min n.toNat 300 = q at *
    clear JE e ha d H1 hs
    go_enter Try.func17, Try.ntmps17
    go_wp2_with fail
    (with_reducible refine (R.out _ _ nx).mono ?_); rintro e w1 ⟨v1, rfl, nq, hb⟩
    replace nx := nx.later hb
    go_wp2_with fail
    (with_reducible refine (L.out _ _ nx).mono ?_); rintro e w2 ⟨rfl, hb2⟩
    replace nq := nq.later hb2
    have kk := bC hb hb2
    clear hb hb2 R L
    go_wp2_with fail
    go_ret
    exact ⟨_, rfl, nq, kk⟩
  · rw [show (x % 2 ^ min n.toNat 300 != 0) = true by simp [ha]] at L
    by_cases hq : x / 2 ^ min n.toNat 300 % 2 = 1
    · have e : j = x / 2 ^ min n.toNat 300 := by rw [JE.out, if_neg ha]; omega
      rw [e]
      have BN := Lib.hid (fun w v (nq : IsNum w v (x / 2 ^ min n.toNat 300)) => bit_num nq 0 (by decide) (by decide))
      rw [bitN_zero, show decide (x / 2 ^ min n.toNat 300 % 2 = 1) = true by simp [hq]] at BN
      generalize x / 2 ^ min n.toNat 300 = q at *
      clear JE e ha d H1 hs hq
      go_enter Try.func17, Try.ntmps17
      go_wp2_with fail
      (with_reducible refine (R.out _ _ nx).mono ?_); rintro e w1 ⟨v1, rfl, nq, hb⟩
      replace nx := nx.later hb
      go_wp2_with fail
      (with_reducible refine (L.out _ _ nx).mono ?_); rintro e w2 ⟨rfl, hb2⟩
      replace nq := nq.later hb2
      have kk := bC hb hb2
      clear hb hb2 R L
      go_wp2_with fail
      (with_reducible refine (BN.out _ _ nq).mono ?_); rintro e w3 ⟨rfl, hb⟩
      replace nq := nq.later hb
      replace kk := bC kk hb
      clear hb BN
      go_wp2_with fail
      go_ret
      exact ⟨_, rfl, nq, kk⟩
    · have e : j = x / 2 ^ min n.toNat 300 + 1 := by rw [JE.out, if_neg ha]; omega
      rw [e]
      have BN := Lib.hid (fun w v (nq : IsNum w v (x / 2 ^ min n.toNat 300)) => bit_num nq 0 (by decide) (by decide))
      rw [bitN_zero, show decide (x / 2 ^ min n.toNat 300 % 2 = 1) = false by simp [hq]] at BN
      generalize x / 2 ^ min n.toNat 300 = q at *
      clear JE e ha d hs hq
      have u1 := u1
      go_enter Try.func17, Try.ntmps17
      go_wp2_with fail
      (with_reducible refine (R.out _ _ nx).mono ?_); rintro e w1 ⟨v1, rfl, nq, hb⟩
      replace nx := nx.later hb
      go_wp2_with fail
      (with_reducible refine (L.out _ _ nx).mono ?_); rintro e w2 ⟨rfl, hb2⟩
      replace nq := nq.later hb2
      have kk := bC hb hb2
      clear hb hb2 R L
      go_wp2_with fail
      (with_reducible refine (BN.out _ _ nq).mono ?_); rintro e w3 ⟨rfl, hb⟩
      replace nq := nq.later hb
      replace kk := bC kk hb
      clear hb BN
      go_wp2_with fail
      (with_reducible refine (of_num 1 u1 _).mono ?_); rintro e w4 ⟨v4, rfl, n1, hb⟩
      replace nq := nq.later hb
      replace kk := bC kk hb
      clear hb
      go_wp2_with fail
      (with_reducible refine (add_num nq n1 HQ.out H1.out).mono ?_); rintro e w5 ⟨v5, rfl, n5, hb⟩
      replace kk := bC kk hb
      go_wp2_with fail
      go_ret
      exact ⟨_, rfl, n5, kk⟩

end Go.Proofs.Ytidppeaianpojaa
