/-
  Package quot's iterator over the bits of a number, from the highest one down.
-/
import Derived.Test.YtlmgebanfjclcaaGcA
import Derived.Test.YtlmgebanfjclcaaGaB
set_option linter.unusedVariables false
set_option linter.unusedSimpArgs false
set_option maxRecDepth 100000
namespace Go.Proofs.Ytlmgebanfjclcaa
open Go.RowKit Go.Shelf
attribute [local go_sem] Oper.semAt_some

/-- Indices from the top: the first j of them. -/
def topL (L : Nat) : Nat → List (Fin 256)
  | 0 => []
  | j + 1 => topL L j ++ [Fin.ofNat 256 (L - 1 - j)]
theorem topL_length (L j : Nat) : (topL L j).length = j := by
  induction j with
  | zero => rfl
  | succ j ih => simp [topL, ih]
/-- What is handed to a round. -/
def encB (n : Int) (x : Fin 256) : Array Value := #[.int .i64 (x.val : Int), .int .u64 (n / 2 ^ x.val % 2)]
theorem grown_of {w w' : World} (h : Below w.heap.size w w') : w.grownBy w' none := ⟨h.os, h.tape, h.output, h.size, fun k hk _ => h.block k hk⟩
theorem Keeps3.below {m : Nat} {W W' : World} (hm : m + 3 ≤ W.heap.size) (h : Below W.heap.size W W') : Keeps3 m W W' := fun k _ b => h.block k (by omega)

theorem digit_bit (n : Int) (c m : Nat) (hm : m < 64) : n / 18446744073709551616 ^ c % 18446744073709551616 / 2 ^ m % 2 = n / 2 ^ (64 * c + m) % 2 := by
  have e : (2 : Int) ^ (64 * c + m) = 18446744073709551616 ^ c * 2 ^ m := by rw [pow_64, Int.mul_comm]
  rw [e, ← Int.ediv_ediv_of_nonneg (Int.pow_nonneg (by decide))]
  generalize n / 18446744073709551616 ^ c = x
  have h1 : (18446744073709551616 : Int) = 2 ^ m * (2 * 2 ^ (63 - m)) := by
    rw [← Int.pow_succ', ← Int.pow_add, show m + (63 - m + 1) = 64 by omega]; rfl
  rw [h1]
  have hp := two_pow_pos m
  have hq := two_pow_pos (63 - m)
  generalize (2 : Int) ^ m = P at *
  generalize (2 : Int) ^ (63 - m) = Q at *
  rw [Int.emod_def x (P * (2 * Q)), Int.mul_assoc P, Int.sub_eq_add_neg, ← Int.mul_neg, Int.add_mul_ediv_left _ _ (by omega)]
  generalize x / P = y
  rw [Int.mul_assoc 2 Q, ← Int.mul_neg]
  generalize -(Q * _) = z
  omega

set_option maxRecDepth 100000 in
set_option maxHeartbeats 8000000 in
theorem bits1_in (nn : Nat) (hn : 1 ≤ nn) (l m L : Nat) (n : Int) (hL : blen (n % wfull) = L) (hL2 : L ≤ 256)
    (J Jx : List (Fin 256) → World → Prop) (hJA : ∀ pre W W', J pre W → Below W.heap.size W W' → J pre W')
    (hY : ∀ pre x W, J pre W → pre.length < 256 → YieldAt Fence.wide (nn - 1) Try.prog l (encB n x) W fun e W' =>
      (e = .returned (.bool true) ∧ J (pre ++ [x]) W' ∧ Keeps3 m W W') ∨ (e = .returned (.bool false) ∧ Jx (pre ++ [x]) W'))
    (W : World) (hm : m + 3 ≤ W.heap.size) (hN : HB W (m + 1 + 1) 24 #[.int .u64 (wd0 n), .int .u64 (wd1 n), .int .u64 (wd2 n), .int .u64 (wd3 n)]) (h0 : J [] W) :
    CallsIn Fence.wide nn Try.prog 58 #[.func (.yield l) #[] #[], .pointer (some ⟨m + 1 + 1, 0, none⟩)] W fun e W' => (∃ v, e = .returned v) ∧
      ((∃ ys, ys = topL L L ∧ J ys W') ∨ (∃ pre, True ∧ Jx pre W')) := by
  have q0 := hN.cell 0; have q1 := hN.cell 1; have q2 := hN.cell 2; have q3 := hN.cell 3
  dsimp at q0 q1 q2 q3
  refine callsIn_of_wp Try.func58 rfl trivial ?_ rfl
  simp only [Try.ntmps58, List.size_toArray, List.length_cons, List.length_nil, Nat.reduceAdd, Nat.reduceSub, Array.replicate_succ, Array.replicate_zero, List.push_toArray, List.append_toArray, List.nil_append, List.cons_append]
  gi_wp2
  refine ⟨trivial, (callsIn_wide.2 (wlenW n _)).mono ?_⟩
  rintro e W1 ⟨rfl, hb⟩
  rw [hL]
  have h1 := hJA _ _ _ h0 hb
  have hN1 := hN.later hb
  have hk1 : Keeps3 m W W1 := Keeps3.below hm hb
  have hm1 : m + 3 ≤ W1.heap.size := Nat.le_trans hm hb.size
  have ew : IntKind.i64.wrap ((L : Int) - 1) = (L : Int) - 1 := IntWalk.i64_in _ (by omega)
  clear q0 q1 q2 q3 hb h0 hN
  gi_wp2
  gi_loopw [3] (fun i wr => ∃ j : Nat, j ≤ L ∧ i = .int .i64 ((L : Int) - 1 - j) ∧ J (topL L j) wr ∧ Keeps3 m W1 wr)
    (fun i _ => (intOf i + 1).toNat)
  case atStart => exact ⟨0, by omega, by simp, h1, Keeps3.refl _ _⟩
  case round =>
    obtain ⟨j, hj, rfl, hJ, hk⟩ := hrel
    by_cases hjL : j = L
    · have g1 : decide ((0 : Int) ≤ (L : Int) - 1 - j) = false := by simp; omega
      gi_wp2
      go_end0
      exact ⟨⟨_, rfl⟩, .inl ⟨_, rfl, hjL ▸ hJ⟩⟩
    · obtain ⟨K, hK⟩ : ∃ K : Nat, (L : Int) - 1 - j = K := ⟨L - 1 - j, by omega⟩
      have hK2 : K < 256 := by omega
      rw [hK]
      have g1 : decide ((0 : Int) ≤ (K : Int)) = true := by simp
      have hN2 := hk.hb (by omega) (by omega) hN1
      have eK : topL L (j + 1) = topL L j ++ [⟨K, hK2⟩] := by
        show _ ++ _ = _
        congr 2
        refine Fin.ext ?_
        show (L - 1 - j) % 256 = K
        omega
      have hbit := digit_bit n (K / 64) (K % 64) (by omega)
      rw [show 64 * (K / 64) + K % 64 = K by omega] at hbit
      obtain ⟨fn, tmps, assign, body, hy, hR⟩ := hY _ ⟨K, hK2⟩ wr hJ (by rw [topL_length]; omega)
      dsimp only [encB] at hy
      clear hY hJA
      have hmod : K % 64 < 64 := Nat.mod_lt _ (by decide)
      have hm64 : IntKind.i64.wrap ((K : Int) - 1) = (K : Int) - 1 := IntWalk.i64_in _ (by omega)
      have hd0 := wd0_u n; have hd1 := wd1_u n; have hd2 := wd2_u n; have hd3 := wd3_u n
      have e2 : (18446744073709551616 : Int) ^ 2 = 340282366920938463463374607431768211456 := by decide +kernel
      have e3 : (18446744073709551616 : Int) ^ 3 = 6277101735386680763835789423207666416102355444464034512896 := by decide +kernel
      obtain hc | hc | hc | hc : K / 64 = 0 ∨ K / 64 = 1 ∨ K / 64 = 2 ∨ K / 64 = 3 := by omega
      · rw [hc, Int.pow_zero, Int.ediv_one] at hbit
        have an : bits .and .u64 (wd0 n / 2 ^ (K % 64)) 1 = n / 2 ^ K % 2 := by rw [and_one (div_pow_u hd0 _)]; exact hbit
        have c0 := hN2.cell 0; dsimp at c0
        clear hbit e2 e3
        generalize n / 2 ^ K % 2 = bt at *
        gi_wp2
        refine hR.mono ?_
        rintro e W3 (⟨rfl, hJ3, hk3⟩ | ⟨rfl, hJx3⟩)
        · gi_wp2
          go_roundw
          case rel => exact ⟨j + 1, by omega, by rw [← hK]; congr 1; omega, by rw [eK]; exact hJ3, hk.t hk3⟩
          case measure => simp [intOf]
        · gi_wp2
          refine bodyPost_ret (results_none rfl _ _ _) rfl ?_
          exact ⟨⟨_, rfl⟩, .inr ⟨_, trivial, hJx3⟩⟩
      · rw [hc, Int.pow_succ, Int.pow_zero, Int.one_mul] at hbit
        have an : bits .and .u64 (wd1 n / 2 ^ (K % 64)) 1 = n / 2 ^ K % 2 := by rw [and_one (div_pow_u hd1 _)]; exact hbit
        have c0 := hN2.cell 1; dsimp at c0
        clear hbit e2 e3
        generalize n / 2 ^ K % 2 = bt at *
        gi_wp2
        refine hR.mono ?_
        rintro e W3 (⟨rfl, hJ3, hk3⟩ | ⟨rfl, hJx3⟩)
        · gi_wp2
          go_roundw
          case rel => exact ⟨j + 1, by omega, by rw [← hK]; congr 1; omega, by rw [eK]; exact hJ3, hk.t hk3⟩
          case measure => simp [intOf]
        · gi_wp2
          refine bodyPost_ret (results_none rfl _ _ _) rfl ?_
          exact ⟨⟨_, rfl⟩, .inr ⟨_, trivial, hJx3⟩⟩
      · rw [hc, e2] at hbit
        have an : bits .and .u64 (wd2 n / 2 ^ (K % 64)) 1 = n / 2 ^ K % 2 := by rw [and_one (div_pow_u hd2 _)]; exact hbit
        have c0 := hN2.cell 2; dsimp at c0
        clear hbit e2 e3
        generalize n / 2 ^ K % 2 = bt at *
        gi_wp2
        refine hR.mono ?_
        rintro e W3 (⟨rfl, hJ3, hk3⟩ | ⟨rfl, hJx3⟩)
        · gi_wp2
          go_roundw
          case rel => exact ⟨j + 1, by omega, by rw [← hK]; congr 1; omega, by rw [eK]; exact hJ3, hk.t hk3⟩
          case measure => simp [intOf]
        · gi_wp2
          refine bodyPost_ret (results_none rfl _ _ _) rfl ?_
          exact ⟨⟨_, rfl⟩, .inr ⟨_, trivial, hJx3⟩⟩
      · rw [hc, e3] at hbit
        have an : bits .and .u64 (wd3 n / 2 ^ (K % 64)) 1 = n / 2 ^ K % 2 := by rw [and_one (div_pow_u hd3 _)]; exact hbit
        have c0 := hN2.cell 3; dsimp at c0
        clear hbit e2 e3
        generalize n / 2 ^ K % 2 = bt at *
        gi_wp2
        refine hR.mono ?_
        rintro e W3 (⟨rfl, hJ3, hk3⟩ | ⟨rfl, hJx3⟩)
        · gi_wp2
          go_roundw
          case rel => exact ⟨j + 1, by omega, by rw [← hK]; congr 1; omega, by rw [eK]; exact hJ3, hk.t hk3⟩
          case measure => simp [intOf]
        · gi_wp2
          refine bodyPost_ret (results_none rfl _ _ _) rfl ?_
          exact ⟨⟨_, rfl⟩, .inr ⟨_, trivial, hJx3⟩⟩

theorem bits_stops (nn : Nat) (hn : 1 ≤ nn) (m L : Nat) (n : Int) (hL : blen (n % wfull) = L) (hL2 : L ≤ 256) (w : World) (hm : m + 3 ≤ w.heap.size)
    (hN : HB w (m + 1 + 1) 24 #[.int .u64 (wd0 n), .int .u64 (wd1 n), .int .u64 (wd2 n), .int .u64 (wd3 n)]) :
    SeqStopsK Fence.wide nn Try.prog 58 #[.pointer (some ⟨m + 1 + 1, 0, none⟩)] (encB n) (Keeps3 m) (fun ys => ys = topL L L) (fun _ => True) 256 w :=
  fun l J Jx W hW hJ hJx hY h0 =>
    bits1_in nn hn l m L n hL hL2 J Jx (fun pre A B h hb => hJ pre A B none h (grown_of hb) (by simp)) hY W (Nat.le_trans hm hW.size) (hN.later hW) h0

end Go.Proofs.Ytlmgebanfjclcaa
