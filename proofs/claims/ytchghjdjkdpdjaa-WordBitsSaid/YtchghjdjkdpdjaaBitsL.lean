/-
  The walk of the statement WordBits: a number is the sum of its bits.
-/
import Derived.Test.YtchghjdjkdpdjaaCounts
set_option linter.unusedVariables false
namespace Go.Proofs.Ytchghjdjkdpdjaa
open Go.RowKit

def pw (k : Nat) : Int := 2 ^ k
def low (n : Int) (k : Nat) : Int := n % 2 ^ k
theorem pw_succ (k : Nat) : pw k + pw k = pw (k + 1) := by unfold pw; rw [Int.pow_succ]; omega
theorem pw_pos (k : Nat) : 0 < pw k := two_pow_pos k
theorem pw_le {k m : Nat} (h : k ≤ m) : pw k ≤ pw m := by
  induction h with
  | refl => exact Int.le_refl _
  | step _ ih => rw [← pw_succ]; have := pw_pos ‹_›; omega
theorem pw_128 : pw 128 = full := by decide +kernel
theorem low_zero (n : Int) : low n 0 = 0 := by unfold low; omega
theorem low_all {n : Int} (h0 : 0 ≤ n) (h1 : n < full) : low n 128 = n := by
  unfold low; exact Int.emod_eq_of_lt h0 (by have := pw_128; unfold pw at this; omega)
theorem low_range (n : Int) (k : Nat) : 0 ≤ low n k ∧ low n k < pw k :=
  ⟨Int.emod_nonneg _ (by have := pw_pos k; unfold pw at this; omega), Int.emod_lt_of_pos _ (pw_pos k)⟩
theorem low_step (n : Int) (k : Nat) : low n (k + 1) = low n k + pw k * (n / 2 ^ k % 2) := by
  unfold low pw
  have hp := two_pow_pos k
  have e1 := Int.emod_add_mul_ediv n (2 ^ k)
  have e2 := Int.emod_add_mul_ediv (n / 2 ^ k) 2
  have e3 := Int.emod_add_mul_ediv n (2 ^ (k + 1))
  have e4 : n / 2 ^ (k + 1) = n / 2 ^ k / 2 := by rw [Int.pow_succ, Int.ediv_ediv_of_nonneg (by omega)]
  rw [e4] at e3
  have e5 : (2 : Int) ^ (k + 1) * (n / 2 ^ k / 2) = 2 ^ k * (2 * (n / 2 ^ k / 2)) := by rw [Int.pow_succ, Int.mul_assoc]
  have e6 : (2 : Int) ^ k * (n / 2 ^ k) = 2 ^ k * (n / 2 ^ k % 2) + 2 ^ k * (2 * (n / 2 ^ k / 2)) := by rw [← Int.mul_add, e2]
  omega
theorem bit_div {n : Int} {k : Nat} (hk : k < 128) : bitI n k = (n / 2 ^ k % 2 == 1) := by
  unfold bitI
  simp only [Int.toNat_natCast, show decide (0 ≤ (k : Int)) = true from by simp, show decide ((k : Int) < 128) = true from by simp; omega, Bool.true_and]
theorem low_one {n : Int} {k : Nat} (hk : k < 128) (h : bitI n k = true) : low n k + pw k = low n (k + 1) := by
  rw [bit_div hk, beq_iff_eq] at h
  rw [low_step, h]; omega
theorem low_none {n : Int} {k : Nat} (hk : k < 128) (h : bitI n k = false) : low n k = low n (k + 1) := by
  rw [bit_div hk, beq_eq_false_iff_ne] at h
  rw [low_step, show n / 2 ^ k % 2 = 0 from by omega]; omega

theorem bit_as (q : Bool) (ah al i : Int) (u1 : U64 ah) (u2 : U64 al) (h : bitI (val ah al) i = q) (w : World) :
    Calls Try.prog 23 #[.agg #[.int .u64 ah, .int .u64 al], .int .i64 i] w fun e w' => e = .returned (.bool q) ∧ Below w.heap.size w w' := by
  subst h; exact bit_any ah al i u1 u2 w
theorem add_parts (S P n : Int) (hS : 0 ≤ S) (hP : 0 ≤ P) (h : S + P = n) (hn : n < full) (w : World) :
    Calls Try.prog 10 #[.agg #[.int .u64 (hiOf S), .int .u64 (loOf S)], .agg #[.int .u64 (hiOf P), .int .u64 (loOf P)]] w fun e w' =>
      e = .returned (.tuple #[.agg #[.int .u64 (hiOf n), .int .u64 (loOf n)], .bool false]) ∧ Below w.heap.size w w' :=
  (add_any _ _ _ _ (hiOf_u _) (loOf_u _) (hiOf_u _) (loOf_u _) w).mono fun e w' ⟨he, hb⟩ => ⟨he.trans (by
    rw [val_hiLo hS (by omega), val_hiLo hP (by omega), h, show decide (full ≤ n) = false from by simp; omega]), hb⟩
theorem add_twice (P n : Int) (hP : 0 ≤ P) (hn : P < full) (h : P + P = n) (w : World) :
    Calls Try.prog 10 #[.agg #[.int .u64 (hiOf P), .int .u64 (loOf P)], .agg #[.int .u64 (hiOf P), .int .u64 (loOf P)]] w fun e w' =>
      e = .returned (.tuple #[.agg #[.int .u64 (hiOf n), .int .u64 (loOf n)], .bool (decide (full ≤ n))]) ∧ Below w.heap.size w w' :=
  (add_any _ _ _ _ (hiOf_u _) (loOf_u _) (hiOf_u _) (loOf_u _) w).mono fun e w' ⟨he, hb⟩ => ⟨he.trans (by
    rw [val_hiLo hP hn, h]), hb⟩

/-- What holds at the head of each round. -/
def Head (w : World) (ah al : Int) (k : Nat) (wr : World) : Prop :=
  Box wr w.heap.size ah al ∧ BoxF wr (w.heap.size + 1) (hiOf (low (val ah al) k)) (loOf (low (val ah al) k)) ∧ BoxF wr (w.heap.size + 1 + 1) (hiOf (pw k)) (loOf (pw k)) ∧ Below w.heap.size w wr

theorem head_zero (w : World) (ah al : Int) (t : TypeId) : Head w ah al 0 (((w.alloc (bx ah al t)).alloc (bx 0 0 t)).alloc (bx 0 1 t)) := by
  unfold Head
  rw [low_zero, show hiOf 0 = 0 from by decide, show loOf 0 = 0 from by decide, show hiOf (pw 0) = 0 from by decide, show loOf (pw 0) = 1 from by decide]
  refine ⟨((Box.new w ah al t).alloc _).alloc _, ?_, ?_, bA (bA (bA (Below.refl _ _) _) _) _⟩
  · have h := (BoxF.new (w.alloc (bx ah al t)) 0 0 t).alloc (bx 0 1 t)
    rwa [World.size_alloc] at h
  · have h := BoxF.new ((w.alloc (bx ah al t)).alloc (bx 0 0 t)) 0 1 t
    rwa [World.size_alloc, World.size_alloc] at h

set_option maxHeartbeats 4000000 in
set_option maxRecDepth 100000 in
theorem bits_walk (ah al far : Int) (u1 : U64 ah) (u2 : U64 al) (hfar : -9223372036854775808 ≤ far ∧ far ≤ 9223372036854775807) (w : World) :
    Calls Try.prog 8 #[.agg #[.int .u64 ah, .int .u64 al], .int .i64 far] w fun e w' => e = .returned (.bool true) ∧ Below w.heap.size w w' := by
  clear hfar
  go_enter Try.func8, Try.ntmps8
  go_wp2_with fail
  go_loopw [7] (fun i wr => ∃ k : Nat, k ≤ 128 ∧ i = .int .i64 k ∧ Head w ah al k wr) (fun i _ => 128 - (intOf i).toNat)
  case atStart => exact ⟨0, by omega, rfl, head_zero w ah al 24⟩
  case round =>
    obtain ⟨k, hk, rfl, hh⟩ := hrel
    obtain ⟨pA, pS, pO, kk⟩ := hh
    have n1 : w.heap.size ≠ w.heap.size + 1 := by omega
    have n2 : w.heap.size ≠ w.heap.size + 1 + 1 := by omega
    have n3 : w.heap.size + 1 ≠ w.heap.size + 1 + 1 := by omega
    have l1 : w.heap.size ≤ w.heap.size + 1 := by omega
    have l2 : w.heap.size ≤ w.heap.size + 1 + 1 := by omega
    have N1 := Lib.hid n1; have N2 := Lib.hid n2; have N3 := Lib.hid n3; have L1 := Lib.hid l1; have L2 := Lib.hid l2
    clear n1 n2 n3 l1 l2
    by_cases hlt : k < 128
    · cases hq : bitI (val ah al) k with
      | true =>
        have add1 := add_parts (low (val ah al) k) (pw k) (low (val ah al) (k + 1)) (low_range _ _).1 (by have := pw_pos k; omega) (low_one hlt hq) (by have := (low_range (val ah al) (k + 1)).2; have := pw_le (show k + 1 ≤ 128 by omega); have := pw_128; omega)
        have add2 := add_twice (pw k) (pw (k + 1)) (by have := pw_pos k; omega) (by have := pw_le (show k + 1 ≤ 128 by omega); have := pw_succ k; have := pw_pos k; have := pw_128; omega) (pw_succ k)
        have bit1 := bit_as true ah al k u1 u2 hq
        have A1 := Lib.hid add1; have A2 := Lib.hid add2; have B1 := Lib.hid bit1
        clear add1 add2 bit1 hq
        obtain ⟨sA, cA0, cA1⟩ := id pA
        go_wp2_with fail
        (with_reducible refine (B1.out _).mono ?_); rintro e w1 ⟨rfl, hb1⟩
        have p1A := pA.later hb1; have p1S := pS.later hb1; have p1O := pO.later hb1; have kk1 := bC kk hb1
        clear pA pS pO kk hb1 sA cA0 cA1
        obtain ⟨⟨sS, cS0, cS1⟩, fS0, fS1⟩ := id p1S
        obtain ⟨⟨sO, cO0, cO1⟩, fO0, fO1⟩ := id p1O
        go_wp2_with fail
        (with_reducible refine (A1.out _).mono ?_); rintro e w2 ⟨rfl, hb2⟩
        have p2A := ((p1A.later hb2).setFar N1.out (hiOf (low (val ah al) (k + 1))) (loOf (low (val ah al) (k + 1)))).alloc (bx (hiOf (low (val ah al) (k + 1))) (loOf (low (val ah al) (k + 1))) 24); have p2S := ((p1S.later hb2).set (hiOf (low (val ah al) (k + 1))) (loOf (low (val ah al) (k + 1)))).alloc (bx (hiOf (low (val ah al) (k + 1))) (loOf (low (val ah al) (k + 1))) 24); have p2O := ((p1O.later hb2).setFar N3.out.symm (hiOf (low (val ah al) (k + 1))) (loOf (low (val ah al) (k + 1)))).alloc (bx (hiOf (low (val ah al) (k + 1))) (loOf (low (val ah al) (k + 1))) 24); have kk2 := bA (bS (bC kk1 hb2) L1.out (hiOf (low (val ah al) (k + 1))) (loOf (low (val ah al) (k + 1)))) (bx (hiOf (low (val ah al) (k + 1))) (loOf (low (val ah al) (k + 1))) 24)
        have q2S := p1S.later hb2; have q2O := p1O.later hb2
        clear p1A p1S p1O kk1 hb2 sS cS0 cS1 fS0 fS1 sO cO0 cO1 fO0 fO1
        obtain ⟨⟨sS, cS0, cS1⟩, fS0, fS1⟩ := q2S
        obtain ⟨⟨sO, cO0, cO1⟩, fO0, fO1⟩ := q2O
        go_wp2_with fail
        clear sS cS0 cS1 fS0 fS1 sO cO0 cO1 fO0 fO1
        (with_reducible refine (A2.out _).mono ?_); rintro e w3 ⟨rfl, hb3⟩
        have p3A := (p2A.later hb3).setFar N2.out (hiOf (pw (k + 1))) (loOf (pw (k + 1))); have p3S := (p2S.later hb3).setFar N3.out (hiOf (pw (k + 1))) (loOf (pw (k + 1))); have p3O := (p2O.later hb3).set (hiOf (pw (k + 1))) (loOf (pw (k + 1))); have kk3 := bS (bC kk2 hb3) L2.out (hiOf (pw (k + 1))) (loOf (pw (k + 1)))
        have q3O := p2O.later hb3
        clear p2A p2S p2O kk2 hb3
        obtain ⟨⟨sO, cO0, cO1⟩, fO0, fO1⟩ := q3O
        go_wp2_with fail
        go_roundw
        case rel => exact ⟨k + 1, by omega, by go_num, p3A, p3S, p3O, kk3⟩
        case measure => simp [intOf]; omega
      | false =>
        have add2 := add_twice (pw k) (pw (k + 1)) (by have := pw_pos k; omega) (by have := pw_le (show k + 1 ≤ 128 by omega); have := pw_succ k; have := pw_pos k; have := pw_128; omega) (pw_succ k)
        have bit1 := bit_as false ah al k u1 u2 hq
        have hlow := low_none hlt hq
        rw [hlow] at pS
        have A2 := Lib.hid add2; have B1 := Lib.hid bit1
        clear add2 bit1 hq hlow
        obtain ⟨sA, cA0, cA1⟩ := id pA
        go_wp2_with fail
        (with_reducible refine (B1.out _).mono ?_); rintro e w1 ⟨rfl, hb1⟩
        have p1A := pA.later hb1; have p1S := pS.later hb1; have p1O := pO.later hb1; have kk1 := bC kk hb1
        clear pA pS pO kk hb1 sA cA0 cA1
        obtain ⟨⟨sO, cO0, cO1⟩, fO0, fO1⟩ := id p1O
        go_wp2_with fail
        clear sO cO0 cO1 fO0 fO1
        (with_reducible refine (A2.out _).mono ?_); rintro e w3 ⟨rfl, hb3⟩
        have p3A := (p1A.later hb3).setFar N2.out (hiOf (pw (k + 1))) (loOf (pw (k + 1))); have p3S := (p1S.later hb3).setFar N3.out (hiOf (pw (k + 1))) (loOf (pw (k + 1))); have p3O := (p1O.later hb3).set (hiOf (pw (k + 1))) (loOf (pw (k + 1))); have kk3 := bS (bC kk1 hb3) L2.out (hiOf (pw (k + 1))) (loOf (pw (k + 1)))
        have q3O := p1O.later hb3
        clear p1A p1S p1O kk1 hb3
        obtain ⟨⟨sO, cO0, cO1⟩, fO0, fO1⟩ := q3O
        go_wp2_with fail
        go_roundw
        case rel => exact ⟨k + 1, by omega, by go_num, p3A, p3S, p3O, kk3⟩
        case measure => simp [intOf]; omega
    · obtain rfl : k = 128 := by omega
      rw [low_all (val_range u1 u2).1 (val_range u1 u2).2, hi_val u1 u2, lo_val u2] at pS
      obtain ⟨pS, _⟩ := pS
      clear pO N1 N2 N3 L1 L2 hk hlt
      obtain ⟨sA, cA0, cA1⟩ := id pA
      obtain ⟨sS, cS0, cS1⟩ := id pS
      by_cases f0 : far < 0
      · go_wp2_with fail
        (with_reducible refine (bit_as false ah al far u1 u2 (bit_out_lo f0) _).mono ?_); rintro e w1 ⟨rfl, hb1⟩
        have kk1 := bC kk hb1
        clear kk hb1 sA cA0 cA1 sS cS0 cS1
        go_wp2_with fail
        (with_reducible refine (counts_any _).mono ?_); rintro e w2 ⟨rfl, hb2⟩
        go_wp2_with fail
        go_ret
        exact ⟨rfl, bC kk1 hb2⟩
      · by_cases f1 : 127 < far
        · go_wp2_with fail
          (with_reducible refine (bit_as false ah al far u1 u2 (bit_out_hi f1) _).mono ?_); rintro e w1 ⟨rfl, hb1⟩
          have kk1 := bC kk hb1
          clear kk hb1 sA cA0 cA1 sS cS0 cS1
          go_wp2_with fail
          (with_reducible refine (counts_any _).mono ?_); rintro e w2 ⟨rfl, hb2⟩
          go_wp2_with fail
          go_ret
          exact ⟨rfl, bC kk1 hb2⟩
        · go_wp2_with fail
          (with_reducible refine (counts_any _).mono ?_); rintro e w1 ⟨rfl, hb1⟩
          go_wp2_with fail
          go_ret
          exact ⟨rfl, bC kk hb1⟩

end Go.Proofs.Ytchghjdjkdpdjaa
