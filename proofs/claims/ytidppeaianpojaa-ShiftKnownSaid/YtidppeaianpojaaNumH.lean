/-
  Contracts of the document's own numbers: Shr, Cut.
-/
import Derived.Test.YtidppeaianpojaaNumG
set_option linter.unusedVariables false
namespace Go.Proofs.Ytidppeaianpojaa
open Go.RowKit

/-- Two digits of X beside one another, shifted. -/
theorem shr_digit {ds : List Int} (h : Digs ds) (q r k : Nat) (hr : r < 32) : ((ds.getD (q + k) 0 + ds.getD (q + k + 1) 0 * 4294967296) / 2 ^ r) % 4294967296 = num ds / bp q / 2 ^ r / bp k % 4294967296 := by
  obtain ⟨R, hR⟩ := num_digit h (q + k)
  obtain ⟨R2, hR2⟩ := num_digit h (q + k + 1)
  have e1 : num ds / bp (q + k + 1) = num ds / bp (q + k) / 4294967296 := by
    rw [bp_succ, Int.mul_comm, Int.ediv_ediv_of_nonneg (by have := bp_pos (q + k); omega)]
  have hd := getD_d32 h (q + k)
  have e2 : num ds / bp q / 2 ^ r / bp k = num ds / bp (q + k) / 2 ^ r := by
    have p1 := bp_pos q; have p2 := bp_pos k; have p3 := two_pow_pos r
    rw [bp_add, Int.ediv_ediv_of_nonneg (by omega), Int.ediv_ediv_of_nonneg (by have := Int.mul_pos p1 p3; omega), Int.ediv_ediv_of_nonneg (by have := Int.mul_pos p1 p2; omega)]
    congr 1
    simp only [Int.mul_assoc, Int.mul_comm (2 ^ r) (bp k)]
  rw [e2]
  rw [e1, hR] at hR2
  unfold D32 at hd
  have e3 : R = ds.getD (q + k + 1) 0 + 4294967296 * R2 := by omega
  rw [hR, e3]
  generalize ds.getD (q + k) 0 = x at *
  generalize ds.getD (q + k + 1) 0 = y at *
  have e4 : x + 4294967296 * (y + 4294967296 * R2) = (x + y * 4294967296) + 2 ^ r * (4294967296 * 2 ^ (32 - r) * R2) := by
    have e5 : (4294967296 : Int) = 2 ^ r * 2 ^ (32 - r) := by
      rw [← Int.pow_add, show r + (32 - r) = 32 from by omega]; rfl
    have e6 : (2 : Int) ^ r * (4294967296 * 2 ^ (32 - r) * R2) = 4294967296 * (4294967296 * R2) := by
      have e8 : (2 : Int) ^ r * (4294967296 * 2 ^ (32 - r) * R2) = 4294967296 * (2 ^ r * 2 ^ (32 - r) * R2) := by
        simp only [Int.mul_assoc, Int.mul_left_comm]
      rw [e8, ← e5]
    rw [e6]; omega
  rw [e4, Int.add_mul_ediv_left _ _ (by have := two_pow_pos r; omega)]
  have e7 : (4294967296 : Int) * 2 ^ (32 - r) * R2 = 4294967296 * (2 ^ (32 - r) * R2) := Int.mul_assoc ..
  rw [e7]; omega
theorem mod_step (X : Int) (k : Nat) : X % bp (k + 1) = X % bp k + bp k * (X / bp k % 4294967296) := by
  have p1 := bp_pos k
  have e1 := Int.emod_add_mul_ediv X (bp k)
  have e2 := Int.emod_add_mul_ediv (X / bp k) 4294967296
  have e3 := Int.emod_add_mul_ediv X (bp (k + 1))
  have e4 : X / bp (k + 1) = X / bp k / 4294967296 := by rw [bp_succ, Int.mul_comm, Int.ediv_ediv_of_nonneg (by omega)]
  rw [e4, bp_succ] at e3
  have e5 : 4294967296 * bp k * (X / bp k / 4294967296) = bp k * (4294967296 * (X / bp k / 4294967296)) := by rw [Int.mul_comm 4294967296, Int.mul_assoc]
  have e6 : bp k * (X / bp k) = bp k * (X / bp k % 4294967296) + bp k * (4294967296 * (X / bp k / 4294967296)) := by rw [← Int.mul_add, e2]
  rw [bp_succ]
  omega

theorem cell_new1 (w : World) (v : Value) (t : TypeId) : (w.alloc (.cells #[v] t)).cell? ⟨w.heap.size, 0, none⟩ = some v := by go_simp
/-- At the head of a round of Shr: k digits are out. -/
def ShrInv (w : World) (X : Int) (k : Nat) (v : Value) (wr : World) : Prop :=
  ∃ os : List Int, os.length = k ∧ Own wr w.heap.size v os ∧ num os = X % bp k ∧ Below w.heap.size w wr

set_option maxHeartbeats 2000000 in
theorem shr_ref {ao : Option Addr} {n c : Nat} {a : List Int} {w : World} (x : Dig w ao n c a) (N q r : Nat) (hq : (N : Int) / 32 = (q : Int)) (hr : (N : Int) % 32 = (r : Int)) (hN : (N : Int) ≤ 9223372036854775807) :
    Calls Try.prog 37 #[.slice ao n c, .int .i64 N] w (RetDig w (num a / 2 ^ N)) := by
  have X := Lib.hid x
  have hn := x.2.2.1
  have hr2 : r < 32 := by omega
  have hval : num a / 2 ^ N = num a / bp q / 2 ^ r := by
    rw [show N = 32 * q + r from by omega, Int.pow_add, ← Int.ediv_ediv_of_nonneg (by have := two_pow_pos (32 * q); omega), ← bp_two]
  have HV := Lib.hid hval
  clear x hval
  go_enter Try.func37, Try.ntmps37
  go_wp2_with fail
  go_loopw [5, 6] (fun v i wr => ∃ k : Nat, (q + k ≤ n ∨ k = 0) ∧ i = .int .i64 ((q + k : Nat) : Int) ∧ ShrInv w (num a / bp q / 2 ^ r) k v wr) (fun _ i _ => n - (intOf i).toNat)
  case atStart =>
    refine ⟨0, .inr rfl, rfl, [], rfl, Own.nil _ _, ?_, Below.refl _ _⟩
    rw [bp_zero, Int.emod_one]; rfl
  case round =>
    obtain ⟨k, hk, rfl, hinv⟩ := hrel
    obtain ⟨os, hos, hown, hsum, hbel⟩ := hinv
    by_cases hlt : q + k < n
    · obtain ⟨g1, hao, hg1, hc1⟩ := X.out.2.2.2.2 (by omega)
      subst hao
      have ca := (hbel.cell (p := ⟨g1, q + k, none⟩) hg1).trans (hc1 (q + k) hlt)
      have sd := shr_digit X.out.2.2.2.1 q r k hr2
      have cd := fun p => digit_quiet (X.out.later hbel) ((q + k : Nat) + 1 : Int) (q + k + 1) (by omega) p
      have st : num (os ++ [(a.getD (q + k) 0 + a.getD (q + k + 1) 0 * 4294967296) / 2 ^ r % 4294967296]) = (num a / bp q / 2 ^ r) % bp (k + 1) := by
        rw [num_snoc, hos, hsum, mod_step, sd]
      have dx := getD_d32 X.out.2.2.2.1 (q + k)
      have dy := getD_d32 X.out.2.2.2.1 (q + k + 1)
      have hlen : os.length < 1000000 := by rw [hos]; omega
      have HO := Lib.hid hown; have HB := Lib.hid hbel; have HL := Lib.hid hos; have HLen := Lib.hid hlen; have CD := Lib.hid cd; have ST := Lib.hid st
      clear hown hbel hos hsum hlen cd st sd hg1 hc1
      generalize a.getD (q + k + 1) 0 = x2 at *
      generalize a.getD (q + k) 0 = x1 at *
      obtain ⟨x10, x11⟩ := dx
      obtain ⟨x20, x21⟩ := dy
      obtain ⟨s, hs, hs0, hor, hmul⟩ : ∃ s, x1 + x2 * 4294967296 = s ∧ 0 ≤ s ∧ bits .or .u64 x1 (x2 * 4294967296) = s ∧ IntKind.u64.wrap (x2 * 4294967296) = x2 * 4294967296 := by
        refine ⟨_, rfl, by omega, ?_, by rw [IntKind.wrap_u64]; omega⟩
        obtain ⟨A, rfl⟩ := Int.eq_ofNat_of_zero_le x10
        obtain ⟨B, rfl⟩ := Int.eq_ofNat_of_zero_le x20
        have e : ((B : Int) * 4294967296) = ((B * 4294967296 : Nat) : Int) := by omega
        rw [e, u64_or_nat A (B * 4294967296) (by omega) (by omega), Nat.or_comm, nat_join 32 (B * 4294967296) A (Nat.mul_mod_left ..) (by omega)]
        omega
      rw [hs] at ST
      have hj0 : (0 : Int) ≤ ((q + k : Nat) : Int) := by omega
      have hj1 : ((q + k : Nat) : Int) < (n : Int) := by omega
      have hw1 : IntKind.i64.wrap (((q + k : Nat) : Int) + 1) = ((q + k : Nat) : Int) + 1 := IntWalk.i64_in _ (by omega)
      generalize hqk : q + k = j at *
      have HJ := Lib.hid hqk; have HS := Lib.hid hs
      clear hqk hs
      go_wp2_with fail
      go_quiet ((go_at_call 33; exact CD.out _))
      go_wp2_with (at_builtin; refine append_u32 rfl (.tmp 28) (.tmp 34) rfl w.heap.size _ os rfl ((HO.out.later (bN (Below.refl _ _) nq)).later (bA (Below.refl _ _) _)) wr.heap.size rfl (s / 2 ^ r % 4294967296) (mod_d32 _) (cell_new1 (wr.drewN nq) _ _) HLen.out (by have := HB.out.size; simp; omega) ?_; intro v' w2 hown2 hb2)
      have hb3 := (bN HB.out nq).trans ((bA (Below.refl _ _) _).mono (bN HB.out nq).size |>.trans hb2)
      go_roundw
      case rel => exact ⟨k + 1, .inl (by have := HJ.out; omega), by have := HJ.out; go_num, _, by simp [HL.out], hown2, ST.out, hb3⟩
      case measure => simp [intOf]; omega
    · have hge : n ≤ q + k := by omega
      have hlt2 : num a / bp q / 2 ^ r < bp k := by
        have h1 := num_lt X.out.2.2.2.1
        rw [← X.out.1] at h1
        have h0 := num_nonneg X.out.2.2.2.1
        have h2 := bp_le hge
        have p1 := bp_pos q; have p3 := two_pow_pos r
        have h3 : num a / bp q < bp k := by
          apply Int.ediv_lt_of_lt_mul p1
          rw [Int.mul_comm, ← bp_add]; omega
        have h4 := Int.ediv_le_self (b := 2 ^ r) (Int.ediv_nonneg h0 (by omega) : 0 ≤ num a / bp q)
        omega
      have hge0 : 0 ≤ num a / bp q / 2 ^ r := Int.ediv_nonneg (Int.ediv_nonneg (num_nonneg X.out.2.2.2.1) (by have := bp_pos q; omega)) (by have := two_pow_pos r; omega)
      rw [Int.emod_eq_of_lt hge0 hlt2, ← HV.out] at hsum
      obtain ⟨ao2, cap2, rfl, hdig⟩ := hown.digAny (by rw [hos]; omega)
      have HD := Lib.hid hdig; have HS := Lib.hid hsum; have HB := Lib.hid hbel
      clear hdig hsum hbel hown hos hlt2 hge0
      go_wp2_with fail
      (with_reducible refine (trim_any HD.out).mono ?_)
      intro e w2 hret
      obtain ⟨ao2, k2, cap2, ds2, rfl, R⟩ := hret
      have HR := Lib.hid R
      clear R HD
      go_wp2_with fail
      go_ret
      obtain ⟨r1, r2, r3, r4⟩ := HR.out
      exact ⟨ao2, k2, cap2, ds2, rfl, r1, r2.trans HS.out, r3, bC HB.out r4⟩
theorem shr_num {w : World} {v : Value} {n : Int} (x : IsNum w v n) (N : Nat) (hN : (N : Int) ≤ 9223372036854775807) :
    Calls Try.prog 37 #[v, .int .i64 N] w (RetNum w (n / 2 ^ N)) := by
  obtain ⟨ao, k, cap, ds, rfl, h1, rfl, h3⟩ := x
  exact (shr_ref h1 N (N / 32) (N % 32) (by omega) (by omega) hN).mono fun _ _ h => ret_num h

set_option maxHeartbeats 1000000 in
theorem cut_num {w : World} {v : Value} {n : Int} (x : IsNum w v n) (hs : Small n) (N : Nat) (hN : N < 3200000) :
    Calls Try.prog 46 #[v, .int .i64 N] w (RetNum w (n % 2 ^ N)) := by
  have hp := two_pow_pos N
  have hn := x.nonneg
  have hle : n / 2 ^ N * 2 ^ N ≤ n := Int.ediv_mul_le _ (by omega)
  have hsm : Small (n / 2 ^ N) := by
    have := Int.ediv_le_self (b := 2 ^ N) hn
    unfold Small at *; omega
  have heq : n - n / 2 ^ N * 2 ^ N = n % 2 ^ N := by
    have := Int.emod_add_mul_ediv n (2 ^ N)
    rw [Int.mul_comm] at this; omega
  have c1 := shr_num x N (by omega)
  have X := Lib.hid x; have C1 := Lib.hid c1; have HL := Lib.hid hle; have HS := Lib.hid hsm; have HE := Lib.hid heq; have HSN := Lib.hid hs
  clear x c1 hle hsm heq hs hp hn
  go_enter Try.func46, Try.ntmps46
  go_wp2_with fail
  (with_reducible refine C1.out.mono ?_); rintro e w1 ⟨v1, rfl, n1, hb1⟩
  have X1 := Lib.hid (X.out.later hb1); have N1 := Lib.hid n1; have HB1 := Lib.hid hb1
  clear n1 hb1 C1 X
  go_wp2_with fail
  (with_reducible refine (shl_num N1.out HS.out N hN).mono ?_); rintro e w2 ⟨v2, rfl, n2, hb2⟩
  have X2 := Lib.hid (X1.out.later hb2); have N2 := Lib.hid n2; have HB2 := Lib.hid (bC HB1.out hb2)
  clear n2 hb2 X1 N1 HB1
  go_wp2_with fail
  (with_reducible refine (sub_num X2.out N2.out HSN.out HL.out).mono ?_); rintro e w3 ⟨v3, rfl, n3, hb3⟩
  have N3 := Lib.hid n3; have HB3 := Lib.hid (bC HB2.out hb3)
  clear n3 hb3 X2 N2 HB2
  go_wp2_with fail
  go_ret
  exact ⟨v3, rfl, HE.out ▸ N3.out, HB3.out⟩

end Go.Proofs.Ytidppeaianpojaa
