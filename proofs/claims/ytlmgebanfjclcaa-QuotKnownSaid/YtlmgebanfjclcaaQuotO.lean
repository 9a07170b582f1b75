/-
  Contract of quot.Mod: step by step.
-/
import Derived.Test.YtlmgebanfjclcaaQuotS
import Derived.Test.YtlmgebanfjclcaaQuotM
set_option linter.unusedVariables false
set_option linter.unusedSimpArgs false
set_option maxRecDepth 100000
namespace Go.Proofs.Ytlmgebanfjclcaa
open Go.RowKit
attribute [local go_sem ↓] Go.wp_at_zero Go.wp_at_succ

/-- At the head of Mod's loop. -/
def ModRel (w : World) (p q : Nat → Int) (k : Nat) (B : Nat) (dh dl : Int) (x i : Value) (wr : World) : Prop :=
  ∃ j : Nat, j ≤ k ∧ x = .int .u64 (p j) ∧ i = .int .i64 (j : Int) ∧ HB wr w.heap.size 26 #[.int .u64 (hiOf (q j)), .int .u64 (loOf (q j))] ∧ HB wr (w.heap.size + 1 + 1) 26 #[.int .u64 0, .int .u64 0] ∧ HB wr B 26 #[.int .u64 dh, .int .u64 dl] ∧ Below w.heap.size w wr

set_option maxHeartbeats 8000000 in
theorem qmod_core (p q : Nat → Int) (dh dl c : Int) (k : Nat) (hk : k ≤ 40000) (hp0 : p 0 = 0)
    (C : Hid (∀ w, Calls Try.prog 24 #[.agg #[.int .u64 (hiOf (q 0)), .int .u64 (loOf (q 0))], .agg #[.int .u64 dh, .int .u64 dl]] w fun e w' => e = .returned (.int .i64 c) ∧ Below w.heap.size w w'))
    (hc : decide (0 ≤ c) = false)
    (S : Hid (∀ (i B : Nat) w, HB w B 26 #[.int .u64 dh, .int .u64 dl] → Calls Try.prog 55 #[.agg #[.int .u64 (hiOf (q i)), .int .u64 (loOf (q i))], .int .u64 0, .pointer (some ⟨B, 0, none⟩)] w fun e w' =>
      e = .returned (.tuple #[.int .u64 (p (i + 1)), .agg #[.int .u64 (hiOf (q (i + 1))), .int .u64 (loOf (q (i + 1)))]]) ∧ Below w.heap.size w w')) (w : World) :
    Calls Try.prog 14 #[.agg #[.int .u64 (hiOf (q 0)), .int .u64 (loOf (q 0))], .int .i64 (k : Int), .agg #[.int .u64 dh, .int .u64 dl]] w fun e w' =>
      e = .returned (.tuple #[.agg #[.int .u64 (hiOf (q k)), .int .u64 (loOf (q k))], .bool (p k == 1), .bool true]) ∧ Below w.heap.size w w' := by
  have g1 : decide ((k : Int) < 0) = false := by simp
  have g2 : decide (40000 < (k : Int)) = false := by simp; omega
  go_enter Try.func14, Try.ntmps14
  go_wp2_with fail
  (with_reducible refine (C.out _).mono ?_); rintro e w1 ⟨rfl, hb⟩
  have kk := bC (bA (bA (bA (Below.refl _ _) _) _) _) hb
  have xr : HB w1 w.heap.size 26 #[.int .u64 (hiOf (q 0)), .int .u64 (loOf (q 0))] := (((HB.new w _ _).alloc _).alloc _).later hb
  have xd : HB w1 (w.heap.size + 1) 26 #[.int .u64 dh, .int .u64 dl] := ((HB.newAt (by simp) _ _).alloc _).later hb
  have xz : HB w1 (w.heap.size + 1 + 1) 26 #[.int .u64 0, .int .u64 0] := (HB.newAt (by simp) _ _).later hb
  have d0 := xd.cell 0; have d1 := xd.cell 1; dsimp at d0 d1
  have ld := xd.lt; have lr := xr.lt; have lz := xz.lt
  clear hb C
  go_wp2_with fail
  (with_reducible refine (divby_any dh dl _).mono ?_); rintro e w2 ⟨rfl, xB, hsz, hb⟩
  replace xr := xr.later hb
  replace xz := xz.later hb
  replace kk := bC kk hb
  have hlt : w.heap.size + 1 + 1 < w1.heap.size := lz
  generalize w1.heap.size = B at *
  clear hb d0 d1 xd ld lr lz
  go_wp2_with fail
  go_loopw [9, 27] (fun x i wr => ModRel w p q k B dh dl x i wr) (fun _ i _ => k - (intOf i).toNat)
  case atStart => exact ⟨0, by omega, by rw [hp0], rfl, xr, xz, xB, kk⟩
  case round =>
    obtain ⟨j, hj, rfl, rfl, yr, yz, yB, kr⟩ := hrel
    have z0 := yr.cell 0; have z1 := yr.cell 1; dsimp at z0 z1
    have l0 := yr.lt
    by_cases hjk : j = k
    · subst hjk
      have g3 : decide ((j : Int) < (j : Int)) = false := by simp
      have q0 := yz.cell 0; have q1 := yz.cell 1; have f0 := yz.frozen 0; have f1 := yz.frozen 1; dsimp at q0 q1
      have l2 := yz.lt
      have KEY := Lib.hid (show HB ((wr.setCell ⟨w.heap.size + 1 + 1, 0, none⟩ (.int .u64 (hiOf (q j)))).setCell ⟨w.heap.size + 1 + 1, 1, none⟩ (.int .u64 (loOf (q j)))) (w.heap.size + 1 + 1) 26 #[.int .u64 (hiOf (q j)), .int .u64 (loOf (q j))] ∧ Below w.heap.size w ((wr.setCell ⟨w.heap.size + 1 + 1, 0, none⟩ (.int .u64 (hiOf (q j)))).setCell ⟨w.heap.size + 1 + 1, 1, none⟩ (.int .u64 (loOf (q j)))) from
        ⟨(yz.set 0 _).set 1 _, (kr.setCell (p := ⟨w.heap.size + 1 + 1, 0, none⟩) (by show w.heap.size ≤ w.heap.size + 1 + 1; omega) _).setCell (p := ⟨w.heap.size + 1 + 1, 1, none⟩) (by show w.heap.size ≤ w.heap.size + 1 + 1; omega) _⟩)
      clear yr yz yB kr S xr xz xB kk
      go_wp2_with fail
      obtain ⟨hE, kb⟩ := KEY.out
      have e0 := hE.cell 0; have e1 := hE.cell 1
      dsimp at e0 e1
      refine bodyPost_ret (v := .tuple #[.agg #[.int .u64 (hiOf (q j)), .int .u64 (loOf (q j))], .bool (p j == 1), .bool true]) ?_ rfl ⟨rfl, kb⟩
      clear kb hE z0 z1 q0 q1 f0 f1
      simp [results, Try.results14, go_sem, e0, e1]
    · have g3 : decide ((j : Int) < (k : Int)) = true := by simp; omega
      have S1 := Lib.hid (S.out j B)
      clear S
      go_wp2_with fail
      (with_reducible refine (S1.out _ yB).mono ?_); rintro e w3 ⟨rfl, hb⟩
      replace yr := yr.later hb; replace yz := yz.later hb; replace yB := yB.later hb; replace kr := bC kr hb
      replace z0 := yr.cell 0; replace z1 := yr.cell 1; have f0 := yr.frozen 0; have f1 := yr.frozen 1; dsimp at z0 z1
      have REL := Lib.hid (show ModRel w p q k B dh dl (.int .u64 (p (j + 1))) (.int .i64 ((j : Int) + 1)) ((w3.setCell ⟨w.heap.size, 0, none⟩ (.int .u64 (hiOf (q (j + 1))))).setCell ⟨w.heap.size, 1, none⟩ (.int .u64 (loOf (q (j + 1))))) from
        ⟨j + 1, by omega, rfl, by simp, (yr.set 0 _).set 1 _, (yz.other (by omega) 0 _).other (by omega) 1 _, (yB.other (by omega) 0 _).other (by omega) 1 _, (kr.setCell (p := ⟨w.heap.size, 0, none⟩) (Nat.le_refl _) _).setCell (p := ⟨w.heap.size, 1, none⟩) (Nat.le_refl _) _⟩)
      have l3 := yr.lt
      have ew : IntKind.i64.wrap ((j : Int) + 1) = (j : Int) + 1 := IntWalk.i64_in _ (by omega)
      clear hb yr yz yB kr S1 xr xz xB kk
      go_wp2_with fail
      go_roundw
      case rel => exact REL.out
      case measure => simp [intOf]; omega

/-- Mod, of a rest that is less than the divisor. -/
theorem modQ (r d : Int) (k : Nat) (hk : k ≤ 40000) (h : r % full < d % full) (w : World) :
    Calls Try.prog 14 #[.agg #[.int .u64 (hiOf r), .int .u64 (loOf r)], .int .i64 k, .agg #[.int .u64 (hiOf d), .int .u64 (loOf d)]] w fun e w' =>
      e = .returned (.tuple #[.agg #[.int .u64 (hiOf (r % full * 2 ^ k % (d % full))), .int .u64 (loOf (r % full * 2 ^ k % (d % full)))], .bool (decide (r % full * 2 ^ k / (d % full) % 2 = 1)), .bool true]) ∧ Below w.heap.size w w' := by
  have m0 := mod_f r
  have dm := mod_f d
  have D0 : 0 < d % full := by omega
  obtain ⟨R, hR⟩ : ∃ R, r % full = R := ⟨_, rfl⟩
  obtain ⟨D, hD⟩ : ∃ D, d % full = D := ⟨_, rfl⟩
  have nx : ∀ i : Nat, partN d (R * 2 ^ i % D) 0 = R * 2 ^ (i + 1) / D % 2 ∧ restN d (R * 2 ^ i % D) 0 = R * 2 ^ (i + 1) % D := fun i => by
    have b0 := Int.emod_nonneg (R * 2 ^ i) (show D ≠ 0 by omega)
    have b1 := Int.emod_lt_of_pos (R * 2 ^ i) (show 0 < D by omega)
    have e := Int.emod_add_mul_ediv (R * 2 ^ i) D
    have e2 : R * 2 ^ (i + 1) = 2 * (R * 2 ^ i) := by rw [Int.pow_succ, Int.mul_comm 2 (R * 2 ^ i), Int.mul_assoc]
    unfold partN restN
    rw [hD, Int.emod_eq_of_lt b0 (by omega), Int.add_zero, e2]
    generalize R * 2 ^ i = X at *
    generalize X % D = m at *
    generalize X / D = qq at *
    by_cases g : 2 * m < D
    · rw [if_pos g, if_pos g]
      obtain ⟨d1, d2⟩ := (Int.ediv_emod_unique (a := 2 * X) (r := 2 * m) (q := 2 * qq) (show 0 < D by omega)).2 ⟨by rw [Int.mul_left_comm]; omega, by omega, g⟩
      rw [d1, d2]; omega
    · rw [if_neg g, if_neg g]
      obtain ⟨d1, d2⟩ := (Int.ediv_emod_unique (a := 2 * X) (r := 2 * m - D) (q := 2 * qq + 1) (show 0 < D by omega)).2 ⟨by rw [Int.mul_add, Int.mul_left_comm]; omega, by omega, by omega⟩
      rw [d1, d2]; omega
  have hC := cmpB (R * 2 ^ 0 % D) d
  have r0 : R * 2 ^ 0 % D = R := by rw [Int.pow_zero, Int.mul_one]; exact Int.emod_eq_of_lt (by omega) (by omega)
  have key := qmod_core (fun i => if i = 0 then 0 else R * 2 ^ i / D % 2) (fun i => R * 2 ^ i % D) (hiOf d) (loOf d) (cmpI (R * 2 ^ 0 % D % full) (d % full)) k hk rfl (Lib.hid hC)
    (by rw [r0, hD, Int.emod_eq_of_lt (by omega) (by omega)]; unfold cmpI; rw [if_pos (by omega)]; decide)
    (Lib.hid fun i B w x => by
      have t := qstepN d (R * 2 ^ i % D) 0 (.inl rfl) B w x
      rw [(nx i).1, (nx i).2] at t
      simpa using t) w
  have eR : hiOf R = hiOf r ∧ loOf R = loOf r := by rw [← hR]; exact hl_mod r
  simp only [r0, eR.1, eR.2] at key
  rw [hR, hD]
  rw [show decide (R * 2 ^ k / D % 2 = 1) = ((if k = 0 then 0 else R * 2 ^ k / D % 2) == 1) by
    by_cases hk0 : k = 0
    · subst hk0
      rw [if_pos rfl, Int.pow_zero, Int.mul_one, Int.ediv_eq_zero_of_lt (by omega) (by omega)]; rfl
    · rw [if_neg hk0]; rfl]
  exact key

end Go.Proofs.Ytlmgebanfjclcaa
