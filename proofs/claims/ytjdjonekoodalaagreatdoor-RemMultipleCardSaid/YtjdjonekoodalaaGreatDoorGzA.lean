import Derived.Test.YtjdjonekoodalaaGreatDoorGqA
import Derived.Test.YtjdjonekoodalaaGreatDoorGzB
import Derived.Test.YtjdjonekoodalaaGreatDoorGtC
import Derived.Test.YtjdjonekoodalaaGreatDoorGeB
import Derived.Test.YtjdjonekoodalaaGreatDoorGqB
set_option maxHeartbeats 8000000
set_option linter.unusedVariables false
set_option linter.unusedSimpArgs false
set_option maxRecDepth 100000
namespace Go.Proofs.YtjdjonekoodalaaGreatDoor
open Go.RowKit
attribute [local go_sem ↓] Go.wp_at_zero Go.wp_at_succ
def ModRel (w : World) (p q : Nat → Int) (k : Nat) (B : Nat) (dh dl : Int) (x i : Value) (wr : World) : Prop :=
  ∃ j : Nat, j ≤ k ∧ x = .int .u64 (p j) ∧ i = .int .i64 (j : Int) ∧ HB wr w.heap.size 25 #[.int .u64 (hiOf (q j)), .int .u64 (loOf (q j))] ∧ HB wr (w.heap.size + 1 + 1) 25 #[.int .u64 0, .int .u64 0] ∧ HB wr B 25 #[.int .u64 dh, .int .u64 dl] ∧ Below w.heap.size w wr
theorem qmod_core (p q : Nat → Int) (dh dl c : Int) (k : Nat) (hk : k ≤ 40000) (hp0 : p 0 = 0)
    (C : Hid (∀ w, Calls Tryz.prog 19 #[.agg #[.int .u64 (hiOf (q 0)), .int .u64 (loOf (q 0))], .agg #[.int .u64 dh, .int .u64 dl]] w fun e w' => e = .returned (.int .i64 c) ∧ Below w.heap.size w w'))
    (hc : decide (0 ≤ c) = false)
    (S : Hid (∀ (i B : Nat) w, HB w B 25 #[.int .u64 dh, .int .u64 dl] → Calls Tryz.prog 190 #[.agg #[.int .u64 (hiOf (q i)), .int .u64 (loOf (q i))], .int .u64 0, .pointer (some ⟨B, 0, none⟩)] w fun e w' =>
      e = .returned (.tuple #[.int .u64 (p (i + 1)), .agg #[.int .u64 (hiOf (q (i + 1))), .int .u64 (loOf (q (i + 1)))]]) ∧ Below w.heap.size w w')) (w : World) :
    Calls Tryz.prog 130 #[.agg #[.int .u64 (hiOf (q 0)), .int .u64 (loOf (q 0))], .int .i64 (k : Int), .agg #[.int .u64 dh, .int .u64 dl]] w fun e w' =>
      e = .returned (.tuple #[.agg #[.int .u64 (hiOf (q k)), .int .u64 (loOf (q k))], .bool (p k == 1), .bool true]) ∧ Below w.heap.size w w' := by
  have g1 : decide ((k : Int) < 0) = false := by simp
  have g2 : decide (40000 < (k : Int)) = false := by simp; omega
  go_enter Tryz.func130, Tryz.ntmps130
  go_wp2_with fail
  (with_reducible refine (C.out _).mono ?_); rintro e w1 ⟨rfl, hb⟩
  have kk := bC (bA (bA (bA bR _) _) _) hb
  have xr : HB w1 w.heap.size 25 #[.int .u64 (hiOf (q 0)), .int .u64 (loOf (q 0))] := (((HB.new w _ _).alloc _).alloc _).later hb
  have xd : HB w1 (w.heap.size + 1) 25 #[.int .u64 dh, .int .u64 dl] := ((HB.newAt (by simp) _ _).alloc _).later hb
  have xz : HB w1 (w.heap.size + 1 + 1) 25 #[.int .u64 0, .int .u64 0] := (HB.newAt (by simp) _ _).later hb
  have d0 := xd.cell 0; have d1 := xd.cell 1; dsimp at d0 d1
  have ld := xd.lt; have lr := xr.lt; have lz := xz.lt
  clear hb C
  go_wp2_with fail
  (with_reducible refine (divby_any dh dl _).mono ?_); rintro e w2 ⟨rfl, xB, hsz, hb⟩
  replace xr := xr.later hb
  replace xz := xz.later hb
  replace kk := bC kk hb
  have hlt : w.heap.size + 1 + 1 < w1.heap.size := lz
  generalize w1.heap.size = B at *
  clear hb d0 d1 xd ld lr lz
  go_wp2_with fail
  go_loopw [9, 27] (fun x i wr => ModRel w p q k B dh dl x i wr) (fun _ i _ => k - (intOf i).toNat)
  case atStart => exact ⟨0, by omega, by rw [hp0], rfl, xr, xz, xB, kk⟩
  case round =>
    obtain ⟨j, hj, rfl, rfl, yr, yz, yB, kr⟩ := hrel
    have z0 := yr.cell 0; have z1 := yr.cell 1; dsimp at z0 z1
    have l0 := yr.lt
    by_cases hjk : j = k
    · subst hjk
      have g3 : decide ((j : Int) < (j : Int)) = false := by simp
      have q0 := yz.cell 0; have q1 := yz.cell 1; have f0 := yz.frozen 0; have f1 := yz.frozen 1; dsimp at q0 q1
      have l2 := yz.lt
      have KEY := lH (show HB ((wr.setCell ⟨w.heap.size + 1 + 1, 0, none⟩ (.int .u64 (hiOf (q j)))).setCell ⟨w.heap.size + 1 + 1, 1, none⟩ (.int .u64 (loOf (q j)))) (w.heap.size + 1 + 1) 25 #[.int .u64 (hiOf (q j)), .int .u64 (loOf (q j))] ∧ Below w.heap.size w ((wr.setCell ⟨w.heap.size + 1 + 1, 0, none⟩ (.int .u64 (hiOf (q j)))).setCell ⟨w.heap.size + 1 + 1, 1, none⟩ (.int .u64 (loOf (q j)))) from
        ⟨(yz.set 0 _).set 1 _, (kr.setCell (p := ⟨w.heap.size + 1 + 1, 0, none⟩) (by show w.heap.size ≤ w.heap.size + 1 + 1; omega) _).setCell (p := ⟨w.heap.size + 1 + 1, 1, none⟩) (by show w.heap.size ≤ w.heap.size + 1 + 1; omega) _⟩)
      clear yr yz yB kr S xr xz xB kk
      go_wp2_with fail
      obtain ⟨hE, kb⟩ := KEY.out
      have e0 := hE.cell 0; have e1 := hE.cell 1
      dsimp at e0 e1
      refine bodyPost_ret (v := .tuple #[.agg #[.int .u64 (hiOf (q j)), .int .u64 (loOf (q j))], .bool (p j == 1), .bool true]) ?_ rfl ⟨rfl, kb⟩
      clear kb hE z0 z1 q0 q1 f0 f1
      simp [results, Tryz.results130, go_sem, e0, e1]
    · have g3 : decide ((j : Int) < (k : Int)) = true := by simp; omega
      have S1 := lH (S.out j B)
      clear S
      go_wp2_with fail
      (with_reducible refine (S1.out _ yB).mono ?_); rintro e w3 ⟨rfl, hb⟩
      replace yr := yr.later hb; replace yz := yz.later hb; replace yB := yB.later hb; replace kr := bC kr hb
      replace z0 := yr.cell 0; replace z1 := yr.cell 1; have f0 := yr.frozen 0; have f1 := yr.frozen 1; dsimp at z0 z1
      have REL := lH (show ModRel w p q k B dh dl (.int .u64 (p (j + 1))) (.int .i64 ((j : Int) + 1)) ((w3.setCell ⟨w.heap.size, 0, none⟩ (.int .u64 (hiOf (q (j + 1))))).setCell ⟨w.heap.size, 1, none⟩ (.int .u64 (loOf (q (j + 1))))) from
        ⟨j + 1, by omega, rfl, by simp, (yr.set 0 _).set 1 _, (yz.other (by omega) 0 _).other (by omega) 1 _, (yB.other (by omega) 0 _).other (by omega) 1 _, (kr.setCell (p := ⟨w.heap.size, 0, none⟩) (Nat.le_refl _) _).setCell (p := ⟨w.heap.size, 1, none⟩) (Nat.le_refl _) _⟩)
      have l3 := yr.lt
      have ew : IntKind.i64.wrap ((j : Int) + 1) = (j : Int) + 1 := IntWalk.i64_in _ (by omega)
      clear hb yr yz yB kr S1 xr xz xB kk
      go_wp2_with fail
      go_roundw
      case rel => exact REL.out
      case measure => simp [intOf]; omega
theorem modQ (r d : Int) (k : Nat) (hk : k ≤ 40000) (h : r % full < d % full) (w : World) :
    Calls Tryz.prog 130 #[.agg #[.int .u64 (hiOf r), .int .u64 (loOf r)], .int .i64 k, .agg #[.int .u64 (hiOf d), .int .u64 (loOf d)]] w fun e w' =>
      e = .returned (.tuple #[.agg #[.int .u64 (hiOf (r % full * 2 ^ k % (d % full))), .int .u64 (loOf (r % full * 2 ^ k % (d % full)))], .bool (decide (r % full * 2 ^ k / (d % full) % 2 = 1)), .bool true]) ∧ Below w.heap.size w w' := by
  have m0 := mod_f r
  have dm := mod_f d
  have D0 : 0 < d % full := by omega
  obtain ⟨R, hR⟩ : ∃ R, r % full = R := ⟨_, rfl⟩
  obtain ⟨D, hD⟩ : ∃ D, d % full = D := ⟨_, rfl⟩
  have nx : ∀ i : Nat, partN d (R * 2 ^ i % D) 0 = R * 2 ^ (i + 1) / D % 2 ∧ restN d (R * 2 ^ i % D) 0 = R * 2 ^ (i + 1) % D := fun i => by
    have b0 := Int.emod_nonneg (R * 2 ^ i) (show D ≠ 0 by omega)
    have b1 := Int.emod_lt_of_pos (R * 2 ^ i) (show 0 < D by omega)
    have e := Int.emod_add_mul_ediv (R * 2 ^ i) D
    have e2 : R * 2 ^ (i + 1) = 2 * (R * 2 ^ i) := by rw [Int.pow_succ, Int.mul_comm 2 (R * 2 ^ i), Int.mul_assoc]
    unfold partN restN
    rw [hD, Int.emod_eq_of_lt b0 (by omega), Int.add_zero, e2]
    generalize R * 2 ^ i = X at *
    generalize X % D = m at *
    generalize X / D = qq at *
    by_cases g : 2 * m < D
    · rw [if_pos g, if_pos g]
      obtain ⟨d1, d2⟩ := (Int.ediv_emod_unique (a := 2 * X) (r := 2 * m) (q := 2 * qq) (show 0 < D by omega)).2 ⟨by rw [Int.mul_left_comm]; omega, by omega, g⟩
      rw [d1, d2]; omega
    · rw [if_neg g, if_neg g]
      obtain ⟨d1, d2⟩ := (Int.ediv_emod_unique (a := 2 * X) (r := 2 * m - D) (q := 2 * qq + 1) (show 0 < D by omega)).2 ⟨by rw [Int.mul_add, Int.mul_left_comm]; omega, by omega, by omega⟩
      rw [d1, d2]; omega
  have hC := cmpB (R * 2 ^ 0 % D) d
  have r0 : R * 2 ^ 0 % D = R := by rw [Int.pow_zero, Int.mul_one]; exact Int.emod_eq_of_lt (by omega) (by omega)
  have key := qmod_core (fun i => if i = 0 then 0 else R * 2 ^ i / D % 2) (fun i => R * 2 ^ i % D) (hiOf d) (loOf d) (cmpI (R * 2 ^ 0 % D % full) (d % full)) k hk rfl (lH hC)
    (by rw [r0, hD, Int.emod_eq_of_lt (by omega) (by omega)]; unfold cmpI; rw [if_pos (by omega)]; decide)
    (lH fun i B w x => by
      have t := qstepN d (R * 2 ^ i % D) 0 (.inl rfl) B w x
      rw [(nx i).1, (nx i).2] at t
      simpa using t) w
  have eR : hiOf R = hiOf r ∧ loOf R = loOf r := by rw [← hR]; exact hl_mod r
  simp only [r0, eR.1, eR.2] at key
  rw [hR, hD]
  rw [show decide (R * 2 ^ k / D % 2 = 1) = ((if k = 0 then 0 else R * 2 ^ k / D % 2) == 1) by
    by_cases hk0 : k = 0
    · subst hk0
      rw [if_pos rfl, Int.pow_zero, Int.mul_one, Int.ediv_eq_zero_of_lt (by omega) (by omega)]; rfl
    · rw [if_neg hk0]; rfl]
  exact key
end Go.Proofs.YtjdjonekoodalaaGreatDoor
namespace Go.Proofs.YtjdjonekoodalaaGreatDoor
open Go.RowKit
attribute [local go_sem ↓] Go.wp_at_zero Go.wp_at_succ
theorem further_core (bk : Nat) (n rh rl dh dl qh ql : Int) (od o2 : Bool)
    (h0 : Hid (∀ w, Ca 130 #[U2 rh rl, .int .i64 n, U2 dh dl] w (.tuple #[U2 qh ql, .bool o2, .bool true]))) (w : World) (X0 : HB w bk 119 #[.bool od, .int .u64 rh, .int .u64 rl, .int .u64 dh, .int .u64 dl]) :
    Calls Tryz.prog 86 #[.pointer (some ⟨bk, 0, none⟩), .int .i64 n] w fun e w' => e = .returned (.agg #[.bool o2, .int .u64 qh, .int .u64 ql, .int .u64 dh, .int .u64 dl]) ∧ HB w' bk 119 #[.bool o2, .int .u64 qh, .int .u64 ql, .int .u64 dh, .int .u64 dl] ∧ Mut bk w w' := by
  simp only [Ca, U2] at *
  go_enter Tryz.func86, Tryz.ntmps86
  go_wp2_with fail
  have nX0_X1 : bk < w.heap.size := by have := X0.lt; omega
  refine vF1 fun w1 b1 X1 => ?_
  replace X0 := X0.later b1
  refine' (have tl2 : Hid (_ : Prop) := ?ntl2; ?mtl2)
  case' mtl2 => skip
  refine vR [bk] fun w2 b2 S2 => ?_
  refine vT 0 S2 ?_
  refine vT 1 S2 ?_
  refine vT 2 S2 ?_
  refine vT 3 S2 ?_
  refine vT 4 S2 ?_
  refine vT 6 S2 ?_
  refine vT 7 S2 ?_
  refine vT 8 S2 ?_
  refine vT 9 S2 ?_
  replace X0 := X0.later b2
  have oX0 := X0.o
  refine vY2 (cV 5 S2 ?_) (cV 10 S2 ?_)
  · skip
    clear oX0
    have oX0 := X0.o
    refine vY1 (cV 10 S2 ?_)
    clear oX0
    have kz := b2
    clear b2
    revert S2
    revert kz
    revert X0
    revert w2
    exact tl2.out
  · skip
    clear oX0
    have oX0 := X0.o
    refine vY1 (cV 5 S2 ?_)
    clear oX0
    have kz := b2
    clear b2
    revert S2
    revert kz
    revert X0
    revert w2
    exact tl2.out
  case' ntl2 => refine lH ?_
  intro w3 X0 b3 S3
  refine vY1 (vC 11 S3 (h0.out _) (fun _ _ => Off.later) fun w4 b4 S4 => ?_)
  refine vT 12 S4 ?_
  refine vT 13 S4 ?_
  refine vT 14 S4 ?_
  refine vT 15 S4 ?_
  refine vT 16 S4 ?_
  refine vT 17 S4 ?_
  refine vY1 (vO 18 fun K hK => ?_)
  replace X0 := X0.later b4
  replace X1 := X1.later (bC b3 b4)
  have oX0 := X0.o
  go_simp
  refine hK.out _ _ (Off.set (by simp) (Off.set (by simp) S4)) fun S5 => ?_
  clear hK K
  refine vP ?_
  refine vT 19 S5 ?_
  refine vT 20 S5 ?_
  refine vY1 (vO 21 fun K hK => ?_)
  go_simp
  refine hK.out _ _ (Off.set (by simp) S5) fun S6 => ?_
  clear hK K
  refine vP ?_
  refine vD ?_
  have oX1 := X1.o
  have mX1_X0 : ¬ (w.heap.size = bk) := by omega
  have mX0_X1 : ¬ (bk = w.heap.size) := by omega
  go_wp2_with fail
  refine bodyPost_ret (v := .agg #[.bool o2, .int .u64 qh, .int .u64 ql, .int .u64 dh, .int .u64 dl]) ?_ rfl ⟨rfl, ((((((((X0.set 1 _).set 2 _).set 0 _).other mX0_X1 0 _).other mX0_X1 1 _).other mX0_X1 2 _).other mX0_X1 3 _).other mX0_X1 4 _), ((((((((Mut.of (bC (bC b1 b3) b4)).set 1 _).set 2 _).set 0 _).far (Nat.le_refl _) 0 _).far (Nat.le_refl _) 1 _).far (Nat.le_refl _) 2 _).far (Nat.le_refl _) 3 _).far (Nat.le_refl _) 4 _⟩
  simp [results, Tryz.results86, go_sem, oX1, mX1_X0, mX0_X1]
theorem rm_invalid_inf (ca ea xh xl cb eb yh yl : Int) (sa sb : Bool)
     (g1 : (ca == 3) = true) (w : World) :
    Ca 33 #[.agg #[.bool sa, .int .u8 ca, .int .i64 ea, .int .u64 xh, .int .u64 xl], .agg #[.bool sb, .int .u8 cb, .int .i64 eb, .int .u64 yh, .int .u64 yl]] w (.bool true) := by
  simp only [Ca] at *
  go_enter Tryz.func33, Tryz.ntmps33
  go_wp2_with fail
  go_ret
  exact ⟨rfl, (bA (bA bR _) _)⟩
theorem rm_invalid_no (ca ea xh xl cb eb yh yl : Int) (sa sb : Bool)
     (g1 : (ca == 3) = false) (w : World) :
    Ca 33 #[.agg #[.bool sa, .int .u8 ca, .int .i64 ea, .int .u64 xh, .int .u64 xl], .agg #[.bool sb, .int .u8 cb, .int .i64 eb, .int .u64 yh, .int .u64 yl]] w (.bool ((cb == 0))) := by
  simp only [Ca] at *
  go_enter Tryz.func33, Tryz.ntmps33
  go_wp2_with fail
  go_ret
  exact ⟨rfl, (bA (bA bR _) _)⟩
theorem rm_itself_inf (ca ea xh xl cb eb yh yl : Int) (sa sb : Bool)
     (g1 : (cb == 3) = true) (w : World) :
    Ca 34 #[.agg #[.bool sa, .int .u8 ca, .int .i64 ea, .int .u64 xh, .int .u64 xl], .agg #[.bool sb, .int .u8 cb, .int .i64 eb, .int .u64 yh, .int .u64 yl]] w (.bool true) := by
  simp only [Ca] at *
  go_enter Tryz.func34, Tryz.ntmps34
  go_wp2_with fail
  go_ret
  exact ⟨rfl, (bA (bA bR _) _)⟩
theorem rm_itself_zero (ca ea xh xl cb eb yh yl : Int) (sa sb : Bool)
     (g1 : (cb == 3) = false) (g2 : (ca == 0) = true) (w : World) :
    Ca 34 #[.agg #[.bool sa, .int .u8 ca, .int .i64 ea, .int .u64 xh, .int .u64 xl], .agg #[.bool sb, .int .u8 cb, .int .i64 eb, .int .u64 yh, .int .u64 yl]] w (.bool true) := by
  simp only [Ca] at *
  go_enter Tryz.func34, Tryz.ntmps34
  go_wp2_with fail
  go_ret
  exact ⟨rfl, (bA (bA bR _) _)⟩
theorem rm_itself_no (ca ea xh xl cb eb yh yl e1 : Int) (sa sb : Bool)
     (g1 : (cb == 3) = false) (g2 : (ca == 0) = false) (w1 : IntKind.i64.wrap (eb - 1) = e1) (w1x : wrap64 (eb - 1) = e1) (w : World) :
    Ca 34 #[.agg #[.bool sa, .int .u8 ca, .int .i64 ea, .int .u64 xh, .int .u64 xl], .agg #[.bool sb, .int .u8 cb, .int .i64 eb, .int .u64 yh, .int .u64 yl]] w (.bool ((decide (ea < e1)))) := by
  simp only [Ca] at *
  go_enter Tryz.func34, Tryz.ntmps34
  go_wp2_with fail
  go_ret
  exact ⟨rfl, (bA (bA bR _) _)⟩
theorem rm_remainder_core (f ca ea xh xl cb eb yh yl uh ul ph pl hh hl sh sl rh rl j0 j1 j2 j3 e1 e2 : Int) (sa sb wo ho bo ok : Bool)
    (h0 : Hid (∀ w, Ca 85 #[U2 xh xl, .int .i64 1] w (U2 uh ul))) (w1 : IntKind.i64.wrap (ea - eb) = e1) (w1x : wrap64 (ea - eb) = e1) (w2 : IntKind.i64.wrap (e1 + 1) = e2) (w2x : wrap64 (e1 + 1) = e2) (FU1 : Hid (∀ bk w, HB w bk 119 #[.bool false, .int .u64 uh, .int .u64 ul, .int .u64 yh, .int .u64 yl] → Calls Tryz.prog 86 #[.pointer (some ⟨bk, 0, none⟩), .int .i64 e2] w fun e w' => e = .returned (.agg #[.bool wo, .int .u64 ph, .int .u64 pl, .int .u64 yh, .int .u64 yl]) ∧ HB w' bk 119 #[.bool wo, .int .u64 ph, .int .u64 pl, .int .u64 yh, .int .u64 yl] ∧ Mut bk w w')) (FU2 : Hid (∀ bk w, HB w bk 119 #[.bool wo, .int .u64 ph, .int .u64 pl, .int .u64 yh, .int .u64 yl] → Calls Tryz.prog 86 #[.pointer (some ⟨bk, 0, none⟩), .int .i64 1] w fun e w' => e = .returned (.agg #[.bool ho, .int .u64 hh, .int .u64 hl, .int .u64 yh, .int .u64 yl]) ∧ HB w' bk 119 #[.bool ho, .int .u64 hh, .int .u64 hl, .int .u64 yh, .int .u64 yl] ∧ Mut bk w w'))
    (HH : ((ho = true) ∧ (wo = true) ∧ Hid (∀ w, Ca 88 #[U2 yh yl, U2 ph pl] w (.tuple #[U2 sh sl, .bool bo])) ∧ Hid (∀ w, Ca 90 #[U2 sh sl, U2 0 0] w (U4 j0 j1 j2 j3)) ∧ Hid (∀ w, FTab w → Ca 89 #[.int .u8 f, .bool ((!sa)), .int .i64 eb, U4 j0 j1 j2 j3] w (.tuple #[U2 rh rl, .bool ok]))) ∨ ((ho = true) ∧ (wo = false) ∧ Hid (∀ w, Ca 87 #[U2 hh hl] w (.bool false)) ∧ Hid (∀ w, Ca 88 #[U2 yh yl, U2 ph pl] w (.tuple #[U2 sh sl, .bool bo])) ∧ Hid (∀ w, Ca 90 #[U2 sh sl, U2 0 0] w (U4 j0 j1 j2 j3)) ∧ Hid (∀ w, FTab w → Ca 89 #[.int .u8 f, .bool ((!sa)), .int .i64 eb, U4 j0 j1 j2 j3] w (.tuple #[U2 rh rl, .bool ok]))) ∨ ((ho = true) ∧ (wo = false) ∧ Hid (∀ w, Ca 87 #[U2 hh hl] w (.bool true)) ∧ Hid (∀ w, Ca 90 #[U2 ph pl, U2 0 0] w (U4 j0 j1 j2 j3)) ∧ Hid (∀ w, FTab w → Ca 89 #[.int .u8 f, .bool sa, .int .i64 eb, U4 j0 j1 j2 j3] w (.tuple #[U2 rh rl, .bool ok]))) ∨ ((ho = false) ∧ Hid (∀ w, Ca 90 #[U2 ph pl, U2 0 0] w (U4 j0 j1 j2 j3)) ∧ Hid (∀ w, FTab w → Ca 89 #[.int .u8 f, .bool sa, .int .i64 eb, U4 j0 j1 j2 j3] w (.tuple #[U2 rh rl, .bool ok])))) (w : World) (ft : FTab w) :
    Ca 35 #[.int .u8 f, .agg #[.bool sa, .int .u8 ca, .int .i64 ea, .int .u64 xh, .int .u64 xl], .agg #[.bool sb, .int .u8 cb, .int .i64 eb, .int .u64 yh, .int .u64 yl]] w (U2 rh rl) := by
  simp only [Ca, U2, U4] at *
  go_enter Tryz.func35, Tryz.ntmps35
  go_wp2_with fail
  have gX2 : w.heap.size ≤ w.heap.size + 1 + 1 := by omega
  refine vF3 fun w1 b1 X0 X1 X2 => ?_
  refine' (have s2_3 : Hid (_ : Prop) := ?ns2_3; ?ms2_3)
  case' ms2_3 => skip
  refine' (have s2_2 : Hid (_ : Prop) := ?ns2_2; ?ms2_2)
  case' ms2_2 => skip
  refine' (have s2_1 : Hid (_ : Prop) := ?ns2_1; ?ms2_1)
  case' ms2_1 => skip
  refine' (have s2_0 : Hid (_ : Prop) := ?ns2_0; ?ms2_0)
  case' ms2_0 => skip
  refine vR [] fun w2 kz2 S => ?_
  refine vT 0 S ?_
  refine vT 1 S ?_ (hy := by intro wq hb; have q := (hb.hb X0 (by simp)).o; go_simp; try (with_reducible rfl))
  refine vT 3 S ?_
  refine vT 4 S ?_ (hy := by intro wq hb; have q := (hb.hb X1 (by simp)).o; go_simp; try (with_reducible rfl))
  refine vY2 (cC 2 S (h0.out _) fun w3 b3 => ?_) (cA 6 S fun w4 pp1_0 h X3 b4 => ?_)
  replace kz2 := bC kz2 b3
  refine vT 5 (Off.ofB kz2) ?_
  clear S b3 w2
  revert kz2; revert w3
  exact s2_0.out
  have jX3 := (lZ kz2.size h); replace kz2 := bC kz2 b4
  clear S b4 h w2
  revert kz2; revert jX3; revert X3; revert pp1_0; revert w4
  exact s2_1.out
  case' ns2_0 => refine lH ?_
  intro w5 kz2
  have S := Off.ofB kz2
  refine vY1 (cA 6 S fun w6 pp1_0 h X3 b6 => ?_)
  have jX3 := (lZ kz2.size h); replace kz2 := bC kz2 b6
  clear S b6 h w5
  revert kz2; revert jX3; revert X3; revert pp1_0; revert w6
  exact s2_2.out
  case' ns2_1 => refine lH ?_
  intro w7 pp1_0 X3 jX3 kz2
  have S := Off.ofB kz2
  refine vY1 (cC 2 S (h0.out _) fun w8 b8 => ?_)
  replace X3 := (X3.later b8); replace kz2 := bC kz2 b8
  refine vT 5 (Off.ofB kz2) ?_
  clear S b8 w7
  revert kz2; revert jX3; revert X3; revert pp1_0; revert w8
  exact s2_2.out
  case' ns2_2 => refine lH ?_
  intro w9 pp1_0 X3 jX3 kz2
  have S := Off.ofB kz2
  refine vY1 (vO 7 fun K hK => ?_)
  have q := X3.o
  go_simp
  refine vW (fun W => HB W pp1_0 119 #[.bool false, .int .u64 uh, .int .u64 ul, .int .u64 yh, .int .u64 yl] ∧ Below w1.heap.size w1 W) ⟨(((((X3.set 0 _).set 1 _).set 2 _).set 3 _).set 4 _), (((((kz2.setCell (p := ⟨pp1_0, 0, none⟩) jX3 _).setCell (p := ⟨pp1_0, 1, none⟩) jX3 _).setCell (p := ⟨pp1_0, 2, none⟩) jX3 _).setCell (p := ⟨pp1_0, 3, none⟩) jX3 _).setCell (p := ⟨pp1_0, 4, none⟩) jX3 _)⟩ fun w11 hz => ?_
  clear q X3 S kz2 w9; obtain ⟨X3, kz2⟩ := hz
  refine hK.out _ _ (Off.ofB kz2) fun S => ?_; clear hK K S; refine vP ?_
  revert kz2; revert jX3; revert X3; revert pp1_0; revert w11
  exact s2_3.out
  case' ns2_3 => refine lH ?_
  intro w12 pp1_0 X3 jX3 kz2
  refine vD ?_
  have nX0_X3 : w.heap.size < pp1_0 := by have := X0.lt; omega
  have nX1_X3 : w.heap.size + 1 < pp1_0 := by have := X1.lt; omega
  have nX2_X3 : w.heap.size + 1 + 1 < pp1_0 := by have := X2.lt; omega
  have gX3 : w.heap.size ≤ pp1_0 := by have := b1.size; omega
  have oX3 := X3.o
  replace X0 := X0.later kz2
  have oX0 := X0.o
  replace X1 := X1.later kz2
  have oX1 := X1.o
  go_wp2_with fail
  replace X2 := X2.later kz2
  have mX0X3 : ¬ (w.heap.size = pp1_0) := by omega
  have mX1X3 : ¬ (w.heap.size + 1 = pp1_0) := by omega
  have mX2X3 : ¬ (w.heap.size + 1 + 1 = pp1_0) := by omega
  refine vU (FU1.out _ _ X3) fun w13 ZX3 b13 => ?_
  replace X0 := HB.mut X0 mX0X3 b13
  replace X1 := HB.mut X1 mX1X3 b13
  replace X2 := HB.mut X2 mX2X3 b13
  have kk := Below.mut (bC b1 kz2) gX3 b13
  replace X3 := ZX3
  clear ZX3 b13 mX0X3 mX1X3 mX2X3
  clear oX3 oX0 oX1
  go_wp2_with fail
  have nX2_X4 : w.heap.size + 1 + 1 < w13.heap.size := by have := X2.lt; omega
  have mX0X3 : ¬ (w.heap.size = pp1_0) := by omega
  have mX1X3 : ¬ (w.heap.size + 1 = pp1_0) := by omega
  have mX2X3 : ¬ (w.heap.size + 1 + 1 = pp1_0) := by omega
  have mX4X3 : ¬ (w13.heap.size = pp1_0) := by have := X3.lt; omega
  refine vU (FU2.out _ _ (X3.alloc _)) fun w14 ZX3 b14 => ?_
  replace X0 := HB.mut (X0.alloc _) mX0X3 b14
  replace X1 := HB.mut (X1.alloc _) mX1X3 b14
  replace X2 := HB.mut (X2.alloc _) mX2X3 b14
  have X4 := HB.mut (HB.newAt (b := w13.heap.size) (by simp) _ _) mX4X3 b14
  have kk := Below.mut (bA kk _) gX3 b14
  replace X3 := ZX3
  clear ZX3 b14 mX0X3 mX1X3 mX2X3 mX4X3
  go_wp2_with fail
  have nX2_X5 : w.heap.size + 1 + 1 < w14.heap.size := by have := X2.lt; omega
  refine vF1 fun w15 b15 X5 => ?_
  replace X0 := X0.later b15
  replace X4 := X4.later b15
  refine' (have s16_1 : Hid (_ : Prop) := ?ns16_1; ?ms16_1)
  case' ms16_1 => skip
  refine vR [] fun w16 kz16 S => ?_
  refine vT 0 S ?_
  refine vT 1 S ?_ (hy := by intro wq hb; have q := (hb.hb X0 (by simp)).o; go_simp; try (with_reducible rfl))
  refine vT 2 S ?_
  refine vT 3 S ?_ (hy := by intro wq hb; have q := (hb.hb X4 (by simp)).o; go_simp; try (with_reducible rfl))
  refine vY1 (cA 4 S fun w17 pp15_0 h X6 b17 => ?_)
  have jX6 := (lZ kz16.size h); replace kz16 := bC kz16 b17
  refine vT 5 (Off.ofB kz16) ?_
  replace S := Off.ofB kz16; clear b17 h w16
  refine vY1 (vO 6 fun K hK => ?_)
  have q := X6.o
  go_simp
  refine vW (fun W => HB W pp15_0 25 #[.int .u64 ph, .int .u64 pl] ∧ Below w15.heap.size w15 W) ⟨((X6.set 0 _).set 1 _), ((kz16.setCell (p := ⟨pp15_0, 0, none⟩) jX6 _).setCell (p := ⟨pp15_0, 1, none⟩) jX6 _)⟩ fun w19 hz => ?_
  clear q X6 S kz16 w17; obtain ⟨X6, kz16⟩ := hz
  refine hK.out _ _ (Off.ofB kz16) fun S => ?_; clear hK K S; refine vP ?_
  revert kz16; revert jX6; revert X6; revert pp15_0; revert w19
  exact s16_1.out
  case' ns16_1 => refine lH ?_
  intro w20 pp15_0 X6 jX6 kz16
  refine vD ?_
  replace X1 := X1.later b15
  have nX1_X6 : w.heap.size + 1 < pp15_0 := by have := X1.lt; omega
  replace X2 := X2.later b15
  have nX2_X6 : w.heap.size + 1 + 1 < pp15_0 := by have := X2.lt; omega
  have nX4_X6 : w13.heap.size < pp15_0 := by have := X4.lt; omega
  have nX5_X6 : w14.heap.size < pp15_0 := by have := X5.lt; omega
  have gX6 : w.heap.size ≤ pp15_0 := by have := (bC kk b15).size; omega
  replace X5 := X5.later kz16
  have oX5 := X5.o
  replace X4 := X4.later kz16
  have oX4 := X4.o
  rcases HH with ⟨rfl, rfl, h4, h5, h6⟩ | ⟨rfl, rfl, h3, h4, h5, h6⟩ | ⟨rfl, rfl, h3, h4, h5⟩ | ⟨rfl, h4, h5⟩
  · replace X1 := X1.later kz16
    have oX1 := X1.o
    have oX6 := X6.o
    go_wp2_with fail
    refine vM (h4.out _) fun w21 b21 => ?_
    clear oX5 oX4 oX1 oX6
    replace X6 := X6.later b21
    have oX6 := X6.o
    replace X2 := X2.later (bC kz16 b21)
    go_wp2_with fail
    replace X1 := X1.later b21
    refine wp_forget (fun W => HB W (w.heap.size + 1) 59 #[.bool sb, .int .u8 cb, .int .i64 eb, .int .u64 yh, .int .u64 yl] ∧ HB W (w.heap.size + 1 + 1) 25 #[.int .u64 0, .int .u64 0] ∧ HB W pp15_0 25 #[.int .u64 sh, .int .u64 sl] ∧ Below w.heap.size w W) ⟨((X1.other (by omega) 0 _).other (by omega) 1 _), ((X2.other (by omega) 0 _).other (by omega) 1 _), ((X6.set 0 _).set 1 _), (((bC kk (bC (bC b15 kz16) b21)).setCell (p := ⟨pp15_0, 0, none⟩) gX6 _).setCell (p := ⟨pp15_0, 1, none⟩) gX6 _)⟩ (fun w22 hst => ?_)
    obtain ⟨X1, X2, X6, kk⟩ := hst
    clear oX6
    refine' (have s23a_5 : Hid (_ : Prop) := ?ns23a_5; ?ms23a_5)
    case' ms23a_5 => skip
    refine' (have s23a_4 : Hid (_ : Prop) := ?ns23a_4; ?ms23a_4)
    case' ms23a_4 => skip
    refine' (have s23a_3 : Hid (_ : Prop) := ?ns23a_3; ?ms23a_3)
    case' ms23a_3 => skip
    refine' (have s23a_2 : Hid (_ : Prop) := ?ns23a_2; ?ms23a_2)
    case' ms23a_2 => skip
    refine' (have s23a_1 : Hid (_ : Prop) := ?ns23a_1; ?ms23a_1)
    case' ms23a_1 => skip
    refine' (have s23a_0 : Hid (_ : Prop) := ?ns23a_0; ?ms23a_0)
    case' ms23a_0 => skip
    refine vR [] fun w23 kz23 S => ?_
    refine vT 0 S ?_
    refine vT 1 S ?_
    refine vT 2 S ?_
    refine vT 3 S ?_ (hy := by intro wq hb; have q := (hb.hb X1 (by simp)).o; go_simp; try (with_reducible rfl))
    refine vT 4 S ?_ (hy := by intro wq hb; have q := (hb.hb X6 (by simp)).o; go_simp; try (with_reducible rfl))
    refine vT 5 S ?_
    refine vY2 (cC 6 S (h5.out _) fun w24 b24 => ?_) (cA 11 S fun w25 pp22_0 h X7 b25 => ?_)
    replace kz23 := bC kz23 b24
    clear S b24 w23
    revert kz23; revert w24
    exact s23a_0.out
    have jX7 := (lZ kz23.size h); replace kz23 := bC kz23 b25
    clear S b25 h w23
    revert kz23; revert jX7; revert X7; revert pp22_0; revert w25
    exact s23a_1.out
    case' ns23a_0 => refine lH ?_
    intro w26 kz23
    have S := Off.ofB kz23
    refine vY2 (cC 7 S (h6.out _ (ft.later (bC kk kz23))) fun w27 b27 => ?_) (cA 11 S fun w28 pp22_0 h X7 b28 => ?_)
    replace kz23 := bC kz23 b27
    refine vT 8 (Off.ofB kz23) ?_
    refine vT 9 (Off.ofB kz23) ?_
    refine vT 10 (Off.ofB kz23) ?_
    clear S b27 w26
    revert kz23; revert w27
    exact s23a_2.out
    have jX7 := (lZ kz23.size h); replace kz23 := bC kz23 b28
    clear S b28 h w26
    revert kz23; revert jX7; revert X7; revert pp22_0; revert w28
    exact s23a_3.out
    case' ns23a_1 => refine lH ?_
    intro w29 pp22_0 X7 jX7 kz23
    have S := Off.ofB kz23
    refine vY1 (cC 6 S (h5.out _) fun w30 b30 => s23a_3.out w30 pp22_0 (X7.later b30) jX7 (bC kz23 b30))
    case' ns23a_2 => refine lH ?_
    intro w31 kz23
    have S := Off.ofB kz23
    refine vY1 (cA 11 S fun w32 pp22_0 h X7 b32 => ?_)
    have jX7 := (lZ kz23.size h); replace kz23 := bC kz23 b32
    clear S b32 h w31
    revert kz23; revert jX7; revert X7; revert pp22_0; revert w32
    exact s23a_4.out
    case' ns23a_3 => refine lH ?_
    intro w33 pp22_0 X7 jX7 kz23
    have S := Off.ofB kz23
    refine vY1 (cC 7 S (h6.out _ (ft.later (bC kk kz23))) fun w34 b34 => ?_)
    replace X7 := (X7.later b34); replace kz23 := bC kz23 b34
    refine vT 8 (Off.ofB kz23) ?_
    refine vT 9 (Off.ofB kz23) ?_
    refine vT 10 (Off.ofB kz23) ?_
    clear S b34 w33
    revert kz23; revert jX7; revert X7; revert pp22_0; revert w34
    exact s23a_4.out
    case' ns23a_4 => refine lH ?_
    intro w35 pp22_0 X7 jX7 kz23
    have S := Off.ofB kz23
    refine vY1 (vO 12 fun K hK => ?_)
    have q := X7.o
    go_simp
    refine vW (fun W => HB W pp22_0 25 #[.int .u64 rh, .int .u64 rl] ∧ Below w22.heap.size w22 W) ⟨((X7.set 0 _).set 1 _), ((kz23.setCell (p := ⟨pp22_0, 0, none⟩) jX7 _).setCell (p := ⟨pp22_0, 1, none⟩) jX7 _)⟩ fun w37 hz => ?_
    clear q X7 S kz23 w35; obtain ⟨X7, kz23⟩ := hz
    refine hK.out _ _ (Off.ofB kz23) fun S => ?_; clear hK K S; refine vP ?_
    refine vT 13 (Off.ofB kz23) ?_
    revert kz23; revert jX7; revert X7; revert pp22_0; revert w37
    exact s23a_5.out
    case' ns23a_5 => refine lH ?_
    intro w38 pp22_0 X7 jX7 kz23
    refine vD ?_
    have nX2_X7 : w.heap.size + 1 + 1 < pp22_0 := by have := X2.lt; omega
    have gX7 : w.heap.size ≤ pp22_0 := by have := kk.size; omega
    have oX7 := X7.o
    replace X2 := X2.later kz23
    have oX2 := X2.o
    have mX7_X2 : ¬ (pp22_0 = w.heap.size + 1 + 1) := by omega
    have mX2_X7 : ¬ (w.heap.size + 1 + 1 = pp22_0) := by omega
    go_wp2_with fail
    refine bodyPost_ret (v := .agg #[.int .u64 rh, .int .u64 rl]) ?_ rfl ⟨rfl, (((bC kk kz23).setCell (p := ⟨w.heap.size + 1 + 1, 0, none⟩) gX2 _).setCell (p := ⟨w.heap.size + 1 + 1, 1, none⟩) gX2 _)⟩
    simp [results, Tryz.results35, go_sem, oX2, mX7_X2, mX2_X7]
  · go_wp2_with fail
    refine vM (h3.out _) fun w21 b21 => ?_
    clear oX5 oX4
    replace X1 := X1.later (bC kz16 b21)
    have oX1 := X1.o
    replace X6 := X6.later b21
    have oX6 := X6.o
    go_wp2_with fail
    refine vM (h4.out _) fun w22 b22 => ?_
    clear oX1 oX6
    replace X6 := X6.later b22
    have oX6 := X6.o
    replace X2 := X2.later (bC (bC kz16 b21) b22)
    go_wp2_with fail
    replace X1 := X1.later b22
    refine wp_forget (fun W => HB W (w.heap.size + 1) 59 #[.bool sb, .int .u8 cb, .int .i64 eb, .int .u64 yh, .int .u64 yl] ∧ HB W (w.heap.size + 1 + 1) 25 #[.int .u64 0, .int .u64 0] ∧ HB W pp15_0 25 #[.int .u64 sh, .int .u64 sl] ∧ Below w.heap.size w W) ⟨((X1.other (by omega) 0 _).other (by omega) 1 _), ((X2.other (by omega) 0 _).other (by omega) 1 _), ((X6.set 0 _).set 1 _), (((bC kk (bC (bC (bC b15 kz16) b21) b22)).setCell (p := ⟨pp15_0, 0, none⟩) gX6 _).setCell (p := ⟨pp15_0, 1, none⟩) gX6 _)⟩ (fun w23 hst => ?_)
    obtain ⟨X1, X2, X6, kk⟩ := hst
    clear oX6
    refine' (have s24b_5 : Hid (_ : Prop) := ?ns24b_5; ?ms24b_5)
    case' ms24b_5 => skip
    refine' (have s24b_4 : Hid (_ : Prop) := ?ns24b_4; ?ms24b_4)
    case' ms24b_4 => skip
    refine' (have s24b_3 : Hid (_ : Prop) := ?ns24b_3; ?ms24b_3)
    case' ms24b_3 => skip
    refine' (have s24b_2 : Hid (_ : Prop) := ?ns24b_2; ?ms24b_2)
    case' ms24b_2 => skip
    refine' (have s24b_1 : Hid (_ : Prop) := ?ns24b_1; ?ms24b_1)
    case' ms24b_1 => skip
    refine' (have s24b_0 : Hid (_ : Prop) := ?ns24b_0; ?ms24b_0)
    case' ms24b_0 => skip
    refine vR [] fun w24 kz24 S => ?_
    refine vT 0 S ?_
    refine vT 1 S ?_
    refine vT 2 S ?_
    refine vT 3 S ?_ (hy := by intro wq hb; have q := (hb.hb X1 (by simp)).o; go_simp; try (with_reducible rfl))
    refine vT 4 S ?_ (hy := by intro wq hb; have q := (hb.hb X6 (by simp)).o; go_simp; try (with_reducible rfl))
    refine vT 5 S ?_
    refine vY2 (cC 6 S (h5.out _) fun w25 b25 => ?_) (cA 11 S fun w26 pp23_0 h X7 b26 => ?_)
    replace kz24 := bC kz24 b25
    clear S b25 w24
    revert kz24; revert w25
    exact s24b_0.out
    have jX7 := (lZ kz24.size h); replace kz24 := bC kz24 b26
    clear S b26 h w24
    revert kz24; revert jX7; revert X7; revert pp23_0; revert w26
    exact s24b_1.out
    case' ns24b_0 => refine lH ?_
    intro w27 kz24
    have S := Off.ofB kz24
    refine vY2 (cC 7 S (h6.out _ (ft.later (bC kk kz24))) fun w28 b28 => ?_) (cA 11 S fun w29 pp23_0 h X7 b29 => ?_)
    replace kz24 := bC kz24 b28
    refine vT 8 (Off.ofB kz24) ?_
    refine vT 9 (Off.ofB kz24) ?_
    refine vT 10 (Off.ofB kz24) ?_
    clear S b28 w27
    revert kz24; revert w28
    exact s24b_2.out
    have jX7 := (lZ kz24.size h); replace kz24 := bC kz24 b29
    clear S b29 h w27
    revert kz24; revert jX7; revert X7; revert pp23_0; revert w29
    exact s24b_3.out
    case' ns24b_1 => refine lH ?_
    intro w30 pp23_0 X7 jX7 kz24
    have S := Off.ofB kz24
    refine vY1 (cC 6 S (h5.out _) fun w31 b31 => s24b_3.out w31 pp23_0 (X7.later b31) jX7 (bC kz24 b31))
    case' ns24b_2 => refine lH ?_
    intro w32 kz24
    have S := Off.ofB kz24
    refine vY1 (cA 11 S fun w33 pp23_0 h X7 b33 => ?_)
    have jX7 := (lZ kz24.size h); replace kz24 := bC kz24 b33
    clear S b33 h w32
    revert kz24; revert jX7; revert X7; revert pp23_0; revert w33
    exact s24b_4.out
    case' ns24b_3 => refine lH ?_
    intro w34 pp23_0 X7 jX7 kz24
    have S := Off.ofB kz24
    refine vY1 (cC 7 S (h6.out _ (ft.later (bC kk kz24))) fun w35 b35 => ?_)
    replace X7 := (X7.later b35); replace kz24 := bC kz24 b35
    refine vT 8 (Off.ofB kz24) ?_
    refine vT 9 (Off.ofB kz24) ?_
    refine vT 10 (Off.ofB kz24) ?_
    clear S b35 w34
    revert kz24; revert jX7; revert X7; revert pp23_0; revert w35
    exact s24b_4.out
    case' ns24b_4 => refine lH ?_
    intro w36 pp23_0 X7 jX7 kz24
    have S := Off.ofB kz24
    refine vY1 (vO 12 fun K hK => ?_)
    have q := X7.o
    go_simp
    refine vW (fun W => HB W pp23_0 25 #[.int .u64 rh, .int .u64 rl] ∧ Below w23.heap.size w23 W) ⟨((X7.set 0 _).set 1 _), ((kz24.setCell (p := ⟨pp23_0, 0, none⟩) jX7 _).setCell (p := ⟨pp23_0, 1, none⟩) jX7 _)⟩ fun w38 hz => ?_
    clear q X7 S kz24 w36; obtain ⟨X7, kz24⟩ := hz
    refine hK.out _ _ (Off.ofB kz24) fun S => ?_; clear hK K S; refine vP ?_
    refine vT 13 (Off.ofB kz24) ?_
    revert kz24; revert jX7; revert X7; revert pp23_0; revert w38
    exact s24b_5.out
    case' ns24b_5 => refine lH ?_
    intro w39 pp23_0 X7 jX7 kz24
    refine vD ?_
    have nX2_X7 : w.heap.size + 1 + 1 < pp23_0 := by have := X2.lt; omega
    have gX7 : w.heap.size ≤ pp23_0 := by have := kk.size; omega
    have oX7 := X7.o
    replace X2 := X2.later kz24
    have oX2 := X2.o
    have mX7_X2 : ¬ (pp23_0 = w.heap.size + 1 + 1) := by omega
    have mX2_X7 : ¬ (w.heap.size + 1 + 1 = pp23_0) := by omega
    go_wp2_with fail
    refine bodyPost_ret (v := .agg #[.int .u64 rh, .int .u64 rl]) ?_ rfl ⟨rfl, (((bC kk kz24).setCell (p := ⟨w.heap.size + 1 + 1, 0, none⟩) gX2 _).setCell (p := ⟨w.heap.size + 1 + 1, 1, none⟩) gX2 _)⟩
    simp [results, Tryz.results35, go_sem, oX2, mX7_X2, mX2_X7]
  · go_wp2_with fail
    refine vM (h3.out _) fun w21 b21 => ?_
    clear oX5 oX4
    go_wp2_with fail
    replace X1 := X1.later (bC kz16 b21)
    replace X6 := X6.later b21
    refine' (have s22c_5 : Hid (_ : Prop) := ?ns22c_5; ?ms22c_5)
    case' ms22c_5 => skip
    refine' (have s22c_4 : Hid (_ : Prop) := ?ns22c_4; ?ms22c_4)
    case' ms22c_4 => skip
    refine' (have s22c_3 : Hid (_ : Prop) := ?ns22c_3; ?ms22c_3)
    case' ms22c_3 => skip
    refine' (have s22c_2 : Hid (_ : Prop) := ?ns22c_2; ?ms22c_2)
    case' ms22c_2 => skip
    refine' (have s22c_1 : Hid (_ : Prop) := ?ns22c_1; ?ms22c_1)
    case' ms22c_1 => skip
    refine' (have s22c_0 : Hid (_ : Prop) := ?ns22c_0; ?ms22c_0)
    case' ms22c_0 => skip
    refine vR [] fun w22 kz22 S => ?_
    refine vT 0 S ?_
    refine vT 1 S ?_
    refine vT 2 S ?_
    refine vT 3 S ?_ (hy := by intro wq hb; have q := (hb.hb X1 (by simp)).o; go_simp; try (with_reducible rfl))
    refine vT 4 S ?_ (hy := by intro wq hb; have q := (hb.hb X6 (by simp)).o; go_simp; try (with_reducible rfl))
    refine vT 5 S ?_
    refine vY2 (cC 6 S (h4.out _) fun w23 b23 => ?_) (cA 11 S fun w24 pp21_0 h X7 b24 => ?_)
    replace kz22 := bC kz22 b23
    clear S b23 w22
    revert kz22; revert w23
    exact s22c_0.out
    have jX7 := (lZ kz22.size h); replace kz22 := bC kz22 b24
    clear S b24 h w22
    revert kz22; revert jX7; revert X7; revert pp21_0; revert w24
    exact s22c_1.out
    case' ns22c_0 => refine lH ?_
    intro w25 kz22
    have S := Off.ofB kz22
    refine vY2 (cC 7 S (h5.out _ (ft.later (bC kk (bC (bC (bC b15 kz16) b21) kz22)))) fun w26 b26 => ?_) (cA 11 S fun w27 pp21_0 h X7 b27 => ?_)
    replace kz22 := bC kz22 b26
    refine vT 8 (Off.ofB kz22) ?_
    refine vT 9 (Off.ofB kz22) ?_
    refine vT 10 (Off.ofB kz22) ?_
    clear S b26 w25
    revert kz22; revert w26
    exact s22c_2.out
    have jX7 := (lZ kz22.size h); replace kz22 := bC kz22 b27
    clear S b27 h w25
    revert kz22; revert jX7; revert X7; revert pp21_0; revert w27
    exact s22c_3.out
    case' ns22c_1 => refine lH ?_
    intro w28 pp21_0 X7 jX7 kz22
    have S := Off.ofB kz22
    refine vY1 (cC 6 S (h4.out _) fun w29 b29 => s22c_3.out w29 pp21_0 (X7.later b29) jX7 (bC kz22 b29))
    case' ns22c_2 => refine lH ?_
    intro w30 kz22
    have S := Off.ofB kz22
    refine vY1 (cA 11 S fun w31 pp21_0 h X7 b31 => ?_)
    have jX7 := (lZ kz22.size h); replace kz22 := bC kz22 b31
    clear S b31 h w30
    revert kz22; revert jX7; revert X7; revert pp21_0; revert w31
    exact s22c_4.out
    case' ns22c_3 => refine lH ?_
    intro w32 pp21_0 X7 jX7 kz22
    have S := Off.ofB kz22
    refine vY1 (cC 7 S (h5.out _ (ft.later (bC kk (bC (bC (bC b15 kz16) b21) kz22)))) fun w33 b33 => ?_)
    replace X7 := (X7.later b33); replace kz22 := bC kz22 b33
    refine vT 8 (Off.ofB kz22) ?_
    refine vT 9 (Off.ofB kz22) ?_
    refine vT 10 (Off.ofB kz22) ?_
    clear S b33 w32
    revert kz22; revert jX7; revert X7; revert pp21_0; revert w33
    exact s22c_4.out
    case' ns22c_4 => refine lH ?_
    intro w34 pp21_0 X7 jX7 kz22
    have S := Off.ofB kz22
    refine vY1 (vO 12 fun K hK => ?_)
    have q := X7.o
    go_simp
    refine vW (fun W => HB W pp21_0 25 #[.int .u64 rh, .int .u64 rl] ∧ Below w21.heap.size w21 W) ⟨((X7.set 0 _).set 1 _), ((kz22.setCell (p := ⟨pp21_0, 0, none⟩) jX7 _).setCell (p := ⟨pp21_0, 1, none⟩) jX7 _)⟩ fun w36 hz => ?_
    clear q X7 S kz22 w34; obtain ⟨X7, kz22⟩ := hz
    refine hK.out _ _ (Off.ofB kz22) fun S => ?_; clear hK K S; refine vP ?_
    refine vT 13 (Off.ofB kz22) ?_
    revert kz22; revert jX7; revert X7; revert pp21_0; revert w36
    exact s22c_5.out
    case' ns22c_5 => refine lH ?_
    intro w37 pp21_0 X7 jX7 kz22
    refine vD ?_
    have nX1_X7 : w.heap.size + 1 < pp21_0 := by have := X1.lt; omega
    replace X2 := X2.later (bC kz16 b21)
    have nX2_X7 : w.heap.size + 1 + 1 < pp21_0 := by have := X2.lt; omega
    have nX6_X7 : pp15_0 < pp21_0 := by have := X6.lt; omega
    have gX7 : w.heap.size ≤ pp21_0 := by have := (bC kk (bC (bC b15 kz16) b21)).size; omega
    have oX7 := X7.o
    replace X2 := X2.later kz22
    have oX2 := X2.o
    have mX7_X2 : ¬ (pp21_0 = w.heap.size + 1 + 1) := by omega
    have mX2_X7 : ¬ (w.heap.size + 1 + 1 = pp21_0) := by omega
    replace X1 := X1.later kz22
    replace X6 := X6.later kz22
    go_wp2_with fail
    refine bodyPost_ret (v := .agg #[.int .u64 rh, .int .u64 rl]) ?_ rfl ⟨rfl, (((bC kk (bC (bC (bC b15 kz16) b21) kz22)).setCell (p := ⟨w.heap.size + 1 + 1, 0, none⟩) gX2 _).setCell (p := ⟨w.heap.size + 1 + 1, 1, none⟩) gX2 _)⟩
    simp [results, Tryz.results35, go_sem, oX2, mX7_X2, mX2_X7]
  · go_wp2_with fail
    clear oX5 oX4
    replace X1 := X1.later kz16
    refine' (have s21d_5 : Hid (_ : Prop) := ?ns21d_5; ?ms21d_5)
    case' ms21d_5 => skip
    refine' (have s21d_4 : Hid (_ : Prop) := ?ns21d_4; ?ms21d_4)
    case' ms21d_4 => skip
    refine' (have s21d_3 : Hid (_ : Prop) := ?ns21d_3; ?ms21d_3)
    case' ms21d_3 => skip
    refine' (have s21d_2 : Hid (_ : Prop) := ?ns21d_2; ?ms21d_2)
    case' ms21d_2 => skip
    refine' (have s21d_1 : Hid (_ : Prop) := ?ns21d_1; ?ms21d_1)
    case' ms21d_1 => skip
    refine' (have s21d_0 : Hid (_ : Prop) := ?ns21d_0; ?ms21d_0)
    case' ms21d_0 => skip
    refine vR [] fun w21 kz21 S => ?_
    refine vT 0 S ?_
    refine vT 1 S ?_
    refine vT 2 S ?_
    refine vT 3 S ?_ (hy := by intro wq hb; have q := (hb.hb X1 (by simp)).o; go_simp; try (with_reducible rfl))
    refine vT 4 S ?_ (hy := by intro wq hb; have q := (hb.hb X6 (by simp)).o; go_simp; try (with_reducible rfl))
    refine vT 5 S ?_
    refine vY2 (cC 6 S (h4.out _) fun w22 b22 => ?_) (cA 11 S fun w23 pp20_0 h X7 b23 => ?_)
    replace kz21 := bC kz21 b22
    clear S b22 w21
    revert kz21; revert w22
    exact s21d_0.out
    have jX7 := (lZ kz21.size h); replace kz21 := bC kz21 b23
    clear S b23 h w21
    revert kz21; revert jX7; revert X7; revert pp20_0; revert w23
    exact s21d_1.out
    case' ns21d_0 => refine lH ?_
    intro w24 kz21
    have S := Off.ofB kz21
    refine vY2 (cC 7 S (h5.out _ (ft.later (bC kk (bC (bC b15 kz16) kz21)))) fun w25 b25 => ?_) (cA 11 S fun w26 pp20_0 h X7 b26 => ?_)
    replace kz21 := bC kz21 b25
    refine vT 8 (Off.ofB kz21) ?_
    refine vT 9 (Off.ofB kz21) ?_
    refine vT 10 (Off.ofB kz21) ?_
    clear S b25 w24
    revert kz21; revert w25
    exact s21d_2.out
    have jX7 := (lZ kz21.size h); replace kz21 := bC kz21 b26
    clear S b26 h w24
    revert kz21; revert jX7; revert X7; revert pp20_0; revert w26
    exact s21d_3.out
    case' ns21d_1 => refine lH ?_
    intro w27 pp20_0 X7 jX7 kz21
    have S := Off.ofB kz21
    refine vY1 (cC 6 S (h4.out _) fun w28 b28 => s21d_3.out w28 pp20_0 (X7.later b28) jX7 (bC kz21 b28))
    case' ns21d_2 => refine lH ?_
    intro w29 kz21
    have S := Off.ofB kz21
    refine vY1 (cA 11 S fun w30 pp20_0 h X7 b30 => ?_)
    have jX7 := (lZ kz21.size h); replace kz21 := bC kz21 b30
    clear S b30 h w29
    revert kz21; revert jX7; revert X7; revert pp20_0; revert w30
    exact s21d_4.out
    case' ns21d_3 => refine lH ?_
    intro w31 pp20_0 X7 jX7 kz21
    have S := Off.ofB kz21
    refine vY1 (cC 7 S (h5.out _ (ft.later (bC kk (bC (bC b15 kz16) kz21)))) fun w32 b32 => ?_)
    replace X7 := (X7.later b32); replace kz21 := bC kz21 b32
    refine vT 8 (Off.ofB kz21) ?_
    refine vT 9 (Off.ofB kz21) ?_
    refine vT 10 (Off.ofB kz21) ?_
    clear S b32 w31
    revert kz21; revert jX7; revert X7; revert pp20_0; revert w32
    exact s21d_4.out
    case' ns21d_4 => refine lH ?_
    intro w33 pp20_0 X7 jX7 kz21
    have S := Off.ofB kz21
    refine vY1 (vO 12 fun K hK => ?_)
    have q := X7.o
    go_simp
    refine vW (fun W => HB W pp20_0 25 #[.int .u64 rh, .int .u64 rl] ∧ Below w20.heap.size w20 W) ⟨((X7.set 0 _).set 1 _), ((kz21.setCell (p := ⟨pp20_0, 0, none⟩) jX7 _).setCell (p := ⟨pp20_0, 1, none⟩) jX7 _)⟩ fun w35 hz => ?_
    clear q X7 S kz21 w33; obtain ⟨X7, kz21⟩ := hz
    refine hK.out _ _ (Off.ofB kz21) fun S => ?_; clear hK K S; refine vP ?_
    refine vT 13 (Off.ofB kz21) ?_
    revert kz21; revert jX7; revert X7; revert pp20_0; revert w35
    exact s21d_5.out
    case' ns21d_5 => refine lH ?_
    intro w36 pp20_0 X7 jX7 kz21
    refine vD ?_
    have nX1_X7 : w.heap.size + 1 < pp20_0 := by have := X1.lt; omega
    replace X2 := X2.later kz16
    have nX2_X7 : w.heap.size + 1 + 1 < pp20_0 := by have := X2.lt; omega
    have nX6_X7 : pp15_0 < pp20_0 := by have := X6.lt; omega
    have gX7 : w.heap.size ≤ pp20_0 := by have := (bC kk (bC b15 kz16)).size; omega
    have oX7 := X7.o
    replace X2 := X2.later kz21
    have oX2 := X2.o
    have mX7_X2 : ¬ (pp20_0 = w.heap.size + 1 + 1) := by omega
    have mX2_X7 : ¬ (w.heap.size + 1 + 1 = pp20_0) := by omega
    replace X1 := X1.later kz21
    replace X6 := X6.later kz21
    go_wp2_with fail
    refine bodyPost_ret (v := .agg #[.int .u64 rh, .int .u64 rl]) ?_ rfl ⟨rfl, (((bC kk (bC (bC b15 kz16) kz21)).setCell (p := ⟨w.heap.size + 1 + 1, 0, none⟩) gX2 _).setCell (p := ⟨w.heap.size + 1 + 1, 1, none⟩) gX2 _)⟩
    simp [results, Tryz.results35, go_sem, oX2, mX7_X2, mX2_X7]
theorem rm_Rem_no (f ah al bh bl : Int)
    (h0 : Hid (∀ w, FTab w → Ca 15 #[.int .u8 f] w (.bool false))) (w : World) (ft : FTab w) :
    Ca 12 #[.int .u8 f, U2 ah al, U2 bh bl] w (.agg #[.int .u64 0, .int .u64 0, .int .u8 0]) := by
  simp only [Ca, U2] at *
  go_enter Tryz.func12, Tryz.ntmps12
  go_wp2_with fail
  refine vM (h0.out _ (ft.later (bA (bA (bA bR _) _) _))) fun w1 b1 => ?_
  have gX2 : w.heap.size ≤ w.heap.size + 1 + 1 := by omega
  have X2 := (HB.newAt (b := w.heap.size + 1 + 1) (by simp) _ _).later b1
  have oX2 := X2.o
  go_wp2_with fail
  refine bodyPost_ret (v := .agg #[.int .u64 0, .int .u64 0, .int .u8 0]) ?_ rfl ⟨rfl, ((((bC (bA (bA (bA bR _) _) _) b1).setCell (p := ⟨w.heap.size + 1 + 1, 0, none⟩) gX2 _).setCell (p := ⟨w.heap.size + 1 + 1, 1, none⟩) gX2 _).setCell (p := ⟨w.heap.size + 1 + 1, 2, none⟩) gX2 _)⟩
  simp [results, Tryz.results12, go_sem, oX2]
theorem rm_Rem_nan (f ah al bh bl ca ea xh xl cb eb yh yl ph pl qh ql rh rl pf qf : Int) (sa sb pk qk i : Bool)
    (h0 : Hid (∀ w, FTab w → Ca 15 #[.int .u8 f] w (.bool true))) (PA : Hid (∀ w, FTab w → ∀ p T, HB w p T #[.int .u64 ah, .int .u64 al, .int .u64 bh, .int .u64 bl] → Ca 31 #[.int .u8 f, .bool false, .slice (some ⟨p, 0, none⟩) 2 2] w (.tuple #[.agg #[.int .u64 ph, .int .u64 pl, .int .u8 pf], .bool true]))) (w : World) (ft : FTab w) :
    Ca 12 #[.int .u8 f, U2 ah al, U2 bh bl] w (.agg #[.int .u64 ph, .int .u64 pl, .int .u8 pf]) := by
  simp only [Ca, U2] at *
  go_enter Tryz.func12, Tryz.ntmps12
  go_wp2_with fail
  refine vM (h0.out _ (ft.later (bA (bA (bA bR _) _) _))) fun w1 b1 => ?_
  have gX2 : w.heap.size ≤ w.heap.size + 1 + 1 := by omega
  have X0 := (((HB.newAt (b := w.heap.size) (by simp) _ _).alloc _).alloc _).later b1
  have X1 := ((HB.newAt (b := w.heap.size + 1) (by simp) _ _).alloc _).later b1
  have X2 := (HB.newAt (b := w.heap.size + 1 + 1) (by simp) _ _).later b1
  have oX0 := X0.o
  have oX1 := X1.o
  go_wp2_with fail
  refine vM (PA.out _ (ft.later (bA (bC (bA (bA (bA bR _) _) _) b1) _)) _ _ (HB.newAt (b := w1.heap.size) (by simp) _ _)) fun w2 b2 => ?_
  clear oX0 oX1
  replace X2 := X2.later (bC (bA bR _) b2)
  have oX2 := X2.o
  go_wp2_with fail
  refine bodyPost_ret (v := .agg #[.int .u64 ph, .int .u64 pl, .int .u8 pf]) ?_ rfl ⟨rfl, (bA ((((bC (bC (bA (bA (bA bR _) _) _) b1) (bC (bA bR _) b2)).setCell (p := ⟨w.heap.size + 1 + 1, 0, none⟩) gX2 _).setCell (p := ⟨w.heap.size + 1 + 1, 1, none⟩) gX2 _).setCell (p := ⟨w.heap.size + 1 + 1, 2, none⟩) gX2 _) _)⟩
  simp [results, Tryz.results12, go_sem, oX2]
theorem rm_Rem_yes (f ah al bh bl ca ea xh xl cb eb yh yl ph pl qh ql rh rl pf qf : Int) (sa sb pk qk i : Bool)
    (h0 : Hid (∀ w, FTab w → Ca 15 #[.int .u8 f] w (.bool true)))
    (h2 : Hid (∀ w, FTab w → Ca 32 #[.int .u8 f, U2 ah al] w (.agg #[.bool sa, .int .u8 ca, .int .i64 ea, .int .u64 xh, .int .u64 xl])))
    (h3 : Hid (∀ w, FTab w → Ca 32 #[.int .u8 f, U2 bh bl] w (.agg #[.bool sb, .int .u8 cb, .int .i64 eb, .int .u64 yh, .int .u64 yl])))
    (h4 : Hid (∀ w, Ca 33 #[.agg #[.bool sa, .int .u8 ca, .int .i64 ea, .int .u64 xh, .int .u64 xl], .agg #[.bool sb, .int .u8 cb, .int .i64 eb, .int .u64 yh, .int .u64 yl]] w (.bool i))) (PA : Hid (∀ w, FTab w → ∀ p T, HB w p T #[.int .u64 ah, .int .u64 al, .int .u64 bh, .int .u64 bl] → Ca 31 #[.int .u8 f, .bool false, .slice (some ⟨p, 0, none⟩) 2 2] w (.tuple #[.agg #[.int .u64 ph, .int .u64 pl, .int .u8 pf], .bool false]))) (PB : Hid (∀ w, FTab w → ∀ p T, HB w p T #[.int .u64 ah, .int .u64 al, .int .u64 bh, .int .u64 bl] → Ca 31 #[.int .u8 f, .bool i, .slice (some ⟨p, 0, none⟩) 2 2] w (.tuple #[.agg #[.int .u64 qh, .int .u64 ql, .int .u8 qf], .bool qk])))
    (HH : ((qk = true)) ∨ ((qk = false) ∧ (qf = 0) ∧ Hid (∀ w, Ca 34 #[.agg #[.bool sa, .int .u8 ca, .int .i64 ea, .int .u64 xh, .int .u64 xl], .agg #[.bool sb, .int .u8 cb, .int .i64 eb, .int .u64 yh, .int .u64 yl]] w (.bool true)) ∧ Hid (∀ w, FTab w → Ca 20 #[.int .u8 f, U2 ah al] w (U2 rh rl))) ∨ ((qk = false) ∧ (qf = 0) ∧ Hid (∀ w, Ca 34 #[.agg #[.bool sa, .int .u8 ca, .int .i64 ea, .int .u64 xh, .int .u64 xl], .agg #[.bool sb, .int .u8 cb, .int .i64 eb, .int .u64 yh, .int .u64 yl]] w (.bool false)) ∧ Hid (∀ w, FTab w → Ca 35 #[.int .u8 f, .agg #[.bool sa, .int .u8 ca, .int .i64 ea, .int .u64 xh, .int .u64 xl], .agg #[.bool sb, .int .u8 cb, .int .i64 eb, .int .u64 yh, .int .u64 yl]] w (U2 rh rl)))) (w : World) (ft : FTab w) :
    Ca 12 #[.int .u8 f, U2 ah al, U2 bh bl] w (.agg #[.int .u64 (if qk then qh else rh), .int .u64 (if qk then ql else rl), .int .u8 qf]) := by
  simp only [Ca, U2] at *
  go_enter Tryz.func12, Tryz.ntmps12
  go_wp2_with fail
  refine vM (h0.out _ (ft.later (bA (bA (bA bR _) _) _))) fun w1 b1 => ?_
  have gX2 : w.heap.size ≤ w.heap.size + 1 + 1 := by omega
  have X0 := (((HB.newAt (b := w.heap.size) (by simp) _ _).alloc _).alloc _).later b1
  have X1 := ((HB.newAt (b := w.heap.size + 1) (by simp) _ _).alloc _).later b1
  have X2 := (HB.newAt (b := w.heap.size + 1 + 1) (by simp) _ _).later b1
  have oX0 := X0.o
  have oX1 := X1.o
  go_wp2_with fail
  refine vM (PA.out _ (ft.later (bA (bC (bA (bA (bA bR _) _) _) b1) _)) _ _ (HB.newAt (b := w1.heap.size) (by simp) _ _)) fun w2 b2 => ?_
  clear oX0 oX1
  go_wp2_with fail
  refine vF1 fun w3 b3 _ => ?_
  replace X0 := X0.later (bC (bC (bA bR _) b2) b3)
  replace X1 := X1.later (bC (bC (bA bR _) b2) b3)
  refine' (have s4_12 : Hid (_ : Prop) := ?ns4_12; ?ms4_12)
  case' ms4_12 => skip
  refine' (have s4_11 : Hid (_ : Prop) := ?ns4_11; ?ms4_11)
  case' ms4_11 => skip
  refine' (have s4_10 : Hid (_ : Prop) := ?ns4_10; ?ms4_10)
  case' ms4_10 => skip
  refine' (have s4_9 : Hid (_ : Prop) := ?ns4_9; ?ms4_9)
  case' ms4_9 => skip
  refine' (have s4_8 : Hid (_ : Prop) := ?ns4_8; ?ms4_8)
  case' ms4_8 => skip
  refine' (have s4_7 : Hid (_ : Prop) := ?ns4_7; ?ms4_7)
  case' ms4_7 => skip
  refine' (have s4_6 : Hid (_ : Prop) := ?ns4_6; ?ms4_6)
  case' ms4_6 => skip
  refine' (have s4_5 : Hid (_ : Prop) := ?ns4_5; ?ms4_5)
  case' ms4_5 => skip
  refine' (have s4_4 : Hid (_ : Prop) := ?ns4_4; ?ms4_4)
  case' ms4_4 => skip
  refine' (have s4_3 : Hid (_ : Prop) := ?ns4_3; ?ms4_3)
  case' ms4_3 => skip
  refine' (have s4_2 : Hid (_ : Prop) := ?ns4_2; ?ms4_2)
  case' ms4_2 => skip
  refine' (have s4_1 : Hid (_ : Prop) := ?ns4_1; ?ms4_1)
  case' ms4_1 => skip
  refine' (have s4_0 : Hid (_ : Prop) := ?ns4_0; ?ms4_0)
  case' ms4_0 => skip
  refine vR [] fun w4 kz4 S => ?_
  refine vT 0 S ?_
  refine vT 1 S ?_ (hy := by intro wq hb; have q := (hb.hb X0 (by simp)).o; go_simp; try (with_reducible rfl))
  refine vT 3 S ?_
  refine vT 4 S ?_ (hy := by intro wq hb; have q := (hb.hb X1 (by simp)).o; go_simp; try (with_reducible rfl))
  refine vY3 (cC 2 S (h2.out _ (ft.later (bC (bC (bC (bC (bA (bA (bA bR _) _) _) b1) (bC (bA bR _) b2)) b3) kz4))) fun w5 b5 => ?_) (cA 6 S fun w6 pp3_0 h X5 b6 => ?_) (cA 7 S fun w7 pp3_1 h X6 b7 => ?_)
  replace kz4 := bC kz4 b5
  clear S b5 w4
  revert kz4; revert w5
  exact s4_0.out
  have jX5 := (lZ kz4.size h); replace kz4 := bC kz4 b6
  clear S b6 h w4
  revert kz4; revert jX5; revert X5; revert pp3_0; revert w6
  exact s4_1.out
  have jX6 := (lZ kz4.size h); replace kz4 := bC kz4 b7
  clear S b7 h w4
  revert kz4; revert jX6; revert X6; revert pp3_1; revert w7
  exact s4_2.out
  case' ns4_0 => refine lH ?_
  intro w8 kz4
  have S := Off.ofB kz4
  refine vY3 (cC 5 S (h3.out _ (ft.later (bC (bC (bC (bC (bA (bA (bA bR _) _) _) b1) (bC (bA bR _) b2)) b3) kz4))) fun w9 b9 => ?_) (cA 6 S fun w10 pp3_0 h X5 b10 => ?_) (cA 7 S fun w11 pp3_1 h X6 b11 => ?_)
  replace kz4 := bC kz4 b9
  clear S b9 w8
  revert kz4; revert w9
  exact s4_3.out
  have jX5 := (lZ kz4.size h); replace kz4 := bC kz4 b10
  clear S b10 h w8
  revert kz4; revert jX5; revert X5; revert pp3_0; revert w10
  exact s4_4.out
  have jX6 := (lZ kz4.size h); replace kz4 := bC kz4 b11
  clear S b11 h w8
  revert kz4; revert jX6; revert X6; revert pp3_1; revert w11
  exact s4_5.out
  case' ns4_1 => refine lH ?_
  intro w12 pp3_0 X5 jX5 kz4
  have S := Off.ofB kz4
  refine vY2 (cC 2 S (h2.out _ (ft.later (bC (bC (bC (bC (bA (bA (bA bR _) _) _) b1) (bC (bA bR _) b2)) b3) kz4))) fun w13 b13 => s4_4.out w13 pp3_0 (X5.later b13) jX5 (bC kz4 b13)) (cA 7 S fun w14 pp3_1 h X6 b14 => ?_)
  have ndX5_X6 : ¬ (pp3_0 = pp3_1) := (Nat.ne_of_lt (lY X5.lt h)); have jX6 := (lZ kz4.size h); replace X5 := (X5.later b14); replace kz4 := bC kz4 b14
  clear S b14 h w12
  revert kz4; revert ndX5_X6; revert jX6; revert jX5; revert X6; revert X5; revert pp3_1; revert pp3_0; revert w14
  exact s4_6.out
  case' ns4_2 => refine lH ?_
  intro w15 pp3_1 X6 jX6 kz4
  have S := Off.ofB kz4
  refine vY2 (cC 2 S (h2.out _ (ft.later (bC (bC (bC (bC (bA (bA (bA bR _) _) _) b1) (bC (bA bR _) b2)) b3) kz4))) fun w16 b16 => s4_5.out w16 pp3_1 (X6.later b16) jX6 (bC kz4 b16)) (cA 6 S fun w17 pp3_0 h X5 b17 => s4_6.out w17 pp3_0 pp3_1 X5 (X6.later b17) (lZ kz4.size h) jX6 (Nat.ne_of_gt (lY X6.lt h)) (bC kz4 b17))
  case' ns4_3 => refine lH ?_
  intro w18 kz4
  have S := Off.ofB kz4
  refine vY2 (cA 6 S fun w19 pp3_0 h X5 b19 => ?_) (cA 7 S fun w20 pp3_1 h X6 b20 => ?_)
  have jX5 := (lZ kz4.size h); replace kz4 := bC kz4 b19
  clear S b19 h w18
  revert kz4; revert jX5; revert X5; revert pp3_0; revert w19
  exact s4_7.out
  have jX6 := (lZ kz4.size h); replace kz4 := bC kz4 b20
  clear S b20 h w18
  revert kz4; revert jX6; revert X6; revert pp3_1; revert w20
  exact s4_8.out
  case' ns4_4 => refine lH ?_
  intro w21 pp3_0 X5 jX5 kz4
  have S := Off.ofB kz4
  refine vY2 (cC 5 S (h3.out _ (ft.later (bC (bC (bC (bC (bA (bA (bA bR _) _) _) b1) (bC (bA bR _) b2)) b3) kz4))) fun w22 b22 => s4_7.out w22 pp3_0 (X5.later b22) jX5 (bC kz4 b22)) (cA 7 S fun w23 pp3_1 h X6 b23 => ?_)
  have ndX5_X6 : ¬ (pp3_0 = pp3_1) := (Nat.ne_of_lt (lY X5.lt h)); have jX6 := (lZ kz4.size h); replace X5 := (X5.later b23); replace kz4 := bC kz4 b23
  clear S b23 h w21
  revert kz4; revert ndX5_X6; revert jX6; revert jX5; revert X6; revert X5; revert pp3_1; revert pp3_0; revert w23
  exact s4_9.out
  case' ns4_5 => refine lH ?_
  intro w24 pp3_1 X6 jX6 kz4
  have S := Off.ofB kz4
  refine vY2 (cC 5 S (h3.out _ (ft.later (bC (bC (bC (bC (bA (bA (bA bR _) _) _) b1) (bC (bA bR _) b2)) b3) kz4))) fun w25 b25 => s4_8.out w25 pp3_1 (X6.later b25) jX6 (bC kz4 b25)) (cA 6 S fun w26 pp3_0 h X5 b26 => s4_9.out w26 pp3_0 pp3_1 X5 (X6.later b26) (lZ kz4.size h) jX6 (Nat.ne_of_gt (lY X6.lt h)) (bC kz4 b26))
  case' ns4_6 => refine lH ?_
  intro w27 pp3_0 pp3_1 X5 X6 jX5 jX6 ndX5_X6 kz4
  have S := Off.ofB kz4
  refine vY1 (cC 2 S (h2.out _ (ft.later (bC (bC (bC (bC (bA (bA (bA bR _) _) _) b1) (bC (bA bR _) b2)) b3) kz4))) fun w28 b28 => s4_9.out w28 pp3_0 pp3_1 (X5.later b28) (X6.later b28) jX5 jX6 ndX5_X6 (bC kz4 b28))
  case' ns4_7 => refine lH ?_
  intro w29 pp3_0 X5 jX5 kz4
  have S := Off.ofB kz4
  refine vY1 (cA 7 S fun w30 pp3_1 h X6 b30 => ?_)
  have ndX5_X6 : ¬ (pp3_0 = pp3_1) := (Nat.ne_of_lt (lY X5.lt h)); have jX6 := (lZ kz4.size h); replace X5 := (X5.later b30); replace kz4 := bC kz4 b30
  clear S b30 h w29
  revert kz4; revert ndX5_X6; revert jX6; revert jX5; revert X6; revert X5; revert pp3_1; revert pp3_0; revert w30
  exact s4_10.out
  case' ns4_8 => refine lH ?_
  intro w31 pp3_1 X6 jX6 kz4
  have S := Off.ofB kz4
  refine vY1 (cA 6 S fun w32 pp3_0 h X5 b32 => s4_10.out w32 pp3_0 pp3_1 X5 (X6.later b32) (lZ kz4.size h) jX6 (Nat.ne_of_gt (lY X6.lt h)) (bC kz4 b32))
  case' ns4_9 => refine lH ?_
  intro w33 pp3_0 pp3_1 X5 X6 jX5 jX6 ndX5_X6 kz4
  have S := Off.ofB kz4
  refine vY1 (cC 5 S (h3.out _ (ft.later (bC (bC (bC (bC (bA (bA (bA bR _) _) _) b1) (bC (bA bR _) b2)) b3) kz4))) fun w34 b34 => s4_10.out w34 pp3_0 pp3_1 (X5.later b34) (X6.later b34) jX5 jX6 ndX5_X6 (bC kz4 b34))
  case' ns4_10 => refine lH ?_
  intro w35 pp3_0 pp3_1 X5 X6 jX5 jX6 ndX5_X6 kz4
  have S := Off.ofB kz4
  refine vY1 (vO 8 fun K hK => ?_)
  have q := X5.o; have mX6 : ¬ (pp3_1 = pp3_0) := (by omega)
  go_simp
  refine vW (fun W => HB W pp3_0 59 #[.bool sa, .int .u8 ca, .int .i64 ea, .int .u64 xh, .int .u64 xl] ∧ HB W pp3_1 59 #[.bool false, .int .u8 0, .int .i64 0, .int .u64 0, .int .u64 0] ∧ Below w3.heap.size w3 W) ⟨(((((X5.set 0 _).set 1 _).set 2 _).set 3 _).set 4 _), (((((X6.other mX6 0 _).other mX6 1 _).other mX6 2 _).other mX6 3 _).other mX6 4 _), (((((kz4.setCell (p := ⟨pp3_0, 0, none⟩) jX5 _).setCell (p := ⟨pp3_0, 1, none⟩) jX5 _).setCell (p := ⟨pp3_0, 2, none⟩) jX5 _).setCell (p := ⟨pp3_0, 3, none⟩) jX5 _).setCell (p := ⟨pp3_0, 4, none⟩) jX5 _)⟩ fun w37 hz => ?_
  clear q mX6 X5 X6 S kz4 w35; obtain ⟨X5, X6, kz4⟩ := hz
  refine hK.out _ _ (Off.ofB kz4) fun S => ?_; clear hK K S; refine vP ?_
  revert kz4; revert ndX5_X6; revert jX6; revert jX5; revert X6; revert X5; revert pp3_1; revert pp3_0; revert w37
  exact s4_11.out
  case' ns4_11 => refine lH ?_
  intro w38 pp3_0 pp3_1 X5 X6 jX5 jX6 ndX5_X6 kz4
  have S := Off.ofB kz4
  refine vY1 (vO 9 fun K hK => ?_)
  have q := X6.o; have mX5 : ¬ (pp3_0 = pp3_1) := (by omega)
  go_simp
  refine vW (fun W => HB W pp3_0 59 #[.bool sa, .int .u8 ca, .int .i64 ea, .int .u64 xh, .int .u64 xl] ∧ HB W pp3_1 59 #[.bool sb, .int .u8 cb, .int .i64 eb, .int .u64 yh, .int .u64 yl] ∧ Below w3.heap.size w3 W) ⟨(((((X5.other mX5 0 _).other mX5 1 _).other mX5 2 _).other mX5 3 _).other mX5 4 _), (((((X6.set 0 _).set 1 _).set 2 _).set 3 _).set 4 _), (((((kz4.setCell (p := ⟨pp3_1, 0, none⟩) jX6 _).setCell (p := ⟨pp3_1, 1, none⟩) jX6 _).setCell (p := ⟨pp3_1, 2, none⟩) jX6 _).setCell (p := ⟨pp3_1, 3, none⟩) jX6 _).setCell (p := ⟨pp3_1, 4, none⟩) jX6 _)⟩ fun w40 hz => ?_
  clear q mX5 X5 X6 S kz4 w38; obtain ⟨X5, X6, kz4⟩ := hz
  refine hK.out _ _ (Off.ofB kz4) fun S => ?_; clear hK K S; refine vP ?_
  revert kz4; revert ndX5_X6; revert jX6; revert jX5; revert X6; revert X5; revert pp3_1; revert pp3_0; revert w40
  exact s4_12.out
  case' ns4_12 => refine lH ?_
  intro w41 pp3_0 pp3_1 X5 X6 jX5 jX6 ndX5_X6 kz4
  refine vD ?_
  have nX0_X5 : w.heap.size < pp3_0 := by have := X0.lt; omega
  have nX0_X6 : w.heap.size < pp3_1 := by have := X0.lt; omega
  have nX1_X5 : w.heap.size + 1 < pp3_0 := by have := X1.lt; omega
  have nX1_X6 : w.heap.size + 1 < pp3_1 := by have := X1.lt; omega
  replace X2 := X2.later (bC (bC (bA bR _) b2) b3)
  have nX2_X5 : w.heap.size + 1 + 1 < pp3_0 := by have := X2.lt; omega
  have nX2_X6 : w.heap.size + 1 + 1 < pp3_1 := by have := X2.lt; omega
  have gX5 : w.heap.size ≤ pp3_0 := by have := (bC (bC (bC (bA (bA (bA bR _) _) _) b1) (bC (bA bR _) b2)) b3).size; omega
  have gX6 : w.heap.size ≤ pp3_1 := by have := (bC (bC (bC (bA (bA (bA bR _) _) _) b1) (bC (bA bR _) b2)) b3).size; omega
  go_wp2_with fail
  replace X0 := X0.later kz4
  replace X1 := X1.later kz4
  refine' (have s42_9 : Hid (_ : Prop) := ?ns42_9; ?ms42_9)
  case' ms42_9 => skip
  refine' (have s42_8 : Hid (_ : Prop) := ?ns42_8; ?ms42_8)
  case' ms42_8 => skip
  refine' (have s42_7 : Hid (_ : Prop) := ?ns42_7; ?ms42_7)
  case' ms42_7 => skip
  refine' (have s42_6 : Hid (_ : Prop) := ?ns42_6; ?ms42_6)
  case' ms42_6 => skip
  refine' (have s42_5 : Hid (_ : Prop) := ?ns42_5; ?ms42_5)
  case' ms42_5 => skip
  refine' (have s42_4 : Hid (_ : Prop) := ?ns42_4; ?ms42_4)
  case' ms42_4 => skip
  refine' (have s42_3 : Hid (_ : Prop) := ?ns42_3; ?ms42_3)
  case' ms42_3 => skip
  refine' (have s42_2 : Hid (_ : Prop) := ?ns42_2; ?ms42_2)
  case' ms42_2 => skip
  refine' (have s42_1 : Hid (_ : Prop) := ?ns42_1; ?ms42_1)
  case' ms42_1 => skip
  refine' (have s42_0 : Hid (_ : Prop) := ?ns42_0; ?ms42_0)
  case' ms42_0 => skip
  refine vR [] fun w42 kz42 S => ?_
  refine vT 0 S ?_
  refine vT 1 S ?_ (hy := by intro wq hb; have q := (hb.hb X5 (by simp)).o; go_simp; try (with_reducible rfl))
  refine vT 2 S ?_ (hy := by intro wq hb; have q := (hb.hb X6 (by simp)).o; go_simp; try (with_reducible rfl))
  refine vT 4 S ?_ (hy := by intro wq hb; have q := (hb.hb X0 (by simp)).o; go_simp; try (with_reducible rfl))
  refine vT 5 S ?_ (hy := by intro wq hb; have q := (hb.hb X1 (by simp)).o; go_simp; try (with_reducible rfl))
  refine vY3 (cC 3 S (h4.out _) fun w43 b43 => ?_) (cB (n := 2) 6 S fun w44 pp41_0 h X7 b44 => ?_) (cA 11 S fun w45 pp41_1 h X8 b45 => ?_)
  replace kz42 := bC kz42 b43
  clear S b43 w42
  revert kz42; revert w43
  exact s42_0.out
  have jX7 := (lZ kz42.size h); replace kz42 := bC kz42 b44
  clear S b44 h w42
  revert kz42; revert jX7; revert X7; revert pp41_0; revert w44
  exact s42_1.out
  have jX8 := (lZ kz42.size h); replace kz42 := bC kz42 b45
  clear S b45 h w42
  revert kz42; revert jX8; revert X8; revert pp41_1; revert w45
  exact s42_2.out
  case' ns42_0 => refine lH ?_
  intro w46 kz42
  have S := Off.ofB kz42
  refine vY2 (cB (n := 2) 6 S fun w47 pp41_0 h X7 b47 => ?_) (cA 11 S fun w48 pp41_1 h X8 b48 => ?_)
  have jX7 := (lZ kz42.size h); replace kz42 := bC kz42 b47
  clear S b47 h w46
  revert kz42; revert jX7; revert X7; revert pp41_0; revert w47
  exact s42_3.out
  have jX8 := (lZ kz42.size h); replace kz42 := bC kz42 b48
  clear S b48 h w46
  revert kz42; revert jX8; revert X8; revert pp41_1; revert w48
  exact s42_4.out
  case' ns42_1 => refine lH ?_
  intro w49 pp41_0 X7 jX7 kz42
  have S := Off.ofB kz42
  refine vY2 (cC 3 S (h4.out _) fun w50 b50 => s42_3.out w50 pp41_0 (X7.later b50) jX7 (bC kz42 b50)) (cA 11 S fun w51 pp41_1 h X8 b51 => ?_)
  have ndX7_X8 : ¬ (pp41_0 = pp41_1) := (Nat.ne_of_lt (lY X7.lt h)); have jX8 := (lZ kz42.size h); replace X7 := (X7.later b51); replace kz42 := bC kz42 b51
  clear S b51 h w49
  revert kz42; revert ndX7_X8; revert jX8; revert jX7; revert X8; revert X7; revert pp41_1; revert pp41_0; revert w51
  exact s42_5.out
  case' ns42_2 => refine lH ?_
  intro w52 pp41_1 X8 jX8 kz42
  have S := Off.ofB kz42
  refine vY2 (cC 3 S (h4.out _) fun w53 b53 => s42_4.out w53 pp41_1 (X8.later b53) jX8 (bC kz42 b53)) (cB (n := 2) 6 S fun w54 pp41_0 h X7 b54 => s42_5.out w54 pp41_0 pp41_1 X7 (X8.later b54) (lZ kz42.size h) jX8 (Nat.ne_of_gt (lY X8.lt h)) (bC kz42 b54))
  case' ns42_3 => refine lH ?_
  intro w55 pp41_0 X7 jX7 kz42
  have S := Off.ofB kz42
  refine vY2 (cC 7 S (PB.out _ (ft.later (bC (bC (bC (bC (bC (bA (bA (bA bR _) _) _) b1) (bC (bA bR _) b2)) b3) kz4) kz42)) _ _ X7) fun w56 b56 => ?_) (cA 11 S fun w57 pp41_1 h X8 b57 => ?_)
  replace X7 := (X7.later b56); replace kz42 := bC kz42 b56
  refine vT 8 (Off.ofB kz42) ?_
  refine vT 9 (Off.ofB kz42) ?_
  refine vT 10 (Off.ofB kz42) ?_
  clear S b56 w55
  revert kz42; revert jX7; revert X7; revert pp41_0; revert w56
  exact s42_6.out
  have ndX7_X8 : ¬ (pp41_0 = pp41_1) := (Nat.ne_of_lt (lY X7.lt h)); have jX8 := (lZ kz42.size h); replace X7 := (X7.later b57); replace kz42 := bC kz42 b57
  clear S b57 h w55
  revert kz42; revert ndX7_X8; revert jX8; revert jX7; revert X8; revert X7; revert pp41_1; revert pp41_0; revert w57
  exact s42_7.out
  case' ns42_4 => refine lH ?_
  intro w58 pp41_1 X8 jX8 kz42
  have S := Off.ofB kz42
  refine vY1 (cB (n := 2) 6 S fun w59 pp41_0 h X7 b59 => s42_7.out w59 pp41_0 pp41_1 X7 (X8.later b59) (lZ kz42.size h) jX8 (Nat.ne_of_gt (lY X8.lt h)) (bC kz42 b59))
  case' ns42_5 => refine lH ?_
  intro w60 pp41_0 pp41_1 X7 X8 jX7 jX8 ndX7_X8 kz42
  have S := Off.ofB kz42
  refine vY1 (cC 3 S (h4.out _) fun w61 b61 => s42_7.out w61 pp41_0 pp41_1 (X7.later b61) (X8.later b61) jX7 jX8 ndX7_X8 (bC kz42 b61))
  case' ns42_6 => refine lH ?_
  intro w62 pp41_0 X7 jX7 kz42
  have S := Off.ofB kz42
  refine vY1 (cA 11 S fun w63 pp41_1 h X8 b63 => ?_)
  have ndX7_X8 : ¬ (pp41_0 = pp41_1) := (Nat.ne_of_lt (lY X7.lt h)); have jX8 := (lZ kz42.size h); replace X7 := (X7.later b63); replace kz42 := bC kz42 b63
  clear S b63 h w62
  revert kz42; revert ndX7_X8; revert jX8; revert jX7; revert X8; revert X7; revert pp41_1; revert pp41_0; revert w63
  exact s42_8.out
  case' ns42_7 => refine lH ?_
  intro w64 pp41_0 pp41_1 X7 X8 jX7 jX8 ndX7_X8 kz42
  have S := Off.ofB kz42
  refine vY1 (cC 7 S (PB.out _ (ft.later (bC (bC (bC (bC (bC (bA (bA (bA bR _) _) _) b1) (bC (bA bR _) b2)) b3) kz4) kz42)) _ _ X7) fun w65 b65 => ?_)
  replace X7 := (X7.later b65); replace X8 := (X8.later b65); replace kz42 := bC kz42 b65
  refine vT 8 (Off.ofB kz42) ?_
  refine vT 9 (Off.ofB kz42) ?_
  refine vT 10 (Off.ofB kz42) ?_
  clear S b65 w64
  revert kz42; revert ndX7_X8; revert jX8; revert jX7; revert X8; revert X7; revert pp41_1; revert pp41_0; revert w65
  exact s42_8.out
  case' ns42_8 => refine lH ?_
  intro w66 pp41_0 pp41_1 X7 X8 jX7 jX8 ndX7_X8 kz42
  have S := Off.ofB kz42
  refine vY1 (vO 12 fun K hK => ?_)
  have q := X8.o; have mX7 : ¬ (pp41_0 = pp41_1) := (by omega)
  go_simp
  refine vW (fun W => HB W pp41_0 25 #[.int .u64 ah, .int .u64 al, .int .u64 bh, .int .u64 bl] ∧ HB W pp41_1 30 #[.int .u64 qh, .int .u64 ql, .int .u8 qf] ∧ Below w41.heap.size w41 W) ⟨(((X7.other mX7 0 _).other mX7 1 _).other mX7 2 _), (((X8.set 0 _).set 1 _).set 2 _), (((kz42.setCell (p := ⟨pp41_1, 0, none⟩) jX8 _).setCell (p := ⟨pp41_1, 1, none⟩) jX8 _).setCell (p := ⟨pp41_1, 2, none⟩) jX8 _)⟩ fun w68 hz => ?_
  clear q mX7 X7 X8 S kz42 w66; obtain ⟨X7, X8, kz42⟩ := hz
  refine hK.out _ _ (Off.ofB kz42) fun S => ?_; clear hK K S; refine vP ?_
  refine vT 13 (Off.ofB kz42) ?_
  revert kz42; revert ndX7_X8; revert jX8; revert jX7; revert X8; revert X7; revert pp41_1; revert pp41_0; revert w68
  exact s42_9.out
  case' ns42_9 => refine lH ?_
  intro w69 pp41_0 pp41_1 X7 X8 jX7 jX8 ndX7_X8 kz42
  refine vD ?_
  have nX0_X8 : w.heap.size < pp41_1 := by have := X0.lt; omega
  replace X2 := X2.later kz4
  have nX2_X8 : w.heap.size + 1 + 1 < pp41_1 := by have := X2.lt; omega
  have nX5_X8 : pp3_0 < pp41_1 := by have := X5.lt; omega
  have nX6_X8 : pp3_1 < pp41_1 := by have := X6.lt; omega
  have gX7 : w.heap.size ≤ pp41_0 := by have := (bC (bC (bC (bC (bA (bA (bA bR _) _) _) b1) (bC (bA bR _) b2)) b3) kz4).size; omega
  have gX8 : w.heap.size ≤ pp41_1 := by have := (bC (bC (bC (bC (bA (bA (bA bR _) _) _) b1) (bC (bA bR _) b2)) b3) kz4).size; omega
  rcases HH with rfl | ⟨rfl, rfl, h6, h7⟩ | ⟨rfl, rfl, h6, h7⟩
  · have oX8 := X8.o
    replace X2 := X2.later kz42
    have oX2 := X2.o
    have mX8_X2 : ¬ (pp41_1 = w.heap.size + 1 + 1) := by omega
    have mX2_X8 : ¬ (w.heap.size + 1 + 1 = pp41_1) := by omega
    replace X0 := X0.later kz42
    replace X5 := X5.later kz42
    replace X6 := X6.later kz42
    go_wp2_with fail
    refine bodyPost_ret (v := .agg #[.int .u64 qh, .int .u64 ql, .int .u8 qf]) ?_ rfl ⟨rfl, ((((bC (bC (bC (bC (bC (bA (bA (bA bR _) _) _) b1) (bC (bA bR _) b2)) b3) kz4) kz42).setCell (p := ⟨w.heap.size + 1 + 1, 0, none⟩) gX2 _).setCell (p := ⟨w.heap.size + 1 + 1, 1, none⟩) gX2 _).setCell (p := ⟨w.heap.size + 1 + 1, 2, none⟩) gX2 _)⟩
    simp [results, Tryz.results12, go_sem, oX2, mX8_X2, mX2_X8]
  · replace X5 := X5.later kz42
    have oX5 := X5.o
    replace X6 := X6.later kz42
    have oX6 := X6.o
    go_wp2_with fail
    refine vM (h6.out _) fun w70 b70 => ?_
    clear oX5 oX6
    replace X0 := X0.later (bC kz42 b70)
    have oX0 := X0.o
    go_wp2_with fail
    refine vM (h7.out _ (ft.later (bC (bC (bC (bC (bC (bC (bA (bA (bA bR _) _) _) b1) (bC (bA bR _) b2)) b3) kz4) kz42) b70))) fun w71 b71 => ?_
    clear oX0
    replace X2 := X2.later (bC (bC kz42 b70) b71)
    have oX2 := X2.o
    go_wp2_with fail
    refine bodyPost_ret (v := .agg #[.int .u64 rh, .int .u64 rl, .int .u8 0]) ?_ rfl ⟨rfl, ((((bC (bC (bC (bC (bC (bC (bC (bA (bA (bA bR _) _) _) b1) (bC (bA bR _) b2)) b3) kz4) kz42) b70) b71).setCell (p := ⟨w.heap.size + 1 + 1, 0, none⟩) gX2 _).setCell (p := ⟨w.heap.size + 1 + 1, 1, none⟩) gX2 _).setCell (p := ⟨w.heap.size + 1 + 1, 2, none⟩) gX2 _)⟩
    simp [results, Tryz.results12, go_sem, oX2]
  · replace X5 := X5.later kz42
    have oX5 := X5.o
    replace X6 := X6.later kz42
    have oX6 := X6.o
    go_wp2_with fail
    refine vM (h6.out _) fun w70 b70 => ?_
    clear oX5 oX6
    replace X5 := X5.later b70
    have oX5 := X5.o
    replace X6 := X6.later b70
    have oX6 := X6.o
    go_wp2_with fail
    refine vM (h7.out _ (ft.later (bC (bC (bC (bC (bC (bC (bA (bA (bA bR _) _) _) b1) (bC (bA bR _) b2)) b3) kz4) kz42) b70))) fun w71 b71 => ?_
    clear oX5 oX6
    replace X2 := X2.later (bC (bC kz42 b70) b71)
    have oX2 := X2.o
    go_wp2_with fail
    refine bodyPost_ret (v := .agg #[.int .u64 rh, .int .u64 rl, .int .u8 0]) ?_ rfl ⟨rfl, ((((bC (bC (bC (bC (bC (bC (bC (bA (bA (bA bR _) _) _) b1) (bC (bA bR _) b2)) b3) kz4) kz42) b70) b71).setCell (p := ⟨w.heap.size + 1 + 1, 0, none⟩) gX2 _).setCell (p := ⟨w.heap.size + 1 + 1, 1, none⟩) gX2 _).setCell (p := ⟨w.heap.size + 1 + 1, 2, none⟩) gX2 _)⟩
    simp [results, Tryz.results12, go_sem, oX2]
end Go.Proofs.YtjdjonekoodalaaGreatDoor
namespace Go.Proofs.YtjdjonekoodalaaGreatDoor
open Go.RowKit
attribute [local go_sem ↓] Go.wp_at_zero Go.wp_at_succ
theorem uS_even {f b : Int} (f0 : 0 ≤ f) (hf : f < 4) (b0 : 0 ≤ b) (c : clsF f b = 1 ∨ clsF f b = 2) : uS f b % 2 = 0 := by
  obtain ⟨_, _, _, _, s, _⟩ := un_range f0 hf b0 c
  obtain ⟨p0, p1, p2, p3, p4, p5, p6, p7, p8⟩ := f_nums f0 hf
  have d := Int.dvd_of_emod_eq_zero s
  have e : (2 : Int) ∣ 2 ^ (128 - fP f) := ⟨2 ^ (128 - fP f - 1), by rw [Int.mul_comm]; exact pow_top (by omega)⟩
  exact Int.emod_eq_zero_of_dvd (Int.dvd_trans e d)
theorem vF_uS {f b : Int} (f0 : 0 ≤ f) (b0 : 0 ≤ b) : vF f b = uS f b * (full * 2 ^ (uE f b + 1099511627776).toNat) := by
  unfold vF baseT; rw [clT_u f0 b0, Int.mul_assoc]
def itself23 (f a b : Int) : Bool := (clsF f b == 3) || (clsF f a == 0) || decide (uE f a < uE f b - 1)
theorem uE_small {f b : Int} (f0 : 0 ≤ f) (hf : f < 4) (b0 : 0 ≤ b) : -17000 ≤ uE f b ∧ uE f b ≤ 17000 := by
  by_cases c : clsF f b = 1 ∨ clsF f b = 2
  · obtain ⟨x0, x1, _⟩ := un_range f0 hf b0 c
    obtain ⟨p0, p1, p2, p3, p4, p5, p6, p7, p8⟩ := f_nums f0 hf
    omega
  · unfold uE; rw [if_neg c]; omega
theorem rm_itself {f a b : Int} (f0 : 0 ≤ f) (hf : f < 4) (a0 : 0 ≤ a) (b0 : 0 ≤ b) (ca : clsF f a ≤ 2) (cb : clsF f b = 1 ∨ clsF f b = 2) (h : itself23 f a b = true) : 2 * vF f a ≤ vF f b := by
  have vb := (vF_dcE f0 hf b0 cb).1
  by_cases z : clsF f a = 0
  · have := (vF_zero f0 hf a0 ca).2 z
    omega
  · have c1 : clsF f a = 1 ∨ clsF f a = 2 := by have := cls_range f a; omega
    unfold itself23 at h
    simp only [Bool.or_eq_true, beq_iff_eq, decide_eq_true_eq] at h
    have h : uE f a < uE f b - 1 := by omega
    obtain ⟨_, _, y0, y1, _, _⟩ := un_range f0 hf b0 cb
    obtain ⟨_, _, x0, x1, _, _⟩ := un_range f0 hf a0 c1
    have xa := uE_small f0 hf a0
    obtain ⟨A, hA⟩ : ∃ A : Nat, (A : Int) = uE f a + 1099511627776 := ⟨(uE f a + 1099511627776).toNat, by omega⟩
    obtain ⟨k, hk⟩ : ∃ k : Nat, (k : Int) = uE f b - uE f a - 2 := ⟨(uE f b - uE f a - 2).toNat, by omega⟩
    rw [vF_uS f0 a0, vF_uS f0 b0, show (uE f a + 1099511627776).toNat = A by omega, show (uE f b + 1099511627776).toNat = k + 2 + A by omega]
    have e : (2 : Int) ^ (k + 2 + A) = 2 ^ k * 4 * 2 ^ A := by rw [Int.pow_add, Int.pow_add]; rfl
    rw [e]
    have kp := two_pow_pos k
    have Ap := two_pow_pos A
    have f2 : full = 2 * 2 ^ 127 := by decide +kernel
    have l1 : 2 * uS f a ≤ uS f b * (2 ^ k * 4) := by
      have : uS f b * 4 ≤ uS f b * (2 ^ k * 4) := Int.mul_le_mul_of_nonneg_left (by omega) (by have := two_pow_pos 127; omega)
      omega
    have l2 := Int.mul_le_mul_of_nonneg_right l1 (show 0 ≤ full * 2 ^ A from Int.mul_nonneg (by decide) (by omega))
    calc 2 * (uS f a * (full * 2 ^ A)) = 2 * uS f a * (full * 2 ^ A) := by ac_rfl
      _ ≤ uS f b * (2 ^ k * 4) * (full * 2 ^ A) := l2
      _ = uS f b * (full * (2 ^ k * 4 * 2 ^ A)) := by ac_rfl
theorem pick_none_fl {f : Int} {l : List Int} (an : anyN f l = false) : pickF f false l = 0 := (pick_none (f := f) l an).2.1
theorem rm_digits {f a b : Int} (f0 : 0 ≤ f) (hf : f < 4) (a0 : 0 ≤ a) (b0 : 0 ≤ b) (ca : clsF f a = 1 ∨ clsF f a = 2) (cb : clsF f b = 1 ∨ clsF f b = 2) (n : Nat) (hn : (n : Int) = uE f a - uE f b + 1) :
    rmC (rmM f a b) (rmD f a b) = rmC (uS f a / 2 * 2 ^ n) (uS f b) ∧ 0 ≤ rmR (uS f a / 2 * 2 ^ n) (uS f b) ∧ 2 * rmR (uS f a / 2 * 2 ^ n) (uS f b) ≤ uS f b ∧
    ∀ m ng, m < 5 → pkB f m ng (uE f b) (rmR (uS f a / 2 * 2 ^ n) (uS f b) * full) = dcB f m ng (rmX f a b) (rmE f a b) false ∧ ∀ t, pkFl f m t ng (uE f b) (rmR (uS f a / 2 * 2 ^ n) (uS f b) * full) = 0 := by
  obtain ⟨_, _, y0, y1, _, _⟩ := un_range f0 hf b0 cb
  obtain ⟨_, _, x0, x1, _, _⟩ := un_range f0 hf a0 ca
  have ev := uS_even f0 hf a0 ca
  have ea := uE_range (f := f) f0 a0
  have eb := uE_range (f := f) f0 b0
  have hp := two_pow_pos 127
  obtain ⟨C, hC⟩ : ∃ C : Nat, (C : Int) = uE f b + 1099511627776 := ⟨(uE f b + 1099511627776).toNat, by omega⟩
  have vb := vF_uS (f := f) f0 b0
  have va := vF_uS (f := f) f0 a0
  rw [show (uE f b + 1099511627776).toNat = C by omega] at vb
  have va2 : vF f a = uS f a / 2 * 2 ^ n * (full * 2 ^ C) := by
    have e1 : (2 : Int) * 2 ^ (uE f a + 1099511627776).toNat = 2 ^ n * 2 ^ C := by
      rw [← Int.pow_add, Int.mul_comm, ← Int.pow_succ]; congr 1; omega
    have e2 : uS f a = uS f a / 2 * 2 := by omega
    rw [va]
    calc uS f a * (full * 2 ^ (uE f a + 1099511627776).toNat) = uS f a / 2 * 2 * (full * 2 ^ (uE f a + 1099511627776).toNat) := by rw [← e2]
      _ = uS f a / 2 * full * (2 * 2 ^ (uE f a + 1099511627776).toNat) := by ac_rfl
      _ = uS f a / 2 * 2 ^ n * (full * 2 ^ C) := by rw [e1]; ac_rfl
  have W0 : 0 ≤ uS f a / 2 * 2 ^ n := Int.mul_nonneg (by omega) (by have := two_pow_pos n; omega)
  have cp : 0 < full * 2 ^ C := Int.mul_pos (by decide) (two_pow_pos C)
  obtain ⟨s1, s2⟩ := rm_scale (A := uS f a / 2 * 2 ^ n) (B := uS f b) cp
  obtain ⟨r0, r1, _⟩ := rm_range W0 (show 0 < uS f b by omega)
  have ca2 : clsF f a ≤ 2 := by omega
  have cb2 : clsF f b ≤ 2 := by omega
  obtain ⟨z1, z2⟩ := rm_size f0 hf a0 b0 ca2 cb2
  have vp := (vF_dcE f0 hf b0 cb).1
  rw [va2, vb] at z1
  generalize hW : uS f a / 2 * 2 ^ n = W at *
  refine ⟨by rw [← z1, s1], r0, r1, fun m ng hm => ?_⟩
  obtain ⟨g1, g2⟩ := z2 m ng vp
  rw [va2, vb, s2] at g1 g2
  have wl : rmR W (uS f b) * full < wfull := by
    rw [show wfull = full * full by decide +kernel]
    exact Int.mul_lt_mul_of_pos_right (by omega) (by decide)
  have wn : 0 ≤ rmR W (uS f b) * full := Int.mul_nonneg r0 (by decide)
  obtain ⟨d1, d2⟩ := dc_pk (f := f) (m := m) (exp := uE f b) (x := rmR W (uS f b) * full) (ng := ng) f0 wn wl
  rw [clip_id (by omega) (by omega)] at d1 d2
  have sc := dc_scale (f := f) (m := m) (q := rmR W (uS f b) * full) (E := uE f b - 255) (ng := ng) C wn
  rw [show uE f b - 255 - (C : Int) = -1099511628031 by omega] at sc
  have fl := (rm_fits (m := m) (ng := ng) f0 hf hm a0 b0 ca2 cb _ rfl).2.2.2.2.2.2
  refine ⟨?_, fun t => ?_⟩
  · rw [g1, ← d1, ← sc.1]; congr 1; rw [Int.mul_assoc]
  · rw [← d2 t, ← sc.2 t, ← fl t, g2 t]; congr 1; rw [Int.mul_assoc]
theorem rm_exact {f a b : Int} {ng : Bool} (f0 : 0 ≤ f) (hf : f < 4) (a0 : 0 ≤ a) (b0 : 0 ≤ b) (ca : clsF f a ≤ 2) (cb : clsF f b = 1 ∨ clsF f b = 2) : dcB f 4 ng (rmX f a b) (rmE f a b) false = dcB f 0 ng (rmX f a b) (rmE f a b) false := by
  obtain ⟨a1, a2, a3, a4, a5, a6, _⟩ := rm_fits (m := 4) (ng := ng) f0 hf (by decide) a0 b0 ca cb _ rfl
  obtain ⟨b1, b2, b3, b4, b5, b6, _⟩ := rm_fits (m := 0) (ng := ng) f0 hf (by decide) a0 b0 ca cb _ rfl
  rw [← a6, ← b6]
  exact nm_same23 f0 hf a1 b1 a3 b3 (by rw [a4, b4]) (by rw [a5, b5])
theorem remainderN (f a b : Int) (f0 : 0 ≤ f) (hf : f < 4) (a0 : 0 ≤ a) (b0 : 0 ≤ b) (ca : clsF f a = 1 ∨ clsF f a = 2) (cb : clsF f b = 1 ∨ clsF f b = 2) (he : uE f b - 1 ≤ uE f a) (w : World) (ft : FTab w) : Calls Tryz.prog 35 #[.int .u8 f, .agg #[.bool (negF f a), .int .u8 (clsF f a), .int .i64 (uE f a), .int .u64 (hiOf (uS f a)), .int .u64 (loOf (uS f a))], .agg #[.bool (negF f b), .int .u8 (clsF f b), .int .i64 (uE f b), .int .u64 (hiOf (uS f b)), .int .u64 (loOf (uS f b))]] w fun e w' => e = .returned (.agg #[.int .u64 (hiOf (dcB f 0 (rmN f a b) (rmX f a b) (rmE f a b) false)), .int .u64 (loOf (dcB f 0 (rmN f a b) (rmX f a b) (rmE f a b) false))]) ∧ Below w.heap.size w w' := by
  obtain ⟨_, _, y0, y1, _, _⟩ := un_range f0 hf b0 cb
  obtain ⟨_, _, x0, x1, _, _⟩ := un_range f0 hf a0 ca
  have xa := uE_small f0 hf a0
  have xb := uE_small f0 hf b0
  have hp := two_pow_pos 127
  obtain ⟨n, hn⟩ : ∃ n : Nat, (n : Int) = uE f a - uE f b + 1 := ⟨(uE f a - uE f b + 1).toNat, by omega⟩
  obtain ⟨q1, q2, q3, q4⟩ := rm_digits f0 hf a0 b0 ca cb n hn
  have hN : rmN f a b = (negF f a != rmC (rmM f a b) (rmD f a b)) := rfl
  have full2 : full = 2 * 2 ^ 127 := by decide +kernel
  have EX : ∀ ng, ∀ w, FTab w → Calls Tryz.prog 89 #[.int .u8 f, .bool ng, .int .i64 (uE f b), .agg #[.int .u64 (wd0 (rmR (uS f a / 2 * 2 ^ n) (uS f b) * full)), .int .u64 (wd1 (rmR (uS f a / 2 * 2 ^ n) (uS f b) * full)), .int .u64 (wd2 (rmR (uS f a / 2 * 2 ^ n) (uS f b) * full)), .int .u64 (wd3 (rmR (uS f a / 2 * 2 ^ n) (uS f b) * full))]] w fun e w' => e = .returned (.tuple #[.agg #[.int .u64 (hiOf (dcB f 0 ng (rmX f a b) (rmE f a b) false)), .int .u64 (loOf (dcB f 0 ng (rmX f a b) (rmE f a b) false))], .bool true]) ∧ Below w.heap.size w w' := fun ng w ft => by
    have h := packOK.exact_ f ng (uE f b) (rmR (uS f a / 2 * 2 ^ n) (uS f b) * full) f0 (by omega) (by omega) (by omega) (Int.mul_nonneg q2 (by decide)) (by rw [show wfull = full * full by decide +kernel]; exact Int.mul_lt_mul_of_pos_right (by omega) (by decide)) w ft
    have k : pkX f ng (uE f b) (rmR (uS f a / 2 * 2 ^ n) (uS f b) * full) = true := by
      unfold pkX; rw [decide_eq_true hf, (q4 4 ng (by decide)).2 false]; rfl
    rw [k, if_pos rfl, (q4 4 ng (by decide)).1, rm_exact f0 hf a0 b0 (by omega) cb] at h
    exact h
  clear q4
  rw [hN, q1]
  rw [q1] at hN
  clear q1
  generalize uS f a = x at *
  generalize uS f b = y at *
  have RI := rightB x 1 (by decide) (by decide)
  rw [Int.emod_eq_of_lt (by omega) x1, show x / 2 ^ (1 : Int).toNat = x / 2 from rfl] at RI
  obtain ⟨W, hW⟩ : ∃ W, x / 2 * 2 ^ n = W := ⟨_, rfl⟩
  obtain ⟨p, hP⟩ : ∃ p, W % y = p := ⟨_, rfl⟩
  have p0 : 0 ≤ p := by rw [← hP]; exact Int.emod_nonneg _ (by omega)
  have p1 : p < y := by rw [← hP]; exact Int.emod_lt_of_pos _ (by omega)
  have M1 := modQ (x / 2) y n (by omega) (by rw [Int.emod_eq_of_lt (by omega) (by omega), Int.emod_eq_of_lt (by omega) y1]; omega)
  rw [Int.emod_eq_of_lt (show 0 ≤ x / 2 by omega) (by omega), Int.emod_eq_of_lt (show 0 ≤ y by omega) y1, hW, hP, hn] at M1
  have M2 := modQ p y 1 (by omega) (by rw [Int.emod_eq_of_lt p0 (by omega), Int.emod_eq_of_lt (by omega) y1]; omega)
  rw [Int.emod_eq_of_lt p0 (by omega), Int.emod_eq_of_lt (show 0 ≤ y by omega) y1] at M2
  have FU1 : Hid (∀ bk w, HB w bk 119 #[.bool false, .int .u64 (hiOf (x / 2)), .int .u64 (loOf (x / 2)), .int .u64 (hiOf y), .int .u64 (loOf y)] → Calls Tryz.prog 86 #[.pointer (some ⟨bk, 0, none⟩), .int .i64 (uE f a - uE f b + 1)] w fun e w' => e = .returned (.agg #[.bool (decide (W / y % 2 = 1)), .int .u64 (hiOf p), .int .u64 (loOf p), .int .u64 (hiOf y), .int .u64 (loOf y)]) ∧ HB w' bk 119 #[.bool (decide (W / y % 2 = 1)), .int .u64 (hiOf p), .int .u64 (loOf p), .int .u64 (hiOf y), .int .u64 (loOf y)] ∧ Mut bk w w') := lH fun bk w X => further_core bk _ _ _ _ _ _ _ _ _ (lH M1) w X
  have FU2 : Hid (∀ bk w, HB w bk 119 #[.bool (decide (W / y % 2 = 1)), .int .u64 (hiOf p), .int .u64 (loOf p), .int .u64 (hiOf y), .int .u64 (loOf y)] → Calls Tryz.prog 86 #[.pointer (some ⟨bk, 0, none⟩), .int .i64 1] w fun e w' => e = .returned (.agg #[.bool (decide (p * 2 ^ 1 / y % 2 = 1)), .int .u64 (hiOf (p * 2 ^ 1 % y)), .int .u64 (loOf (p * 2 ^ 1 % y)), .int .u64 (hiOf y), .int .u64 (loOf y)]) ∧ HB w' bk 119 #[.bool (decide (p * 2 ^ 1 / y % 2 = 1)), .int .u64 (hiOf (p * 2 ^ 1 % y)), .int .u64 (loOf (p * 2 ^ 1 % y)), .int .u64 (hiOf y), .int .u64 (loOf y)] ∧ Mut bk w w') := lH fun bk w X => further_core bk _ _ _ _ _ _ _ _ _ (lH M2) w X
  have Z := zeroB (p * 2 ^ 1 % y)
  have hq : p * 2 ^ 1 = 2 * p := by omega
  have hh := Int.emod_nonneg (2 * p) (show y ≠ 0 by omega)
  have dm := Int.emod_add_mul_ediv (2 * p) y
  have hl2 := Int.emod_lt_of_pos (2 * p) (show 0 < y by omega)
  have zf : p * 2 ^ 1 % y % full = p * 2 ^ 1 % y := by rw [hq]; exact Int.emod_eq_of_lt hh (by omega)
  have SB := subB y p
  have JS := joinW (y - p) 0
  have JP := joinW p 0
  have fp : (0 : Int) < full := by decide
  rw [Int.emod_eq_of_lt (show 0 ≤ y - p by omega) (by omega), Int.emod_eq_of_lt (Int.le_refl 0) fp, Int.add_zero, show hiOf 0 = 0 from rfl, show loOf 0 = 0 from rfl] at JS
  rw [Int.emod_eq_of_lt p0 (by omega), Int.emod_eq_of_lt (Int.le_refl 0) fp, Int.add_zero, show hiOf 0 = 0 from rfl, show loOf 0 = 0 from rfl] at JP
  have ho : decide (p * 2 ^ 1 / y % 2 = 1) = decide (y ≤ 2 * p) := by
    rw [hq, decide_eq_decide]
    rcases (show 2 * p < y ∨ y ≤ 2 * p by omega) with k | k
    · rw [Int.ediv_eq_zero_of_lt (by omega) k]; omega
    · have : 2 * p / y = 1 := by
        have h1 := Int.le_ediv_of_mul_le (show 0 < y by omega) (show 1 * y ≤ 2 * p by omega)
        have h2 := Int.ediv_lt_of_lt_mul (show 0 < y by omega) (show 2 * p < 2 * y by omega)
        omega
      rw [this]; omega
  have hz : p * 2 ^ 1 % y = if 2 * p < y then 2 * p else 2 * p - y := by
    rw [hq]
    split
    · rename_i k; exact Int.emod_eq_of_lt (by omega) k
    · rename_i k
      have := Int.sub_emod_right (2 * p) y
      rw [← this]; exact Int.emod_eq_of_lt (by omega) (by omega)
  have er : rmR W y = if rmC W y then y - p else p := by unfold rmR; rw [hP]
  have ec : rmC W y = decide (y < 2 * p ∨ (2 * p = y ∧ W / y % 2 = 1)) := by unfold rmC; rw [hP]
  rw [hW] at EX q2 q3 ⊢
  obtain ⟨D, hD⟩ : ∃ D, (fun ng : Bool => dcB f 0 ng (rmX f a b) (rmE f a b) false) = D := ⟨_, rfl⟩
  have hD' : ∀ ng, dcB f 0 ng (rmX f a b) (rmE f a b) false = D ng := fun ng => by rw [← hD]
  simp only [hD'] at EX ⊢
  clear hD hD' hN hW hP dm hh hl2 q2 q3
  rw [zf] at Z
  generalize p * 2 ^ 1 % y = h at *
  rw [ho] at FU2
  by_cases c1 : y ≤ 2 * p
  · rw [decide_eq_true c1] at FU2
    by_cases c2 : W / y % 2 = 1
    · rw [decide_eq_true c2] at FU1 FU2
      have cT : rmC W y = true := by rw [ec]; exact decide_eq_true (by omega)
      rw [cT, if_pos rfl] at er
      rw [cT, Bool.bne_true]
      rw [er] at EX
      exact rm_remainder_core f (clsF f a) (uE f a) (hiOf x) (loOf x) (clsF f b) (uE f b) (hiOf y) (loOf y) (hiOf (x / 2)) (loOf (x / 2)) (hiOf p) (loOf p) _ _ (hiOf (y - p)) (loOf (y - p)) _ _ _ _ _ _ (uE f a - uE f b) (uE f a - uE f b + 1) (negF f a) (negF f b) true true _ _ (lH RI) (IntWalk.i64_in _ (by omega)) (by unfold wrap64; omega) (IntWalk.i64_in _ (by omega)) (by unfold wrap64; omega) FU1 FU2 (.inl ⟨rfl, rfl, lH SB, lH JS, lH (EX _)⟩) w ft
    · rw [decide_eq_false c2] at FU1 FU2
      by_cases c3 : 2 * p = y
      · have z : h = 0 := by rw [hz]; split <;> omega
        rw [z, show ((0 : Int) == 0) = true from rfl] at Z
        have cF : rmC W y = false := by rw [ec]; exact decide_eq_false (by omega)
        rw [cF, if_neg (by decide)] at er
        rw [cF, Bool.bne_false]
        rw [er] at EX
        rw [z] at FU2
        exact rm_remainder_core f (clsF f a) (uE f a) (hiOf x) (loOf x) (clsF f b) (uE f b) (hiOf y) (loOf y) (hiOf (x / 2)) (loOf (x / 2)) (hiOf p) (loOf p) _ _ 0 0 _ _ _ _ _ _ (uE f a - uE f b) (uE f a - uE f b + 1) (negF f a) (negF f b) false true false _ (lH RI) (IntWalk.i64_in _ (by omega)) (by unfold wrap64; omega) (IntWalk.i64_in _ (by omega)) (by unfold wrap64; omega) FU1 FU2 (.inr (.inr (.inl ⟨rfl, rfl, lH Z, lH JP, lH (EX _)⟩))) w ft
      · have z : h ≠ 0 := by rw [hz]; split <;> omega
        rw [show (h == 0) = false from beq_eq_false_iff_ne.2 z] at Z
        have cT : rmC W y = true := by rw [ec]; exact decide_eq_true (by omega)
        rw [cT, if_pos rfl] at er
        rw [cT, Bool.bne_true]
        rw [er] at EX
        exact rm_remainder_core f (clsF f a) (uE f a) (hiOf x) (loOf x) (clsF f b) (uE f b) (hiOf y) (loOf y) (hiOf (x / 2)) (loOf (x / 2)) (hiOf p) (loOf p) _ _ (hiOf (y - p)) (loOf (y - p)) _ _ _ _ _ _ (uE f a - uE f b) (uE f a - uE f b + 1) (negF f a) (negF f b) false true _ _ (lH RI) (IntWalk.i64_in _ (by omega)) (by unfold wrap64; omega) (IntWalk.i64_in _ (by omega)) (by unfold wrap64; omega) FU1 FU2 (.inr (.inl ⟨rfl, rfl, lH Z, lH SB, lH JS, lH (EX _)⟩)) w ft
  · rw [decide_eq_false c1] at FU2
    have cF : rmC W y = false := by rw [ec]; exact decide_eq_false (by omega)
    rw [cF, if_neg (by decide)] at er
    rw [cF, Bool.bne_false]
    rw [er] at EX
    exact rm_remainder_core f (clsF f a) (uE f a) (hiOf x) (loOf x) (clsF f b) (uE f b) (hiOf y) (loOf y) (hiOf (x / 2)) (loOf (x / 2)) (hiOf p) (loOf p) _ _ 0 0 _ _ _ _ _ _ (uE f a - uE f b) (uE f a - uE f b + 1) (negF f a) (negF f b) _ false false _ (lH RI) (IntWalk.i64_in _ (by omega)) (by unfold wrap64; omega) (IntWalk.i64_in _ (by omega)) (by unfold wrap64; omega) FU1 FU2 (.inr (.inr (.inr ⟨rfl, lH JP, lH (EX _)⟩))) w ft
theorem remN (f a b : Int) (f0 : 0 ≤ f) (f1 : f ≤ 255) (a0 : 0 ≤ a) (a1 : a < full) (b0 : 0 ≤ b) (b1 : b < full) (w : World) (ft : FTab w) : Calls Tryz.prog 12 #[.int .u8 f, .agg #[.int .u64 (hiOf (a)), .int .u64 (loOf (a))], .agg #[.int .u64 (hiOf (b)), .int .u64 (loOf (b))]] w fun e w' => e = .returned (.agg #[.int .u64 (hiOf (rmB f a b)), .int .u64 (loOf (rmB f a b)), .int .u8 (rmFl f a b)]) ∧ Below w.heap.size w w' := by
  have K := formOK.known f f0 f1
  by_cases hf : f < 4
  · rw [decide_eq_true hf] at K
    have UA := lH (unpackA f a f0 f1 a0 a1)
    have UB := lH (unpackA f b f0 f1 b0 b1)
    have CU := formOK.cut f a f0 f1
    rw [Int.emod_eq_of_lt a0 a1] at CU
    have PF : ∀ w, FTab w → ∀ p T, HB w p T #[.int .u64 (hiOf a), .int .u64 (loOf a), .int .u64 (hiOf b), .int .u64 (loOf b)] → Calls Tryz.prog 31 #[.int .u8 f, .bool false, .slice (some ⟨p, 0, none⟩) 2 2] w fun e w' => e = .returned (.tuple #[.agg #[.int .u64 (hiOf (pickV f false [a, b])), .int .u64 (loOf (pickV f false [a, b])), .int .u8 (pickF f false [a, b])], .bool (pickK f false [a, b])]) ∧ Below w.heap.size w w' := fun w ft p T x => nanOK.pick f false (some ⟨p, 0, none⟩) 2 2 [a, b] f0 f1 w ft (Bs.ofHB [a, b] x rfl (by simp))
    have PI : ∀ i : Bool, ∀ w, FTab w → ∀ p T, HB w p T #[.int .u64 (hiOf a), .int .u64 (loOf a), .int .u64 (hiOf b), .int .u64 (loOf b)] → Calls Tryz.prog 31 #[.int .u8 f, .bool i, .slice (some ⟨p, 0, none⟩) 2 2] w fun e w' => e = .returned (.tuple #[.agg #[.int .u64 (hiOf (pickV f i [a, b])), .int .u64 (loOf (pickV f i [a, b])), .int .u8 (pickF f i [a, b])], .bool (pickK f i [a, b])]) ∧ Below w.heap.size w w' := fun i w ft p T x => nanOK.pick f i (some ⟨p, 0, none⟩) 2 2 [a, b] f0 f1 w ft (Bs.ofHB [a, b] x rfl (by simp))
    have ra := cls_range f a; have rb := cls_range f b
    cases an : anyN f [a, b] with
    | true =>
      obtain ⟨k1, k2, k3⟩ := pick_nan hf [a, b] an
      have no : rmI f a b = false := by
        unfold rmI; refine decide_eq_false (fun h => ?_)
        have := (any_two a0 a1 b0 b1 (num_nan h.1) (num_nan h.2.1)).1
        rw [this] at an; cases an
      rw [k3] at PF
      unfold rmB rmFl
      rw [no, k3, if_pos hf, if_pos rfl, if_pos ⟨hf, rfl⟩]
      exact rm_Rem_nan f (hiOf a) (loOf a) (hiOf b) (loOf b) (clsF f a) (uE f a) (hiOf (uS f a)) (loOf (uS f a)) (clsF f b) (uE f b) (hiOf (uS f b)) (loOf (uS f b)) _ _ 0 0 0 0 _ 0 (negF f a) (negF f b) false false false (lH K) (lH PF) w ft
    | false =>
      obtain ⟨k1, k2, k3⟩ := pick_none (f := f) [a, b] an
      rw [k3] at PF
      have nn : nanF f a = false ∧ nanF f b = false := by
        unfold anyN at an
        simp only [List.any_cons, List.any_nil, Int.emod_eq_of_lt a0 a1, Int.emod_eq_of_lt b0 b1, Bool.or_false, Bool.or_eq_false_iff] at an
        exact an
      have ca : clsF f a ≤ 3 := by have h := nn.1; unfold nanF at h; have := of_decide_eq_false h; omega
      have cb : clsF f b ≤ 3 := by have h := nn.2; unfold nanF at h; have := of_decide_eq_false h; omega
      have hi : rmI f a b = ((clsF f a == 3) || (clsF f b == 0)) := by
        unfold rmI; rw [Bool.eq_iff_iff, decide_eq_true_eq, Bool.or_eq_true, beq_iff_eq, beq_iff_eq]; omega
      have IV : ∀ w, Calls Tryz.prog 33 #[.agg #[.bool (negF f a), .int .u8 (clsF f a), .int .i64 (uE f a), .int .u64 (hiOf (uS f a)), .int .u64 (loOf (uS f a))], .agg #[.bool (negF f b), .int .u8 (clsF f b), .int .i64 (uE f b), .int .u64 (hiOf (uS f b)), .int .u64 (loOf (uS f b))]] w fun e w' => e = .returned (.bool (rmI f a b)) ∧ Below w.heap.size w w' := fun w => by
        rw [hi]
        by_cases h : clsF f a = 3
        · rw [show (clsF f a == 3) = true from beq_iff_eq.2 h]; exact rm_invalid_inf (clsF f a) (uE f a) (hiOf (uS f a)) (loOf (uS f a)) (clsF f b) (uE f b) (hiOf (uS f b)) (loOf (uS f b)) (negF f a) (negF f b) (beq_iff_eq.2 h) w
        · rw [show (clsF f a == 3) = false from beq_eq_false_iff_ne.2 h]; exact rm_invalid_no (clsF f a) (uE f a) (hiOf (uS f a)) (loOf (uS f a)) (clsF f b) (uE f b) (hiOf (uS f b)) (loOf (uS f b)) (negF f a) (negF f b) (beq_eq_false_iff_ne.2 h) w
      have IV := lH fun w => IV w
      have PI := PI (rmI f a b)
      obtain ⟨s1, s2⟩ := rm_some hf a0 a1 b0 b1 ca cb
      by_cases iv : clsF f a = 3 ∨ clsF f b = 0
      · have i1 : rmI f a b = true := by unfold rmI; exact decide_eq_true (by omega)
        have k : pickK f (rmI f a b) [a, b] = true := by rw [i1]; exact (pick_inv hf [a, b]).2.2
        have e1 : rmB f a b = pickV f (rmI f a b) [a, b] := by unfold rmB; rw [if_pos hf, if_pos k]
        have e2 : rmFl f a b = pickF f (rmI f a b) [a, b] := by unfold rmFl; rw [if_pos ⟨hf, k⟩]
        rw [k] at PI
        rw [e1, e2]
        exact rm_Rem_yes f (hiOf a) (loOf a) (hiOf b) (loOf b) (clsF f a) (uE f a) (hiOf (uS f a)) (loOf (uS f a)) (clsF f b) (uE f b) (hiOf (uS f b)) (loOf (uS f b)) _ _ _ _ 0 0 _ _ (negF f a) (negF f b) false true (rmI f a b) (lH K) UA UB IV (lH PF) (lH PI) (.inl rfl) w ft
      · rw [if_neg iv] at s1 s2
        have i0 : rmI f a b = false := by unfold rmI; exact decide_eq_false (by omega)
        have kF : pickK f (rmI f a b) [a, b] = false := by rw [i0]; exact k3
        have fF : pickF f (rmI f a b) [a, b] = 0 := by rw [i0]; exact pick_none_fl an
        rw [kF, fF] at PI
        rw [s2]
        have own : itself23 f a b = true → rmB f a b = cutF f a := fun h => by
          rw [s1]
          by_cases d3 : clsF f b = 3
          · rw [if_pos d3]
          · rw [if_neg d3]
            have cb2 : clsF f b = 1 ∨ clsF f b = 2 := by omega
            have ob := rm_own f0 hf a0 a1 b0 b1 (by omega) cb2 (rm_itself f0 hf a0 b0 (by omega) cb2 h)
            rw [s1, if_neg d3] at ob
            exact ob.1
        have IT : ∀ w, Calls Tryz.prog 34 #[.agg #[.bool (negF f a), .int .u8 (clsF f a), .int .i64 (uE f a), .int .u64 (hiOf (uS f a)), .int .u64 (loOf (uS f a))], .agg #[.bool (negF f b), .int .u8 (clsF f b), .int .i64 (uE f b), .int .u64 (hiOf (uS f b)), .int .u64 (loOf (uS f b))]] w fun e w' => e = .returned (.bool (itself23 f a b)) ∧ Below w.heap.size w w' := fun w => by
          unfold itself23
          have w1 : IntKind.i64.wrap (uE f b - 1) = uE f b - 1 := by have := uE_small f0 hf b0; exact IntWalk.i64_in _ (by omega)
          have w2 : wrap64 (uE f b - 1) = uE f b - 1 := by have := uE_small f0 hf b0; unfold wrap64; omega
          by_cases h3 : clsF f b = 3
          · rw [show (clsF f b == 3) = true from beq_iff_eq.2 h3]; exact rm_itself_inf (clsF f a) (uE f a) (hiOf (uS f a)) (loOf (uS f a)) (clsF f b) (uE f b) (hiOf (uS f b)) (loOf (uS f b)) (negF f a) (negF f b) (beq_iff_eq.2 h3) w
          · rw [show (clsF f b == 3) = false from beq_eq_false_iff_ne.2 h3]
            by_cases h0 : clsF f a = 0
            · rw [show (clsF f a == 0) = true from beq_iff_eq.2 h0]; exact rm_itself_zero (clsF f a) (uE f a) (hiOf (uS f a)) (loOf (uS f a)) (clsF f b) (uE f b) (hiOf (uS f b)) (loOf (uS f b)) (negF f a) (negF f b) (beq_eq_false_iff_ne.2 h3) (beq_iff_eq.2 h0) w
            · rw [show (clsF f a == 0) = false from beq_eq_false_iff_ne.2 h0]; exact rm_itself_no (clsF f a) (uE f a) (hiOf (uS f a)) (loOf (uS f a)) (clsF f b) (uE f b) (hiOf (uS f b)) (loOf (uS f b)) (uE f b - 1) (negF f a) (negF f b) (beq_eq_false_iff_ne.2 h3) (beq_eq_false_iff_ne.2 h0) w1 w2 w
        cases hs : itself23 f a b with
        | true =>
          rw [hs] at IT
          rw [own hs]
          exact rm_Rem_yes f (hiOf a) (loOf a) (hiOf b) (loOf b) (clsF f a) (uE f a) (hiOf (uS f a)) (loOf (uS f a)) (clsF f b) (uE f b) (hiOf (uS f b)) (loOf (uS f b)) _ _ _ _ _ _ _ _ (negF f a) (negF f b) false false (rmI f a b) (lH K) UA UB IV (lH PF) (lH PI) (.inr (.inl ⟨rfl, rfl, (lH IT), lH CU⟩)) w ft
        | false =>
          rw [hs] at IT
          have hs' := hs
          unfold itself23 at hs'
          simp only [Bool.or_eq_false_iff, beq_eq_false_iff_ne, decide_eq_false_iff_not] at hs'
          obtain ⟨⟨h1, h2⟩, h3⟩ := hs'
          rw [s1, if_neg h1]
          exact rm_Rem_yes f (hiOf a) (loOf a) (hiOf b) (loOf b) (clsF f a) (uE f a) (hiOf (uS f a)) (loOf (uS f a)) (clsF f b) (uE f b) (hiOf (uS f b)) (loOf (uS f b)) _ _ _ _ _ _ _ _ (negF f a) (negF f b) false false (rmI f a b) (lH K) UA UB IV (lH PF) (lH PI) (.inr (.inr ⟨rfl, rfl, (lH IT), lH (remainderN f a b f0 hf a0 b0 (by omega) (by omega) (by omega))⟩)) w ft
  · rw [decide_eq_false hf] at K
    unfold rmB rmFl
    simp only [if_neg hf, if_neg (show ¬ (f < 4 ∧ pickK f (rmI f a b) [a, b] = true) from fun k => hf k.1)]
    exact rm_Rem_no f _ _ _ _ (lH K) w ft
theorem remOK : RemOK where
  rem := fun f a b f0 f1 a0 a1 b0 b1 w ft => remN f a b f0 f1 a0 a1 b0 b1 w ft
end Go.Proofs.YtjdjonekoodalaaGreatDoor
