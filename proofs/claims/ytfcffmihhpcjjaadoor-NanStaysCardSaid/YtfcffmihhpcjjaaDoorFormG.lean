/-
  Package format's functions, over numbers.
-/
import Derived.Test.YtfcffmihhpcjjaaDoorFormC
import Derived.Test.YtfcffmihhpcjjaaDoorBitW
import Derived.Test.YtfcffmihhpcjjaaDoorForm7P
set_option linter.unusedVariables false
set_option linter.unusedSimpArgs false
set_option maxRecDepth 100000
namespace Go.Proofs.YtfcffmihhpcjjaaDoor
open Go.RowKit
attribute [local go_sem ↓] Go.wp_at_zero Go.wp_at_succ

theorem known_core (f : Int) (k : Bool) (h1 : IntKind.i64.wrap f = f) (h2 : decide (f < 4) = k) (w : World) : Calls Tryd.prog 16 #[.int .u8 f] w fun e w' => e = .returned (.bool k) ∧ Below w.heap.size w w' := by
  go_enter Tryd.func16, Tryd.ntmps16
  go_wp2_with fail
  go_ret
  exact ⟨rfl, Below.refl _ _⟩
theorem known_any (f : Int) (f0 : 0 ≤ f) (f1 : f ≤ 255) (w : World) : Calls Tryd.prog 16 #[.int .u8 f] w fun e w' => e = .returned (.bool (decide (f < 4))) ∧ Below w.heap.size w w' := known_core f _ (IntWalk.i64_in _ (by omega)) rfl w
set_option maxHeartbeats 4000000 in
theorem parsF_0 (w : World) (ft : FTab w) : Calls Tryd.prog 45 #[.int .u8 0] w fun e w' => e = .returned (.agg #[.int .i64 16, .int .i64 11, .int .i64 15]) ∧ Below w.heap.size w w' := by
  have K := Lib.hid (known_any 0 (by decide) (by decide))
  go_enter Tryd.func45, Tryd.ntmps45
  go_wp2_with fail
  (with_reducible refine (K.out _).mono ?_); rintro e w1 ⟨rfl, hb⟩
  have kk := bC (bA (Below.refl _ _) _) hb
  have xr : HB w1 w.heap.size 64 #[.int .i64 0, .int .i64 0, .int .i64 0] := (HB.new w _ _).later hb
  have g := ft.later kk
  have c0 : w1.cell? ⟨0, 0, none⟩ = some (.int .i64 16) := g 0 (by decide)
  have c1 : w1.cell? ⟨0, 1, none⟩ = some (.int .i64 11) := g 1 (by decide)
  have c2 : w1.cell? ⟨0, 2, none⟩ = some (.int .i64 15) := g 2 (by decide)
  have KEY : Hid (HB (((w1.setCell ⟨w.heap.size, 0, none⟩ (.int .i64 16)).setCell ⟨w.heap.size, 1, none⟩ (.int .i64 11)).setCell ⟨w.heap.size, 2, none⟩ (.int .i64 15)) w.heap.size 64 #[.int .i64 16, .int .i64 11, .int .i64 15] ∧ Below w.heap.size w (((w1.setCell ⟨w.heap.size, 0, none⟩ (.int .i64 16)).setCell ⟨w.heap.size, 1, none⟩ (.int .i64 11)).setCell ⟨w.heap.size, 2, none⟩ (.int .i64 15))) := Lib.hid ⟨((xr.set 0 _).set 1 _).set 2 _, (((kk.setCell (p := ⟨w.heap.size, 0, none⟩) (Nat.le_refl _) _).setCell (p := ⟨w.heap.size, 1, none⟩) (Nat.le_refl _) _).setCell (p := ⟨w.heap.size, 2, none⟩) (Nat.le_refl _) _)⟩
  have z0 := xr.cell 0; have z1 := xr.cell 1; have z2 := xr.cell 2; have f0 := xr.frozen 0; have f1 := xr.frozen 1; have f2 := xr.frozen 2
  dsimp at z0 z1 z2
  clear hb xr g kk K ft
  go_wp2_with fail
  obtain ⟨hE, kb⟩ := KEY.out
  have e0 := hE.cell 0; have e1 := hE.cell 1; have e2 := hE.cell 2
  dsimp at e0 e1 e2
  refine bodyPost_ret (v := .agg #[.int .i64 16, .int .i64 11, .int .i64 15]) ?_ rfl ⟨rfl, kb⟩
  clear z0 z1 z2 f0 f1 f2 kb hE KEY
  simp [results, Tryd.results45, go_sem, e0, e1, e2]
set_option maxHeartbeats 4000000 in
theorem parsF_1 (w : World) (ft : FTab w) : Calls Tryd.prog 45 #[.int .u8 1] w fun e w' => e = .returned (.agg #[.int .i64 32, .int .i64 24, .int .i64 127]) ∧ Below w.heap.size w w' := by
  have K := Lib.hid (known_any 1 (by decide) (by decide))
  go_enter Tryd.func45, Tryd.ntmps45
  go_wp2_with fail
  (with_reducible refine (K.out _).mono ?_); rintro e w1 ⟨rfl, hb⟩
  have kk := bC (bA (Below.refl _ _) _) hb
  have xr : HB w1 w.heap.size 64 #[.int .i64 0, .int .i64 0, .int .i64 0] := (HB.new w _ _).later hb
  have g := ft.later kk
  have c0 : w1.cell? ⟨0, 3, none⟩ = some (.int .i64 32) := g 3 (by decide)
  have c1 : w1.cell? ⟨0, 4, none⟩ = some (.int .i64 24) := g 4 (by decide)
  have c2 : w1.cell? ⟨0, 5, none⟩ = some (.int .i64 127) := g 5 (by decide)
  have KEY : Hid (HB (((w1.setCell ⟨w.heap.size, 0, none⟩ (.int .i64 32)).setCell ⟨w.heap.size, 1, none⟩ (.int .i64 24)).setCell ⟨w.heap.size, 2, none⟩ (.int .i64 127)) w.heap.size 64 #[.int .i64 32, .int .i64 24, .int .i64 127] ∧ Below w.heap.size w (((w1.setCell ⟨w.heap.size, 0, none⟩ (.int .i64 32)).setCell ⟨w.heap.size, 1, none⟩ (.int .i64 24)).setCell ⟨w.heap.size, 2, none⟩ (.int .i64 127))) := Lib.hid ⟨((xr.set 0 _).set 1 _).set 2 _, (((kk.setCell (p := ⟨w.heap.size, 0, none⟩) (Nat.le_refl _) _).setCell (p := ⟨w.heap.size, 1, none⟩) (Nat.le_refl _) _).setCell (p := ⟨w.heap.size, 2, none⟩) (Nat.le_refl _) _)⟩
  have z0 := xr.cell 0; have z1 := xr.cell 1; have z2 := xr.cell 2; have f0 := xr.frozen 0; have f1 := xr.frozen 1; have f2 := xr.frozen 2
  dsimp at z0 z1 z2
  clear hb xr g kk K ft
  go_wp2_with fail
  obtain ⟨hE, kb⟩ := KEY.out
  have e0 := hE.cell 0; have e1 := hE.cell 1; have e2 := hE.cell 2
  dsimp at e0 e1 e2
  refine bodyPost_ret (v := .agg #[.int .i64 32, .int .i64 24, .int .i64 127]) ?_ rfl ⟨rfl, kb⟩
  clear z0 z1 z2 f0 f1 f2 kb hE KEY
  simp [results, Tryd.results45, go_sem, e0, e1, e2]
set_option maxHeartbeats 4000000 in
theorem parsF_2 (w : World) (ft : FTab w) : Calls Tryd.prog 45 #[.int .u8 2] w fun e w' => e = .returned (.agg #[.int .i64 64, .int .i64 53, .int .i64 1023]) ∧ Below w.heap.size w w' := by
  have K := Lib.hid (known_any 2 (by decide) (by decide))
  go_enter Tryd.func45, Tryd.ntmps45
  go_wp2_with fail
  (with_reducible refine (K.out _).mono ?_); rintro e w1 ⟨rfl, hb⟩
  have kk := bC (bA (Below.refl _ _) _) hb
  have xr : HB w1 w.heap.size 64 #[.int .i64 0, .int .i64 0, .int .i64 0] := (HB.new w _ _).later hb
  have g := ft.later kk
  have c0 : w1.cell? ⟨0, 6, none⟩ = some (.int .i64 64) := g 6 (by decide)
  have c1 : w1.cell? ⟨0, 7, none⟩ = some (.int .i64 53) := g 7 (by decide)
  have c2 : w1.cell? ⟨0, 8, none⟩ = some (.int .i64 1023) := g 8 (by decide)
  have KEY : Hid (HB (((w1.setCell ⟨w.heap.size, 0, none⟩ (.int .i64 64)).setCell ⟨w.heap.size, 1, none⟩ (.int .i64 53)).setCell ⟨w.heap.size, 2, none⟩ (.int .i64 1023)) w.heap.size 64 #[.int .i64 64, .int .i64 53, .int .i64 1023] ∧ Below w.heap.size w (((w1.setCell ⟨w.heap.size, 0, none⟩ (.int .i64 64)).setCell ⟨w.heap.size, 1, none⟩ (.int .i64 53)).setCell ⟨w.heap.size, 2, none⟩ (.int .i64 1023))) := Lib.hid ⟨((xr.set 0 _).set 1 _).set 2 _, (((kk.setCell (p := ⟨w.heap.size, 0, none⟩) (Nat.le_refl _) _).setCell (p := ⟨w.heap.size, 1, none⟩) (Nat.le_refl _) _).setCell (p := ⟨w.heap.size, 2, none⟩) (Nat.le_refl _) _)⟩
  have z0 := xr.cell 0; have z1 := xr.cell 1; have z2 := xr.cell 2; have f0 := xr.frozen 0; have f1 := xr.frozen 1; have f2 := xr.frozen 2
  dsimp at z0 z1 z2
  clear hb xr g kk K ft
  go_wp2_with fail
  obtain ⟨hE, kb⟩ := KEY.out
  have e0 := hE.cell 0; have e1 := hE.cell 1; have e2 := hE.cell 2
  dsimp at e0 e1 e2
  refine bodyPost_ret (v := .agg #[.int .i64 64, .int .i64 53, .int .i64 1023]) ?_ rfl ⟨rfl, kb⟩
  clear z0 z1 z2 f0 f1 f2 kb hE KEY
  simp [results, Tryd.results45, go_sem, e0, e1, e2]
set_option maxHeartbeats 4000000 in
theorem parsF_3 (w : World) (ft : FTab w) : Calls Tryd.prog 45 #[.int .u8 3] w fun e w' => e = .returned (.agg #[.int .i64 128, .int .i64 113, .int .i64 16383]) ∧ Below w.heap.size w w' := by
  have K := Lib.hid (known_any 3 (by decide) (by decide))
  go_enter Tryd.func45, Tryd.ntmps45
  go_wp2_with fail
  (with_reducible refine (K.out _).mono ?_); rintro e w1 ⟨rfl, hb⟩
  have kk := bC (bA (Below.refl _ _) _) hb
  have xr : HB w1 w.heap.size 64 #[.int .i64 0, .int .i64 0, .int .i64 0] := (HB.new w _ _).later hb
  have g := ft.later kk
  have c0 : w1.cell? ⟨0, 9, none⟩ = some (.int .i64 128) := g 9 (by decide)
  have c1 : w1.cell? ⟨0, 10, none⟩ = some (.int .i64 113) := g 10 (by decide)
  have c2 : w1.cell? ⟨0, 11, none⟩ = some (.int .i64 16383) := g 11 (by decide)
  have KEY : Hid (HB (((w1.setCell ⟨w.heap.size, 0, none⟩ (.int .i64 128)).setCell ⟨w.heap.size, 1, none⟩ (.int .i64 113)).setCell ⟨w.heap.size, 2, none⟩ (.int .i64 16383)) w.heap.size 64 #[.int .i64 128, .int .i64 113, .int .i64 16383] ∧ Below w.heap.size w (((w1.setCell ⟨w.heap.size, 0, none⟩ (.int .i64 128)).setCell ⟨w.heap.size, 1, none⟩ (.int .i64 113)).setCell ⟨w.heap.size, 2, none⟩ (.int .i64 16383))) := Lib.hid ⟨((xr.set 0 _).set 1 _).set 2 _, (((kk.setCell (p := ⟨w.heap.size, 0, none⟩) (Nat.le_refl _) _).setCell (p := ⟨w.heap.size, 1, none⟩) (Nat.le_refl _) _).setCell (p := ⟨w.heap.size, 2, none⟩) (Nat.le_refl _) _)⟩
  have z0 := xr.cell 0; have z1 := xr.cell 1; have z2 := xr.cell 2; have f0 := xr.frozen 0; have f1 := xr.frozen 1; have f2 := xr.frozen 2
  dsimp at z0 z1 z2
  clear hb xr g kk K ft
  go_wp2_with fail
  obtain ⟨hE, kb⟩ := KEY.out
  have e0 := hE.cell 0; have e1 := hE.cell 1; have e2 := hE.cell 2
  dsimp at e0 e1 e2
  refine bodyPost_ret (v := .agg #[.int .i64 128, .int .i64 113, .int .i64 16383]) ?_ rfl ⟨rfl, kb⟩
  clear z0 z1 z2 f0 f1 f2 kb hE KEY
  simp [results, Tryd.results45, go_sem, e0, e1, e2]
set_option maxHeartbeats 4000000 in
theorem parsF_no (f : Int) (K : Hid (∀ w, Calls Tryd.prog 16 #[.int .u8 f] w fun e w' => e = .returned (.bool false) ∧ Below w.heap.size w w')) (w : World) : Calls Tryd.prog 45 #[.int .u8 f] w fun e w' => e = .returned (.agg #[.int .i64 0, .int .i64 0, .int .i64 0]) ∧ Below w.heap.size w w' := by
  go_enter Tryd.func45, Tryd.ntmps45
  go_wp2_with fail
  (with_reducible refine (K.out _).mono ?_); rintro e w1 ⟨rfl, hb⟩
  have kk := bC (bA (Below.refl _ _) _) hb
  have xr : HB w1 w.heap.size 64 #[.int .i64 0, .int .i64 0, .int .i64 0] := (HB.new w _ _).later hb
  have KEY : Hid (HB (((w1.setCell ⟨w.heap.size, 0, none⟩ (.int .i64 0)).setCell ⟨w.heap.size, 1, none⟩ (.int .i64 0)).setCell ⟨w.heap.size, 2, none⟩ (.int .i64 0)) w.heap.size 64 #[.int .i64 0, .int .i64 0, .int .i64 0] ∧ Below w.heap.size w (((w1.setCell ⟨w.heap.size, 0, none⟩ (.int .i64 0)).setCell ⟨w.heap.size, 1, none⟩ (.int .i64 0)).setCell ⟨w.heap.size, 2, none⟩ (.int .i64 0))) := Lib.hid ⟨((xr.set 0 _).set 1 _).set 2 _, (((kk.setCell (p := ⟨w.heap.size, 0, none⟩) (Nat.le_refl _) _).setCell (p := ⟨w.heap.size, 1, none⟩) (Nat.le_refl _) _).setCell (p := ⟨w.heap.size, 2, none⟩) (Nat.le_refl _) _)⟩
  have z0 := xr.cell 0; have z1 := xr.cell 1; have z2 := xr.cell 2; have f0 := xr.frozen 0; have f1 := xr.frozen 1; have f2 := xr.frozen 2
  dsimp at z0 z1 z2
  clear hb xr kk K
  go_wp2_with fail
  obtain ⟨hE, kb⟩ := KEY.out
  have e0 := hE.cell 0; have e1 := hE.cell 1; have e2 := hE.cell 2
  dsimp at e0 e1 e2
  refine bodyPost_ret (v := .agg #[.int .i64 0, .int .i64 0, .int .i64 0]) ?_ rfl ⟨rfl, kb⟩
  clear z0 z1 z2 f0 f1 f2 kb hE KEY
  simp [results, Tryd.results45, go_sem, e0, e1, e2]
theorem parsF_any (f : Int) (f0 : 0 ≤ f) (f1 : f ≤ 255) (w : World) (ft : FTab w) : Calls Tryd.prog 45 #[.int .u8 f] w fun e w' => e = .returned (.agg #[.int .i64 (fW f), .int .i64 (fP f), .int .i64 (fE f)]) ∧ Below w.heap.size w w' := by
  by_cases h : f < 4
  · rcases f_cases f0 h with rfl | rfl | rfl | rfl
    · exact parsF_0 w ft
    · exact parsF_1 w ft
    · exact parsF_2 w ft
    · exact parsF_3 w ft
  · rw [fW_no h, fP_no h, fE_no h]
    have K := known_any f f0 f1
    rw [show decide (f < 4) = false by simp [h]] at K
    exact parsF_no f (Lib.hid K) w
theorem onesN (w : World) (ft : FTab w) : Calls Tryd.prog 67 #[] w fun e w' => e = .returned (.agg #[.int .u64 18446744073709551615, .int .u64 18446744073709551615]) ∧ Below w.heap.size w w' := ones_any w
theorem lowestN (x : Int) (n : Nat) (hn : n ≤ 128) (w : World) (ft : FTab w) : Calls Tryd.prog 46 #[.agg #[.int .u64 (hiOf (x)), .int .u64 (loOf (x))], .int .i64 (n : Int)] w fun e w' => e = .returned (.agg #[.int .u64 (hiOf (x % full % 2 ^ n)), .int .u64 (loOf (x % full % 2 ^ n))]) ∧ Below w.heap.size w w' := by
  have hr := rightB 340282366920938463463374607431768211455 ((128 - n : Nat) : Int) (by omega) (by omega)
  rw [Int.toNat_natCast, ones_right n hn] at hr
  obtain ⟨a1, a2⟩ := and_low x n hn
  exact lowest_core _ _ _ _ _ _ _ _ (Lib.hid onesN) (Lib.hid hr) (by rw [IntWalk.i64_in _ (by omega)]; omega) a1 a2 w ft
theorem topN (f : Int) (f0 : 0 ≤ f) (f1 : f ≤ 255) (w : World) (ft : FTab w) : Calls Tryd.prog 63 #[.int .u8 f] w fun e w' => e = .returned (.int .i64 (2 * fE f + 1)) ∧ Below w.heap.size w w' := by
  have e : fE f ≤ 16383 := by unfold fE; split <;> (try split) <;> (try split) <;> (try split) <;> omega
  exact top_core f _ (2 * fE f) _ (Lib.hid fun w ft => emax_core f _ _ _ (Lib.hid (parsF_any f f0 f1)) w ft) (IntWalk.i64_in _ (by omega)) (IntWalk.i64_in _ (by omega)) (by unfold wrap64; omega) w ft
theorem signN (ng : Bool) (n : Nat) (hn : n ≤ 127) (w : World) (ft : FTab w) : Calls Tryd.prog 79 #[.bool ng, .int .i64 (n : Int)] w fun e w' => e = .returned (.agg #[.int .u64 (hiOf (if ng then (2 : Int) ^ n else 0)), .int .u64 (loOf (if ng then (2 : Int) ^ n else 0))]) ∧ Below w.heap.size w w' := by
  cases ng with
  | false => exact sign_no _ w
  | true =>
    have h := leftB 1 (n : Int) (by omega) (by omega)
    rw [Int.toNat_natCast, Int.one_mul] at h
    exact sign_yes _ _ _ (Lib.hid h) w
theorem exponentN (ex : Int) (n : Nat) (hn : n ≤ 64) (e0 : -9223372036854775808 ≤ ex) (e1 : ex ≤ 9223372036854775807) (w : World) (ft : FTab w) : Calls Tryd.prog 77 #[.int .i64 ex, .int .i64 (n : Int)] w fun e w' => e = .returned (.agg #[.int .u64 (hiOf (if ex < 0 ∨ 1048576 < ex then 0 else ex % 2 ^ n)), .int .u64 (loOf (if ex < 0 ∨ 1048576 < ex then 0 else ex % 2 ^ n))]) ∧ Below w.heap.size w w' := by
  by_cases h0 : ex < 0
  · rw [if_pos (Or.inl h0)]
    exact exponent_no _ _ (by simp [h0]) w
  · by_cases h1 : 1048576 < ex
    · rw [if_pos (Or.inr h1)]
      exact exponent_far _ _ (by simp [h0]) (by simp [h1]) w
    · rw [if_neg (by omega)]
      have hl := lowestN ex n (by omega)
      obtain ⟨s0, s1⟩ := hl_small (x := ex) ⟨by omega, by omega⟩
      rw [s0, s1, show ex % full = ex from Int.emod_eq_of_lt (by omega) (by unfold full; omega)] at hl
      exact exponent_yes _ _ _ _ (Lib.hid hl) (by simp [h0]) (by simp [h1]) (by rw [IntKind.wrap_u64]; omega) w ft
theorem unionN {x y : Int} (k : Nat) (h0 : 0 ≤ x) (y0 : 0 ≤ y) (y1 : y < 2 ^ k) (h1 : x * 2 ^ k + y < full) (w : World) (ft : FTab w) : Calls Tryd.prog 78 #[.agg #[.int .u64 (hiOf (x * 2 ^ k)), .int .u64 (loOf (x * 2 ^ k))], .agg #[.int .u64 (hiOf (y)), .int .u64 (loOf (y))]] w fun e w' => e = .returned (.agg #[.int .u64 (hiOf (x * 2 ^ k + y)), .int .u64 (loOf (x * 2 ^ k + y))]) ∧ Below w.heap.size w w' := by
  obtain ⟨a1, a2⟩ := or_sum k h0 y0 y1 h1
  exact union_core _ _ _ _ _ _ a1 a2 w
theorem cutN (f b : Int) (f0 : 0 ≤ f) (f1 : f ≤ 255) (w : World) (ft : FTab w) : Calls Tryd.prog 26 #[.int .u8 f, .agg #[.int .u64 (hiOf (b)), .int .u64 (loOf (b))]] w fun e w' => e = .returned (.agg #[.int .u64 (hiOf (cutF f (b % full))), .int .u64 (loOf (cutF f (b % full)))]) ∧ Below w.heap.size w w' :=
  cut_core f _ _ _ _ _ (Lib.hid fun w ft => width_core f _ _ _ (Lib.hid (parsF_any f f0 f1)) w ft) (Lib.hid (lowestN b (fW f) (fW_le f))) w ft
theorem exp_small (f B : Int) (f0 : 0 ≤ f) (h : f < 4) (hB : 0 ≤ B) : B / 2 ^ (fP f - 1) % 2 ^ (fW f - fP f) = expF f B := by
  obtain ⟨p0, p1, p2, _⟩ := f_nums f0 h
  unfold expF; rw [if_pos h]
  have e : (2 : Int) ^ (fW f - 1) = 2 ^ (fP f - 1) * 2 ^ (fW f - fP f) := by rw [← Int.pow_add, show fP f - 1 + (fW f - fP f) = fW f - 1 by omega]
  have hp := two_pow_pos (fP f - 1)
  have hq := two_pow_pos (fW f - fP f)
  rw [e]
  generalize (2 : Int) ^ (fP f - 1) = p at *
  generalize (2 : Int) ^ (fW f - fP f) = q at *
  have d1 := Int.mul_ediv_add_emod B p
  have d2 := Int.mul_ediv_add_emod (B / p) q
  have r1 := Int.emod_lt_of_pos B hp
  have r0 := Int.emod_nonneg B (show p ≠ 0 by omega)
  have s1 := Int.emod_lt_of_pos (B / p) hq
  have s0 := Int.emod_nonneg (B / p) (show q ≠ 0 by omega)
  -- B = p q u + p v + r
  have key : B = (p * (B / p % q) + B % p) + (B / p / q) * (p * q) := by
    have : p * (B / p) = p * (q * (B / p / q)) + p * (B / p % q) := by rw [← Int.mul_add, d2]
    rw [← Int.mul_assoc] at this
    rw [Int.mul_comm (B / p / q) (p * q)]
    omega
  have lt : p * (B / p % q) + B % p < p * q := by
    have := Int.mul_le_mul_of_nonneg_left (show B / p % q + 1 ≤ q by omega) (show 0 ≤ p by omega)
    rw [Int.mul_add, Int.mul_one] at this
    omega
  have ge : 0 ≤ p * (B / p % q) := Int.mul_nonneg (by omega) s0
  conv => rhs; rw [key]
  rw [Int.add_mul_emod_self_right, Int.emod_eq_of_lt (by omega) lt, Int.add_comm, Int.add_mul_ediv_left _ _ (by omega), Int.ediv_eq_zero_of_lt r0 r1, Int.zero_add]
theorem splitN (f b : Int) (f0 : 0 ≤ f) (f1 : f ≤ 255) (w : World) (ft : FTab w) : Calls Tryd.prog 22 #[.int .u8 f, .agg #[.int .u64 (hiOf (b)), .int .u64 (loOf (b))]] w fun e w' => e = .returned (.tuple #[.bool (negF f (b % full)), .int .i64 (expF f (b % full)), .agg #[.int .u64 (hiOf (fracF f (b % full))), .int .u64 (loOf (fracF f (b % full)))]]) ∧ Below w.heap.size w w' := by
  have K := known_any f f0 f1
  by_cases h : f < 4
  · rw [show decide (f < 4) = true by simp [h]] at K
    obtain ⟨p0, p1, p2, p3, p4, p5, p6, p7, p8⟩ := f_nums f0 h
    obtain ⟨m0, m1⟩ := mod_f b
    obtain ⟨x0, x1, x2, x3⟩ := exp_range f0 h m0
    have hr := rightB b ((fP f - 1 : Nat) : Int) (by omega) (by omega)
    rw [Int.toNat_natCast] at hr
    have q0 : 0 ≤ b % full / 2 ^ (fP f - 1) := Int.ediv_nonneg m0 (by have := two_pow_pos (fP f - 1); omega)
    have q1 : b % full / 2 ^ (fP f - 1) < full := by
      have := Int.ediv_le_self (2 ^ (fP f - 1)) m0; omega
    have hl := lowestN (b % full / 2 ^ (fP f - 1)) (fW f - fP f) (by omega)
    rw [Int.emod_eq_of_lt q0 q1, exp_small f _ f0 h m0, (hl_small (x := expF f (b % full)) ⟨x0, by omega⟩).2] at hl
    have hl2 := lowestN b (fP f - 1) (by omega)
    have hb : ∀ w, Calls Tryd.prog 48 #[.agg #[.int .u64 (hiOf b), .int .u64 (loOf b)], .int .i64 ((fW f - 1 : Nat) : Int)] w fun e w' => e = .returned (.bool (negF f (b % full))) ∧ Below w.heap.size w w' := by
      intro w
      have hh := bit_any (hiOf b) (loOf b) ((fW f - 1 : Nat) : Int) (hiOf_u b) (loOf_u b) w
      rw [val_hiLo_mod] at hh
      have e : bitI (b % full) ((fW f - 1 : Nat) : Int) = negF f (b % full) := by
        unfold bitI negF
        rw [Int.toNat_natCast]
        have g0 : decide (0 ≤ ((fW f - 1 : Nat) : Int)) = true := by simp
        have g1 : decide (((fW f - 1 : Nat) : Int) < 128) = true := by simp; omega
        have g2 : decide (f < 4) = true := by simp [h]
        rw [g0, g1, g2]
        simp only [Bool.true_and, Bool.and_true]
        rfl
      rw [e] at hh
      exact hh
    have e2 : fracF f (b % full) = b % full % 2 ^ (fP f - 1) := by unfold fracF; rw [if_pos h]
    rw [e2]
    exact split_yes f _ _ _ _ _ ((fP f - 1 : Nat) : Int) ((fW f - fP f : Nat) : Int) ((fW f - 1 : Nat) : Int) _ _ 0 0 _ _ _ _ _ (Lib.hid fun w _ => K w) (Lib.hid (parsF_any f f0 f1)) (Lib.hid hr) (Lib.hid hl) (Lib.hid hb) (Lib.hid hl2)
      (by rw [IntWalk.i64_in _ (by omega)]; omega) (by rw [IntWalk.i64_in _ (by omega)]; omega) (by rw [IntWalk.i64_in _ (by omega)]; omega) (IntWalk.i64_in _ (by omega)) w ft
  · rw [show decide (f < 4) = false by simp [h]] at K
    rw [show negF f (b % full) = false by unfold negF; simp [h], show expF f (b % full) = 0 by unfold expF; rw [if_neg h], show fracF f (b % full) = 0 by unfold fracF; rw [if_neg h]]
    exact split_no f _ _ (Lib.hid fun w _ => K w) w ft
theorem makeN (f : Int) (ng : Bool) (ex b : Int) (f0 : 0 ≤ f) (f1 : f ≤ 255) (e0 : -9223372036854775808 ≤ ex) (e1 : ex ≤ 9223372036854775807) (w : World) (ft : FTab w) : Calls Tryd.prog 62 #[.int .u8 f, .bool ng, .int .i64 ex, .agg #[.int .u64 (hiOf (b)), .int .u64 (loOf (b))]] w fun e w' => e = .returned (.agg #[.int .u64 (hiOf (makeF f ng ex (b % full))), .int .u64 (loOf (makeF f ng ex (b % full)))]) ∧ Below w.heap.size w w' := by
  have K := known_any f f0 f1
  by_cases h : f < 4
  · rw [show decide (f < 4) = true by simp [h]] at K
    obtain ⟨p0, p1, p2, p3, p4, p5, p6, p7, p8⟩ := f_nums f0 h
    obtain ⟨m0, m1⟩ := mod_f b
    obtain ⟨y0, y1⟩ := expOf_range f0 h ex
    obtain ⟨r0, r1, s0, s1, t0, t1⟩ := make_parts f0 h ng ex (b % full)
    have hx := exponentN ex (fW f - fP f) (by omega) e0 e1
    rw [show (if ex < 0 ∨ 1048576 < ex then 0 else ex % 2 ^ (fW f - fP f)) = expOf f ex from rfl] at hx
    have hL := leftB (expOf f ex) ((fP f - 1 : Nat) : Int) (by omega) (by omega)
    rw [Int.toNat_natCast] at hL
    have hs := signN ng (fW f - 1) (by omega)
    have hl := lowestN b (fP f - 1) (by omega)
    have hp := two_pow_pos (fP f - 1)
    have hw := two_pow_pos (fW f - 1)
    have sW : (2 : Int) ^ (fW f - 1) = 2 ^ (fW f - fP f) * 2 ^ (fP f - 1) := by rw [← Int.pow_add, show fW f - fP f + (fP f - 1) = fW f - 1 by omega]
    have fl := fW_full f
    have z0 : 0 ≤ expOf f ex * 2 ^ (fP f - 1) := Int.mul_nonneg y0 (by omega)
    -- the sign and the field
    obtain ⟨s, hs1, hs2⟩ : ∃ s : Int, (if ng then (2 : Int) ^ (fW f - 1) else 0) = s * 2 ^ (fW f - 1) ∧ (s = 0 ∨ s = 1) := by
      cases ng with
      | true => exact ⟨1, by simp, Or.inr rfl⟩
      | false => exact ⟨0, by simp, Or.inl rfl⟩
    have e : makeF f ng ex (b % full) = (s * 2 ^ (fW f - fP f) + expOf f ex) * 2 ^ (fP f - 1) + b % full % 2 ^ (fP f - 1) := by
      unfold makeF; rw [if_pos h, hs1, Int.add_mul, Int.mul_assoc, ← sW]; omega
    rw [hs1] at hs
    have e2 : s * 2 ^ (fW f - 1) + expOf f ex * 2 ^ (fP f - 1) = (s * 2 ^ (fW f - fP f) + expOf f ex) * 2 ^ (fP f - 1) := by rw [Int.add_mul, Int.mul_assoc, ← sW]
    have sg : 0 ≤ s := by omega
    have sn : 0 ≤ s * 2 ^ (fW f - fP f) := Int.mul_nonneg sg (by have := two_pow_pos (fW f - fP f); omega)
    rw [e] at t1 ⊢
    have hu := unionN (x := s) (y := expOf f ex * 2 ^ (fP f - 1)) (fW f - 1) sg z0 (by omega) (by rw [e2]; omega)
    rw [e2] at hu
    have hu2 := unionN (x := s * 2 ^ (fW f - fP f) + expOf f ex) (y := b % full % 2 ^ (fP f - 1)) (fP f - 1) (by omega) r0 r1 (by omega)
    exact make_yes f ex _ _ _ _ _ ((fP f - 1 : Nat) : Int) ((fW f - fP f : Nat) : Int) ((fW f - 1 : Nat) : Int) _ _ _ _ _ _ _ _ _ _ _ _ ng (Lib.hid fun w _ => K w) (Lib.hid (parsF_any f f0 f1)) (Lib.hid hx) (Lib.hid hL) (Lib.hid hs) (Lib.hid hu) (Lib.hid hl) (Lib.hid hu2)
      (by rw [IntWalk.i64_in _ (by omega)]; omega) (by rw [IntWalk.i64_in _ (by omega)]; omega) (by rw [IntWalk.i64_in _ (by omega)]; omega) w ft
  · rw [show decide (f < 4) = false by simp [h]] at K
    rw [makeF_zero h]
    exact make_no f ex _ _ ng (Lib.hid fun w _ => K w) w ft
theorem fitsN (f b : Int) (f0 : 0 ≤ f) (f1 : f ≤ 255) (w : World) (ft : FTab w) : Calls Tryd.prog 20 #[.int .u8 f, .agg #[.int .u64 (hiOf (b)), .int .u64 (loOf (b))]] w fun e w' => e = .returned (.bool (decide (f < 4) && (cutF f (b % full) == b % full))) ∧ Below w.heap.size w w' := by
  have K := known_any f f0 f1
  by_cases h : f < 4
  · rw [show decide (f < 4) = true by simp [h]] at K
    rw [show decide (f < 4) = true by simp [h], Bool.true_and]
    refine fits_yes f _ _ _ _ _ (Lib.hid fun w _ => K w) (Lib.hid (cutN f b f0 f1)) ?_ w ft
    intro w
    rw [eql_bits]
    congr 2
    rw [Bool.eq_iff_iff, decide_eq_true_eq, beq_iff_eq]
    obtain ⟨c0, c1, _⟩ := cut_range (f := f) f0 (mod_f b).1
    have i := hl_inj c0 (cut_full f0) (mod_f b).1 (mod_f b).2
    rw [(hl_mod b).1, (hl_mod b).2] at i
    rw [← i]; exact and_comm
  · rw [show decide (f < 4) = false by simp [h]] at K
    rw [show decide (f < 4) = false by simp [h], Bool.false_and]
    exact fits_no f _ _ (Lib.hid fun w _ => K w) w ft
theorem frac_ones {f : Int} (h0 : 0 ≤ f) (h : f < 4) (ng : Bool) (e : Int) : makeF f ng e (340282366920938463463374607431768211455 % full) = makeF f ng e (2 ^ (fP f - 1) - 1) := by
  obtain ⟨p0, p1, p2, p3, p4, p5, p6, p7, p8⟩ := f_nums h0 h
  unfold makeF; rw [if_pos h, if_pos h]
  congr 2
  rw [show (340282366920938463463374607431768211455 : Int) % full = 340282366920938463463374607431768211455 from by decide +kernel]
  have hp := two_pow_pos (fP f - 1)
  have e1 : (340282366920938463463374607431768211456 : Int) = 2 ^ (fP f - 1) * 2 ^ (128 - (fP f - 1)) := by rw [← Int.pow_add, show fP f - 1 + (128 - (fP f - 1)) = 128 by omega]; rfl
  have e2 : (340282366920938463463374607431768211455 : Int) = (2 ^ (fP f - 1) - 1) + 2 ^ (fP f - 1) * (2 ^ (128 - (fP f - 1)) - 1) := by rw [Int.mul_sub, ← e1]; omega
  rw [e2, Int.add_mul_emod_self_left]

/-- Package format keeps what the document asks. -/
theorem formOK : FormOK where
  known f f0 f1 w ft := known_any f f0 f1 w
  width f f0 f1 w ft := width_core f _ _ _ (Lib.hid (parsF_any f f0 f1)) w ft
  prec f f0 f1 w ft := prec_core f _ _ _ (Lib.hid (parsF_any f f0 f1)) w ft
  emax f f0 f1 w ft := emax_core f _ _ _ (Lib.hid (parsF_any f f0 f1)) w ft
  cut f b f0 f1 w ft := cutN f b f0 f1 w ft
  fits f b f0 f1 w ft := fitsN f b f0 f1 w ft
  split f b f0 f1 w ft := splitN f b f0 f1 w ft
  make f ng ex b f0 f1 e0 e1 w ft := makeN f ng ex b f0 f1 e0 e1 w ft
  inf f ng f0 f1 w ft := by
    have e : fE f ≤ 16383 := by unfold fE; split <;> (try split) <;> (try split) <;> (try split) <;> omega
    have h := makeN f ng (2 * fE f + 1) 0 f0 f1 (by omega) (by omega)
    exact inf_core f _ _ _ ng (Lib.hid (topN f f0 f1)) (Lib.hid h) w ft

end Go.Proofs.YtfcffmihhpcjjaaDoor
