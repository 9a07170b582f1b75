/-
  Eighths rounded: the statement's own functions.
-/
import Derived.Test.YtjinnbfffalmkaaGaA
import Derived.Test.YtjinnbfffalmkaaMode13M
set_option linter.unusedVariables false
set_option linter.unusedSimpArgs false
set_option maxRecDepth 100000
namespace Go.Proofs.Ytjinnbfffalmkaa
open Go.RowKit
attribute [local go_sem ↓] Go.wp_at_zero Go.wp_at_succ

/-- Of eighths a whole number. -/
def rndM (m : Int) (ng : Bool) (n : Int) : Int := if nextM m ng (decide (n / 8 % 2 = 1)) (ofM (decide (4 ≤ n % 8)) (decide (n % 8 % 4 ≠ 0))) then n / 8 + 1 else n / 8
def farI (a n : Int) : Int := if 8 * a ≤ n then n - 8 * a else 8 * a - n
set_option maxHeartbeats 4000000 in
set_option maxRecDepth 100000 in
theorem rounded13_up (m n q r q2 r4 c u : Int) (ng h b od : Bool)
    (h0 : Hid (∀ w, Calls Try.prog 17 #[.bool h, .bool b] w fun e w' => e = .returned (.int .u8 c) ∧ Below w.heap.size w w'))
    (h1 : Hid (∀ w, Calls Try.prog 8 #[.int .u8 m, .bool ng, .bool od, .int .u8 c] w fun e w' => e = .returned (.bool true) ∧ Below w.heap.size w w')) (e1 : n.tdiv 8 = q) (e2 : n.tmod 8 = r) (e1w : IntKind.u32.wrap (n.tdiv 8) = q) (e3 : q.tmod 2 = q2) (e4 : (q2 == 1) = od) (m1 : q % 4294967296 = q) (m2 : (q % 2 == 1) = od) (e5 : decide (4 ≤ r) = h) (e6 : r.tmod 4 = r4) (e7 : (r4 != 0) = b) (e8 : IntKind.u32.wrap (q + 1) = u) (m3 : (q + 1) % 4294967296 = u) (w : World) :
    Calls Try.prog 14 #[.int .u8 m, .bool ng, .int .u32 n] w fun e w' => e = .returned (.int .u32 u) ∧ Below w.heap.size w w' := by
  go_enter Try.func14, Try.ntmps14
  go_wp2_with fail
  (with_reducible refine (h0.out _).mono ?_); rintro e w1 ⟨rfl, hb⟩
  have kk := hb
  clear hb
  go_wp2_with fail
  (with_reducible refine (h1.out _).mono ?_); rintro e w2 ⟨rfl, hb⟩
  replace kk := bC kk hb
  clear hb
  go_wp2_with fail
  go_ret
  exact ⟨rfl, kk⟩

set_option maxHeartbeats 4000000 in
set_option maxRecDepth 100000 in
theorem rounded13_down (m n q r q2 r4 c : Int) (ng h b od : Bool)
    (h0 : Hid (∀ w, Calls Try.prog 17 #[.bool h, .bool b] w fun e w' => e = .returned (.int .u8 c) ∧ Below w.heap.size w w'))
    (h1 : Hid (∀ w, Calls Try.prog 8 #[.int .u8 m, .bool ng, .bool od, .int .u8 c] w fun e w' => e = .returned (.bool false) ∧ Below w.heap.size w w')) (e1 : n.tdiv 8 = q) (e2 : n.tmod 8 = r) (e1w : IntKind.u32.wrap (n.tdiv 8) = q) (e3 : q.tmod 2 = q2) (e4 : (q2 == 1) = od) (m1 : q % 4294967296 = q) (m2 : (q % 2 == 1) = od) (e5 : decide (4 ≤ r) = h) (e6 : r.tmod 4 = r4) (e7 : (r4 != 0) = b) (w : World) :
    Calls Try.prog 14 #[.int .u8 m, .bool ng, .int .u32 n] w fun e w' => e = .returned (.int .u32 q) ∧ Below w.heap.size w w' := by
  go_enter Try.func14, Try.ntmps14
  go_wp2_with fail
  (with_reducible refine (h0.out _).mono ?_); rintro e w1 ⟨rfl, hb⟩
  have kk := hb
  clear hb
  go_wp2_with fail
  (with_reducible refine (h1.out _).mono ?_); rintro e w2 ⟨rfl, hb⟩
  replace kk := bC kk hb
  clear hb
  go_wp2_with fail
  go_ret
  exact ⟨rfl, kk⟩

theorem far13 (a n : Int) (a0 : 0 ≤ a) (a1 : a ≤ 300000000) (n0 : 0 ≤ n) (n1 : n < 1073741824) (w : World) : Calls Try.prog 15 #[.int .u32 a, .int .u32 n] w fun e w' => e = .returned (.int .u32 (farI a n)) ∧ Below w.heap.size w w' := by
  have w1 : IntKind.u32.wrap (8 * a) = 8 * a := by rw [IntKind.wrap_u32]; omega
  have w5 : 8 * a % 4294967296 = 8 * a := by omega
  go_enter Try.func15, Try.ntmps15
  go_wp2
  all_goals
    go_ret
    refine ⟨(show Ending.returned (.int .u32 _) = _ from congrArg (fun z => Ending.returned (.int .u32 z)) ?_), Below.refl _ _⟩
    unfold farI
    split <;> omega
theorem cat8 {r : Int} (h0 : 0 ≤ r) (h : r < 8) : ofM (decide (4 ≤ r)) (decide (r % 4 ≠ 0)) = if r = 0 then 0 else if r < 4 then 1 else if r = 4 then 2 else 3 := by
  rcases (show r = 0 ∨ r = 1 ∨ r = 2 ∨ r = 3 ∨ r = 4 ∨ r = 5 ∨ r = 6 ∨ r = 7 by omega) with rfl | rfl | rfl | rfl | rfl | rfl | rfl | rfl <;> decide
theorem rnd_by (m : Int) (ng : Bool) (n : Int) : rndM m ng n = if nextM m ng (decide (n / 8 % 2 = 1)) (if n % 8 = 0 then 0 else if n % 8 < 4 then 1 else if n % 8 = 4 then 2 else 3) then n / 8 + 1 else n / 8 := by
  unfold rndM; rw [cat8 (by omega) (by omega)]
theorem rnd_range (m : Int) (ng : Bool) (n : Int) : rndM m ng n = n / 8 ∨ rndM m ng n = n / 8 + 1 := by unfold rndM; split <;> simp
theorem rnd_near (ng : Bool) (n : Int) : rndM 0 ng n = if n % 8 < 4 then n / 8 else if n % 8 = 4 then n / 8 + n / 8 % 2 else n / 8 + 1 := by
  rw [rnd_by]
  have h := Int.emod_nonneg n (show (8 : Int) ≠ 0 by decide); have h1 := Int.emod_lt_of_pos n (show (0 : Int) < 8 by decide)
  generalize n % 8 = r at *; generalize n / 8 = q at *
  rcases (show r = 0 ∨ r = 1 ∨ r = 2 ∨ r = 3 ∨ r = 4 ∨ r = 5 ∨ r = 6 ∨ r = 7 by omega) with rfl | rfl | rfl | rfl | rfl | rfl | rfl | rfl <;> simp [nextM]
  split <;> omega
theorem rnd_away (ng : Bool) (n : Int) : rndM 1 ng n = if n % 8 < 4 then n / 8 else n / 8 + 1 := by
  rw [rnd_by]
  have h := Int.emod_nonneg n (show (8 : Int) ≠ 0 by decide); have h1 := Int.emod_lt_of_pos n (show (0 : Int) < 8 by decide)
  generalize n % 8 = r at *; generalize n / 8 = q at *
  rcases (show r = 0 ∨ r = 1 ∨ r = 2 ∨ r = 3 ∨ r = 4 ∨ r = 5 ∨ r = 6 ∨ r = 7 by omega) with rfl | rfl | rfl | rfl | rfl | rfl | rfl | rfl <;> simp [nextM]
theorem rnd_up (ng : Bool) (n : Int) : rndM 2 ng n = if n % 8 = 0 ∨ ng = true then n / 8 else n / 8 + 1 := by
  rw [rnd_by]
  have h := Int.emod_nonneg n (show (8 : Int) ≠ 0 by decide); have h1 := Int.emod_lt_of_pos n (show (0 : Int) < 8 by decide)
  generalize n % 8 = r at *; generalize n / 8 = q at *
  rcases (show r = 0 ∨ r = 1 ∨ r = 2 ∨ r = 3 ∨ r = 4 ∨ r = 5 ∨ r = 6 ∨ r = 7 by omega) with rfl | rfl | rfl | rfl | rfl | rfl | rfl | rfl <;> cases ng <;> simp [nextM]
theorem rnd_down (ng : Bool) (n : Int) : rndM 3 ng n = if n % 8 = 0 ∨ ng = false then n / 8 else n / 8 + 1 := by
  rw [rnd_by]
  have h := Int.emod_nonneg n (show (8 : Int) ≠ 0 by decide); have h1 := Int.emod_lt_of_pos n (show (0 : Int) < 8 by decide)
  generalize n % 8 = r at *; generalize n / 8 = q at *
  rcases (show r = 0 ∨ r = 1 ∨ r = 2 ∨ r = 3 ∨ r = 4 ∨ r = 5 ∨ r = 6 ∨ r = 7 by omega) with rfl | rfl | rfl | rfl | rfl | rfl | rfl | rfl <;> cases ng <;> simp [nextM]
theorem rnd_zero (ng : Bool) (n : Int) : rndM 4 ng n = n / 8 := by
  unfold rndM; rw [next_zero]; rfl
theorem rounded13 (M : ModeOK) (m : Int) (ng : Bool) (n : Int) (m0 : 0 ≤ m) (m1 : m ≤ 255) (n0 : 0 ≤ n) (n1 : n < 1073741824) (w : World) : Calls Try.prog 14 #[.int .u8 m, .bool ng, .int .u32 n] w fun e w' => e = .returned (.int .u32 (rndM m ng n)) ∧ Below w.heap.size w w' := by
  have hq : n.tdiv 8 = n / 8 := Int.tdiv_eq_ediv_of_nonneg n0
  have hr : n.tmod 8 = n % 8 := Int.tmod_eq_emod_of_nonneg n0
  have hw : IntKind.u32.wrap (n.tdiv 8) = n / 8 := by rw [hq, IntKind.wrap_u32]; omega
  have h2 : (n / 8).tmod 2 = n / 8 % 2 := Int.tmod_eq_emod_of_nonneg (by omega)
  have h4 : (n % 8).tmod 4 = n % 8 % 4 := Int.tmod_eq_emod_of_nonneg (by omega)
  have hN := M.next m ng (decide (n / 8 % 2 = 1)) (ofM (decide (4 ≤ n % 8)) (decide (n % 8 % 4 ≠ 0))) m0 m1 (by rw [cat8 (by omega) (by omega)]; repeat' split <;> omega) (by rw [cat8 (by omega) (by omega)]; repeat' split <;> omega)
  have hO := M.of (decide (4 ≤ n % 8)) (decide (n % 8 % 4 ≠ 0))
  have b1 : (n / 8 % 2 == 1) = decide (n / 8 % 2 = 1) := rfl
  have b2 : (n % 8 % 4 != 0) = decide (n % 8 % 4 ≠ 0) := by rw [Bool.eq_iff_iff, bne_iff_ne, decide_eq_true_iff]
  unfold rndM
  by_cases c : nextM m ng (decide (n / 8 % 2 = 1)) (ofM (decide (4 ≤ n % 8)) (decide (n % 8 % 4 ≠ 0))) = true
  · rw [if_pos c]; rw [c] at hN
    exact rounded13_up m n _ _ _ _ _ _ ng _ _ _ (Lib.hid hO) (Lib.hid hN) hq hr hw h2 b1 (by omega) b1 rfl h4 b2 (by rw [IntKind.wrap_u32]; omega) (by omega) w
  · rw [if_neg c]; rw [Bool.eq_false_iff.2 c] at hN
    exact rounded13_down m n _ _ _ _ _ ng _ _ _ (Lib.hid hO) (Lib.hid hN) hq hr hw h2 b1 (by omega) b1 rfl h4 b2 w


end Go.Proofs.Ytjinnbfffalmkaa
