/-
  FlagNames: the walk.
-/
import Derived.Test.YteobcedcgkfmjaaDoorGoes12
import Derived.Test.YteobcedcgkfmjaaDoorOrder12
set_option linter.unusedVariables false
set_option linter.unusedSimpArgs false
set_option maxRecDepth 100000
namespace Go.Proofs.YteobcedcgkfmjaaDoor
open Go.RowKit
attribute [local go_sem ↓] Go.wp_at_zero Go.wp_at_succ

theorem names_inj : ∀ x, x < 32 → ∀ y, y < 32 → (decide (namesN x = namesN y)) = decide (x = y) := by decide +kernel
theorem names_mod : ∀ a, a < 256 → namesN a = namesN (a % 32) := by decide +kernel
set_option maxRecDepth 100000 in
set_option maxHeartbeats 4000000 in
theorem names12_core (a b x y : Nat) (q : Bool) (UA : Hid (a < 256)) (UB : Hid (b < 256)) (HX : Hid (x < 256)) (J1 : Hid (∀ ao w, NTab w → Fs w ao 1 1 [a] → Calls Tryd.prog 8 #[.slice ao 1 1] w fun e w' => e = .returned (.int .u8 ((x : Nat) : Int)) ∧ Below w.heap.size w w')) (J2 : Hid (∀ ao w, NTab w → Fs w ao 1 1 [b] → Calls Tryd.prog 8 #[.slice ao 1 1] w fun e w' => e = .returned (.int .u8 ((y : Nat) : Int)) ∧ Below w.heap.size w w')) (NX : Hid (∀ w, NTab w → Calls Tryd.prog 13 #[.int .u8 ((x : Nat) : Int)] w fun e w' => ∃ ao cap, e = .returned (.slice ao (namesN x).length cap) ∧ Ss w' ao (namesN x).length cap (namesN x) ∧ Below w.heap.size w w')) (NY : Hid (∀ w, NTab w → Calls Tryd.prog 13 #[.int .u8 ((y : Nat) : Int)] w fun e w' => ∃ ao cap, e = .returned (.slice ao (namesN y).length cap) ∧ Ss w' ao (namesN y).length cap (namesN y) ∧ Below w.heap.size w w')) (NA : Hid (∀ w, NTab w → Calls Tryd.prog 13 #[.int .u8 ((a : Nat) : Int)] w fun e w' => ∃ ao cap, e = .returned (.slice ao (namesN a).length cap) ∧ Ss w' ao (namesN a).length cap (namesN a) ∧ Below w.heap.size w w')) (QXY : Hid (decide (namesN x = namesN y) = q)) (qxy : (((x : Nat) : Int) == ((y : Nat) : Int)) = q) (NAX : Hid (namesN a = namesN x)) (w : World) (nt : NTab w) : Calls Tryd.prog 5 #[.int .u8 ((a : Nat) : Int), .int .u8 ((b : Nat) : Int)] w fun e w' => e = .returned (.bool true) ∧ Below w.heap.size w w' := by
  have NT := Lib.hid nt
  clear nt
  go_enter Tryd.func5, Tryd.ntmps5
  have S0_1 : Fs (w.alloc (.cells #[.int .u8 ((a : Nat) : Int)] 23)) (some ⟨w.heap.size, 0, none⟩) 1 1 [a] := Fs.ofHB 1 [a] (HB.newAt (by first | rfl | simp) _ _) rfl (by simp) rfl (fun y hy => by simp at hy; subst hy; exact UA.out)
  go_wp2_with fail
  refine (J1.out _ _ (NT.out.later (bA (Below.refl _ _) _)) S0_1).mono ?_
  rintro e u1 ⟨rfl, hb⟩
  have KK1 := Lib.hid (bC (bA (Below.refl _ _) _) hb)
  clear hb
  clear S0_1
  have S2_2 : Fs (u1.alloc (.cells #[.int .u8 ((b : Nat) : Int)] 23)) (some ⟨u1.heap.size, 0, none⟩) 1 1 [b] := Fs.ofHB 1 [b] (HB.newAt (by first | rfl | simp) _ _) rfl (by simp) rfl (fun y hy => by simp at hy; subst hy; exact UB.out)
  go_wp2_with fail
  refine (J2.out _ _ (NT.out.later (bA KK1.out _)) S2_2).mono ?_
  rintro e u3 ⟨rfl, hb⟩
  have KK3 := Lib.hid (bC (bA KK1.out _) hb)
  clear hb
  clear S2_2
  go_wp2_with fail
  go_loopw [7, 8] (fun c i wr => ∃ j : Nat, j ≤ 5 ∧ i = .int .i64 j ∧ c = .int .i64 (((upS x j).length : Nat) : Int) ∧ wr = u3) (fun _ i _ => 5 - (intOf i).toNat)
  case atStart => exact ⟨0, by omega, rfl, rfl, rfl⟩
  case round =>
    obtain ⟨j, hj, rfl, rfl, rfl⟩ := hrel
    by_cases hj5 : j = 5
    · subst hj5
      obtain ⟨m, hm⟩ : ∃ m, (upS x 5).length = m := ⟨_, rfl⟩
      rw [hm]
      have HM := Lib.hid (show (namesN x).length = m from hm)
      clear hm hj
      go_wp2_with fail
      refine ((NX.out _ (NT.out.later KK3.out))).mono ?_
      rintro e u4 ⟨ao4, cp4, rfl, hs, hb⟩
      have KK4 := Lib.hid (bC KK3.out hb)
      clear hb
      have P0 := Lib.hid hs
      clear hs
      go_wp2_with fail
      refine ((NY.out _ (NT.out.later KK4.out))).mono ?_
      rintro e u5 ⟨ao5, cp5, rfl, hs, hb⟩
      have KK5 := Lib.hid (bC KK4.out hb)
      replace P0 := Lib.hid (P0.out.later (bC (Below.refl _ _) hb))
      clear hb
      have P1 := Lib.hid hs
      clear hs
      go_wp2_with fail
      refine (textsR _ _ _ _ _ _ _ _ _ QXY.out _ (P0.out.later (Below.refl _ _)) (P1.out.later (Below.refl _ _))).mono ?_
      rintro e u6 ⟨rfl, hb⟩
      have KK6 := Lib.hid (bC KK5.out hb)
      clear hb
      clear P0 P1
      go_wp2_with fail
      refine ((NX.out _ (NT.out.later KK6.out))).mono ?_
      rintro e u7 ⟨ao7, cp7, rfl, hs, hb⟩
      have KK7 := Lib.hid (bC KK6.out hb)
      clear hb
      have P2 := Lib.hid hs
      clear hs
      rw [HM.out]
      clear P2
      go_wp2_with fail
      refine ((NA.out _ (NT.out.later KK7.out))).mono ?_
      rintro e u8 ⟨ao8, cp8, rfl, hs, hb⟩
      have KK8 := Lib.hid (bC KK7.out hb)
      clear hb
      have P3 := Lib.hid hs
      clear hs
      go_wp2_with fail
      refine ((NX.out _ (NT.out.later KK8.out))).mono ?_
      rintro e u9 ⟨ao9, cp9, rfl, hs, hb⟩
      have KK9 := Lib.hid (bC KK8.out hb)
      replace P3 := Lib.hid (P3.out.later (bC (Below.refl _ _) hb))
      clear hb
      have P4 := Lib.hid hs
      clear hs
      go_wp2_with fail
      refine (textsR _ _ _ _ _ _ _ _ _ (decide_eq_true NAX.out) _ (P3.out.later (Below.refl _ _)) (P4.out.later (Below.refl _ _))).mono ?_
      rintro e u10 ⟨rfl, hb⟩
      have KK10 := Lib.hid (bC KK9.out hb)
      clear hb
      clear P3 P4
      go_wp2_with fail
      refine (goes12_any _ (NT.out.later KK10.out)).mono ?_
      rintro e u11 ⟨rfl, hb⟩
      have KK11 := Lib.hid (bC KK10.out hb)
      clear hb
      go_wp2_with fail
      go_ret
      exact ⟨rfl, KK11.out⟩
    · have hp := has_pow x HX.out j (by omega)
      have RH := Lib.hid (flag_has x (2 ^ j) HX.out (by have := Nat.pow_lt_pow_right (a := 2) (m := j) (n := 5) (by decide) (by omega); omega))
      rw [hp] at RH
      have hul := upS_length x j
      have eU : upS x (j + 1) = if x.testBit j then upS x j ++ [Fin.ofNat 5 j] else upS x j := rfl
      obtain ⟨m, hm⟩ : ∃ m, (upS x j).length = m := ⟨_, rfl⟩
      cases ht : x.testBit j
      · rw [ht] at RH eU
        simp only [Bool.false_eq_true, if_false] at eU
        have EL := Lib.hid (show (upS x (j + 1)).length = m by rw [eU]; exact hm)
        rw [hm]
        clear eU hm hul ht hp
        obtain rfl | rfl | rfl | rfl | rfl : j = 0 ∨ j = 1 ∨ j = 2 ∨ j = 3 ∨ j = 4 := by omega
        all_goals
          go_wp2_with fail
          refine (RH.out _).mono ?_; rintro e w1 ⟨rfl, rfl⟩
          go_wp2_with fail
          go_roundw
          case rel => exact ⟨_, by decide, rfl, by rw [EL.out], by first | trivial | rfl⟩
          case measure => simp [intOf]
      · rw [ht] at RH eU
        simp only [if_true] at eU
        have EL := Lib.hid (show (upS x (j + 1)).length = m + 1 by rw [eU, List.length_append, hm]; rfl)
        have inc : IntKind.i64.wrap ((m : Int) + 1) = ((m + 1 : Nat) : Int) := by rw [IntKind.wrap_i64]; omega
        rw [hm]
        clear eU hm hul ht hp
        obtain rfl | rfl | rfl | rfl | rfl : j = 0 ∨ j = 1 ∨ j = 2 ∨ j = 3 ∨ j = 4 := by omega
        all_goals
          go_wp2_with fail
          refine (RH.out _).mono ?_; rintro e w1 ⟨rfl, rfl⟩
          go_wp2_with fail
          go_roundw
          case rel => exact ⟨_, by decide, rfl, by rw [EL.out]; first | rfl | simp, by first | trivial | rfl⟩
          case measure => simp [intOf]
theorem names12_law_n (a b : Nat) (ha : a < 256) (hb : b < 256) (w : World) (nt : NTab w) : Calls Tryd.prog 5 #[.int .u8 ((a : Nat) : Int), .int .u8 ((b : Nat) : Int)] w fun e w' => e = .returned (.bool true) ∧ Below w.heap.size w w' := by
  have J1 : ∀ ao w, NTab w → Fs w ao 1 1 [a] → _ := fun ao w nt x => flag_join ao 1 1 [a] w nt x
  have J2 : ∀ ao w, NTab w → Fs w ao 1 1 [b] → _ := fun ao w nt x => flag_join ao 1 1 [b] w nt x
  rw [joinN_one] at J1 J2
  have lx : a % 32 < 32 := Nat.mod_lt _ (by decide)
  have ly : b % 32 < 32 := Nat.mod_lt _ (by decide)
  exact names12_core a b (a % 32) (b % 32) _ (Lib.hid ha) (Lib.hid hb) (Lib.hid (by omega)) (Lib.hid J1) (Lib.hid J2) (Lib.hid fun w nt => flag_names _ (by omega) w nt) (Lib.hid fun w nt => flag_names _ (by omega) w nt) (Lib.hid fun w nt => flag_names _ ha w nt)
    (Lib.hid (names_inj _ lx _ ly)) (by rw [Bool.eq_iff_iff, beq_iff_eq, decide_eq_true_eq]; omega) (Lib.hid (names_mod a ha)) w nt
theorem names12_law (a b : Int) (ha : 0 ≤ a ∧ a ≤ 255) (hb : 0 ≤ b ∧ b ≤ 255) (w : World) (nt : NTab w) : Calls Tryd.prog 5 #[.int .u8 a, .int .u8 b] w fun e w' => e = .returned (.bool true) ∧ Below w.heap.size w w' := by
  obtain ⟨a, rfl, ua⟩ := nat_u8 ha; obtain ⟨b, rfl, ub⟩ := nat_u8 hb
  exact names12_law_n a b ua ub w nt

end Go.Proofs.YteobcedcgkfmjaaDoor
