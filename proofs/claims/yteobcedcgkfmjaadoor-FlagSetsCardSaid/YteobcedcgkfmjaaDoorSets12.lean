/-
  FlagSets: the walk.
-/
import Derived.Test.YteobcedcgkfmjaaDoorGoes12
import Derived.Test.YteobcedcgkfmjaaDoorOrder12
set_option linter.unusedVariables false
set_option linter.unusedSimpArgs false
set_option maxRecDepth 100000
namespace Go.Proofs.YteobcedcgkfmjaaDoor
open Go.RowKit
attribute [local go_sem ↓] Go.wp_at_zero Go.wp_at_succ

set_option maxRecDepth 100000 in
set_option maxHeartbeats 4000000 in
theorem sets12_long (ao : Option Addr) (n cap : Nat) (s p : Nat) (w : World) (hn : 100 < n) : Calls Tryd.prog 3 #[.slice ao n cap, .int .u8 ((s : Nat) : Int), .int .u8 ((p : Nat) : Int)] w fun e w' => e = .returned (.bool true) ∧ Below w.heap.size w w' := by
  have g : decide ((100 : Int) < (n : Int)) = true := by simp; omega
  go_enter Tryd.func3, Tryd.ntmps3
  go_wp2_with fail
  go_ret
  exact ⟨rfl, Below.refl _ _⟩
set_option maxRecDepth 100000 in
set_option maxHeartbeats 4000000 in
theorem sets12_core (ao : Option Addr) (n cap s p r : Nat) (h q : Bool) (P : World → Prop) (hP : ∀ W W', P W → Below W.heap.size W W' → P W') (US : Hid (s < 256))
    (J : Hid (∀ w, NTab w → P w → Calls Tryd.prog 8 #[.slice ao n cap] w fun e w' => e = .returned (.int .u8 (r : Int)) ∧ Below w.heap.size w w')) (RJ : Hid (∀ w, P w → Calls Tryd.prog 9 #[.slice ao n cap] w fun e w' => e = .returned (.int .u8 (r : Int)) ∧ w' = w))
    (h1 : Hid (∀ w, Calls Tryd.prog 10 #[.int .u8 ((s : Nat) : Int), .int .u8 ((p : Nat) : Int)] w fun e w' => e = .returned (.bool h) ∧ w' = w)) (h2 : Hid (∀ w, Calls Tryd.prog 11 #[.int .u8 ((s : Nat) : Int), .int .u8 ((p : Nat) : Int)] w fun e w' => e = .returned (.bool h) ∧ w' = w))
    (gd : Hid (∀ w, NTab w → Calls Tryd.prog 15 #[.int .u8 ((s : Nat) : Int)] w fun e w' => e = .returned (.bool q) ∧ Below w.heap.size w w')) (g : decide ((100 : Int) < (n : Int)) = false) (gq : decide (((s : Nat) : Int) < 32) = q) (w : World) (nt : NTab w) (x : P w) : Calls Tryd.prog 3 #[.slice ao n cap, .int .u8 ((s : Nat) : Int), .int .u8 ((p : Nat) : Int)] w fun e w' => e = .returned (.bool true) ∧ Below w.heap.size w w' := by
  have NT := Lib.hid nt
  have HX := Lib.hid x
  clear nt x
  go_enter Tryd.func3, Tryd.ntmps3
  go_wp2_with fail
  go_wp2_with fail
  refine (J.out _ (NT.out.later (Below.refl _ _)) (hP _ _ HX.out (Below.refl _ _))).mono ?_
  rintro e u0 ⟨rfl, hb⟩
  have KK0 := Lib.hid (bC (Below.refl _ _) hb)
  clear hb
  go_wp2_with fail
  refine (RJ.out _ (hP _ _ HX.out KK0.out)).mono ?_
  rintro e u1 ⟨rfl, rfl⟩
  go_wp2_with fail
  refine (h1.out _).mono ?_
  rintro e u2 ⟨rfl, rfl⟩
  go_wp2_with fail
  refine (h2.out _).mono ?_
  rintro e u3 ⟨rfl, rfl⟩
  go_wp2_with fail
  refine (flag_names s US.out _ (NT.out.later KK0.out)).mono ?_
  rintro e u4 ⟨ao4, cp4, rfl, hs, hb⟩
  have KK4 := Lib.hid (bC KK0.out hb)
  clear hb
  have P0 := Lib.hid hs
  clear hs
  go_wp2_with fail
  refine (ref12_names s US.out _).mono ?_
  rintro e u5 ⟨ao5, cp5, rfl, hs, hb⟩
  have KK5 := Lib.hid (bC KK4.out hb)
  replace P0 := Lib.hid (P0.out.later (bC (Below.refl _ _) hb))
  clear hb
  have P1 := Lib.hid hs
  clear hs
  go_wp2_with fail
  refine (textsR _ _ _ _ _ _ _ _ _ (decide_eq_true rfl) _ (P0.out.later (Below.refl _ _)) (P1.out.later (Below.refl _ _))).mono ?_
  rintro e u6 ⟨rfl, hb⟩
  have KK6 := Lib.hid (bC KK5.out hb)
  clear hb
  clear P0 P1
  go_wp2_with fail
  refine (gd.out _ (NT.out.later KK6.out)).mono ?_
  rintro e u7 ⟨rfl, hb⟩
  have KK7 := Lib.hid (bC KK6.out hb)
  clear hb
  go_wp2_with fail
  refine (goes12_any _ (NT.out.later KK7.out)).mono ?_
  rintro e u8 ⟨rfl, hb⟩
  have KK8 := Lib.hid (bC KK7.out hb)
  clear hb
  go_wp2_with fail
  go_ret
  exact ⟨rfl, KK8.out⟩
theorem sets12_law (ao : Option Addr) (n cap : Nat) (xs : List Nat) (s p : Int) (hs : 0 ≤ s ∧ s ≤ 255) (hp : 0 ≤ p ∧ p ≤ 255) (w : World) (nt : NTab w) (x : Fs w ao n cap xs) : Calls Tryd.prog 3 #[.slice ao n cap, .int .u8 s, .int .u8 p] w fun e w' => e = .returned (.bool true) ∧ Below w.heap.size w w' := by
  obtain ⟨s, rfl, us⟩ := nat_u8 hs; obtain ⟨p, rfl, up⟩ := nat_u8 hp
  by_cases hn : n ≤ 100
  · exact sets12_core ao n cap s p (joinN xs) (hasN s p) (decide (s < 32)) (fun W => Fs W ao n cap xs) (fun _ _ h hb => h.later hb) (Lib.hid us) (Lib.hid fun w nt x => flag_join ao n cap xs w nt x) (Lib.hid fun w x => ref12_join ao n cap xs w x)
      (Lib.hid (flag_has s p us up)) (Lib.hid (ref12_has s p us up)) (Lib.hid fun w nt => flag_good s us w nt) (by simp; omega) (by rw [Bool.eq_iff_iff, decide_eq_true_eq, decide_eq_true_eq]; omega) w nt x
  · exact sets12_long ao n cap s p w (by omega)

end Go.Proofs.YteobcedcgkfmjaaDoor
