/-
  FlagOrder: the walk.
-/
import Derived.Test.YteobcedcgkfmjaaDoorGoes12
set_option linter.unusedVariables false
set_option linter.unusedSimpArgs false
set_option maxRecDepth 100000
namespace Go.Proofs.YteobcedcgkfmjaaDoor
open Go.RowKit
attribute [local go_sem ↓] Go.wp_at_zero Go.wp_at_succ

set_option maxRecDepth 100000 in
set_option maxHeartbeats 4000000 in
theorem order12_ttt (a b c : Nat) (ab : Hid (∀ w, Calls Tryd.prog 10 #[.int .u8 ((a : Nat) : Int), .int .u8 ((b : Nat) : Int)] w fun e w' => e = .returned (.bool true) ∧ w' = w)) (ba : Hid (∀ w, Calls Tryd.prog 10 #[.int .u8 ((b : Nat) : Int), .int .u8 ((a : Nat) : Int)] w fun e w' => e = .returned (.bool true) ∧ w' = w)) (aa : Hid (∀ w, Calls Tryd.prog 10 #[.int .u8 ((a : Nat) : Int), .int .u8 ((a : Nat) : Int)] w fun e w' => e = .returned (.bool true) ∧ w' = w)) (a0 : Hid (∀ w, Calls Tryd.prog 10 #[.int .u8 ((a : Nat) : Int), .int .u8 0] w fun e w' => e = .returned (.bool true) ∧ w' = w)) (bc : Hid (∀ w, Calls Tryd.prog 10 #[.int .u8 ((b : Nat) : Int), .int .u8 ((c : Nat) : Int)] w fun e w' => e = .returned (.bool true) ∧ w' = w)) (ac : Hid (∀ w, Calls Tryd.prog 10 #[.int .u8 ((a : Nat) : Int), .int .u8 ((c : Nat) : Int)] w fun e w' => e = .returned (.bool true) ∧ w' = w)) (q : (((a : Nat) : Int) == ((b : Nat) : Int)) = true) (w : World) (nt : NTab w) : Calls Tryd.prog 6 #[.int .u8 ((a : Nat) : Int), .int .u8 ((b : Nat) : Int), .int .u8 ((c : Nat) : Int)] w fun e w' => e = .returned (.bool true) ∧ Below w.heap.size w w' := by
  have NT := Lib.hid nt
  clear nt
  go_enter Tryd.func6, Tryd.ntmps6
  go_wp2_with fail
  refine (ab.out _).mono ?_
  rintro e u0 ⟨rfl, rfl⟩
  go_wp2_with fail
  refine (ba.out _).mono ?_
  rintro e u1 ⟨rfl, rfl⟩
  go_wp2_with fail
  refine (aa.out _).mono ?_
  rintro e u2 ⟨rfl, rfl⟩
  go_wp2_with fail
  refine (a0.out _).mono ?_
  rintro e u3 ⟨rfl, rfl⟩
  go_wp2_with fail
  refine (bc.out _).mono ?_
  rintro e u4 ⟨rfl, rfl⟩
  go_wp2_with fail
  refine (ac.out _).mono ?_
  rintro e u5 ⟨rfl, rfl⟩
  go_wp2_with fail
  refine (goes12_any _ (NT.out.later (Below.refl _ _))).mono ?_
  rintro e u6 ⟨rfl, hb⟩
  have KK6 := Lib.hid (bC (Below.refl _ _) hb)
  clear hb
  go_wp2_with fail
  go_ret
  exact ⟨rfl, KK6.out⟩

set_option maxRecDepth 100000 in
set_option maxHeartbeats 4000000 in
theorem order12_ttf (a b c : Nat) (ab : Hid (∀ w, Calls Tryd.prog 10 #[.int .u8 ((a : Nat) : Int), .int .u8 ((b : Nat) : Int)] w fun e w' => e = .returned (.bool true) ∧ w' = w)) (ba : Hid (∀ w, Calls Tryd.prog 10 #[.int .u8 ((b : Nat) : Int), .int .u8 ((a : Nat) : Int)] w fun e w' => e = .returned (.bool true) ∧ w' = w)) (aa : Hid (∀ w, Calls Tryd.prog 10 #[.int .u8 ((a : Nat) : Int), .int .u8 ((a : Nat) : Int)] w fun e w' => e = .returned (.bool true) ∧ w' = w)) (a0 : Hid (∀ w, Calls Tryd.prog 10 #[.int .u8 ((a : Nat) : Int), .int .u8 0] w fun e w' => e = .returned (.bool true) ∧ w' = w)) (bc : Hid (∀ w, Calls Tryd.prog 10 #[.int .u8 ((b : Nat) : Int), .int .u8 ((c : Nat) : Int)] w fun e w' => e = .returned (.bool false) ∧ w' = w)) (q : (((a : Nat) : Int) == ((b : Nat) : Int)) = true) (w : World) (nt : NTab w) : Calls Tryd.prog 6 #[.int .u8 ((a : Nat) : Int), .int .u8 ((b : Nat) : Int), .int .u8 ((c : Nat) : Int)] w fun e w' => e = .returned (.bool true) ∧ Below w.heap.size w w' := by
  have NT := Lib.hid nt
  clear nt
  go_enter Tryd.func6, Tryd.ntmps6
  go_wp2_with fail
  refine (ab.out _).mono ?_
  rintro e u0 ⟨rfl, rfl⟩
  go_wp2_with fail
  refine (ba.out _).mono ?_
  rintro e u1 ⟨rfl, rfl⟩
  go_wp2_with fail
  refine (aa.out _).mono ?_
  rintro e u2 ⟨rfl, rfl⟩
  go_wp2_with fail
  refine (a0.out _).mono ?_
  rintro e u3 ⟨rfl, rfl⟩
  go_wp2_with fail
  refine (bc.out _).mono ?_
  rintro e u4 ⟨rfl, rfl⟩
  go_wp2_with fail
  refine (goes12_any _ (NT.out.later (Below.refl _ _))).mono ?_
  rintro e u5 ⟨rfl, hb⟩
  have KK5 := Lib.hid (bC (Below.refl _ _) hb)
  clear hb
  go_wp2_with fail
  go_ret
  exact ⟨rfl, KK5.out⟩

set_option maxRecDepth 100000 in
set_option maxHeartbeats 4000000 in
theorem order12_tft (a b c : Nat) (ab : Hid (∀ w, Calls Tryd.prog 10 #[.int .u8 ((a : Nat) : Int), .int .u8 ((b : Nat) : Int)] w fun e w' => e = .returned (.bool true) ∧ w' = w)) (ba : Hid (∀ w, Calls Tryd.prog 10 #[.int .u8 ((b : Nat) : Int), .int .u8 ((a : Nat) : Int)] w fun e w' => e = .returned (.bool false) ∧ w' = w)) (aa : Hid (∀ w, Calls Tryd.prog 10 #[.int .u8 ((a : Nat) : Int), .int .u8 ((a : Nat) : Int)] w fun e w' => e = .returned (.bool true) ∧ w' = w)) (a0 : Hid (∀ w, Calls Tryd.prog 10 #[.int .u8 ((a : Nat) : Int), .int .u8 0] w fun e w' => e = .returned (.bool true) ∧ w' = w)) (bc : Hid (∀ w, Calls Tryd.prog 10 #[.int .u8 ((b : Nat) : Int), .int .u8 ((c : Nat) : Int)] w fun e w' => e = .returned (.bool true) ∧ w' = w)) (ac : Hid (∀ w, Calls Tryd.prog 10 #[.int .u8 ((a : Nat) : Int), .int .u8 ((c : Nat) : Int)] w fun e w' => e = .returned (.bool true) ∧ w' = w)) (q : (((a : Nat) : Int) == ((b : Nat) : Int)) = false) (w : World) (nt : NTab w) : Calls Tryd.prog 6 #[.int .u8 ((a : Nat) : Int), .int .u8 ((b : Nat) : Int), .int .u8 ((c : Nat) : Int)] w fun e w' => e = .returned (.bool true) ∧ Below w.heap.size w w' := by
  have NT := Lib.hid nt
  clear nt
  go_enter Tryd.func6, Tryd.ntmps6
  go_wp2_with fail
  refine (ab.out _).mono ?_
  rintro e u0 ⟨rfl, rfl⟩
  go_wp2_with fail
  refine (ba.out _).mono ?_
  rintro e u1 ⟨rfl, rfl⟩
  go_wp2_with fail
  refine (aa.out _).mono ?_
  rintro e u2 ⟨rfl, rfl⟩
  go_wp2_with fail
  refine (a0.out _).mono ?_
  rintro e u3 ⟨rfl, rfl⟩
  go_wp2_with fail
  refine (bc.out _).mono ?_
  rintro e u4 ⟨rfl, rfl⟩
  go_wp2_with fail
  refine (ac.out _).mono ?_
  rintro e u5 ⟨rfl, rfl⟩
  go_wp2_with fail
  refine (goes12_any _ (NT.out.later (Below.refl _ _))).mono ?_
  rintro e u6 ⟨rfl, hb⟩
  have KK6 := Lib.hid (bC (Below.refl _ _) hb)
  clear hb
  go_wp2_with fail
  go_ret
  exact ⟨rfl, KK6.out⟩

set_option maxRecDepth 100000 in
set_option maxHeartbeats 4000000 in
theorem order12_tff (a b c : Nat) (ab : Hid (∀ w, Calls Tryd.prog 10 #[.int .u8 ((a : Nat) : Int), .int .u8 ((b : Nat) : Int)] w fun e w' => e = .returned (.bool true) ∧ w' = w)) (ba : Hid (∀ w, Calls Tryd.prog 10 #[.int .u8 ((b : Nat) : Int), .int .u8 ((a : Nat) : Int)] w fun e w' => e = .returned (.bool false) ∧ w' = w)) (aa : Hid (∀ w, Calls Tryd.prog 10 #[.int .u8 ((a : Nat) : Int), .int .u8 ((a : Nat) : Int)] w fun e w' => e = .returned (.bool true) ∧ w' = w)) (a0 : Hid (∀ w, Calls Tryd.prog 10 #[.int .u8 ((a : Nat) : Int), .int .u8 0] w fun e w' => e = .returned (.bool true) ∧ w' = w)) (bc : Hid (∀ w, Calls Tryd.prog 10 #[.int .u8 ((b : Nat) : Int), .int .u8 ((c : Nat) : Int)] w fun e w' => e = .returned (.bool false) ∧ w' = w)) (q : (((a : Nat) : Int) == ((b : Nat) : Int)) = false) (w : World) (nt : NTab w) : Calls Tryd.prog 6 #[.int .u8 ((a : Nat) : Int), .int .u8 ((b : Nat) : Int), .int .u8 ((c : Nat) : Int)] w fun e w' => e = .returned (.bool true) ∧ Below w.heap.size w w' := by
  have NT := Lib.hid nt
  clear nt
  go_enter Tryd.func6, Tryd.ntmps6
  go_wp2_with fail
  refine (ab.out _).mono ?_
  rintro e u0 ⟨rfl, rfl⟩
  go_wp2_with fail
  refine (ba.out _).mono ?_
  rintro e u1 ⟨rfl, rfl⟩
  go_wp2_with fail
  refine (aa.out _).mono ?_
  rintro e u2 ⟨rfl, rfl⟩
  go_wp2_with fail
  refine (a0.out _).mono ?_
  rintro e u3 ⟨rfl, rfl⟩
  go_wp2_with fail
  refine (bc.out _).mono ?_
  rintro e u4 ⟨rfl, rfl⟩
  go_wp2_with fail
  refine (goes12_any _ (NT.out.later (Below.refl _ _))).mono ?_
  rintro e u5 ⟨rfl, hb⟩
  have KK5 := Lib.hid (bC (Below.refl _ _) hb)
  clear hb
  go_wp2_with fail
  go_ret
  exact ⟨rfl, KK5.out⟩

set_option maxRecDepth 100000 in
set_option maxHeartbeats 4000000 in
theorem order12_f (a b c : Nat) (y : Bool) (ab : Hid (∀ w, Calls Tryd.prog 10 #[.int .u8 ((a : Nat) : Int), .int .u8 ((b : Nat) : Int)] w fun e w' => e = .returned (.bool false) ∧ w' = w)) (ba : Hid (∀ w, Calls Tryd.prog 10 #[.int .u8 ((b : Nat) : Int), .int .u8 ((a : Nat) : Int)] w fun e w' => e = .returned (.bool y) ∧ w' = w)) (aa : Hid (∀ w, Calls Tryd.prog 10 #[.int .u8 ((a : Nat) : Int), .int .u8 ((a : Nat) : Int)] w fun e w' => e = .returned (.bool true) ∧ w' = w)) (a0 : Hid (∀ w, Calls Tryd.prog 10 #[.int .u8 ((a : Nat) : Int), .int .u8 0] w fun e w' => e = .returned (.bool true) ∧ w' = w)) (w : World) (nt : NTab w) : Calls Tryd.prog 6 #[.int .u8 ((a : Nat) : Int), .int .u8 ((b : Nat) : Int), .int .u8 ((c : Nat) : Int)] w fun e w' => e = .returned (.bool true) ∧ Below w.heap.size w w' := by
  have NT := Lib.hid nt
  clear nt
  go_enter Tryd.func6, Tryd.ntmps6
  go_wp2_with fail
  refine (ab.out _).mono ?_
  rintro e u0 ⟨rfl, rfl⟩
  go_wp2_with fail
  refine (ba.out _).mono ?_
  rintro e u1 ⟨rfl, rfl⟩
  go_wp2_with fail
  refine (aa.out _).mono ?_
  rintro e u2 ⟨rfl, rfl⟩
  go_wp2_with fail
  refine (a0.out _).mono ?_
  rintro e u3 ⟨rfl, rfl⟩
  go_wp2_with fail
  refine (goes12_any _ (NT.out.later (Below.refl _ _))).mono ?_
  rintro e u4 ⟨rfl, hb⟩
  have KK4 := Lib.hid (bC (Below.refl _ _) hb)
  clear hb
  go_wp2_with fail
  go_ret
  exact ⟨rfl, KK4.out⟩

theorem has_refl (s : Nat) : hasN s s = true := by rw [has_iff]; exact fun i h => h
theorem has_zero (s : Nat) : hasN s 0 = true := by rw [has_iff]; intro i h; simp at h
theorem has_anti {a b : Nat} (h : hasN a b = true) (g : hasN b a = true) : a = b := by
  rw [has_iff] at h g
  refine Nat.eq_of_testBit_eq fun i => ?_
  rw [Bool.eq_iff_iff]; exact ⟨g i, h i⟩
theorem has_trans {a b c : Nat} (h : hasN a b = true) (g : hasN b c = true) : hasN a c = true := by
  rw [has_iff] at h g ⊢
  exact fun i x => h i (g i x)
theorem order12_law_n (a b c : Nat) (ha : a < 256) (hb : b < 256) (hc : c < 256) (w : World) (nt : NTab w) : Calls Tryd.prog 6 #[.int .u8 ((a : Nat) : Int), .int .u8 ((b : Nat) : Int), .int .u8 ((c : Nat) : Int)] w fun e w' => e = .returned (.bool true) ∧ Below w.heap.size w w' := by
  have ab := flag_has a b ha hb
  have ba := flag_has b a hb ha
  have aa := flag_has a a ha ha
  have a0 := flag_has a 0 ha (by decide)
  have bc := flag_has b c hb hc
  have ac := flag_has a c ha hc
  rw [has_refl] at aa
  rw [has_zero] at a0
  cases x : hasN a b
  · rw [x] at ab
    cases z : hasN a c
    · exact order12_f a b c _ (Lib.hid ab) (Lib.hid ba) (Lib.hid aa) (Lib.hid a0) w nt
    · exact order12_f a b c _ (Lib.hid ab) (Lib.hid ba) (Lib.hid aa) (Lib.hid a0) w nt
  · rw [x] at ab
    have q : (((a : Nat) : Int) == ((b : Nat) : Int)) = hasN b a := by
      rw [Bool.eq_iff_iff, beq_iff_eq]
      constructor
      · intro h
        have e : a = b := by omega
        rw [e]; exact has_refl b
      · intro h; rw [has_anti x h]
    cases y : hasN b a
    all_goals
      rw [y] at ba q
      cases z : hasN b c
    · rw [z] at bc
      exact order12_tff a b c (Lib.hid ab) (Lib.hid ba) (Lib.hid aa) (Lib.hid a0) (Lib.hid bc) q w nt
    · rw [z] at bc
      rw [has_trans x z] at ac
      exact order12_tft a b c (Lib.hid ab) (Lib.hid ba) (Lib.hid aa) (Lib.hid a0) (Lib.hid bc) (Lib.hid ac) q w nt
    · rw [z] at bc
      exact order12_ttf a b c (Lib.hid ab) (Lib.hid ba) (Lib.hid aa) (Lib.hid a0) (Lib.hid bc) q w nt
    · rw [z] at bc
      rw [has_trans x z] at ac
      exact order12_ttt a b c (Lib.hid ab) (Lib.hid ba) (Lib.hid aa) (Lib.hid a0) (Lib.hid bc) (Lib.hid ac) q w nt
theorem nat_u8 {a : Int} (h : 0 ≤ a ∧ a ≤ 255) : ∃ n : Nat, a = n ∧ n < 256 := ⟨a.toNat, by omega, by omega⟩
theorem order12_law (a b c : Int) (ha : 0 ≤ a ∧ a ≤ 255) (hb : 0 ≤ b ∧ b ≤ 255) (hc : 0 ≤ c ∧ c ≤ 255) (w : World) (nt : NTab w) : Calls Tryd.prog 6 #[.int .u8 a, .int .u8 b, .int .u8 c] w fun e w' => e = .returned (.bool true) ∧ Below w.heap.size w w' := by
  obtain ⟨a, rfl, ua⟩ := nat_u8 ha; obtain ⟨b, rfl, ub⟩ := nat_u8 hb; obtain ⟨c, rfl, uc⟩ := nat_u8 hc
  exact order12_law_n a b c ua ub uc w nt

end Go.Proofs.YteobcedcgkfmjaaDoor
