import Derived.Test.YtjdjonekoodalaaGreatDoorMulT
import Derived.Test.YtjdjonekoodalaaGreatDoorMulD
import Derived.Test.YtjdjonekoodalaaGreatDoorMulE
import Derived.Test.YtjdjonekoodalaaGreatDoorGeB
set_option maxHeartbeats 1000000
set_option linter.unusedVariables false
set_option linter.unusedSimpArgs false
set_option maxRecDepth 100000
namespace Go.Proofs.YtjdjonekoodalaaGreatDoor
open Go.RowKit
attribute [local go_sem ↓] Go.wp_at_zero Go.wp_at_succ
theorem mulN (f m : Int) (t : Bool) (a b : Int) (f0 : 0 ≤ f) (f1 : f ≤ 255) (m0 : 0 ≤ m) (m1 : m ≤ 255) (a0 : 0 ≤ a) (a1 : a < full) (b0 : 0 ≤ b) (b1 : b < full) (w : World) (ft : FTab w) : Calls Tryz.prog 27 #[.int .u8 f, .agg #[.int .u8 m, .bool t], .agg #[.int .u64 (hiOf (a)), .int .u64 (loOf (a))], .agg #[.int .u64 (hiOf (b)), .int .u64 (loOf (b))]] w fun e w' => e = .returned (.agg #[.int .u64 (hiOf (mlB f m a b)), .int .u64 (loOf (mlB f m a b)), .int .u8 (mlFl f m t a b)]) ∧ Below w.heap.size w w' := by
  have K := formOK.known f f0 f1
  have M := modeOK.known m m0 m1
  by_cases hf : f < 4
  · rw [decide_eq_true hf] at K
    by_cases hm : m < 5
    · rw [decide_eq_true hm] at M
      have UA := lH (unpackA f a f0 f1 a0 a1)
      have UB := lH (unpackA f b f0 f1 b0 b1)
      obtain ⟨s0, s1⟩ := uS_range (f := f) f0 a0
      obtain ⟨z0, z1⟩ := uS_range (f := f) f0 b0
      have BD := lH (mul_bad (negF f a) (clsF f a) (uE f a) (hiOf (uS f a)) (loOf (uS f a)) (negF f b) (clsF f b) (uE f b) (hiOf (uS f b)) (loOf (uS f b)))
      have PK : ∀ w, FTab w → ∀ p T, HB w p T #[.int .u64 (hiOf a), .int .u64 (loOf a), .int .u64 (hiOf b), .int .u64 (loOf b)] → Calls Tryz.prog 31 #[.int .u8 f, .bool (mlI f a b), .slice (some ⟨p, 0, none⟩) 2 2] w fun e w' => e = .returned (.tuple #[.agg #[.int .u64 (hiOf (pickV f (mlI f a b) [a, b])), .int .u64 (loOf (pickV f (mlI f a b) [a, b])), .int .u8 (pickF f (mlI f a b) [a, b])], .bool (pickK f (mlI f a b) [a, b])]) ∧ Below w.heap.size w w' := fun w ft p T x => nanOK.pick f (mlI f a b) (some ⟨p, 0, none⟩) 2 2 [a, b] f0 f1 w ft (Bs.ofHB [a, b] x rfl (by simp))
      have CN := lH fun w fv (hf : OfFn w fv [3]) n T v => count_two [3] (by decide) fv (negF f a) (negF f b) (clsF f a) (uE f a) (hiOf (uS f a)) (loOf (uS f a)) (clsF f b) (uE f b) (hiOf (uS f b)) (loOf (uS f b)) n T w hf v
      have TM := lH (mul_term (negF f a) (clsF f a) (uE f a) (uS f a) (negF f b) (clsF f b) (uE f b) (uS f b) s0 s1 z0 z1)
      obtain ⟨er0, er1, sr0, sr1⟩ := ml_range (f := f) f0 a0 b0
      have RD := lH (packOK.round f m t (mlN f a b) (mlE f a b) (mlS f a b) f0 f1 m0 m1 er0 er1 sr0 sr1)
      unfold mlB mlFl
      simp only [if_pos (show f < 4 ∧ m < 5 from ⟨hf, hm⟩)]
      cases hp : pickK f (mlI f a b) [a, b] with
      | true =>
        rw [hp] at PK
        simp only [if_pos (rfl : true = true)]
        exact ml_Mul_yes f m _ _ _ _ _ _ _ _ _ _ _ _ _ _ _ 0 0 0 0 0 0 0 0 0 t _ _ _ true (lH K) (lH M) UA UB BD (lH PK) (.inl rfl) w ft
      | false =>
        rw [hp] at PK
        simp only [if_neg (show ¬ (false = true) by decide)]
        by_cases c3 : clsF f a = 3 ∨ clsF f b = 3
        · simp only [if_pos c3]
          have g9 : decide (0 < cntC [3] (clsF f a) (clsF f b)) = true := decide_eq_true (by rw [cnt1]; (repeat' split) <;> omega)
          exact ml_Mul_yes f m _ _ _ _ _ _ _ _ _ _ _ _ _ _ _ _ _ _ _ 0 0 0 0 0 t _ _ _ false (lH K) (lH M) UA UB BD (lH PK) (.inr ⟨rfl, g9, rfl, CN, lH (formOK.inf f (mlN f a b) f0 f1)⟩) w ft
        · simp only [if_neg c3]
          have g9 : decide (0 < cntC [3] (clsF f a) (clsF f b)) = false := decide_eq_false (by rw [cnt1]; (repeat' split) <;> omega)
          exact ml_Mul_num f m _ _ _ _ _ _ _ _ _ _ _ _ _ _ _ _ _ _ _ _ _ _ _ _ t _ _ _ false (lH K) (lH M) UA UB BD (lH PK) ⟨rfl, g9, CN, TM, RD⟩ w ft
    · rw [decide_eq_false hm] at M
      unfold mlB mlFl
      simp only [if_neg (show ¬ (f < 4 ∧ m < 5) from fun k => hm k.2)]
      exact ml_Mul_no2 f m _ _ _ _ t (lH K) (lH M) w ft
  · rw [decide_eq_false hf] at K
    unfold mlB mlFl
    simp only [if_neg (show ¬ (f < 4 ∧ m < 5) from fun k => hf k.1)]
    exact ml_Mul_no1 f m _ _ _ _ t (lH K) w ft
theorem mulOK : MulOK where
  mul := fun f m t a b f0 f1 m0 m1 a0 a1 b0 b1 w ft => mulN f m t a b f0 f1 m0 m1 a0 a1 b0 b1 w ft
  term := fun g c x s h d y u s0 s1 u0 u1 w => mul_term g c x s h d y u s0 s1 u0 u1 w
  bad := fun g c x k l h d y p q w => mul_bad g c x k l h d y p q w
end Go.Proofs.YtjdjonekoodalaaGreatDoor
