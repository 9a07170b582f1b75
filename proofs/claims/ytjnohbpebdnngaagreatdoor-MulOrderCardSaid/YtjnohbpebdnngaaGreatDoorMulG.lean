/-
  What package mul's functions answer, over numbers.
-/
import Derived.Test.YtjnohbpebdnngaaGreatDoorMul19M
import Derived.Test.YtjnohbpebdnngaaGreatDoorMulC
import Derived.Test.YtjnohbpebdnngaaGreatDoorMulD
import Derived.Test.YtjnohbpebdnngaaGreatDoorMulE
set_option linter.unusedVariables false
set_option linter.unusedSimpArgs false
set_option maxRecDepth 100000
namespace Go.Proofs.YtjnohbpebdnngaaGreatDoor
open Go.RowKit
attribute [local go_sem ↓] Go.wp_at_zero Go.wp_at_succ

theorem cnt1 (a c d : Int) : cntC [a] c d = (if c = a then 1 else 0) + (if d = a then 1 else 0) := by unfold cntC; simp
theorem cnt2 (c d : Int) : cntC [1, 2] c d = (if c = 1 ∨ c = 2 then 1 else 0) + (if d = 1 ∨ d = 2 then 1 else 0) := by unfold cntC; simp
theorem mul_bad (g : Bool) (c x k l : Int) (h : Bool) (d y p q : Int) (w : World) : Calls Tryz.prog 16 #[.agg #[.bool g, .int .u8 c, .int .i64 x, .int .u64 k, .int .u64 l], .agg #[.bool h, .int .u8 d, .int .i64 y, .int .u64 p, .int .u64 q]] w fun e w' => e = .returned (.bool (badC c d)) ∧ Below w.heap.size w w' := by
  have C0 := Lib.hid fun w fv (hf : OfFn w fv [0]) n T z => count_two [0] (by decide) fv g h c x k l d y p q n T w hf z
  have C3 := Lib.hid fun w fv (hf : OfFn w fv [3]) n T z => count_two [3] (by decide) fv g h c x k l d y p q n T w hf z
  by_cases e : cntC [0] c d = 1
  · rw [show badC c d = (cntC [3] c d == 1) by
      unfold badC; rw [Bool.eq_iff_iff]; simp only [decide_eq_true_eq, beq_iff_eq]; rw [cnt1] at e ⊢
      (repeat' split at e) <;> (repeat' split) <;> omega]
    exact ml_Bad_yes c d x y k l p q _ _ g h C0 C3 (by simp [e]) w
  · rw [show badC c d = false by
      unfold badC; rw [decide_eq_false]; rw [cnt1] at e
      (repeat' split at e) <;> omega]
    exact ml_Bad_no c d x y k l p q _ g h C0 (by simp [e]) w
theorem mul_term (g : Bool) (c x s : Int) (h : Bool) (d y z : Int) (s0 : 0 ≤ s) (s1 : s < full) (z0 : 0 ≤ z) (z1 : z < full) (w : World) : Calls Tryz.prog 14 #[.agg #[.bool g, .int .u8 c, .int .i64 x, .int .u64 (hiOf s), .int .u64 (loOf s)], .agg #[.bool h, .int .u8 d, .int .i64 y, .int .u64 (hiOf z), .int .u64 (loOf z)]] w fun e w' => e = .returned (.tuple #[.int .i64 (tmE c d x y), .agg #[.int .u64 (wd0 ((tmS c d s z))), .int .u64 (wd1 ((tmS c d s z))), .int .u64 (wd2 ((tmS c d s z))), .int .u64 (wd3 ((tmS c d s z)))]]) ∧ Below w.heap.size w w' := by
  have C2 := Lib.hid fun w fv (hf : OfFn w fv [1, 2]) n T v => count_two [1, 2] (by decide) fv g h c x (hiOf s) (loOf s) d y (hiOf z) (loOf z) n T w hf v
  by_cases k : (c = 1 ∨ c = 2) ∧ (d = 1 ∨ d = 2)
  · have e : cntC [1, 2] c d = 2 := by rw [cnt2, if_pos k.1, if_pos k.2]; rfl
    have W : ∀ n : Int, Hid (IntKind.i64.wrap n = IntKind.i64.wrap n ∧ wrap64 n = IntKind.i64.wrap n) := fun n => Lib.hid ⟨rfl, by rw [IntKind.wrap_i64]; unfold wrap64; omega⟩
    have W1 := W (x + y)
    have W2 := W (IntKind.i64.wrap (x + y) + 1)
    have M := mulW s z
    rw [Int.emod_eq_of_lt s0 s1, Int.emod_eq_of_lt z0 z1] at M
    have ts : tmE c d x y = IntKind.i64.wrap (IntKind.i64.wrap (x + y) + 1) ∧ tmS c d s z = s * z := by unfold tmE tmS numC; rw [decide_eq_true k]; exact ⟨rfl, rfl⟩
    rw [ts.1, ts.2]
    rw [e] at C2
    exact ml_Term_yes c d x y _ _ _ _ 2 _ _ _ _ _ _ g h (Lib.hid M) C2 (by decide) W1.out.1 W1.out.2 W2.out.1 W2.out.2 w
  · have e : cntC [1, 2] c d < 2 := by
      rw [cnt2]; (repeat' split) <;> omega
    have ts : tmE c d x y = 0 ∧ tmS c d s z = 0 := by unfold tmE tmS numC; rw [decide_eq_false k]; exact ⟨rfl, rfl⟩
    rw [ts.1, ts.2]
    exact ml_Term_no c d x y _ _ _ _ _ g h C2 (decide_eq_true e) w
set_option maxHeartbeats 1000000 in
theorem mulN (f m : Int) (t : Bool) (a b : Int) (f0 : 0 ≤ f) (f1 : f ≤ 255) (m0 : 0 ≤ m) (m1 : m ≤ 255) (a0 : 0 ≤ a) (a1 : a < full) (b0 : 0 ≤ b) (b1 : b < full) (w : World) (ft : FTab w) : Calls Tryz.prog 11 #[.int .u8 f, .agg #[.int .u8 m, .bool t], .agg #[.int .u64 (hiOf (a)), .int .u64 (loOf (a))], .agg #[.int .u64 (hiOf (b)), .int .u64 (loOf (b))]] w fun e w' => e = .returned (.agg #[.int .u64 (hiOf (mlB f m a b)), .int .u64 (loOf (mlB f m a b)), .int .u8 (mlFl f m t a b)]) ∧ Below w.heap.size w w' := by
  have K := formOK.known f f0 f1
  have M := modeOK.known m m0 m1
  by_cases hf : f < 4
  · rw [decide_eq_true hf] at K
    by_cases hm : m < 5
    · rw [decide_eq_true hm] at M
      have UA := Lib.hid (unpackA f a f0 f1 a0 a1)
      have UB := Lib.hid (unpackA f b f0 f1 b0 b1)
      obtain ⟨s0, s1⟩ := uS_range (f := f) f0 a0
      obtain ⟨z0, z1⟩ := uS_range (f := f) f0 b0
      have BD := Lib.hid (mul_bad (negF f a) (clsF f a) (uE f a) (hiOf (uS f a)) (loOf (uS f a)) (negF f b) (clsF f b) (uE f b) (hiOf (uS f b)) (loOf (uS f b)))
      have PK : ∀ w, FTab w → ∀ p T, HB w p T #[.int .u64 (hiOf a), .int .u64 (loOf a), .int .u64 (hiOf b), .int .u64 (loOf b)] → Calls Tryz.prog 37 #[.int .u8 f, .bool (mlI f a b), .slice (some ⟨p, 0, none⟩) 2 2] w fun e w' => e = .returned (.tuple #[.agg #[.int .u64 (hiOf (pickV f (mlI f a b) [a, b])), .int .u64 (loOf (pickV f (mlI f a b) [a, b])), .int .u8 (pickF f (mlI f a b) [a, b])], .bool (pickK f (mlI f a b) [a, b])]) ∧ Below w.heap.size w w' := fun w ft p T x => nanOK.pick f (mlI f a b) (some ⟨p, 0, none⟩) 2 2 [a, b] f0 f1 w ft (Bs.ofHB [a, b] x rfl (by simp))
      have CN := Lib.hid fun w fv (hf : OfFn w fv [3]) n T v => count_two [3] (by decide) fv (negF f a) (negF f b) (clsF f a) (uE f a) (hiOf (uS f a)) (loOf (uS f a)) (clsF f b) (uE f b) (hiOf (uS f b)) (loOf (uS f b)) n T w hf v
      have TM := Lib.hid (mul_term (negF f a) (clsF f a) (uE f a) (uS f a) (negF f b) (clsF f b) (uE f b) (uS f b) s0 s1 z0 z1)
      obtain ⟨er0, er1, sr0, sr1⟩ := ml_range (f := f) f0 a0 b0
      have RD := Lib.hid (packOK.round f m t (mlN f a b) (mlE f a b) (mlS f a b) f0 f1 m0 m1 er0 er1 sr0 sr1)
      unfold mlB mlFl
      simp only [if_pos (show f < 4 ∧ m < 5 from ⟨hf, hm⟩)]
      cases hp : pickK f (mlI f a b) [a, b] with
      | true =>
        rw [hp] at PK
        simp only [if_pos (rfl : true = true)]
        exact ml_Mul_yes f m _ _ _ _ _ _ _ _ _ _ _ _ _ _ _ 0 0 0 0 0 0 0 0 0 t _ _ _ true (Lib.hid K) (Lib.hid M) UA UB BD (Lib.hid PK) (.inl rfl) w ft
      | false =>
        rw [hp] at PK
        simp only [if_neg (show ¬ (false = true) by decide)]
        by_cases c3 : clsF f a = 3 ∨ clsF f b = 3
        · simp only [if_pos c3]
          have g9 : decide (0 < cntC [3] (clsF f a) (clsF f b)) = true := decide_eq_true (by rw [cnt1]; (repeat' split) <;> omega)
          exact ml_Mul_yes f m _ _ _ _ _ _ _ _ _ _ _ _ _ _ _ _ _ _ _ 0 0 0 0 0 t _ _ _ false (Lib.hid K) (Lib.hid M) UA UB BD (Lib.hid PK) (.inr ⟨rfl, g9, rfl, CN, Lib.hid (formOK.inf f (mlN f a b) f0 f1)⟩) w ft
        · simp only [if_neg c3]
          have g9 : decide (0 < cntC [3] (clsF f a) (clsF f b)) = false := decide_eq_false (by rw [cnt1]; (repeat' split) <;> omega)
          exact ml_Mul_num f m _ _ _ _ _ _ _ _ _ _ _ _ _ _ _ _ _ _ _ _ _ _ _ _ t _ _ _ false (Lib.hid K) (Lib.hid M) UA UB BD (Lib.hid PK) ⟨rfl, g9, CN, TM, RD⟩ w ft
    · rw [decide_eq_false hm] at M
      unfold mlB mlFl
      simp only [if_neg (show ¬ (f < 4 ∧ m < 5) from fun k => hm k.2)]
      exact ml_Mul_no2 f m _ _ _ _ t (Lib.hid K) (Lib.hid M) w ft
  · rw [decide_eq_false hf] at K
    unfold mlB mlFl
    simp only [if_neg (show ¬ (f < 4 ∧ m < 5) from fun k => hf k.1)]
    exact ml_Mul_no1 f m _ _ _ _ t (Lib.hid K) w ft
theorem mulOK : MulOK where
  mul := fun f m t a b f0 f1 m0 m1 a0 a1 b0 b1 w ft => mulN f m t a b f0 f1 m0 m1 a0 a1 b0 b1 w ft
  term := fun g c x s h d y u s0 s1 u0 u1 w => mul_term g c x s h d y u s0 s1 u0 u1 w
  bad := fun g c x k l h d y p q w => mul_bad g c x k l h d y p q w


end Go.Proofs.YtjnohbpebdnngaaGreatDoor
