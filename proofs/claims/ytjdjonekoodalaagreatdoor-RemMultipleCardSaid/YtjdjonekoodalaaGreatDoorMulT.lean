import Derived.Test.YtjdjonekoodalaaGreatDoorGvA
import Derived.Test.YtjdjonekoodalaaGreatDoorMulC
import Derived.Test.YtjdjonekoodalaaGreatDoorGaB
set_option linter.unusedVariables false
set_option linter.unusedSimpArgs false
set_option maxRecDepth 100000
namespace Go.Proofs.YtjdjonekoodalaaGreatDoor
open Go.RowKit
attribute [local go_sem ↓] Go.wp_at_zero Go.wp_at_succ
theorem cnt1 (a c d : Int) : cntC [a] c d = (if c = a then 1 else 0) + (if d = a then 1 else 0) := by unfold cntC; simp
theorem cnt2 (c d : Int) : cntC [1, 2] c d = (if c = 1 ∨ c = 2 then 1 else 0) + (if d = 1 ∨ d = 2 then 1 else 0) := by unfold cntC; simp
theorem mul_bad (g : Bool) (c x k l : Int) (h : Bool) (d y p q : Int) (w : World) : Calls Tryz.prog 66 #[.agg #[.bool g, .int .u8 c, .int .i64 x, .int .u64 k, .int .u64 l], .agg #[.bool h, .int .u8 d, .int .i64 y, .int .u64 p, .int .u64 q]] w fun e w' => e = .returned (.bool (badC c d)) ∧ Below w.heap.size w w' := by
  have C0 := lH fun w fv (hf : OfFn w fv [0]) n T z => count_two [0] (by decide) fv g h c x k l d y p q n T w hf z
  have C3 := lH fun w fv (hf : OfFn w fv [3]) n T z => count_two [3] (by decide) fv g h c x k l d y p q n T w hf z
  by_cases e : cntC [0] c d = 1
  · rw [show badC c d = (cntC [3] c d == 1) by
      unfold badC; rw [Bool.eq_iff_iff]; simp only [decide_eq_true_eq, beq_iff_eq]; rw [cnt1] at e ⊢
      (repeat' split at e) <;> (repeat' split) <;> omega]
    exact ml_Bad_yes c d x y k l p q _ _ g h C0 C3 (by simp [e]) w
  · rw [show badC c d = false by
      unfold badC; rw [decide_eq_false]; rw [cnt1] at e
      (repeat' split at e) <;> omega]
    exact ml_Bad_no c d x y k l p q _ g h C0 (by simp [e]) w
theorem mul_term (g : Bool) (c x s : Int) (h : Bool) (d y z : Int) (s0 : 0 ≤ s) (s1 : s < full) (z0 : 0 ≤ z) (z1 : z < full) (w : World) : Calls Tryz.prog 69 #[.agg #[.bool g, .int .u8 c, .int .i64 x, .int .u64 (hiOf s), .int .u64 (loOf s)], .agg #[.bool h, .int .u8 d, .int .i64 y, .int .u64 (hiOf z), .int .u64 (loOf z)]] w fun e w' => e = .returned (.tuple #[.int .i64 (tmE c d x y), .agg #[.int .u64 (wd0 ((tmS c d s z))), .int .u64 (wd1 ((tmS c d s z))), .int .u64 (wd2 ((tmS c d s z))), .int .u64 (wd3 ((tmS c d s z)))]]) ∧ Below w.heap.size w w' := by
  have C2 := lH fun w fv (hf : OfFn w fv [1, 2]) n T v => count_two [1, 2] (by decide) fv g h c x (hiOf s) (loOf s) d y (hiOf z) (loOf z) n T w hf v
  by_cases k : (c = 1 ∨ c = 2) ∧ (d = 1 ∨ d = 2)
  · have e : cntC [1, 2] c d = 2 := by rw [cnt2, if_pos k.1, if_pos k.2]; rfl
    have W : ∀ n : Int, Hid (IntKind.i64.wrap n = IntKind.i64.wrap n ∧ wrap64 n = IntKind.i64.wrap n) := fun n => lH ⟨rfl, by rw [IntKind.wrap_i64]; unfold wrap64; omega⟩
    have W1 := W (x + y)
    have W2 := W (IntKind.i64.wrap (x + y) + 1)
    have M := mulW s z
    rw [Int.emod_eq_of_lt s0 s1, Int.emod_eq_of_lt z0 z1] at M
    have ts : tmE c d x y = IntKind.i64.wrap (IntKind.i64.wrap (x + y) + 1) ∧ tmS c d s z = s * z := by unfold tmE tmS numC; rw [decide_eq_true k]; exact ⟨rfl, rfl⟩
    rw [ts.1, ts.2]
    rw [e] at C2
    exact ml_Term_yes c d x y _ _ _ _ 2 _ _ _ _ _ _ g h (lH M) C2 (by decide) W1.out.1 W1.out.2 W2.out.1 W2.out.2 w
  · have e : cntC [1, 2] c d < 2 := by
      rw [cnt2]; (repeat' split) <;> omega
    have ts : tmE c d x y = 0 ∧ tmS c d s z = 0 := by unfold tmE tmS numC; rw [decide_eq_false k]; exact ⟨rfl, rfl⟩
    rw [ts.1, ts.2]
    exact ml_Term_no c d x y _ _ _ _ _ g h C2 (decide_eq_true e) w
end Go.Proofs.YtjdjonekoodalaaGreatDoor
