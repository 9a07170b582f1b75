import Derived.Test.YtdcdbcccchadfaaGreatDoorMul19M
import Derived.Test.YtdcdbcccchadfaaGreatDoorGwA
import Derived.Test.YtdcdbcccchadfaaGreatDoorRef19W
import Derived.Test.YtdcdbcccchadfaaGreatDoorRef16
set_option maxHeartbeats 4000000
set_option linter.unusedVariables false
set_option linter.unusedSimpArgs false
set_option maxRecDepth 100000
namespace Go.Proofs.YtdcdbcccchadfaaGreatDoor
open Go.RowKit
attribute [local go_sem ↓] Go.wp_at_zero Go.wp_at_succ
theorem ref19_bad_a
     (w : World) :
    Ca 42 #[.int .u8 0, .int .u8 3] w (.bool true) := by
  simp only [Ca] at *
  go_enter Tryz.func42, Tryz.ntmps42
  go_wp2_with fail
  go_ret
  exact ⟨rfl, bR⟩
theorem ref19_bad_b (d : Int)
     (g1 : (d == 3) = false) (w : World) :
    Ca 42 #[.int .u8 0, .int .u8 d] w (.bool false) := by
  simp only [Ca] at *
  go_enter Tryz.func42, Tryz.ntmps42
  go_wp2_with fail
  go_ret
  exact ⟨rfl, bR⟩
theorem ref19_bad_c
     (w : World) :
    Ca 42 #[.int .u8 3, .int .u8 0] w (.bool true) := by
  simp only [Ca] at *
  go_enter Tryz.func42, Tryz.ntmps42
  go_wp2_with fail
  go_ret
  exact ⟨rfl, bR⟩
theorem ref19_bad_d (d : Int)
     (g1 : (d == 0) = false) (w : World) :
    Ca 42 #[.int .u8 3, .int .u8 d] w (.bool false) := by
  simp only [Ca] at *
  go_enter Tryz.func42, Tryz.ntmps42
  go_wp2_with fail
  go_ret
  exact ⟨rfl, bR⟩
theorem ref19_bad_e (c d : Int)
     (g1 : (c == 0) = false) (g2 : (c == 3) = false) (w : World) :
    Ca 42 #[.int .u8 c, .int .u8 d] w (.bool false) := by
  simp only [Ca] at *
  go_enter Tryz.func42, Tryz.ntmps42
  go_wp2_with fail
  go_ret
  exact ⟨rfl, bR⟩
theorem ref19_badN (c d : Int) (w : World) : Calls Tryz.prog 42 #[.int .u8 c, .int .u8 d] w fun e w' => e = .returned (.bool (badC c d)) ∧ Below w.heap.size w w' := by
  unfold badC
  by_cases c0 : c = 0
  · subst c0
    by_cases d3 : d = 3
    · subst d3; exact ref19_bad_a w
    · rw [decide_eq_false (by omega)]; exact ref19_bad_b d (beq_eq_false_iff_ne.2 d3) w
  · by_cases c3 : c = 3
    · subst c3
      by_cases d0 : d = 0
      · subst d0; exact ref19_bad_c w
      · rw [decide_eq_false (by omega)]; exact ref19_bad_d d (beq_eq_false_iff_ne.2 d0) w
    · rw [decide_eq_false (by omega)]; exact ref19_bad_e c d (beq_eq_false_iff_ne.2 c0) (beq_eq_false_iff_ne.2 c3) w
end Go.Proofs.YtdcdbcccchadfaaGreatDoor
namespace Go.Proofs.YtdcdbcccchadfaaGreatDoor
open Go.RowKit
attribute [local go_sem ↓] Go.wp_at_zero Go.wp_at_succ
theorem tri19 {w w' : World} {n : Int} {e : Ending} (h : RetNum w n e w') : ∃ s : Option Addr × Nat × Nat, e = .returned (.slice s.1 s.2.1 s.2.2) ∧ IsNum w' (.slice s.1 s.2.1 s.2.2) n ∧ Below w.heap.size w w' := by
  obtain ⟨v, he, nv, hb⟩ := h
  obtain ⟨ao, k, cap, ds, rfl, _⟩ := id nv
  exact ⟨(ao, k, cap), he, nv, hb⟩
theorem prod_small {M : Int} (M1 : M < 2 ^ 113) : Small M := small_full (by
  have := two_pow_le (show 113 ≤ 128 by omega)
  rw [full_pow] at this; omega)
theorem ref19_prodN (sa sb : Bool) (M N xa xb : Int) (M0 : 0 ≤ M) (M1 : M < 2 ^ 113) (N0 : 0 ≤ N) (N1 : N < 2 ^ 113) (x0 : -17000 ≤ xa) (x1 : xa ≤ 17000) (y0 : -17000 ≤ xb) (y1 : xb ≤ 17000) (sx sy : Option Addr × Nat × Nat) (w : World) (nx : IsNum w (.slice sx.1 sx.2.1 sx.2.2) M) (ny : IsNum w (.slice sy.1 sy.2.1 sy.2.2) N) : Calls Tryz.prog 44 #[.agg #[.bool sa, .slice sx.1 sx.2.1 sx.2.2, .int .i64 xa], .agg #[.bool sb, .slice sy.1 sy.2.1 sy.2.2, .int .i64 xb]] w fun e' w' => ∃ q : Option Addr × Nat × Nat, e' = .returned (.agg #[.bool ((!(sa == sb))), .slice q.1 q.2.1 q.2.2, .int .i64 ((xa + xb))]) ∧ IsNum w' (.slice q.1 q.2.1 q.2.2) ((M * N)) ∧ Below w.heap.size w w' :=
  ref19_product sx sy xa xb (xa + xb) M N (M * N) sa sb (IntWalk.i64_in _ (by omega)) (by unfold wrap64; omega) (lH fun w u v hu hv => (mul_num hu hv (prod_small M1) (prod_small N1)).mono fun _ _ => tri19) w nx ny
theorem ofS19 (f b : Int) (f0 : 0 ≤ f) (hf : f < 4) (b0 : 0 ≤ b) (b1 : b < full) (w : World) : Calls Tryz.prog 45 #[.int .u8 f, .agg #[.int .u64 (hiOf (b)), .int .u64 (loOf (b))]] w fun e' w' => ∃ q : Option Addr × Nat × Nat, e' = .returned (.agg #[.bool ((negF f b)), .slice q.1 q.2.1 q.2.2, .int .i64 ((uX f b))]) ∧ IsNum w' (.slice q.1 q.2.1 q.2.2) ((uM f b)) ∧ Below w.heap.size w w' := by
  have h := ref9_of f b f0 hf w
  rw [Int.emod_eq_of_lt b0 b1] at h
  refine h.mono fun e w' hh => ?_
  obtain ⟨v, he, nv, hb⟩ := hh
  obtain ⟨ao, k, cap, ds, rfl, _⟩ := id nv
  exact ⟨(ao, k, cap), he, nv, hb⟩
theorem ref19_cls (f b : Int) (f0 : 0 ≤ f) (f1 : f ≤ 255) (b0 : 0 ≤ b) (b1 : b < full) (w : World) : Calls Tryz.prog 40 #[.int .u8 f, .agg #[.int .u64 (hiOf (b)), .int .u64 (loOf (b))]] w fun e w' => e = .returned (.tuple #[.int .u8 (clsF f b), .bool (negF f b)]) ∧ Below w.heap.size w w' := by
  have h := ref8_of f b f0 f1 w
  rw [Int.emod_eq_of_lt b0 b1] at h
  exact h
theorem uM_113 {f : Int} (f0 : 0 ≤ f) (hf : f < 4) (b : Int) : 0 ≤ uM f b ∧ uM f b < 2 ^ 113 := by
  obtain ⟨p0, p1, p2, p3, p4, p5, p6, p7, p8⟩ := f_nums f0 hf
  obtain ⟨r0, r1⟩ := frac_range (b := b) f0 hf
  have tp := pow_top (show 1 ≤ fP f by omega)
  have := two_pow_le p8
  unfold uM; split <;> omega
theorem uX_17000 {f b : Int} (f0 : 0 ≤ f) (hf : f < 4) (b0 : 0 ≤ b) : -17000 ≤ uX f b ∧ uX f b ≤ 17000 := by
  obtain ⟨p0, p1, p2, p3, p4, p5, p6, p7, p8⟩ := f_nums f0 hf
  obtain ⟨x0, x1, x2, x3⟩ := exp_range f0 hf b0
  unfold uX; split <;> omega
end Go.Proofs.YtdcdbcccchadfaaGreatDoor
