/-
  The document's answers of stage 19.
-/
import Derived.Test.YtjnohbpebdnngaaGreatDoorRef19W
import Derived.Test.YtjnohbpebdnngaaGreatDoorRef19B
import Derived.Test.YtjnohbpebdnngaaGreatDoorRef16
set_option linter.unusedVariables false
set_option linter.unusedSimpArgs false
set_option maxRecDepth 100000
namespace Go.Proofs.YtjnohbpebdnngaaGreatDoor
open Go.RowKit
attribute [local go_sem ↓] Go.wp_at_zero Go.wp_at_succ

/-- An answer that is a number, its slice in parts. -/
theorem tri19 {w w' : World} {n : Int} {e : Ending} (h : RetNum w n e w') : ∃ s : Option Addr × Nat × Nat, e = .returned (.slice s.1 s.2.1 s.2.2) ∧ IsNum w' (.slice s.1 s.2.1 s.2.2) n ∧ Below w.heap.size w w' := by
  obtain ⟨v, he, nv, hb⟩ := h
  obtain ⟨ao, k, cap, ds, rfl, _⟩ := id nv
  exact ⟨(ao, k, cap), he, nv, hb⟩
theorem prod_small {M : Int} (M1 : M < 2 ^ 113) : Small M := small_full (by
  have := two_pow_le (show 113 ≤ 128 by omega)
  rw [full_pow] at this; omega)
theorem prod_len {M N : Int} (M0 : 0 ≤ M) (M1 : M < 2 ^ 113) (N0 : 0 ≤ N) (N1 : N < 2 ^ 113) : 0 ≤ M * N ∧ blen (M * N) ≤ 100000 := by
  have h1 : M * N ≤ 2 ^ 113 * N := Int.mul_le_mul_of_nonneg_right (by omega) N0
  have h2 : (2 : Int) ^ 113 * N < 2 ^ 113 * 2 ^ 113 := Int.mul_lt_mul_of_pos_left N1 (two_pow_pos _)
  rw [← Int.pow_add] at h2
  have h0 := Int.mul_nonneg M0 N0
  exact ⟨h0, by have := blen_le h0 (show M * N < 2 ^ (113 + 113) by omega); omega⟩
theorem ref19_prodN (sa sb : Bool) (M N xa xb : Int) (M0 : 0 ≤ M) (M1 : M < 2 ^ 113) (N0 : 0 ≤ N) (N1 : N < 2 ^ 113) (x0 : -17000 ≤ xa) (x1 : xa ≤ 17000) (y0 : -17000 ≤ xb) (y1 : xb ≤ 17000) (sx sy : Option Addr × Nat × Nat) (w : World) (nx : IsNum w (.slice sx.1 sx.2.1 sx.2.2) M) (ny : IsNum w (.slice sy.1 sy.2.1 sy.2.2) N) : Calls Tryz.prog 43 #[.agg #[.bool sa, .slice sx.1 sx.2.1 sx.2.2, .int .i64 xa], .agg #[.bool sb, .slice sy.1 sy.2.1 sy.2.2, .int .i64 xb]] w fun e' w' => ∃ q : Option Addr × Nat × Nat, e' = .returned (.agg #[.bool ((!(sa == sb))), .slice q.1 q.2.1 q.2.2, .int .i64 ((xa + xb))]) ∧ IsNum w' (.slice q.1 q.2.1 q.2.2) ((M * N)) ∧ Below w.heap.size w w' :=
  ref19_product sx sy xa xb (xa + xb) M N (M * N) sa sb (IntWalk.i64_in _ (by omega)) (by unfold wrap64; omega) (Lib.hid fun w u v hu hv => (mul_num hu hv (prod_small M1) (prod_small N1)).mono fun _ _ => tri19) w nx ny
theorem ofS19 (f b : Int) (f0 : 0 ≤ f) (hf : f < 4) (b0 : 0 ≤ b) (b1 : b < full) (w : World) : Calls Tryz.prog 44 #[.int .u8 f, .agg #[.int .u64 (hiOf (b)), .int .u64 (loOf (b))]] w fun e' w' => ∃ q : Option Addr × Nat × Nat, e' = .returned (.agg #[.bool ((negF f b)), .slice q.1 q.2.1 q.2.2, .int .i64 ((uX f b))]) ∧ IsNum w' (.slice q.1 q.2.1 q.2.2) ((uM f b)) ∧ Below w.heap.size w w' := by
  have h := ref9_of f b f0 hf w
  rw [Int.emod_eq_of_lt b0 b1] at h
  refine h.mono fun e w' hh => ?_
  obtain ⟨v, he, nv, hb⟩ := hh
  obtain ⟨ao, k, cap, ds, rfl, _⟩ := id nv
  exact ⟨(ao, k, cap), he, nv, hb⟩
theorem ref19_cls (f b : Int) (f0 : 0 ≤ f) (f1 : f ≤ 255) (b0 : 0 ≤ b) (b1 : b < full) (w : World) : Calls Tryz.prog 40 #[.int .u8 f, .agg #[.int .u64 (hiOf (b)), .int .u64 (loOf (b))]] w fun e w' => e = .returned (.tuple #[.int .u8 (clsF f b), .bool (negF f b)]) ∧ Below w.heap.size w w' := by
  have h := ref8_of f b f0 f1 w
  rw [Int.emod_eq_of_lt b0 b1] at h
  exact h
theorem uM_113 {f : Int} (f0 : 0 ≤ f) (hf : f < 4) (b : Int) : 0 ≤ uM f b ∧ uM f b < 2 ^ 113 := by
  obtain ⟨p0, p1, p2, p3, p4, p5, p6, p7, p8⟩ := f_nums f0 hf
  obtain ⟨r0, r1⟩ := frac_range (b := b) f0 hf
  have tp := pow_top (show 1 ≤ fP f by omega)
  have := two_pow_le p8
  unfold uM; split <;> omega
theorem uX_17000 {f b : Int} (f0 : 0 ≤ f) (hf : f < 4) (b0 : 0 ≤ b) : -17000 ≤ uX f b ∧ uX f b ≤ 17000 := by
  obtain ⟨p0, p1, p2, p3, p4, p5, p6, p7, p8⟩ := f_nums f0 hf
  obtain ⟨x0, x1, x2, x3⟩ := exp_range f0 hf b0
  unfold uX; split <;> omega
theorem ml_not_nan {f a b : Int} {i : Bool} (a0 : 0 ≤ a) (a1 : a < full) (b0 : 0 ≤ b) (b1 : b < full) (hf : f < 4) (ca : clsF f a ≠ 3) (cb : clsF f b ≠ 3) (hp : pickK f i [a, b] = false) : clsF f a ≤ 2 ∧ clsF f b ≤ 2 := by
  unfold pickK anyN at hp
  rw [decide_eq_true hf] at hp
  simp only [Bool.true_and, List.any_cons, List.any_nil, Bool.or_false, Bool.or_eq_false_iff, Int.emod_eq_of_lt a0 a1, Int.emod_eq_of_lt b0 b1] at hp
  unfold nanF at hp
  have h1 := of_decide_eq_false hp.2.1
  have h2 := of_decide_eq_false hp.2.2
  omega
set_option maxHeartbeats 1000000 in
theorem ref19_mulN (f m : Int) (t : Bool) (a b : Int) (f0 : 0 ≤ f) (f1 : f ≤ 255) (m0 : 0 ≤ m) (m1 : m ≤ 255) (a0 : 0 ≤ a) (a1 : a < full) (b0 : 0 ≤ b) (b1 : b < full) (w : World) : Calls Tryz.prog 12 #[.int .u8 f, .agg #[.int .u8 m, .bool t], .agg #[.int .u64 (hiOf (a)), .int .u64 (loOf (a))], .agg #[.int .u64 (hiOf (b)), .int .u64 (loOf (b))]] w fun e w' => e = .returned (.agg #[.int .u64 (hiOf (mlB f m a b)), .int .u64 (loOf (mlB f m a b)), .int .u8 (mlFl f m t a b)]) ∧ Below w.heap.size w w' := by
  by_cases hf : f < 4
  · have G1 : decide (3 < f) = false := decide_eq_false (by omega)
    by_cases hm : m < 5
    · have G2 : decide (4 < m) = false := decide_eq_false (by omega)
      have OA := Lib.hid (ref19_cls f a f0 f1 a0 a1)
      have OB := Lib.hid (ref19_cls f b f0 f1 b0 b1)
      have BD := Lib.hid (ref19_badN (clsF f a) (clsF f b))
      have PK : ∀ w, ∀ p T, HB w p T #[.int .u64 (hiOf a), .int .u64 (loOf a), .int .u64 (hiOf b), .int .u64 (loOf b)] → Calls Tryz.prog 41 #[.int .u8 f, .bool (mlI f a b), .slice (some ⟨p, 0, none⟩) 2 2] w fun e w' => e = .returned (.tuple #[.agg #[.int .u64 (hiOf (pickV f (mlI f a b) [a, b])), .int .u64 (loOf (pickV f (mlI f a b) [a, b])), .int .u8 (pickF f (mlI f a b) [a, b])], .bool (pickK f (mlI f a b) [a, b])]) ∧ Below w.heap.size w w' := fun w p T x => ref10_pick f (mlI f a b) (some ⟨p, 0, none⟩) 2 2 [a, b] f0 f1 w (Bs.ofHB [a, b] x rfl (by simp))
      unfold mlB mlFl
      simp only [if_pos (show f < 4 ∧ m < 5 from ⟨hf, hm⟩)]
      cases hp : pickK f (mlI f a b) [a, b] with
      | true =>
        rw [hp] at PK
        simp only [if_pos (rfl : true = true)]
        exact ref19_mul_yes f m _ _ _ _ _ _ _ _ _ 0 0 0 0 0 0 0 0 0 t _ _ _ true false false false OA OB BD G1 G2 (Lib.hid PK) (.inl rfl) w
      | false =>
        rw [hp] at PK
        simp only [if_neg (show ¬ (false = true) by decide)]
        by_cases ca : clsF f a = 3
        · simp only [if_pos (show clsF f a = 3 ∨ clsF f b = 3 from .inl ca)]
          exact ref19_mul_yes f m _ _ _ _ _ _ _ _ _ _ _ _ 0 0 0 0 0 0 t _ _ _ false false false false OA OB BD G1 G2 (Lib.hid PK) (.inr (.inl ⟨rfl, beq_iff_eq.2 ca, rfl, Lib.hid (ref7_inf f (mlN f a b) f0 f1)⟩)) w
        · have ga : (clsF f a == 3) = false := beq_eq_false_iff_ne.2 ca
          by_cases cb : clsF f b = 3
          · simp only [if_pos (show clsF f a = 3 ∨ clsF f b = 3 from .inr cb)]
            exact ref19_mul_yes f m _ _ _ _ _ _ _ _ _ _ _ _ 0 0 0 0 0 0 t _ _ _ false false false false OA OB BD G1 G2 (Lib.hid PK) (.inr (.inr (.inl ⟨rfl, ga, beq_iff_eq.2 cb, rfl, Lib.hid (ref7_inf f (mlN f a b) f0 f1)⟩))) w
          · have gb : (clsF f b == 3) = false := beq_eq_false_iff_ne.2 cb
            simp only [if_neg (show ¬ (clsF f a = 3 ∨ clsF f b = 3) by omega)]
            have c4 : clsF f a ≤ 2 ∧ clsF f b ≤ 2 := ml_not_nan a0 a1 b0 b1 hf ca cb hp
            have VA := Lib.hid (ofS19 f a f0 hf a0 a1)
            have VB := Lib.hid (ofS19 f b f0 hf b0 b1)
            have ra := uM_113 f0 hf a; have rb := uM_113 f0 hf b
            have xa := uX_17000 (f := f) f0 hf a0; have xb := uX_17000 (f := f) f0 hf b0
            obtain ⟨L0, L1⟩ := prod_len ra.1 ra.2 rb.1 rb.2
            have PR := Lib.hid fun w sx sy nx ny => ref19_prodN (negF f a) (negF f b) (uM f a) (uM f b) (uX f a) (uX f b) ra.1 ra.2 rb.1 rb.2 xa.1 xa.2 xb.1 xb.2 sx sy w nx ny
            obtain ⟨r1, r2⟩ := ml_exact (m := m) (ng := mlN f a b) f0 hf a0 b0 c4.1 c4.2
            have RD := Lib.hid fun w (q : Option Addr × Nat × Nat) (h : IsNum w (.slice q.1 q.2.1 q.2.2) (uM f a * uM f b)) => ref16_round f m t (mlN f a b) (uM f a * uM f b) (uX f a + uX f b) false _ f0 f1 m0 m1 (.inr rfl) L1 (by omega) (by omega) w h
            rw [← r1, ← r2] at RD
            exact ref19_mul_yes f m _ _ _ _ _ _ _ _ _ _ _ _ _ _ _ _ _ _ t _ _ _ false _ _ _ OA OB BD G1 G2 (Lib.hid PK) (.inr (.inr (.inr ⟨rfl, ga, gb, VA, VB, PR, RD⟩))) w
    · unfold mlB mlFl
      simp only [if_neg (show ¬ (f < 4 ∧ m < 5) from fun k => hm k.2)]
      exact ref19_mul_no2 f m _ _ _ _ t G1 (decide_eq_true (by omega)) w
  · unfold mlB mlFl
    simp only [if_neg (show ¬ (f < 4 ∧ m < 5) from fun k => hf k.1)]
    exact ref19_mul_no1 f m _ _ _ _ t (decide_eq_true (by omega)) w


end Go.Proofs.YtjnohbpebdnngaaGreatDoor
