import Derived.Test.YtdcdbcccchadfaaGreatDoorRef20W
import Derived.Test.YtdcdbcccchadfaaGreatDoorRef20M
import Derived.Test.YtdcdbcccchadfaaGreatDoorGtD
set_option maxHeartbeats 1000000
set_option linter.unusedVariables false
set_option linter.unusedSimpArgs false
set_option maxRecDepth 100000
namespace Go.Proofs.YtdcdbcccchadfaaGreatDoor
open Go.RowKit
attribute [local go_sem ↓] Go.wp_at_zero Go.wp_at_succ
theorem fm_not_nan {f a b c : Int} {i : Bool} (a0 : 0 ≤ a) (a1 : a < full) (b0 : 0 ≤ b) (b1 : b < full) (c0 : 0 ≤ c) (c1 : c < full) (hf : f < 4) (hp : pickK f i [a, b, c] = false) : nanF f a = false ∧ nanF f b = false ∧ nanF f c = false := by
  unfold pickK anyN at hp
  rw [decide_eq_true hf] at hp
  simp only [Bool.true_and, List.any_cons, List.any_nil, Bool.or_false, Bool.or_eq_false_iff, Int.emod_eq_of_lt a0 a1, Int.emod_eq_of_lt b0 b1, Int.emod_eq_of_lt c0 c1] at hp
  exact ⟨hp.2.1, hp.2.2.1, hp.2.2.2⟩
theorem fmO_eq (f a b c : Int) : fmO f a b c = (decide (clsF f c = 3) && !(negF f c == (!(negF f a == negF f b)))) := by
  unfold fmO mlN
  cases negF f a <;> cases negF f b <;> cases negF f c <;> simp
theorem ref20_fmaN (f m : Int) (t : Bool) (a b c : Int) (f0 : 0 ≤ f) (f1 : f ≤ 255) (m0 : 0 ≤ m) (m1 : m ≤ 255) (a0 : 0 ≤ a) (a1 : a < full) (b0 : 0 ≤ b) (b1 : b < full) (c0 : 0 ≤ c) (c1 : c < full) (w : World) : Calls Tryz.prog 11 #[.int .u8 f, .agg #[.int .u8 m, .bool t], .agg #[.int .u64 (hiOf (a)), .int .u64 (loOf (a))], .agg #[.int .u64 (hiOf (b)), .int .u64 (loOf (b))], .agg #[.int .u64 (hiOf (c)), .int .u64 (loOf (c))]] w fun e w' => e = .returned (.agg #[.int .u64 (hiOf (fmB f m a b c)), .int .u64 (loOf (fmB f m a b c)), .int .u8 (fmFl f m t a b c)]) ∧ Below w.heap.size w w' := by
  by_cases hf : f < 4
  · have G1 : decide (3 < f) = false := decide_eq_false (by omega)
    by_cases hm : m < 5
    · have G2 : decide (4 < m) = false := decide_eq_false (by omega)
      have OA := lH (ref19_cls f a f0 f1 a0 a1)
      have OB := lH (ref19_cls f b f0 f1 b0 b1)
      have OC := lH (ref19_cls f c f0 f1 c0 c1)
      have BD := lH (ref19_badN (clsF f a) (clsF f b))
      have PK : ∀ w, ∀ p T, HB w p T #[.int .u64 (hiOf a), .int .u64 (loOf a), .int .u64 (hiOf b), .int .u64 (loOf b), .int .u64 (hiOf c), .int .u64 (loOf c)] → Calls Tryz.prog 41 #[.int .u8 f, .bool (mlI f a b), .slice (some ⟨p, 0, none⟩) 3 3] w fun e w' => e = .returned (.tuple #[.agg #[.int .u64 (hiOf (pickV f (mlI f a b) [a, b, c])), .int .u64 (loOf (pickV f (mlI f a b) [a, b, c])), .int .u8 (pickF f (mlI f a b) [a, b, c])], .bool (pickK f (mlI f a b) [a, b, c])]) ∧ Below w.heap.size w w' := fun w p T x => ref10_pick f (mlI f a b) (some ⟨p, 0, none⟩) 3 3 [a, b, c] f0 f1 w (Bs.ofHB [a, b, c] x rfl (by simp))
      have PT : ∀ w, ∀ p T, HB w p T #[.int .u64 (hiOf a), .int .u64 (loOf a), .int .u64 (hiOf b), .int .u64 (loOf b), .int .u64 (hiOf c), .int .u64 (loOf c)] → Calls Tryz.prog 41 #[.int .u8 f, .bool true, .slice (some ⟨p, 0, none⟩) 3 3] w fun e w' => e = .returned (.tuple #[.agg #[.int .u64 (hiOf (pickV f true [a, b, c])), .int .u64 (loOf (pickV f true [a, b, c])), .int .u8 (pickF f true [a, b, c])], .bool (pickK f true [a, b, c])]) ∧ Below w.heap.size w w' := fun w p T x => ref10_pick f true (some ⟨p, 0, none⟩) 3 3 [a, b, c] f0 f1 w (Bs.ofHB [a, b, c] x rfl (by simp))
      rw [(pick_inv hf [a, b, c]).2.2] at PT
      have IN := lH (ref7_inf f (mlN f a b) f0 f1)
      have ob := fmO_eq f a b c
      unfold fmB fmFl
      simp only [if_pos (show f < 4 ∧ m < 5 from ⟨hf, hm⟩)]
      cases hp : pickK f (mlI f a b) [a, b, c] with
      | true =>
        rw [hp] at PK
        simp only [if_pos (rfl : true = true)]
        exact ref20_fma_yes f m _ _ _ _ _ _ _ _ _ _ _ _ 0 0 0 0 0 0 0 0 0 0 0 t _ _ _ _ true false false false false OA OB OC BD G1 G2 (lH PK) (.inl rfl) w
      | false =>
        rw [hp] at PK
        simp only [if_neg (show ¬ (false = true) by decide)]
        obtain ⟨na, nb, nc⟩ := fm_not_nan a0 a1 b0 b1 c0 c1 hf hp
        have a3 : clsF f a ≤ 3 := by unfold nanF at na; have := of_decide_eq_false na; omega
        have b3 : clsF f b ≤ 3 := by unfold nanF at nb; have := of_decide_eq_false nb; omega
        have c3 : clsF f c ≤ 3 := by unfold nanF at nc; have := of_decide_eq_false nc; omega
        by_cases ca : clsF f a = 3
        · have ga : (clsF f a == 3) = true := beq_iff_eq.2 ca
          simp only [if_pos (show clsF f a = 3 ∨ clsF f b = 3 from .inl ca)]
          by_cases k3 : clsF f c = 3
          · have gc : (clsF f c == 3) = true := beq_iff_eq.2 k3
            cases ho : fmO f a b c with
            | true =>
              have go_ : (!(negF f c == (!(negF f a == negF f b)))) = true := by rw [ob, decide_eq_true k3, Bool.true_and] at ho; exact ho
              simp only [if_pos (rfl : true = true), if_true]
              exact ref20_fma_yes f m _ _ _ _ _ _ _ _ _ _ _ _ _ _ _ 0 0 0 0 0 0 0 0 t _ _ _ _ false false false false false OA OB OC BD G1 G2 (lH PK) (.inr (.inl ⟨rfl, ga, gc, go_, lH PT⟩)) w
            | false =>
              have go_ : (!(negF f c == (!(negF f a == negF f b)))) = false := by rw [ob, decide_eq_true k3, Bool.true_and] at ho; exact ho
              simp only [if_neg (show ¬ (false = true) by decide)]
              exact ref20_fma_yes f m _ _ _ _ _ _ _ _ _ _ _ _ _ _ _ 0 0 0 0 0 0 0 0 t _ _ _ _ false false false false false OA OB OC BD G1 G2 (lH PK) (.inr (.inr (.inl ⟨rfl, ga, gc, go_, rfl, IN⟩))) w
          · have gc : (clsF f c == 3) = false := beq_eq_false_iff_ne.2 k3
            have ho : fmO f a b c = false := by unfold fmO; exact decide_eq_false (fun k => k3 k.1)
            simp only [ho, if_neg (show ¬ (false = true) by decide)]
            exact ref20_fma_yes f m _ _ _ _ _ _ _ _ _ _ _ _ _ _ _ 0 0 0 0 0 0 0 0 t _ _ _ _ false false false false false OA OB OC BD G1 G2 (lH PK) (.inr (.inr (.inr (.inl ⟨rfl, ga, gc, rfl, IN⟩)))) w
        · have ga : (clsF f a == 3) = false := beq_eq_false_iff_ne.2 ca
          by_cases cb : clsF f b = 3
          · have gb : (clsF f b == 3) = true := beq_iff_eq.2 cb
            simp only [if_pos (show clsF f a = 3 ∨ clsF f b = 3 from .inr cb)]
            by_cases k3 : clsF f c = 3
            · have gc : (clsF f c == 3) = true := beq_iff_eq.2 k3
              cases ho : fmO f a b c with
              | true =>
                have go_ : (!(negF f c == (!(negF f a == negF f b)))) = true := by rw [ob, decide_eq_true k3, Bool.true_and] at ho; exact ho
                simp only [if_pos (rfl : true = true), if_true]
                exact ref20_fma_yes f m _ _ _ _ _ _ _ _ _ _ _ _ _ _ _ 0 0 0 0 0 0 0 0 t _ _ _ _ false false false false false OA OB OC BD G1 G2 (lH PK) (.inr (.inr (.inr (.inr (.inl ⟨rfl, ga, gb, gc, go_, lH PT⟩))))) w
              | false =>
                have go_ : (!(negF f c == (!(negF f a == negF f b)))) = false := by rw [ob, decide_eq_true k3, Bool.true_and] at ho; exact ho
                simp only [if_neg (show ¬ (false = true) by decide)]
                exact ref20_fma_yes f m _ _ _ _ _ _ _ _ _ _ _ _ _ _ _ 0 0 0 0 0 0 0 0 t _ _ _ _ false false false false false OA OB OC BD G1 G2 (lH PK) (.inr (.inr (.inr (.inr (.inr (.inl ⟨rfl, ga, gb, gc, go_, rfl, IN⟩)))))) w
            · have gc : (clsF f c == 3) = false := beq_eq_false_iff_ne.2 k3
              have ho : fmO f a b c = false := by unfold fmO; exact decide_eq_false (fun k => k3 k.1)
              simp only [ho, if_neg (show ¬ (false = true) by decide)]
              exact ref20_fma_yes f m _ _ _ _ _ _ _ _ _ _ _ _ _ _ _ 0 0 0 0 0 0 0 0 t _ _ _ _ false false false false false OA OB OC BD G1 G2 (lH PK) (.inr (.inr (.inr (.inr (.inr (.inr (.inl ⟨rfl, ga, gb, gc, rfl, IN⟩))))))) w
          · have gb : (clsF f b == 3) = false := beq_eq_false_iff_ne.2 cb
            simp only [if_neg (show ¬ (clsF f a = 3 ∨ clsF f b = 3) by omega)]
            by_cases k3 : clsF f c = 3
            · simp only [if_pos k3]
              exact ref20_fma_yes f m _ _ _ _ _ _ _ _ _ _ _ _ _ _ _ 0 0 0 0 0 0 0 0 t _ _ _ _ false false false false false OA OB OC BD G1 G2 (lH PK) (.inr (.inr (.inr (.inr (.inr (.inr (.inr (.inl ⟨rfl, ga, gb, beq_iff_eq.2 k3, rfl, lH (ref7_inf f (negF f c) f0 f1)⟩)))))))) w
            · have gc : (clsF f c == 3) = false := beq_eq_false_iff_ne.2 k3
              simp only [if_neg k3]
              have VA := lH (ofS19 f a f0 hf a0 a1)
              have VB := lH (ofS19 f b f0 hf b0 b1)
              have VC := lH (ofS19 f c f0 hf c0 c1)
              have ra := uM_113 f0 hf a; have rb := uM_113 f0 hf b; have rc := uM_113 f0 hf c
              have xa := uX_17000 (f := f) f0 hf a0; have xb := uX_17000 (f := f) f0 hf b0; have xc := uX_17000 (f := f) f0 hf c0
              have PR := lH fun w sx sy nx ny => ref19_prodN (negF f a) (negF f b) (uM f a) (uM f b) (uX f a) (uX f b) ra.1 ra.2 rb.1 rb.2 xa.1 xa.2 xb.1 xb.2 sx sy w nx ny
              have ML : 0 ≤ uM f a * uM f b ∧ uM f a * uM f b < 2 ^ 226 := by
                have h1 : uM f a * uM f b ≤ 2 ^ 113 * uM f b := Int.mul_le_mul_of_nonneg_right (by omega) rb.1
                have h2 : (2 : Int) ^ 113 * uM f b < 2 ^ 113 * 2 ^ 113 := Int.mul_lt_mul_of_pos_left rb.2 (two_pow_pos _)
                rw [← Int.pow_add] at h2
                exact ⟨Int.mul_nonneg ra.1 rb.1, by omega⟩
              have rc2 : uM f c < 2 ^ 226 := by have := two_pow_le (show 113 ≤ 226 by omega); omega
              have SG := lH fun w sx sy nx ny => ref18_signedN f m t (mlN f a b) (negF f c) (uM f a * uM f b) (uM f c) (uX f a + uX f b) (uX f c) f0 f1 m0 m1 ML.1 ML.2 rc.1 rc2 (by omega) (by omega) (by omega) (by omega) sx sy w nx ny _ _ _ _ _ rfl rfl rfl rfl rfl
              obtain ⟨r1, r2⟩ := rg_fma (m := m) f0 hf a0 b0 c0 (by omega) (by omega) (by omega) _ _ _ _ _ rfl rfl rfl rfl rfl
              rw [r1, r2] at SG
              exact ref20_fma_yes f m _ _ _ _ _ _ _ _ _ _ _ _ _ _ _ _ _ _ _ _ _ _ _ t _ _ _ _ false _ _ _ _ OA OB OC BD G1 G2 (lH PK) (.inr (.inr (.inr (.inr (.inr (.inr (.inr (.inr (⟨rfl, ga, gb, gc, VA, VB, PR, VC, SG⟩))))))))) w
    · unfold fmB fmFl
      simp only [if_neg (show ¬ (f < 4 ∧ m < 5) from fun k => hm k.2)]
      exact ref20_fma_no2 f m _ _ _ _ _ _ t G1 (decide_eq_true (by omega)) w
  · unfold fmB fmFl
    simp only [if_neg (show ¬ (f < 4 ∧ m < 5) from fun k => hf k.1)]
    exact ref20_fma_no1 f m _ _ _ _ _ _ t (decide_eq_true (by omega)) w
end Go.Proofs.YtdcdbcccchadfaaGreatDoor
