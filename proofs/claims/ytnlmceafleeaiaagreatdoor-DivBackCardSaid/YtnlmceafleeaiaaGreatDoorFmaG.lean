import Derived.Test.YtnlmceafleeaiaaGreatDoorGvB
import Derived.Test.YtnlmceafleeaiaaGreatDoorGuB
import Derived.Test.YtnlmceafleeaiaaGreatDoorFmaH
import Derived.Test.YtnlmceafleeaiaaGreatDoorMulT
import Derived.Test.YtnlmceafleeaiaaGreatDoorGtB
import Derived.Test.YtnlmceafleeaiaaGreatDoorGtC
import Derived.Test.YtnlmceafleeaiaaGreatDoorAddT
import Derived.Test.YtnlmceafleeaiaaGreatDoorGjB
import Derived.Test.YtnlmceafleeaiaaGreatDoorGeB
set_option maxHeartbeats 1000000
set_option linter.unusedVariables false
set_option linter.unusedSimpArgs false
set_option maxRecDepth 100000
namespace Go.Proofs.YtnlmceafleeaiaaGreatDoor
open Go.RowKit
attribute [local go_sem ↓] Go.wp_at_zero Go.wp_at_succ
theorem fm_multN (f a b : Int) (f0 : 0 ≤ f) (a0 : 0 ≤ a) (b0 : 0 ≤ b) (w : World) : Calls Tryz.prog 51 #[.agg #[.bool (negF f a), .int .u8 (clsF f a), .int .i64 (uE f a), .int .u64 (hiOf (uS f a)), .int .u64 (loOf (uS f a))], .agg #[.bool (negF f b), .int .u8 (clsF f b), .int .i64 (uE f b), .int .u64 (hiOf (uS f b)), .int .u64 (loOf (uS f b))]] w fun e w' => e = .returned (.agg #[.int .i64 (mlE f a b), .int .u64 (wd0 (mlS f a b)), .int .u64 (wd1 (mlS f a b)), .int .u64 (wd2 (mlS f a b)), .int .u64 (wd3 (mlS f a b)), .bool (mlN f a b), .bool ((clsF f a == 3 || clsF f b == 3))]) ∧ Below w.heap.size w w' := by
  obtain ⟨s0, s1⟩ := uS_range (f := f) f0 a0
  obtain ⟨z0, z1⟩ := uS_range (f := f) f0 b0
  have TM := lH (mul_term (negF f a) (clsF f a) (uE f a) (uS f a) (negF f b) (clsF f b) (uE f b) (uS f b) s0 s1 z0 z1)
  have IN := lH fun w p T x => fm_infinite2 p T (negF f a) (negF f b) (clsF f a) (uE f a) (hiOf (uS f a)) (loOf (uS f a)) (clsF f b) (uE f b) (hiOf (uS f b)) (loOf (uS f b)) w x
  exact fm_multiplied _ _ _ _ _ _ _ _ _ _ _ _ _ _ _ _ TM IN w
theorem fm_oppN (e s0 s1 s2 s3 : Int) (pn pi sc : Bool) (kc ec zh zl : Int) (w : World) : Calls Tryz.prog 52 #[.agg #[.int .i64 e, .int .u64 s0, .int .u64 s1, .int .u64 s2, .int .u64 s3, .bool pn, .bool pi], .agg #[.bool sc, .int .u8 kc, .int .i64 ec, .int .u64 zh, .int .u64 zl]] w fun e9 w' => e9 = .returned (.bool (pi && (kc == 3) && (pn != sc))) ∧ Below w.heap.size w w' := by
  cases pi with
  | false => exact fm_opp_a _ _ _ _ _ _ _ _ _ _ _ w
  | true =>
    have IN := fun w p T x => fm_infinite1 p T sc kc ec zh zl w x
    cases h : (kc == 3) with
    | false => rw [h] at IN; exact fm_opp_b _ _ _ _ _ _ _ _ _ _ _ (lH IN) w
    | true => rw [h] at IN; exact fm_opp_c _ _ _ _ _ _ _ _ _ _ _ (lH IN) w
theorem fm_raisedN (e s : Int) (pn pi : Bool) (h0 : 0 ≤ s) (h1 : s < wfull) (e0 : -9223372036854775807 ≤ e) (e1 : e ≤ 9223372036854775807) (w : World) : Calls Tryz.prog 124 #[.agg #[.int .i64 (e), .int .u64 (wd0 (s)), .int .u64 (wd1 (s)), .int .u64 (wd2 (s)), .int .u64 (wd3 (s)), .bool (pn), .bool (pi)]] w fun e9 w' => e9 = .returned (.agg #[.int .i64 (rdE e s), .int .u64 (wd0 (rdS s)), .int .u64 (wd1 (rdS s)), .int .u64 (wd2 (rdS s)), .int .u64 (wd3 (rdS s))]) ∧ Below w.heap.size w w' := by
  have A := addW s s
  rw [Int.emod_eq_of_lt h0 h1] at A
  unfold rdE rdS
  by_cases k : wfull ≤ s + s
  · rw [decide_eq_true k] at A
    simp only [if_pos k]
    exact fm_raised_yes _ _ _ _ _ _ _ _ _ _ _ (lH A) w
  · rw [decide_eq_false k] at A
    simp only [if_neg k]
    exact fm_raised_no _ _ _ _ _ _ _ _ _ _ _ _ (lH A) (IntWalk.i64_in _ (by omega)) (by unfold wrap64; omega) w
theorem fm_plusN (f a b c : Int) (pi : Bool) (f0 : 0 ≤ f) (a0 : 0 ≤ a) (b0 : 0 ≤ b) (c0 : 0 ≤ c) (w : World) : Calls Tryz.prog 54 #[.agg #[.int .i64 (mlE f a b), .int .u64 (wd0 (mlS f a b)), .int .u64 (wd1 (mlS f a b)), .int .u64 (wd2 (mlS f a b)), .int .u64 (wd3 (mlS f a b)), .bool (mlN f a b), .bool (pi)], .agg #[.bool (negF f c), .int .u8 (clsF f c), .int .i64 (uE f c), .int .u64 (hiOf (uS f c)), .int .u64 (loOf (uS f c))]] w fun e w' => e = .returned (.tuple #[.agg #[.int .i64 (fpE f a b c), .int .u64 (wd0 (fpS f a b c)), .int .u64 (wd1 (fpS f a b c)), .int .u64 (wd2 (fpS f a b c)), .int .u64 (wd3 (fpS f a b c))], .bool (fmT f a b c)]) ∧ Below w.heap.size w w' := by
  obtain ⟨p0, p1⟩ := uS_range f0 c0
  have rc := room_u (f := f) f0 c0
  have rp := rd_room (ml_room (f := f) f0 a0 b0)
  have ec := uE_range (f := f) f0 c0
  have me := mlE_small (f := f) f0 a0 b0
  have er := rd_range (s := mlS f a b) me.1 me.2
  have mr := ml_range (f := f) f0 a0 b0
  obtain ⟨j0, j1, j2, j3⟩ := wd_up128 p0 p1
  have OC := lH (magOK.of_ (negF f c) (clsF f c) (uE f c) (hiOf (uS f c)) (loOf (uS f c)) (hiOf_u _) (loOf_u _))
  have RS := lH (fm_raisedN (mlE f a b) (mlS f a b) (mlN f a b) pi mr.2.2.1 mr.2.2.2 (by omega) (by omega))
  by_cases h : mlN f a b = negF f c
  · have SM := magOK.sum (rdE (mlE f a b) (mlS f a b)) (rdS (mlS f a b)) (uE f c) (uS f c * full) (by omega) (by omega) rp.1 rp.2.1 (by omega) (by omega) rc.1 rc.2.1
    rw [j0, j1, j2, j3] at SM
    unfold fpE fpS fmT
    simp only [if_pos h]
    generalize levT (rdE (mlE f a b) (mlS f a b)) (rdS (mlS f a b)) (uE f c) (uS f c * full) = Lv at SM ⊢
    generalize sumT (rdE (mlE f a b) (mlS f a b)) (rdS (mlS f a b)) (uE f c) (uS f c * full) = Sv at SM ⊢
    exact fm_plus_same _ _ _ _ _ _ _ _ _ _ _ _ _ _ _ _ _ _ _ _ _ _ RS OC (lH SM) (by simp [h]) w
  · have SM := magOK.diff (rdE (mlE f a b) (mlS f a b)) (rdS (mlS f a b)) (uE f c) (uS f c * full) (by omega) (by omega) rp.1 rp.2.1 (by omega) (by omega) rc.1 rc.2.1
    rw [j0, j1, j2, j3] at SM
    rw [← fp_neg (c := c) f0 a0 b0 h]
    unfold fpE fpS
    simp only [if_neg h]
    generalize levT (rdE (mlE f a b) (mlS f a b)) (rdS (mlS f a b)) (uE f c) (uS f c * full) = Lv at SM ⊢
    generalize diffT (rdE (mlE f a b) (mlS f a b)) (rdS (mlS f a b)) (uE f c) (uS f c * full) = Sv at SM ⊢
    generalize decide (cmpT (rdE (mlE f a b) (mlS f a b)) (rdS (mlS f a b)) (uE f c) (uS f c * full) < 0) = Tv at SM ⊢
    exact fm_plus_diff _ _ _ _ _ _ _ _ _ _ _ _ _ _ _ _ _ _ _ _ _ _ _ RS OC (lH SM) (by simp [h]) w
theorem fm_oj (f a b c : Int) : (true && (clsF f c == 3) && (mlN f a b != negF f c)) = fmO f a b c := by
  unfold fmO
  by_cases h : clsF f c = 3
  · rw [h]; cases mlN f a b <;> cases negF f c <;> rfl
  · rw [decide_eq_false (fun k => h k.1), show (clsF f c == 3) = false from beq_eq_false_iff_ne.2 h]; rfl
theorem fmaN (f m : Int) (t : Bool) (a b c : Int) (f0 : 0 ≤ f) (f1 : f ≤ 255) (m0 : 0 ≤ m) (m1 : m ≤ 255) (a0 : 0 ≤ a) (a1 : a < full) (b0 : 0 ≤ b) (b1 : b < full) (c0 : 0 ≤ c) (c1 : c < full) (w : World) (ft : FTab w) : Calls Tryz.prog 17 #[.int .u8 f, .agg #[.int .u8 m, .bool t], .agg #[.int .u64 (hiOf (a)), .int .u64 (loOf (a))], .agg #[.int .u64 (hiOf (b)), .int .u64 (loOf (b))], .agg #[.int .u64 (hiOf (c)), .int .u64 (loOf (c))]] w fun e w' => e = .returned (.agg #[.int .u64 (hiOf (fmB f m a b c)), .int .u64 (loOf (fmB f m a b c)), .int .u8 (fmFl f m t a b c)]) ∧ Below w.heap.size w w' := by
  have K := formOK.known f f0 f1
  have M := modeOK.known m m0 m1
  by_cases hf : f < 4
  · rw [decide_eq_true hf] at K
    by_cases hm : m < 5
    · rw [decide_eq_true hm] at M
      have UA := lH (unpackA f a f0 f1 a0 a1)
      have UB := lH (unpackA f b f0 f1 b0 b1)
      have UC := lH (unpackA f c f0 f1 c0 c1)
      have BD := lH (mul_bad (negF f a) (clsF f a) (uE f a) (hiOf (uS f a)) (loOf (uS f a)) (negF f b) (clsF f b) (uE f b) (hiOf (uS f b)) (loOf (uS f b)))
      have PK : ∀ (i : Bool) w, FTab w → ∀ p T, HB w p T #[.int .u64 (hiOf a), .int .u64 (loOf a), .int .u64 (hiOf b), .int .u64 (loOf b), .int .u64 (hiOf c), .int .u64 (loOf c)] → Calls Tryz.prog 43 #[.int .u8 f, .bool i, .slice (some ⟨p, 0, none⟩) 3 3] w fun e w' => e = .returned (.tuple #[.agg #[.int .u64 (hiOf (pickV f i [a, b, c])), .int .u64 (loOf (pickV f i [a, b, c])), .int .u8 (pickF f i [a, b, c])], .bool (pickK f i [a, b, c])]) ∧ Below w.heap.size w w' := fun i w ft p T x => nanOK.pick f i (some ⟨p, 0, none⟩) 3 3 [a, b, c] f0 f1 w ft (Bs.ofHB [a, b, c] x rfl (by simp))
      have MP := fm_multN f a b f0 a0 b0
      have OP := fm_oppN (mlE f a b) (wd0 (mlS f a b)) (wd1 (mlS f a b)) (wd2 (mlS f a b)) (wd3 (mlS f a b)) (mlN f a b) (clsF f a == 3 || clsF f b == 3) (negF f c) (clsF f c) (uE f c) (hiOf (uS f c)) (loOf (uS f c))
      obtain ⟨j1, j2, j3⟩ := pick_inv hf [a, b, c]
      unfold fmB fmFl
      simp only [if_pos (show f < 4 ∧ m < 5 from ⟨hf, hm⟩)]
      have P1 := PK (mlI f a b)
      cases hp : pickK f (mlI f a b) [a, b, c] with
      | true =>
        rw [hp] at P1
        simp only [if_pos (rfl : true = true)]
        exact fm_Fma_h f m _ _ _ _ _ _ _ _ _ _ _ _ _ _ _ _ _ _ 0 0 0 0 0 _ _ _ 0 0 0 0 0 0 0 0 0 0 0 t _ _ _ _ false false false false false true false (lH K) (lH M) UA UB UC BD (lH P1) (.inl rfl) w ft
      | false =>
        rw [hp] at P1
        simp only [if_neg (show ¬ (false = true) by decide)]
        have hi : mlI f a b = false := by
          cases h : mlI f a b with
          | false => rfl
          | true => rw [h, j3] at hp; exact absurd hp (by decide)
        have PF := PK false
        rw [hi] at hp
        rw [hp] at PF
        have PT := PK true
        rw [j3] at PT
        have IZ := fun w p T x => fm_infinite1 p T (negF f c) (clsF f c) (uE f c) (hiOf (uS f c)) (loOf (uS f c)) w x
        by_cases c3 : clsF f a = 3 ∨ clsF f b = 3
        · have pi1 : (clsF f a == 3 || clsF f b == 3) = true := by simpa using c3
          rw [pi1] at MP OP
          simp only [if_pos c3]
          rw [fm_oj] at OP
          cases ho : fmO f a b c with
          | true =>
            rw [ho] at OP
            simp only [if_pos (rfl : true = true)]
            exact fm_Fma_h f m _ _ _ _ _ _ _ _ _ _ _ _ _ _ _ _ _ _ _ _ _ _ _ _ _ _ _ _ _ 0 0 0 0 0 0 0 0 t _ _ _ _ _ _ _ false false false true (lH K) (lH M) UA UB UC BD (lH P1) (.inr ⟨rfl, lH PT, lH MP, lH OP, .inl rfl⟩) w ft
          | false =>
            rw [ho] at OP
            simp only [if_neg (show ¬ (false = true) by decide)]
            exact fm_Fma_h f m _ _ _ _ _ _ _ _ _ _ _ _ _ _ _ _ _ _ _ _ _ _ _ _ _ _ _ _ _ _ _ 0 0 0 0 0 0 t _ _ _ _ _ _ true false false false false (lH K) (lH M) UA UB UC BD (lH P1) (.inr ⟨rfl, lH PF, lH MP, lH OP, .inr (.inl ⟨rfl, rfl, rfl, lH (formOK.inf f (mlN f a b) f0 f1)⟩)⟩) w ft
        · have pi0 : (clsF f a == 3 || clsF f b == 3) = false := by
            rw [Bool.or_eq_false_iff, beq_eq_false_iff_ne, beq_eq_false_iff_ne]
            exact ⟨fun k => c3 (.inl k), fun k => c3 (.inr k)⟩
          rw [pi0] at MP OP
          rw [Bool.false_and, Bool.false_and] at OP
          simp only [if_neg c3]
          by_cases k3 : clsF f c = 3
          · rw [show (clsF f c == 3) = true from beq_iff_eq.2 k3] at IZ
            simp only [if_pos k3]
            exact fm_Fma_h f m _ _ _ _ _ _ _ _ _ _ _ _ _ _ _ _ _ _ _ _ _ _ _ _ _ _ _ _ _ _ _ 0 0 0 0 0 0 t _ _ _ _ _ _ false false false false false (lH K) (lH M) UA UB UC BD (lH P1) (.inr ⟨rfl, lH PF, lH MP, lH OP, .inr (.inr (.inl ⟨rfl, rfl, rfl, lH IZ, lH (formOK.inf f (negF f c) f0 f1)⟩))⟩) w ft
          · rw [show (clsF f c == 3) = false from beq_eq_false_iff_ne.2 k3] at IZ
            simp only [if_neg k3]
            have PS := lH (fm_plusN f a b c false f0 a0 b0 c0)
            obtain ⟨er0, er1, sr0, sr1⟩ := fp_range (f := f) f0 a0 b0 c0
            have ZR := zeroW (fpS f a b c)
            rw [Int.emod_eq_of_lt sr0 sr1] at ZR
            have RD := fun ng => packOK.round f m t ng (fpE f a b c) (fpS f a b c) f0 f1 m0 m1 er0 er1 sr0 sr1
            obtain ⟨x1, x2, x3⟩ := fp_fm (m := m) (ng := fmN f m a b c) f0 a0 b0 c0
            have R := RD (fmN f m a b c)
            rw [x1, x2 t] at R
            by_cases z : fpS f a b c = 0
            · rw [show (fpS f a b c == 0) = true from beq_iff_eq.2 z] at ZR
              have nz : fmN f m a b c = noM m (mlN f a b) (negF f c) := by unfold fmN; rw [if_pos (x3.1 z)]
              rw [nz] at R ⊢
              exact fm_Fma_h f m _ _ _ _ _ _ _ _ _ _ _ _ _ _ _ _ _ _ _ _ _ _ _ _ _ _ _ _ _ _ _ _ _ _ _ _ _ t _ _ _ _ _ _ false _ _ false false (lH K) (lH M) UA UB UC BD (lH P1) (.inr ⟨rfl, lH PF, lH MP, lH OP, .inr (.inr (.inr (.inl ⟨rfl, rfl, lH IZ, PS, lH ZR, lH (noM_any m t (mlN f a b) (negF f c)), lH R⟩)))⟩) w ft
            · rw [show (fpS f a b c == 0) = false from beq_eq_false_iff_ne.2 z] at ZR
              have nz : fmN f m a b c = fmT f a b c := by unfold fmN; rw [if_neg (fun k => z (x3.2 k))]
              rw [nz] at R ⊢
              exact fm_Fma_h f m _ _ _ _ _ _ _ _ _ _ _ _ _ _ _ _ _ _ _ _ _ _ _ _ _ _ _ _ _ _ _ _ _ _ _ _ _ t _ _ _ _ _ _ false _ false false false (lH K) (lH M) UA UB UC BD (lH P1) (.inr ⟨rfl, lH PF, lH MP, lH OP, .inr (.inr (.inr (.inr ⟨rfl, rfl, lH IZ, PS, lH ZR, lH R⟩)))⟩) w ft
    · rw [decide_eq_false hm] at M
      unfold fmB fmFl
      simp only [if_neg (show ¬ (f < 4 ∧ m < 5) from fun k => hm k.2)]
      exact fm_Fma_no2 f m _ _ _ _ _ _ t (lH K) (lH M) w ft
  · rw [decide_eq_false hf] at K
    unfold fmB fmFl
    simp only [if_neg (show ¬ (f < 4 ∧ m < 5) from fun k => hf k.1)]
    exact fm_Fma_no1 f m _ _ _ _ _ _ t (lH K) w ft
theorem fmaOK : FmaOK where
  fma := fun f m t a b c f0 f1 m0 m1 a0 a1 b0 b1 c0 c1 w ft => fmaN f m t a b c f0 f1 m0 m1 a0 a1 b0 b1 c0 c1 w ft
end Go.Proofs.YtnlmceafleeaiaaGreatDoor
