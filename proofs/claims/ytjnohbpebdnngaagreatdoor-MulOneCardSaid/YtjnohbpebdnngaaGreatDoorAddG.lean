/-
  What package addsub's functions answer, over numbers.
-/
import Derived.Test.YtjnohbpebdnngaaGreatDoorAddC
import Derived.Test.YtjnohbpebdnngaaGreatDoorAddD
set_option linter.unusedVariables false
set_option linter.unusedSimpArgs false
set_option maxRecDepth 100000
namespace Go.Proofs.YtjnohbpebdnngaaGreatDoor
open Go.RowKit
attribute [local go_sem ↓] Go.wp_at_zero Go.wp_at_succ

theorem noM_any (m : Int) (t a b : Bool) (w : World) : Calls Tryz.prog 73 #[.agg #[.int .u8 m, .bool t], .bool a, .bool b] w fun e w' => e = .returned (.bool (noM m a b)) ∧ Below w.heap.size w w' := by
  unfold noM
  by_cases h : a = b
  · rw [if_pos h]; exact ad_nought_same m t a b (by simp [h]) w
  · rw [if_neg h]; exact ad_nought_diff m t a b (by simp [h]) w
theorem opp_any (f a b : Int) (w : World) : Calls Tryz.prog 71 #[.agg #[.bool (negF f a), .int .u8 (clsF f a), .int .i64 (uE f a), .int .u64 (hiOf (uS f a)), .int .u64 (loOf (uS f a))], .agg #[.bool (negF f b), .int .u8 (clsF f b), .int .i64 (uE f b), .int .u64 (hiOf (uS f b)), .int .u64 (loOf (uS f b))]] w fun e w' => e = .returned (.bool (adI f a b (negF f b))) ∧ Below w.heap.size w w' := by
  unfold adI
  by_cases h1 : clsF f a = 3
  · by_cases h2 : clsF f b = 3
    · rw [h1, h2, show decide ((3 : Int) = 3 ∧ (3 : Int) = 3 ∧ negF f a ≠ negF f b) = (negF f a != negF f b) by cases negF f a <;> cases negF f b <;> rfl]
      exact ad_opposed_c _ _ _ _ _ _ _ _ w
    · rw [h1, decide_eq_false (fun k => h2 k.2.1)]
      exact ad_opposed_b _ _ _ _ _ _ _ _ _ (beq_eq_false_iff_ne.2 h2) w
  · rw [decide_eq_false (fun k => h1 k.1)]
    exact ad_opposed_a _ _ _ _ _ _ _ _ _ _ (beq_eq_false_iff_ne.2 h1) w
theorem wd_up128 {s : Int} (h0 : 0 ≤ s) (h1 : s < full) : wd0 (s * full) = 0 ∧ wd1 (s * full) = 0 ∧ wd2 (s * full) = loOf s ∧ wd3 (s * full) = hiOf s := by
  unfold wd0 wd1 wd2 wd3 loOf hiOf full at *; omega
theorem sumN (f a b : Int) (f0 : 0 ≤ f) (a0 : 0 ≤ a) (b0 : 0 ≤ b) (w : World) : Calls Tryz.prog 72 #[.agg #[.bool (negF f a), .int .u8 (clsF f a), .int .i64 (uE f a), .int .u64 (hiOf (uS f a)), .int .u64 (loOf (uS f a))], .agg #[.bool (negF f b), .int .u8 (clsF f b), .int .i64 (uE f b), .int .u64 (hiOf (uS f b)), .int .u64 (loOf (uS f b))]] w fun e w' => e = .returned (.tuple #[.agg #[.int .i64 (adE f a b (negF f b)), .int .u64 (wd0 (adS f a b (negF f b))), .int .u64 (wd1 (adS f a b (negF f b))), .int .u64 (wd2 (adS f a b (negF f b))), .int .u64 (wd3 (adS f a b (negF f b)))], .bool (adT f a b (negF f b))]) ∧ Below w.heap.size w w' := by
  obtain ⟨p0, p1⟩ := uS_range f0 a0
  obtain ⟨q0, q1⟩ := uS_range f0 b0
  have ra := room_u (f := f) f0 a0; have rb := room_u (f := f) f0 b0
  have ea := uE_range (f := f) f0 a0; have eb := uE_range (f := f) f0 b0
  obtain ⟨i0, i1, i2, i3⟩ := wd_up128 p0 p1
  obtain ⟨j0, j1, j2, j3⟩ := wd_up128 q0 q1
  have OA := Lib.hid (magOK.of_ (negF f a) (clsF f a) (uE f a) (hiOf (uS f a)) (loOf (uS f a)) (hiOf_u _) (loOf_u _))
  have OB := Lib.hid (magOK.of_ (negF f b) (clsF f b) (uE f b) (hiOf (uS f b)) (loOf (uS f b)) (hiOf_u _) (loOf_u _))
  by_cases h : negF f a = negF f b
  · have SM := magOK.sum (uE f a) (uS f a * full) (uE f b) (uS f b * full) (by omega) (by omega) ra.1 ra.2.1 (by omega) (by omega) rb.1 rb.2.1
    rw [i0, i1, i2, i3, j0, j1, j2, j3] at SM
    unfold adE adS adT
    rw [if_pos h, if_pos h, if_pos h]
    generalize levT (uE f a) (uS f a * full) (uE f b) (uS f b * full) = Lv at SM ⊢
    generalize sumT (uE f a) (uS f a * full) (uE f b) (uS f b * full) = Sv at SM ⊢
    have R := ad_sum_1 _ _ _ _ _ _ _ _ _ _ _ _ _ (negF f a) (negF f b) false OA OB (Lib.hid fun w => ad_added _ _ _ _ _ _ _ _ _ _ _ _ _ _ _ (Lib.hid SM) w) (Lib.hid fun bx bz w c0 c1 => ad_sum1_1 bx bz 0 0 0 0 0 0 0 0 _ _ (by simp [h]) w c0 c1) w
    rw [show (!(negF f a == false)) = negF f a by cases negF f a <;> rfl] at R
    exact R
  · have SM := magOK.diff (uE f a) (uS f a * full) (uE f b) (uS f b * full) (by omega) (by omega) ra.1 ra.2.1 (by omega) (by omega) rb.1 rb.2.1
    rw [i0, i1, i2, i3, j0, j1, j2, j3] at SM
    unfold adE adS adT
    rw [if_neg h, if_neg h, if_neg h]
    have e : (!(negF f a == decide (cmpT (uE f a) (uS f a * full) (uE f b) (uS f b * full) < 0))) = (if cmpT (uE f a) (uS f a * full) (uE f b) (uS f b * full) < 0 then negF f b else negF f a) := by
      by_cases k : cmpT (uE f a) (uS f a * full) (uE f b) (uS f b * full) < 0
      · rw [if_pos k, decide_eq_true k]; revert h; cases negF f a <;> cases negF f b <;> simp
      · rw [if_neg k, decide_eq_false k]; cases negF f a <;> rfl
    rw [← e]
    generalize levT (uE f a) (uS f a * full) (uE f b) (uS f b * full) = Lv at SM ⊢
    generalize diffT (uE f a) (uS f a * full) (uE f b) (uS f b * full) = Sv at SM ⊢
    generalize decide (cmpT (uE f a) (uS f a * full) (uE f b) (uS f b * full) < 0) = Tv at SM ⊢
    exact ad_sum_0 _ _ _ _ _ _ _ _ _ _ _ _ _ (negF f a) (negF f b) _ OA OB (Lib.hid SM) (Lib.hid fun bx bz w c0 c1 => ad_sum1_0 bx bz 0 0 0 0 0 0 0 0 _ _ (by simp [h]) w c0 c1) w
theorem addN (f m : Int) (t : Bool) (a b : Int) (f0 : 0 ≤ f) (f1 : f ≤ 255) (m0 : 0 ≤ m) (m1 : m ≤ 255) (a0 : 0 ≤ a) (a1 : a < full) (b0 : 0 ≤ b) (b1 : b < full) (w : World) (ft : FTab w) : Calls Tryz.prog 31 #[.int .u8 f, .agg #[.int .u8 m, .bool t], .agg #[.int .u64 (hiOf (a)), .int .u64 (loOf (a))], .agg #[.int .u64 (hiOf (b)), .int .u64 (loOf (b))]] w fun e w' => e = .returned (.agg #[.int .u64 (hiOf (adB f m a b (negF f b))), .int .u64 (loOf (adB f m a b (negF f b))), .int .u8 (adFl f m t a b (negF f b))]) ∧ Below w.heap.size w w' := by
  have K := formOK.known f f0 f1
  have M := modeOK.known m m0 m1
  by_cases hf : f < 4
  · rw [decide_eq_true hf] at K
    by_cases hm : m < 5
    · rw [decide_eq_true hm] at M
      have UA := Lib.hid (unpackA f a f0 f1 a0 a1)
      have UB := Lib.hid (unpackA f b f0 f1 b0 b1)
      have OP := Lib.hid (opp_any f a b)
      have PK : ∀ w, FTab w → ∀ p T, HB w p T #[.int .u64 (hiOf a), .int .u64 (loOf a), .int .u64 (hiOf b), .int .u64 (loOf b)] → Calls Tryz.prog 37 #[.int .u8 f, .bool (adI f a b (negF f b)), .slice (some ⟨p, 0, none⟩) 2 2] w fun e w' => e = .returned (.tuple #[.agg #[.int .u64 (hiOf (pickV f (adI f a b (negF f b)) [a, b])), .int .u64 (loOf (pickV f (adI f a b (negF f b)) [a, b])), .int .u8 (pickF f (adI f a b (negF f b)) [a, b])], .bool (pickK f (adI f a b (negF f b)) [a, b])]) ∧ Below w.heap.size w w' := fun w ft p T x => nanOK.pick f (adI f a b (negF f b)) (some ⟨p, 0, none⟩) 2 2 [a, b] f0 f1 w ft (Bs.ofHB [a, b] x rfl (by simp))
      obtain ⟨er0, er1, sr0, sr1⟩ := ad_range (f := f) (negF f b) f0 a0 b0
      unfold adB adFl
      simp only [if_pos (show f < 4 ∧ m < 5 from ⟨hf, hm⟩)]
      cases hp : pickK f (adI f a b (negF f b)) [a, b] with
      | true =>
        rw [hp] at PK
        simp only [if_pos (rfl : true = true)]
        exact ad_Add_yes f m _ _ _ _ _ _ _ _ _ _ _ _ _ _ _ 0 0 0 0 0 0 0 0 t _ _ _ true false false (Lib.hid K) (Lib.hid M) UA UB OP (Lib.hid PK) (.inl rfl) w ft
      | false =>
        rw [hp] at PK
        simp only [if_neg (show ¬ (false = true) by decide)]
        by_cases ca : clsF f a = 3
        · simp only [if_pos ca]
          exact ad_Add_yes f m _ _ _ _ _ _ _ _ _ _ _ _ _ _ _ _ _ 0 0 0 0 0 0 t _ _ _ false false false (Lib.hid K) (Lib.hid M) UA UB OP (Lib.hid PK) (.inr (.inl ⟨rfl, beq_iff_eq.2 ca, rfl, Lib.hid (formOK.inf f (negF f a) f0 f1)⟩)) w ft
        · simp only [if_neg ca]
          have ga : (clsF f a == 3) = false := beq_eq_false_iff_ne.2 ca
          by_cases cb : clsF f b = 3
          · simp only [if_pos cb]
            exact ad_Add_yes f m _ _ _ _ _ _ _ _ _ _ _ _ _ _ _ _ _ 0 0 0 0 0 0 t _ _ _ false false false (Lib.hid K) (Lib.hid M) UA UB OP (Lib.hid PK) (.inr (.inr (.inl ⟨rfl, ga, beq_iff_eq.2 cb, rfl, Lib.hid (formOK.inf f (negF f b) f0 f1)⟩))) w ft
          · simp only [if_neg cb]
            have gb : (clsF f b == 3) = false := beq_eq_false_iff_ne.2 cb
            have SN := Lib.hid (sumN f a b f0 a0 b0)
            have ZR := zeroW (adS f a b (negF f b))
            rw [Int.emod_eq_of_lt sr0 sr1] at ZR
            have RD := fun ng => Lib.hid (packOK.round f m t ng (adE f a b (negF f b)) (adS f a b (negF f b)) f0 f1 m0 m1 er0 er1 sr0 sr1)
            unfold adN
            by_cases z : adS f a b (negF f b) = 0
            · rw [show (adS f a b (negF f b) == 0) = true from beq_iff_eq.2 z] at ZR
              simp only [if_pos z]
              exact ad_Add_yes f m _ _ _ _ _ _ _ _ _ _ _ _ _ _ _ _ _ _ _ _ _ _ _ t _ _ _ false _ _ (Lib.hid K) (Lib.hid M) UA UB OP (Lib.hid PK) (.inr (.inr (.inr (.inl ⟨rfl, ga, gb, SN, Lib.hid ZR, Lib.hid (noM_any m t (negF f a) (negF f b)), RD _⟩)))) w ft
            · rw [show (adS f a b (negF f b) == 0) = false from beq_eq_false_iff_ne.2 z] at ZR
              simp only [if_neg z]
              exact ad_Add_yes f m _ _ _ _ _ _ _ _ _ _ _ _ _ _ _ _ _ _ _ _ _ _ _ t _ _ _ false _ false (Lib.hid K) (Lib.hid M) UA UB OP (Lib.hid PK) (.inr (.inr (.inr (.inr ⟨rfl, ga, gb, SN, Lib.hid ZR, RD _⟩)))) w ft
    · rw [decide_eq_false hm] at M
      unfold adB adFl
      simp only [if_neg (show ¬ (f < 4 ∧ m < 5) from fun k => hm k.2)]
      exact ad_Add_no2 f m _ _ _ _ t (Lib.hid K) (Lib.hid M) w ft
  · rw [decide_eq_false hf] at K
    unfold adB adFl
    simp only [if_neg (show ¬ (f < 4 ∧ m < 5) from fun k => hf k.1)]
    exact ad_Add_no1 f m _ _ _ _ t (Lib.hid K) w ft
theorem turnN (f b : Int) (f0 : 0 ≤ f) (f1 : f ≤ 255) (b0 : 0 ≤ b) (b1 : b < full) (w : World) (ft : FTab w) : Calls Tryz.prog 27 #[.int .u8 f, .agg #[.int .u64 (hiOf (b)), .int .u64 (loOf (b))]] w fun e w' => e = .returned (.agg #[.int .u64 (hiOf (turnF f b)), .int .u64 (loOf (turnF f b))]) ∧ Below w.heap.size w w' := by
  have S := formOK.split f b f0 f1
  rw [Int.emod_eq_of_lt b0 b1] at S
  have er := exp_i64 (f := f) (b := b) f0 b0
  have fr := frac_low (f := f) (b := b) f0
  have Mk := formOK.make f (!negF f b) (expF f b) (fracF f b) f0 f1 er.1 er.2
  rw [Int.emod_eq_of_lt fr.1 fr.2] at Mk
  exact ad_turn f _ _ _ _ _ _ _ _ (Lib.hid S) (Lib.hid Mk) w ft
theorem addOK : AddOK where
  add := fun f m t a b f0 f1 m0 m1 a0 a1 b0 b1 w ft => addN f m t a b f0 f1 m0 m1 a0 a1 b0 b1 w ft
  turn := fun f b f0 f1 b0 b1 w ft => turnN f b f0 f1 b0 b1 w ft
  nought := fun m t a b _ _ w => noM_any m t a b w


end Go.Proofs.YtjnohbpebdnngaaGreatDoor
