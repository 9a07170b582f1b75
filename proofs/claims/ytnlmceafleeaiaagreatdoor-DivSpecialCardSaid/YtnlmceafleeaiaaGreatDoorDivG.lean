import Derived.Test.YtnlmceafleeaiaaGreatDoorGvA
import Derived.Test.YtnlmceafleeaiaaGreatDoorDivC
import Derived.Test.YtnlmceafleeaiaaGreatDoorDivR
import Derived.Test.YtnlmceafleeaiaaGreatDoorDivD
import Derived.Test.YtnlmceafleeaiaaGreatDoorGqA
import Derived.Test.YtnlmceafleeaiaaGreatDoorGtC
import Derived.Test.YtnlmceafleeaiaaGreatDoorGjB
import Derived.Test.YtnlmceafleeaiaaGreatDoorGeB
import Derived.Test.YtnlmceafleeaiaaGreatDoorGfA
import Derived.Test.YtnlmceafleeaiaaGreatDoorGmA
import Derived.Test.YtnlmceafleeaiaaGreatDoorGsB
set_option maxHeartbeats 1000000
set_option linter.unusedVariables false
set_option linter.unusedSimpArgs false
set_option maxRecDepth 100000
namespace Go.Proofs.YtnlmceafleeaiaaGreatDoor
open Go.RowKit
attribute [local go_sem ↓] Go.wp_at_zero Go.wp_at_succ
theorem dv_invN (f m ah al bh bl ca ea xh xl cb eb yh yl : Int) (t sa sb : Bool) (w : World) : Calls Tryz.prog 138 #[.agg #[.int .u8 f, .int .u8 m, .bool t, .int .u64 ah, .int .u64 al, .int .u64 bh, .int .u64 bl, .bool sa, .int .u8 ca, .int .i64 ea, .int .u64 xh, .int .u64 xl, .bool sb, .int .u8 cb, .int .i64 eb, .int .u64 yh, .int .u64 yl]] w fun e w' => e = .returned (.bool (badD ca cb)) ∧ Below w.heap.size w w' := by
  unfold badD
  by_cases h : ca = cb
  · by_cases h3 : ca = 3
    · rw [decide_eq_true (by omega)]; exact dv_inv_b f m ah al bh bl ca ea xh xl cb eb yh yl t sa sb (beq_iff_eq.2 h) (beq_iff_eq.2 h3) w
    · have e : decide ((ca = 0 ∧ cb = 0) ∨ (ca = 3 ∧ cb = 3)) = (ca == 0) := by
        rw [Bool.eq_iff_iff]; simp only [decide_eq_true_eq, beq_iff_eq]; omega
      rw [e]; exact dv_inv_c f m ah al bh bl ca ea xh xl cb eb yh yl t sa sb (beq_iff_eq.2 h) (beq_eq_false_iff_ne.2 h3) w
  · rw [decide_eq_false (by omega)]; exact dv_inv_a f m ah al bh bl ca ea xh xl cb eb yh yl t sa sb (beq_eq_false_iff_ne.2 h) w
theorem dv_sp2N (f m ah al bh bl ca ea xh xl cb eb yh yl : Int) (t sa sb : Bool) (w : World) : Calls Tryz.prog 76 #[.agg #[.int .u8 f, .int .u8 m, .bool t, .int .u64 ah, .int .u64 al, .int .u64 bh, .int .u64 bl, .bool sa, .int .u8 ca, .int .i64 ea, .int .u64 xh, .int .u64 xl, .bool sb, .int .u8 cb, .int .i64 eb, .int .u64 yh, .int .u64 yl]] w fun e w' => e = .returned (.bool (cb == 3 || ca == 0)) ∧ Below w.heap.size w w' := by
  cases h : (cb == 3) with
  | true => exact dv_sp2a f m ah al bh bl ca ea xh xl cb eb yh yl t sa sb h w
  | false => exact dv_sp2b f m ah al bh bl ca ea xh xl cb eb yh yl t sa sb h w
theorem wd_jam {x : Int} (h : x % 2 = 0) : bits .or .u64 (wd0 x) 1 = wd0 (x + 1) ∧ wd1 (x + 1) = wd1 x ∧ wd2 (x + 1) = wd2 x ∧ wd3 (x + 1) = wd3 x := by
  rw [or_one (wd0_u x)]
  refine ⟨?_, ?_, ?_, ?_⟩
  · unfold wd0; omega
  · unfold wd1; omega
  · unfold wd2; omega
  · unfold wd3; omega
theorem dv_roundedN (f m : Int) (t : Bool) (a b : Int) (f0 : 0 ≤ f) (f1 : f ≤ 255) (m0 : 0 ≤ m) (m1 : m ≤ 255) (a0 : 0 ≤ a) (a1 : a < full) (b0 : 0 ≤ b) (b1 : b < full) (hf : f < 4) (ca : clsF f a = 1 ∨ clsF f a = 2) (cb : clsF f b = 1 ∨ clsF f b = 2) (w : World) (ft : FTab w) : Calls Tryz.prog 32 #[.agg #[.int .u8 f, .int .u8 m, .bool t, .int .u64 (hiOf (a)), .int .u64 (loOf (a)), .int .u64 (hiOf (b)), .int .u64 (loOf (b)), .bool (negF f a), .int .u8 (clsF f a), .int .i64 (uE f a), .int .u64 (hiOf (uS f a)), .int .u64 (loOf (uS f a)), .bool (negF f b), .int .u8 (clsF f b), .int .i64 (uE f b), .int .u64 (hiOf (uS f b)), .int .u64 (loOf (uS f b))]] w fun e w' => e = .returned (.agg #[.int .u64 (hiOf (pkB f m (mlN f a b) (dvE f a b) (dvS f a b))), .int .u64 (loOf (pkB f m (mlN f a b) (dvE f a b) (dvS f a b))), .int .u8 (pkFl f m t (mlN f a b) (dvE f a b) (dvS f a b))]) ∧ Below w.heap.size w w' := by
  have NG : ∀ w, Calls Tryz.prog 84 #[.agg #[.int .u8 f, .int .u8 m, .bool t, .int .u64 (hiOf (a)), .int .u64 (loOf (a)), .int .u64 (hiOf (b)), .int .u64 (loOf (b)), .bool (negF f a), .int .u8 (clsF f a), .int .i64 (uE f a), .int .u64 (hiOf (uS f a)), .int .u64 (loOf (uS f a)), .bool (negF f b), .int .u8 (clsF f b), .int .i64 (uE f b), .int .u64 (hiOf (uS f b)), .int .u64 (loOf (uS f b))]] w fun e w' => e = .returned (.bool (mlN f a b)) ∧ Below w.heap.size w w' := fun w => dv_negative f m (hiOf a) (loOf a) (hiOf b) (loOf b) (clsF f a) (uE f a) (hiOf (uS f a)) (loOf (uS f a)) (clsF f b) (uE f b) (hiOf (uS f b)) (loOf (uS f b)) t (negF f a) (negF f b) w
  obtain ⟨_, _, s0, s1, _⟩ := un_range f0 hf a0 ca
  obtain ⟨_, _, t0, t1, _⟩ := un_range f0 hf b0 cb
  have hp := two_pow_pos 127
  have er := dvE_range (f := f) f0 a0 b0
  obtain ⟨d0, d1⟩ := dv_range f0 hf a0 b0 ca cb
  have hp2 := two_pow_pos 254
  have RD := lH (packOK.round f m t (mlN f a b) (dvE f a b) (dvS f a b) f0 f1 m0 m1 (by omega) (by omega) (by omega) d1)
  have JW := joinW (uS f a) 0
  have fp : (0 : Int) < full := by decide
  have ej : uS f a % full * full + 0 % full = uS f a * full := by
    rw [Int.emod_eq_of_lt (by omega) s1, Int.emod_eq_of_lt (Int.le_refl 0) fp]; omega
  rw [ej, show hiOf 0 = 0 from rfl, show loOf 0 = 0 from rfl] at JW
  have w2 : wfull = full * full := by decide +kernel
  have n1 : uS f a * full < wfull := by rw [w2]; exact Int.mul_lt_mul_of_pos_right s1 fp
  have n0 : 0 ≤ uS f a * full := Int.mul_nonneg (by omega) (by omega)
  have DQ := divQ (uS f a * full) (uS f b) (by rw [Int.emod_eq_of_lt (by omega) t1]; omega)
  rw [Int.emod_eq_of_lt n0 n1, Int.emod_eq_of_lt (show 0 ≤ uS f b by omega) t1] at DQ
  have r0 := Int.emod_nonneg (uS f a * full) (show uS f b ≠ 0 by omega)
  have r1 := Int.emod_lt_of_pos (uS f a * full) (show 0 < uS f b by omega)
  have WL := wleftW (uS f a * full / uS f b) 127 (by decide) (by decide)
  rw [show (127 : Int).toNat = 127 from rfl] at WL
  have ZR := zeroB (uS f a * full % uS f b)
  rw [Int.emod_eq_of_lt r0 (by omega)] at ZR
  have eS : dvS f a b = uS f a * full / uS f b * 2 ^ 127 + (if uS f a * full % uS f b = 0 then 0 else 1) := rfl
  have ev : uS f a * full / uS f b * 2 ^ 127 % 2 = 0 := by
    rw [show (2 : Int) ^ 127 = 2 ^ 126 * 2 from by decide +kernel, ← Int.mul_assoc]; exact Int.mul_emod_left ..
  by_cases z : uS f a * full % uS f b = 0
  · rw [show (uS f a * full % uS f b == 0) = true from beq_iff_eq.2 z] at ZR
    rw [if_pos z, Int.add_zero] at eS
    rw [← eS] at WL
    exact dv_rounded_exact f m (hiOf a) (loOf a) (hiOf b) (loOf b) (clsF f a) (uE f a) (hiOf (uS f a)) (loOf (uS f a)) (clsF f b) (uE f b) (hiOf (uS f b)) (loOf (uS f b)) _ _ _ _ _ _ _ _ _ _ _ _ _ _ _ _ _ _ t (negF f a) (negF f b) _ (lH JW) (lH DQ) (lH WL) (lH ZR) (lH NG) RD (IntWalk.i64_in _ (by unfold dvE at er; omega)) (by show wrap64 (uE f a - uE f b) = uE f a - uE f b; unfold dvE at er; unfold wrap64; omega) w ft
  · rw [show (uS f a * full % uS f b == 0) = false from beq_eq_false_iff_ne.2 z] at ZR
    rw [if_neg z] at eS
    obtain ⟨o0, o1, o2, o3⟩ := wd_jam ev
    rw [← eS] at o0 o1 o2 o3
    rw [← o1, ← o2, ← o3] at WL
    exact dv_rounded_jam f m (hiOf a) (loOf a) (hiOf b) (loOf b) (clsF f a) (uE f a) (hiOf (uS f a)) (loOf (uS f a)) (clsF f b) (uE f b) (hiOf (uS f b)) (loOf (uS f b)) _ _ _ _ _ _ _ _ _ _ _ _ _ _ _ _ _ _ _ t (negF f a) (negF f b) _ (lH JW) (lH DQ) (lH WL) (lH ZR) (lH NG) RD (IntWalk.i64_in _ (by unfold dvE at er; omega)) (by show wrap64 (uE f a - uE f b) = uE f a - uE f b; unfold dvE at er; unfold wrap64; omega) o0 w ft
theorem divN (f m : Int) (t : Bool) (a b : Int) (f0 : 0 ≤ f) (f1 : f ≤ 255) (m0 : 0 ≤ m) (m1 : m ≤ 255) (a0 : 0 ≤ a) (a1 : a < full) (b0 : 0 ≤ b) (b1 : b < full) (w : World) (ft : FTab w) : Calls Tryz.prog 10 #[.int .u8 f, .agg #[.int .u8 m, .bool t], .agg #[.int .u64 (hiOf (a)), .int .u64 (loOf (a))], .agg #[.int .u64 (hiOf (b)), .int .u64 (loOf (b))]] w fun e w' => e = .returned (.agg #[.int .u64 (hiOf (dvB f m a b)), .int .u64 (loOf (dvB f m a b)), .int .u8 (dvFl f m t a b)]) ∧ Below w.heap.size w w' := by
  have K := formOK.known f f0 f1
  have M := modeOK.known m m0 m1
  by_cases hf : f < 4
  · rw [decide_eq_true hf] at K
    by_cases hm : m < 5
    · rw [decide_eq_true hm] at M
      have FM : f < 4 ∧ m < 5 := ⟨hf, hm⟩
      have UA := lH (unpackA f a f0 f1 a0 a1)
      have UB := lH (unpackA f b f0 f1 b0 b1)
      have PK : ∀ w, FTab w → ∀ p T, HB w p T #[.int .u64 (hiOf a), .int .u64 (loOf a), .int .u64 (hiOf b), .int .u64 (loOf b)] → Calls Tryz.prog 43 #[.int .u8 f, .bool (dvI f a b), .slice (some ⟨p, 0, none⟩) 2 2] w fun e w' => e = .returned (.tuple #[.agg #[.int .u64 (hiOf (pickV f (dvI f a b) [a, b])), .int .u64 (loOf (pickV f (dvI f a b) [a, b])), .int .u8 (pickF f (dvI f a b) [a, b])], .bool (pickK f (dvI f a b) [a, b])]) ∧ Below w.heap.size w w' := fun w ft p T x => nanOK.pick f (dvI f a b) (some ⟨p, 0, none⟩) 2 2 [a, b] f0 f1 w ft (Bs.ofHB [a, b] x rfl (by simp))
      have IV := lH fun w => dv_invN f m (hiOf a) (loOf a) (hiOf b) (loOf b) (clsF f a) (uE f a) (hiOf (uS f a)) (loOf (uS f a)) (clsF f b) (uE f b) (hiOf (uS f b)) (loOf (uS f b)) t (negF f a) (negF f b) w
      have NG : ∀ w, Calls Tryz.prog 84 #[.agg #[.int .u8 f, .int .u8 m, .bool t, .int .u64 (hiOf (a)), .int .u64 (loOf (a)), .int .u64 (hiOf (b)), .int .u64 (loOf (b)), .bool (negF f a), .int .u8 (clsF f a), .int .i64 (uE f a), .int .u64 (hiOf (uS f a)), .int .u64 (loOf (uS f a)), .bool (negF f b), .int .u8 (clsF f b), .int .i64 (uE f b), .int .u64 (hiOf (uS f b)), .int .u64 (loOf (uS f b))]] w fun e w' => e = .returned (.bool (mlN f a b)) ∧ Below w.heap.size w w' := fun w => dv_negative f m (hiOf a) (loOf a) (hiOf b) (loOf b) (clsF f a) (uE f a) (hiOf (uS f a)) (loOf (uS f a)) (clsF f b) (uE f b) (hiOf (uS f b)) (loOf (uS f b)) t (negF f a) (negF f b) w
      have NH := lH NG
      refine dv_Div_yes f m (hiOf a) (loOf a) (hiOf b) (loOf b) (clsF f a) (uE f a) (hiOf (uS f a)) (loOf (uS f a)) (clsF f b) (uE f b) (hiOf (uS f b)) (loOf (uS f b)) _ _ _ t (negF f a) (negF f b) _ _ _ _ (lH K) (lH M) UA UB (lH fun w ft => dv_undefined f m (hiOf a) (loOf a) (hiOf b) (loOf b) (clsF f a) (uE f a) (hiOf (uS f a)) (loOf (uS f a)) (clsF f b) (uE f b) (hiOf (uS f b)) (loOf (uS f b)) _ _ _ t (negF f a) (negF f b) _ _ IV (lH PK) w ft) (lH fun w _ => dv_sp1 f m (hiOf a) (loOf a) (hiOf b) (loOf b) (clsF f a) (uE f a) (hiOf (uS f a)) (loOf (uS f a)) (clsF f b) (uE f b) (hiOf (uS f b)) (loOf (uS f b)) t (negF f a) (negF f b) w) (lH fun w _ => dv_sp2N f m (hiOf a) (loOf a) (hiOf b) (loOf b) (clsF f a) (uE f a) (hiOf (uS f a)) (loOf (uS f a)) (clsF f b) (uE f b) (hiOf (uS f b)) (loOf (uS f b)) t (negF f a) (negF f b) w) (lH fun w _ => dv_sp3 f m (hiOf a) (loOf a) (hiOf b) (loOf b) (clsF f a) (uE f a) (hiOf (uS f a)) (loOf (uS f a)) (clsF f b) (uE f b) (hiOf (uS f b)) (loOf (uS f b)) t (negF f a) (negF f b) w) ?_ ?_ ?_ ?_ ?_ w ft
      · refine lH fun h => ?_
        have e1 : dvB f m a b = pickV f (dvI f a b) [a, b] := by unfold dvB; rw [if_pos FM, if_pos h]
        have e2 : dvFl f m t a b = pickF f (dvI f a b) [a, b] := by unfold dvFl; rw [if_pos FM, if_pos h]
        rw [e1, e2]
        exact fun w ft => dv_picked f m (hiOf a) (loOf a) (hiOf b) (loOf b) (clsF f a) (uE f a) (hiOf (uS f a)) (loOf (uS f a)) (clsF f b) (uE f b) (hiOf (uS f b)) (loOf (uS f b)) _ _ _ t (negF f a) (negF f b) _ _ IV (lH PK) w ft
      · refine lH fun p h => ?_
        have h := beq_iff_eq.1 h
        have e1 : dvB f m a b = infF f (mlN f a b) := by unfold dvB; rw [if_pos FM, p, if_neg (by decide), if_pos h]
        have e2 : dvFl f m t a b = 0 := by unfold dvFl; rw [if_pos FM, p, if_neg (by decide), if_pos h]
        rw [e1, e2]
        exact fun w ft => dv_infinity f m (hiOf a) (loOf a) (hiOf b) (loOf b) (clsF f a) (uE f a) (hiOf (uS f a)) (loOf (uS f a)) (clsF f b) (uE f b) (hiOf (uS f b)) (loOf (uS f b)) _ _ t (negF f a) (negF f b) _ NH (lH (formOK.inf f (mlN f a b) f0 f1)) w ft
      · refine lH fun p h1 h2 => ?_
        have h1 := beq_eq_false_iff_ne.1 h1
        have h2 : clsF f b = 3 ∨ clsF f a = 0 := by simpa using h2
        have e1 : dvB f m a b = makeF f (mlN f a b) 0 0 := by unfold dvB; rw [if_pos FM, p, if_neg (by decide), if_neg h1, if_pos h2]
        have e2 : dvFl f m t a b = 0 := by unfold dvFl; rw [if_pos FM, p, if_neg (by decide), if_neg h1, if_pos h2]
        rw [e1, e2]
        exact fun w ft => dv_nought f m (hiOf a) (loOf a) (hiOf b) (loOf b) (clsF f a) (uE f a) (hiOf (uS f a)) (loOf (uS f a)) (clsF f b) (uE f b) (hiOf (uS f b)) (loOf (uS f b)) _ _ t (negF f a) (negF f b) _ NH (lH (formOK.nought f (mlN f a b) f0 f1)) w ft
      · refine lH fun p h1 h2 h3 => ?_
        have h1 := beq_eq_false_iff_ne.1 h1
        have h2 : ¬ (clsF f b = 3 ∨ clsF f a = 0) := by simpa using h2
        have h3 := beq_iff_eq.1 h3
        have e1 : dvB f m a b = infF f (mlN f a b) := by unfold dvB; rw [if_pos FM, p, if_neg (by decide), if_neg h1, if_neg h2, if_pos h3]
        have e2 : dvFl f m t a b = 2 := by unfold dvFl; rw [if_pos FM, p, if_neg (by decide), if_neg h1, if_neg h2, if_pos h3]
        rw [e1, e2]
        exact fun w ft => dv_byZero f m (hiOf a) (loOf a) (hiOf b) (loOf b) (clsF f a) (uE f a) (hiOf (uS f a)) (loOf (uS f a)) (clsF f b) (uE f b) (hiOf (uS f b)) (loOf (uS f b)) _ _ t (negF f a) (negF f b) _ NH (lH (formOK.inf f (mlN f a b) f0 f1)) w ft
      · refine lH fun p h1 h2 h3 => ?_
        have h1 := beq_eq_false_iff_ne.1 h1
        have h2 : ¬ (clsF f b = 3 ∨ clsF f a = 0) := by simpa using h2
        have h3 := beq_eq_false_iff_ne.1 h3
        have e1 : dvB f m a b = pkB f m (mlN f a b) (dvE f a b) (dvS f a b) := by unfold dvB; rw [if_pos FM, p, if_neg (by decide), if_neg h1, if_neg h2, if_neg h3]
        have e2 : dvFl f m t a b = pkFl f m t (mlN f a b) (dvE f a b) (dvS f a b) := by unfold dvFl; rw [if_pos FM, p, if_neg (by decide), if_neg h1, if_neg h2, if_neg h3]
        rw [e1, e2]
        have n := dv_not_nan a0 a1 b0 b1 hf p
        have ra := cls_range f a; have rb := cls_range f b
        exact fun w ft => dv_roundedN f m t a b f0 f1 m0 m1 a0 a1 b0 b1 hf (by omega) (by omega) w ft
    · rw [decide_eq_false hm] at M
      unfold dvB dvFl
      simp only [if_neg (show ¬ (f < 4 ∧ m < 5) from fun k => hm k.2)]
      exact dv_Div_no2 f m _ _ _ _ t (lH K) (lH M) w ft
  · rw [decide_eq_false hf] at K
    unfold dvB dvFl
    simp only [if_neg (show ¬ (f < 4 ∧ m < 5) from fun k => hf k.1)]
    exact dv_Div_no1 f m _ _ _ _ t (lH K) w ft
theorem divOK : DivOK where
  div := fun f m t a b f0 f1 m0 m1 a0 a1 b0 b1 w ft => divN f m t a b f0 f1 m0 m1 a0 a1 b0 b1 w ft
end Go.Proofs.YtnlmceafleeaiaaGreatDoor
