import Derived.Test.YtdcdbcccchadfaaGreatDoorRest20
import Derived.Test.YtdcdbcccchadfaaGreatDoorGuA
import Derived.Test.YtdcdbcccchadfaaGreatDoorFma20R
import Derived.Test.YtdcdbcccchadfaaGreatDoorFma20N
import Derived.Test.YtdcdbcccchadfaaGreatDoorGeB
import Derived.Test.YtdcdbcccchadfaaGreatDoorAddT
import Derived.Test.YtdcdbcccchadfaaGreatDoorRest0
set_option maxHeartbeats 1000000
set_option linter.unusedVariables false
set_option linter.unusedSimpArgs false
set_option maxRecDepth 100000
namespace Go.Proofs.YtdcdbcccchadfaaGreatDoor
open Go.RowKit
attribute [local go_sem ↓] Go.wp_at_zero Go.wp_at_succ
theorem rest20_law_true (C : FormOK) (D : ClassOK) (S : TurnOK) (P : MulOK) (A : FmaOK) (f a b : Int) (a0 : 0 ≤ a) (a1 : a < full) (b0 : 0 ≤ b) (b1 : b < full) (uf : 0 ≤ f ∧ f ≤ 255) (w : World) (ft : FTab w) : Calls Tryz.prog 4 #[.int .u8 f, .agg #[.int .u64 (hiOf (a)), .int .u64 (loOf (a))], .agg #[.int .u64 (hiOf (b)), .int .u64 (loOf (b))], .bool true] w fun e w' => e = .returned (.bool true) ∧ Below w.heap.size w w' := by
  have G := lH (goes20_any A)
  have K := C.known f uf.1 uf.2
  by_cases hf : f < 4
  · rw [decide_eq_true hf] at K
    obtain ⟨p0, p1, p2, p3, p4, p5, p6, p7, p8⟩ := f_nums uf.1 hf
    have FA := D.fin f a uf.1 uf.2
    have FB := D.fin f b uf.1 uf.2
    rw [Int.emod_eq_of_lt a0 a1] at FA
    rw [Int.emod_eq_of_lt b0 b1] at FB
    have ra := cls_range f a; have rb := cls_range f b
    by_cases ca : clsF f a ≤ 2
    · rw [show finF f a = true by unfold finF; simp [hf, ca]] at FA
      by_cases cb : clsF f b ≤ 2
      · rw [show finF f b = true by unfold finF; simp [hf, cb]] at FB
        have UA := lH (unpackA f a uf.1 uf.2 a0 a1)
        have UB := lH (unpackA f b uf.1 uf.2 b0 b1)
        have ea := uE_range (f := f) uf.1 a0; have eb := uE_range (f := f) uf.1 b0
        have MX := P.mul f 1 false a b uf.1 uf.2 (by decide) (by decide) a0 a1 b0 b1
        obtain ⟨B0, B1⟩ := ml_fullA (m := 1) uf.1 hf (by decide) a0 a1 b0 b1
        have FP := D.fin f (mlB f 1 a b) uf.1 uf.2
        rw [Int.emod_eq_of_lt B0 B1] at FP
        by_cases cp : clsF f (mlB f 1 a b) ≤ 2
        · rw [show finF f (mlB f 1 a b) = true by unfold finF; simp [hf, cp]] at FP
          by_cases za : clsF f a = 0
          · exact rest20_main1 f _ _ _ _ _ _ _ _ _ _ _ _ _ _ _ 0 0 0 0 0 0 0 0 0 0 _ _ false false (lH K) (lH FA) (lH FB) UA UB (lH MX) (.inr (.inl ⟨beq_iff_eq.2 za, lH FP, G⟩)) w ft
          · by_cases zb : clsF f b = 0
            · exact rest20_main1 f _ _ _ _ _ _ _ _ _ _ _ _ _ _ _ 0 0 0 0 0 0 0 0 0 0 _ _ false false (lH K) (lH FA) (lH FB) UA UB (lH MX) (.inr (.inr (.inl ⟨beq_eq_false_iff_ne.2 za, beq_iff_eq.2 zb, lH FP, G⟩))) w ft
            · have PR := lH (C.prec f uf.1 uf.2)
              have EM := lH (C.emax f uf.1 uf.2)
              have ga : (clsF f a == 0) = false := beq_eq_false_iff_ne.2 za
              have gb : (clsF f b == 0) = false := beq_eq_false_iff_ne.2 zb
              by_cases lt : uE f a + uE f b < 2 * (fP f : Int) - fE f
              · exact rest20_main1 f _ _ _ _ _ _ _ _ _ _ _ _ _ _ _ _ _ (uE f a + uE f b) (2 * (fP f : Int)) (2 * (fP f : Int) - fE f) 0 0 0 0 0 _ _ false false (lH K) (lH FA) (lH FB) UA UB (lH MX) (.inr (.inr (.inr (.inl ⟨ga, gb, decide_eq_true lt, IntWalk.i64_in _ (by omega), (by unfold wrap64; omega), IntWalk.i64_in _ (by omega), (by unfold wrap64; omega), IntWalk.i64_in _ (by omega), (by unfold wrap64; omega), lH FP, PR, EM, G⟩)))) w ft
              · obtain ⟨R0, R1, fl0, iff⟩ := fma_rest (m := 1) uf.1 hf (by decide) a0 a1 b0 b1 (by omega) (by omega) (by omega) _ rfl cp B0 B1 _ rfl
                obtain ⟨t0, t1⟩ := turn_full (f := f) (b := mlB f 1 a b) uf.1
                have TP := lH (S.turn f (mlB f 1 a b) uf.1 uf.2 B0 B1)
                have FR := A.fma f 1 false a b (turnF f (mlB f 1 a b)) uf.1 uf.2 (by decide) (by decide) a0 a1 b0 b1 t0 t1
                rw [fl0] at FR
                have OR := D.of f (fmB f 1 a b (turnF f (mlB f 1 a b))) uf.1 uf.2
                rw [Int.emod_eq_of_lt R0 R1] at OR
                exact rest20_main1 f _ _ _ _ _ _ _ _ _ _ _ _ _ _ _ _ _ (uE f a + uE f b) (2 * (fP f : Int)) (2 * (fP f : Int) - fE f) _ _ _ _ _ _ _ _ _ (lH K) (lH FA) (lH FB) UA UB (lH MX) (.inr (.inr (.inr (.inr ⟨ga, gb, decide_eq_false lt, rfl, (by rw [Bool.eq_iff_iff]; simp only [beq_iff_eq]; exact (iff false).symm), IntWalk.i64_in _ (by omega), (by unfold wrap64; omega), IntWalk.i64_in _ (by omega), (by unfold wrap64; omega), IntWalk.i64_in _ (by omega), (by unfold wrap64; omega), lH FP, PR, EM, TP, lH FR, lH OR, G⟩)))) w ft
        · rw [show finF f (mlB f 1 a b) = false by unfold finF; simp [cp]] at FP
          exact rest20_main1 f _ _ _ _ _ _ _ _ _ _ _ _ _ _ _ 0 0 0 0 0 0 0 0 0 0 _ _ false false (lH K) (lH FA) (lH FB) UA UB (lH MX) (.inl ⟨lH FP, G⟩) w ft
      · rw [show finF f b = false by unfold finF; simp [cb]] at FB
        exact rest20_nb1 f _ _ _ _ (lH K) (lH FA) (lH FB) G w ft
    · rw [show finF f a = false by unfold finF; simp [ca]] at FA
      exact rest20_na1 f _ _ _ _ (lH K) (lH FA) G w ft
  · rw [decide_eq_false hf] at K
    exact rest20_nf1 f _ _ _ _ (lH K) G w ft
theorem rest20_law_false (C : FormOK) (D : ClassOK) (S : TurnOK) (P : MulOK) (A : FmaOK) (f a b : Int) (a0 : 0 ≤ a) (a1 : a < full) (b0 : 0 ≤ b) (b1 : b < full) (uf : 0 ≤ f ∧ f ≤ 255) (w : World) (ft : FTab w) : Calls Tryz.prog 4 #[.int .u8 f, .agg #[.int .u64 (hiOf (a)), .int .u64 (loOf (a))], .agg #[.int .u64 (hiOf (b)), .int .u64 (loOf (b))], .bool false] w fun e w' => e = .returned (.bool true) ∧ Below w.heap.size w w' := by
  have G := lH (goes20_any A)
  have K := C.known f uf.1 uf.2
  by_cases hf : f < 4
  · rw [decide_eq_true hf] at K
    obtain ⟨p0, p1, p2, p3, p4, p5, p6, p7, p8⟩ := f_nums uf.1 hf
    have FA := D.fin f a uf.1 uf.2
    have FB := D.fin f b uf.1 uf.2
    rw [Int.emod_eq_of_lt a0 a1] at FA
    rw [Int.emod_eq_of_lt b0 b1] at FB
    have ra := cls_range f a; have rb := cls_range f b
    by_cases ca : clsF f a ≤ 2
    · rw [show finF f a = true by unfold finF; simp [hf, ca]] at FA
      by_cases cb : clsF f b ≤ 2
      · rw [show finF f b = true by unfold finF; simp [hf, cb]] at FB
        have UA := lH (unpackA f a uf.1 uf.2 a0 a1)
        have UB := lH (unpackA f b uf.1 uf.2 b0 b1)
        have ea := uE_range (f := f) uf.1 a0; have eb := uE_range (f := f) uf.1 b0
        have MX := P.mul f 0 false a b uf.1 uf.2 (by decide) (by decide) a0 a1 b0 b1
        obtain ⟨B0, B1⟩ := ml_fullA (m := 0) uf.1 hf (by decide) a0 a1 b0 b1
        have FP := D.fin f (mlB f 0 a b) uf.1 uf.2
        rw [Int.emod_eq_of_lt B0 B1] at FP
        by_cases cp : clsF f (mlB f 0 a b) ≤ 2
        · rw [show finF f (mlB f 0 a b) = true by unfold finF; simp [hf, cp]] at FP
          by_cases za : clsF f a = 0
          · exact rest20_main0 f _ _ _ _ _ _ _ _ _ _ _ _ _ _ _ 0 0 0 0 0 0 0 0 0 0 _ _ false false (lH K) (lH FA) (lH FB) UA UB (lH MX) (.inr (.inl ⟨beq_iff_eq.2 za, lH FP, G⟩)) w ft
          · by_cases zb : clsF f b = 0
            · exact rest20_main0 f _ _ _ _ _ _ _ _ _ _ _ _ _ _ _ 0 0 0 0 0 0 0 0 0 0 _ _ false false (lH K) (lH FA) (lH FB) UA UB (lH MX) (.inr (.inr (.inl ⟨beq_eq_false_iff_ne.2 za, beq_iff_eq.2 zb, lH FP, G⟩))) w ft
            · have PR := lH (C.prec f uf.1 uf.2)
              have EM := lH (C.emax f uf.1 uf.2)
              have ga : (clsF f a == 0) = false := beq_eq_false_iff_ne.2 za
              have gb : (clsF f b == 0) = false := beq_eq_false_iff_ne.2 zb
              by_cases lt : uE f a + uE f b < 2 * (fP f : Int) - fE f
              · exact rest20_main0 f _ _ _ _ _ _ _ _ _ _ _ _ _ _ _ _ _ (uE f a + uE f b) (2 * (fP f : Int)) (2 * (fP f : Int) - fE f) 0 0 0 0 0 _ _ false false (lH K) (lH FA) (lH FB) UA UB (lH MX) (.inr (.inr (.inr (.inl ⟨ga, gb, decide_eq_true lt, IntWalk.i64_in _ (by omega), (by unfold wrap64; omega), IntWalk.i64_in _ (by omega), (by unfold wrap64; omega), IntWalk.i64_in _ (by omega), (by unfold wrap64; omega), lH FP, PR, EM, G⟩)))) w ft
              · obtain ⟨R0, R1, fl0, iff⟩ := fma_rest (m := 0) uf.1 hf (by decide) a0 a1 b0 b1 (by omega) (by omega) (by omega) _ rfl cp B0 B1 _ rfl
                obtain ⟨t0, t1⟩ := turn_full (f := f) (b := mlB f 0 a b) uf.1
                have TP := lH (S.turn f (mlB f 0 a b) uf.1 uf.2 B0 B1)
                have FR := A.fma f 0 false a b (turnF f (mlB f 0 a b)) uf.1 uf.2 (by decide) (by decide) a0 a1 b0 b1 t0 t1
                rw [fl0] at FR
                have OR := D.of f (fmB f 0 a b (turnF f (mlB f 0 a b))) uf.1 uf.2
                rw [Int.emod_eq_of_lt R0 R1] at OR
                exact rest20_main0 f _ _ _ _ _ _ _ _ _ _ _ _ _ _ _ _ _ (uE f a + uE f b) (2 * (fP f : Int)) (2 * (fP f : Int) - fE f) _ _ _ _ _ _ _ _ _ (lH K) (lH FA) (lH FB) UA UB (lH MX) (.inr (.inr (.inr (.inr ⟨ga, gb, decide_eq_false lt, rfl, (by rw [Bool.eq_iff_iff]; simp only [beq_iff_eq]; exact (iff false).symm), IntWalk.i64_in _ (by omega), (by unfold wrap64; omega), IntWalk.i64_in _ (by omega), (by unfold wrap64; omega), IntWalk.i64_in _ (by omega), (by unfold wrap64; omega), lH FP, PR, EM, TP, lH FR, lH OR, G⟩)))) w ft
        · rw [show finF f (mlB f 0 a b) = false by unfold finF; simp [cp]] at FP
          exact rest20_main0 f _ _ _ _ _ _ _ _ _ _ _ _ _ _ _ 0 0 0 0 0 0 0 0 0 0 _ _ false false (lH K) (lH FA) (lH FB) UA UB (lH MX) (.inl ⟨lH FP, G⟩) w ft
      · rw [show finF f b = false by unfold finF; simp [cb]] at FB
        exact rest20_nb0 f _ _ _ _ (lH K) (lH FA) (lH FB) G w ft
    · rw [show finF f a = false by unfold finF; simp [ca]] at FA
      exact rest20_na0 f _ _ _ _ (lH K) (lH FA) G w ft
  · rw [decide_eq_false hf] at K
    exact rest20_nf0 f _ _ _ _ (lH K) G w ft
theorem rest20_law_n (C : FormOK) (D : ClassOK) (S : TurnOK) (P : MulOK) (A : FmaOK) (f a b : Int) (aw : Bool) (a0 : 0 ≤ a) (a1 : a < full) (b0 : 0 ≤ b) (b1 : b < full) (uf : 0 ≤ f ∧ f ≤ 255) (w : World) (ft : FTab w) : Calls Tryz.prog 4 #[.int .u8 f, .agg #[.int .u64 (hiOf (a)), .int .u64 (loOf (a))], .agg #[.int .u64 (hiOf (b)), .int .u64 (loOf (b))], .bool aw] w fun e w' => e = .returned (.bool true) ∧ Below w.heap.size w w' := by
  cases aw with
  | false => exact rest20_law_false C D S P A f a b a0 a1 b0 b1 uf w ft
  | true => exact rest20_law_true C D S P A f a b a0 a1 b0 b1 uf w ft
theorem rest20_law (C : FormOK) (D : ClassOK) (S : TurnOK) (P : MulOK) (A : FmaOK) (f : Int) (ah al bh bl : Int) (aw : Bool) (uf : 0 ≤ f ∧ f ≤ 255) (uah : U64 ah) (ual : U64 al) (ubh : U64 bh) (ubl : U64 bl) (w : World) (ft : FTab w) : Calls Tryz.prog 4 #[.int .u8 f, .agg #[.int .u64 ah, .int .u64 al], .agg #[.int .u64 bh, .int .u64 bl], .bool aw] w fun e w' => e = .returned (.bool true) ∧ Below w.heap.size w w' := by
  have hva := val_range uah ual
  have hvb := val_range ubh ubl
  have h := rest20_law_n C D S P A f (val ah al) (val bh bl) aw hva.1 hva.2 hvb.1 hvb.2 uf w ft
  rw [(hl_val uah ual).1, (hl_val uah ual).2, (hl_val ubh ubl).1, (hl_val ubh ubl).2] at h
  exact h
end Go.Proofs.YtdcdbcccchadfaaGreatDoor
