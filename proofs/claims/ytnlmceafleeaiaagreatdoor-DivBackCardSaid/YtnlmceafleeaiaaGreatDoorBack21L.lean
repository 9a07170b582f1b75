import Derived.Test.YtnlmceafleeaiaaGreatDoorBack21
import Derived.Test.YtnlmceafleeaiaaGreatDoorBackA21
import Derived.Test.YtnlmceafleeaiaaGreatDoorBackB21
import Derived.Test.YtnlmceafleeaiaaGreatDoorGoes21L
import Derived.Test.YtnlmceafleeaiaaGreatDoorGvB
import Derived.Test.YtnlmceafleeaiaaGreatDoorAddT
set_option maxHeartbeats 1000000
set_option linter.unusedVariables false
set_option linter.unusedSimpArgs false
set_option maxRecDepth 100000
namespace Go.Proofs.YtnlmceafleeaiaaGreatDoor
open Go.RowKit
attribute [local go_sem ↓] Go.wp_at_zero Go.wp_at_succ
theorem back21_law_n (C : FormOK) (D : ClassOK) (S : TurnOK) (P : MulOK) (F : FmaOK) (A : DivOK) (f a b : Int) (a0 : 0 ≤ a) (a1 : a < full) (b0 : 0 ≤ b) (b1 : b < full) (uf : 0 ≤ f ∧ f ≤ 255) (w : World) (ft : FTab w) : Calls Tryz.prog 4 #[.int .u8 f, .agg #[.int .u64 (hiOf (a)), .int .u64 (loOf (a))], .agg #[.int .u64 (hiOf (b)), .int .u64 (loOf (b))]] w fun e w' => e = .returned (.bool true) ∧ Below w.heap.size w w' := by
  have G := lH (goes21_any A)
  have PA := plain21N C D f a uf a0 a1
  have PB := plain21N C D f b uf b0 b1
  by_cases ca : clsF f a = 1 ∨ clsF f a = 2
  · rw [decide_eq_true ca] at PA
    by_cases cb : clsF f b = 1 ∨ clsF f b = 2
    · rw [decide_eq_true cb] at PB
      have hf : f < 4 := by apply Classical.byContradiction; intro k; unfold clsF at ca; rw [if_neg k] at ca; omega
      have X := A.div f 4 false a b uf.1 uf.2 (by decide) (by decide) a0 a1 b0 b1
      have back := dv_back uf.1 hf a0 a1 b0 b1 ca cb
      obtain ⟨B, hB⟩ : ∃ B, dvB f 4 a b = B := ⟨_, rfl⟩
      obtain ⟨qf, hq⟩ : ∃ qf, dvFl f 4 false a b = qf := ⟨_, rfl⟩
      rw [hB, hq] at X
      rw [hq] at back
      have OB := D.of f B uf.1 uf.2
      by_cases zq : qf = 0
      · obtain ⟨B0, B1, BN, cB, h0, _⟩ := back (.inl zq) B hB
        have MX := P.mul f 4 false B b uf.1 uf.2 (by decide) (by decide) B0 B1 b0 b1
        have CU := C.cut f a uf.1 uf.2
        rw [Int.emod_eq_of_lt a0 a1] at CU
        rw [h0 zq] at MX
        exact back21_first f _ _ _ _ _ _ 0 0 0 0 0 _ 0 _ _ _ _ 0 0 0 0 0 0 _ false false false (lH PA) (lH PB) (lH X) (lH OB) (.inl ⟨beq_iff_eq.2 zq, lH MX, lH CU, G⟩) w ft
      · have nz : (qf == 0) = false := beq_eq_false_iff_ne.2 zq
        by_cases c2 : clsF f (B % full) = 2
        · by_cases e16 : qf = 16
          · obtain ⟨B0, B1, BN, cB, _, R1, R2⟩ := back (.inr e16) B hB
            rw [Int.emod_eq_of_lt B0 B1] at OB c2
            have c0 : (clsF f B != 2) = false := by rw [c2]; rfl
            have q0 : (qf != 16) = false := by rw [e16]; rfl
            obtain ⟨t0, t1⟩ := turn_full (f := f) (b := B) uf.1
            obtain ⟨u0, u1⟩ := turn_full (f := f) (b := B + 1) uf.1
            have TB := S.turn f B uf.1 uf.2 B0 B1
            have TN := lH (S.turn f (B + 1) uf.1 uf.2 (by omega) BN)
            have FR := F.fma f 1 false (turnF f B) b a uf.1 uf.2 (by decide) (by decide) t0 t1 b0 b1 a0 a1
            have FO := F.fma f 1 false (turnF f (B + 1)) b a uf.1 uf.2 (by decide) (by decide) u0 u1 b0 b1 a0 a1
            obtain ⟨R, hR⟩ : ∃ R, fmB f 1 (turnF f B) b a = R := ⟨_, rfl⟩
            obtain ⟨O, hO⟩ : ∃ O, fmB f 1 (turnF f (B + 1)) b a = O := ⟨_, rfl⟩
            rw [hR] at FR
            rw [hO] at FO
            obtain ⟨r0, r1, rz⟩ := R1 R hR
            have OA := D.of f a uf.1 uf.2
            have OR := D.of f R uf.1 uf.2
            have FN := D.fin f (B + 1) uf.1 uf.2
            rw [Int.emod_eq_of_lt a0 a1] at OA
            rw [Int.emod_eq_of_lt r0 r1] at OR
            rw [Int.emod_eq_of_lt (show 0 ≤ B + 1 by omega) BN] at FN
            have finc : finF f (B + 1) = true → clsF f (B + 1) ≤ 2 := fun h => by unfold finF at h; simp at h; omega
            have q1 : IntKind.u64.wrap (loOf B + 1) = loOf (B + 1) := by rw [IntKind.wrap_u64]; unfold loOf; omega
            by_cases zd : clsF f R = 0
            · have g3 : (clsF f R != 0) = false := by rw [zd]; rfl
              by_cases cy : loOf (B + 1) = 0
              · have g5 : (loOf (B + 1) == 0) = true := beq_iff_eq.2 cy
                have q2 : IntKind.u64.wrap (hiOf B + 1) = hiOf (B + 1) := by rw [IntKind.wrap_u64]; unfold hiOf loOf at *; omega
                cases hn : finF f (B + 1) with
                | false =>
                  rw [hn] at FN
                  exact back21_a f _ _ _ _ _ _ _ _ (clsF f O) (loOf (B + 1)) (hiOf (B + 1)) _ (fmFl f 1 false (turnF f (B + 1)) b a) _ _ _ _ _ _ (hiOf (turnF f (B + 1))) (loOf (turnF f (B + 1))) (hiOf O) (loOf O) _ _ _ (negF f O) (lH PA) (lH PB) (lH X) (lH OB) (lH TB) (lH FR) (lH OA) (lH OR) nz c0 q0 g3 (.inr (.inr (.inr (.inl ⟨q1, g5, q2, lH FN, G⟩)))) w ft
                | true =>
                  obtain ⟨O0, O1, OZ⟩ := R2 (finc hn) O hO
                  have OO := D.of f O uf.1 uf.2
                  rw [Int.emod_eq_of_lt O0 O1] at OO
                  rw [hn] at FN
                  by_cases z : clsF f O = 0
                  · exact back21_a f _ _ _ _ _ _ _ _ (clsF f O) (loOf (B + 1)) (hiOf (B + 1)) _ (fmFl f 1 false (turnF f (B + 1)) b a) _ _ _ _ _ _ (hiOf (turnF f (B + 1))) (loOf (turnF f (B + 1))) (hiOf O) (loOf O) _ _ _ (negF f O) (lH PA) (lH PB) (lH X) (lH OB) (lH TB) (lH FR) (lH OA) (lH OR) nz c0 q0 g3 (.inr (.inr (.inr (.inr (.inl ⟨q1, g5, q2, beq_iff_eq.2 z, lH FN, TN, lH FO, lH OO, G⟩))))) w ft
                  · have e := OZ.resolve_left z
                    exact back21_a f _ _ _ _ _ _ _ _ (clsF f O) (loOf (B + 1)) (hiOf (B + 1)) _ (fmFl f 1 false (turnF f (B + 1)) b a) _ _ _ _ _ _ (hiOf (turnF f (B + 1))) (loOf (turnF f (B + 1))) (hiOf O) (loOf O) _ _ _ (negF f O) (lH PA) (lH PB) (lH X) (lH OB) (lH TB) (lH FR) (lH OA) (lH OR) nz c0 q0 g3 (.inr (.inr (.inr (.inr (.inr (⟨q1, g5, q2, beq_eq_false_iff_ne.2 z, by rw [e]; cases negF f a <;> rfl, lH FN, TN, lH FO, lH OO, G⟩)))))) w ft
              · have g5 : (loOf (B + 1) == 0) = false := beq_eq_false_iff_ne.2 cy
                have e2 : hiOf (B + 1) = hiOf B := by unfold hiOf loOf at *; omega
                have FN2 := FN
                have TN2 := fun w ft => S.turn f (B + 1) uf.1 uf.2 (by omega) BN w ft
                rw [e2] at FN2 TN2
                cases hn : finF f (B + 1) with
                | false =>
                  rw [hn] at FN2
                  exact back21_a f _ _ _ _ _ _ _ _ (clsF f O) (loOf (B + 1)) (hiOf (B + 1)) _ (fmFl f 1 false (turnF f (B + 1)) b a) _ _ _ _ _ _ (hiOf (turnF f (B + 1))) (loOf (turnF f (B + 1))) (hiOf O) (loOf O) _ _ _ (negF f O) (lH PA) (lH PB) (lH X) (lH OB) (lH TB) (lH FR) (lH OA) (lH OR) nz c0 q0 g3 (.inl ⟨q1, g5, lH FN2, G⟩) w ft
                | true =>
                  obtain ⟨O0, O1, OZ⟩ := R2 (finc hn) O hO
                  have OO := D.of f O uf.1 uf.2
                  rw [Int.emod_eq_of_lt O0 O1] at OO
                  rw [hn] at FN2
                  by_cases z : clsF f O = 0
                  · exact back21_a f _ _ _ _ _ _ _ _ (clsF f O) (loOf (B + 1)) (hiOf (B + 1)) _ (fmFl f 1 false (turnF f (B + 1)) b a) _ _ _ _ _ _ (hiOf (turnF f (B + 1))) (loOf (turnF f (B + 1))) (hiOf O) (loOf O) _ _ _ (negF f O) (lH PA) (lH PB) (lH X) (lH OB) (lH TB) (lH FR) (lH OA) (lH OR) nz c0 q0 g3 (.inr (.inl ⟨q1, g5, beq_iff_eq.2 z, lH FN2, lH TN2, lH FO, lH OO, G⟩)) w ft
                  · have e := OZ.resolve_left z
                    exact back21_a f _ _ _ _ _ _ _ _ (clsF f O) (loOf (B + 1)) (hiOf (B + 1)) _ (fmFl f 1 false (turnF f (B + 1)) b a) _ _ _ _ _ _ (hiOf (turnF f (B + 1))) (loOf (turnF f (B + 1))) (hiOf O) (loOf O) _ _ _ (negF f O) (lH PA) (lH PB) (lH X) (lH OB) (lH TB) (lH FR) (lH OA) (lH OR) nz c0 q0 g3 (.inr (.inr (.inl ⟨q1, g5, beq_eq_false_iff_ne.2 z, by rw [e]; cases negF f a <;> rfl, lH FN2, lH TN2, lH FO, lH OO, G⟩))) w ft
            · have g3 : (clsF f R != 0) = true := bne_iff_ne.2 zd
              have g4 : (!(negF f R == negF f a)) = false := by rw [rz.resolve_left zd]; cases negF f a <;> rfl
              by_cases cy : loOf (B + 1) = 0
              · have g5 : (loOf (B + 1) == 0) = true := beq_iff_eq.2 cy
                have q2 : IntKind.u64.wrap (hiOf B + 1) = hiOf (B + 1) := by rw [IntKind.wrap_u64]; unfold hiOf loOf at *; omega
                cases hn : finF f (B + 1) with
                | false =>
                  rw [hn] at FN
                  exact back21_b f _ _ _ _ _ _ _ _ (clsF f O) (loOf (B + 1)) (hiOf (B + 1)) _ (fmFl f 1 false (turnF f (B + 1)) b a) _ _ _ _ _ _ (hiOf (turnF f (B + 1))) (loOf (turnF f (B + 1))) (hiOf O) (loOf O) _ _ _ (negF f O) (lH PA) (lH PB) (lH X) (lH OB) (lH TB) (lH FR) (lH OA) (lH OR) nz c0 q0 g3 g4 (.inr (.inr (.inr (.inl ⟨q1, g5, q2, lH FN, G⟩)))) w ft
                | true =>
                  obtain ⟨O0, O1, OZ⟩ := R2 (finc hn) O hO
                  have OO := D.of f O uf.1 uf.2
                  rw [Int.emod_eq_of_lt O0 O1] at OO
                  rw [hn] at FN
                  by_cases z : clsF f O = 0
                  · exact back21_b f _ _ _ _ _ _ _ _ (clsF f O) (loOf (B + 1)) (hiOf (B + 1)) _ (fmFl f 1 false (turnF f (B + 1)) b a) _ _ _ _ _ _ (hiOf (turnF f (B + 1))) (loOf (turnF f (B + 1))) (hiOf O) (loOf O) _ _ _ (negF f O) (lH PA) (lH PB) (lH X) (lH OB) (lH TB) (lH FR) (lH OA) (lH OR) nz c0 q0 g3 g4 (.inr (.inr (.inr (.inr (.inl ⟨q1, g5, q2, beq_iff_eq.2 z, lH FN, TN, lH FO, lH OO, G⟩))))) w ft
                  · have e := OZ.resolve_left z
                    exact back21_b f _ _ _ _ _ _ _ _ (clsF f O) (loOf (B + 1)) (hiOf (B + 1)) _ (fmFl f 1 false (turnF f (B + 1)) b a) _ _ _ _ _ _ (hiOf (turnF f (B + 1))) (loOf (turnF f (B + 1))) (hiOf O) (loOf O) _ _ _ (negF f O) (lH PA) (lH PB) (lH X) (lH OB) (lH TB) (lH FR) (lH OA) (lH OR) nz c0 q0 g3 g4 (.inr (.inr (.inr (.inr (.inr (⟨q1, g5, q2, beq_eq_false_iff_ne.2 z, by rw [e]; cases negF f a <;> rfl, lH FN, TN, lH FO, lH OO, G⟩)))))) w ft
              · have g5 : (loOf (B + 1) == 0) = false := beq_eq_false_iff_ne.2 cy
                have e2 : hiOf (B + 1) = hiOf B := by unfold hiOf loOf at *; omega
                have FN2 := FN
                have TN2 := fun w ft => S.turn f (B + 1) uf.1 uf.2 (by omega) BN w ft
                rw [e2] at FN2 TN2
                cases hn : finF f (B + 1) with
                | false =>
                  rw [hn] at FN2
                  exact back21_b f _ _ _ _ _ _ _ _ (clsF f O) (loOf (B + 1)) (hiOf (B + 1)) _ (fmFl f 1 false (turnF f (B + 1)) b a) _ _ _ _ _ _ (hiOf (turnF f (B + 1))) (loOf (turnF f (B + 1))) (hiOf O) (loOf O) _ _ _ (negF f O) (lH PA) (lH PB) (lH X) (lH OB) (lH TB) (lH FR) (lH OA) (lH OR) nz c0 q0 g3 g4 (.inl ⟨q1, g5, lH FN2, G⟩) w ft
                | true =>
                  obtain ⟨O0, O1, OZ⟩ := R2 (finc hn) O hO
                  have OO := D.of f O uf.1 uf.2
                  rw [Int.emod_eq_of_lt O0 O1] at OO
                  rw [hn] at FN2
                  by_cases z : clsF f O = 0
                  · exact back21_b f _ _ _ _ _ _ _ _ (clsF f O) (loOf (B + 1)) (hiOf (B + 1)) _ (fmFl f 1 false (turnF f (B + 1)) b a) _ _ _ _ _ _ (hiOf (turnF f (B + 1))) (loOf (turnF f (B + 1))) (hiOf O) (loOf O) _ _ _ (negF f O) (lH PA) (lH PB) (lH X) (lH OB) (lH TB) (lH FR) (lH OA) (lH OR) nz c0 q0 g3 g4 (.inr (.inl ⟨q1, g5, beq_iff_eq.2 z, lH FN2, lH TN2, lH FO, lH OO, G⟩)) w ft
                  · have e := OZ.resolve_left z
                    exact back21_b f _ _ _ _ _ _ _ _ (clsF f O) (loOf (B + 1)) (hiOf (B + 1)) _ (fmFl f 1 false (turnF f (B + 1)) b a) _ _ _ _ _ _ (hiOf (turnF f (B + 1))) (loOf (turnF f (B + 1))) (hiOf O) (loOf O) _ _ _ (negF f O) (lH PA) (lH PB) (lH X) (lH OB) (lH TB) (lH FR) (lH OA) (lH OR) nz c0 q0 g3 g4 (.inr (.inr (.inl ⟨q1, g5, beq_eq_false_iff_ne.2 z, by rw [e]; cases negF f a <;> rfl, lH FN2, lH TN2, lH FO, lH OO, G⟩))) w ft
          · exact back21_first f _ _ _ _ _ _ 0 0 0 0 0 0 0 _ _ 0 0 0 0 0 0 0 0 _ false false false (lH PA) (lH PB) (lH X) (lH OB) (.inr (.inr ⟨nz, by rw [c2]; rfl, bne_iff_ne.2 e16, G⟩)) w ft
        · exact back21_first f _ _ _ _ _ _ 0 0 0 0 0 0 0 _ _ 0 0 0 0 0 0 0 0 _ false false false (lH PA) (lH PB) (lH X) (lH OB) (.inr (.inl ⟨nz, bne_iff_ne.2 c2, G⟩)) w ft
    · rw [decide_eq_false cb] at PB
      exact back21_no2 f _ _ _ _ (lH PA) (lH PB) G w ft
  · rw [decide_eq_false ca] at PA
    exact back21_no1 f _ _ _ _ (lH PA) G w ft
theorem back21_law (C : FormOK) (D : ClassOK) (S : TurnOK) (P : MulOK) (F : FmaOK) (A : DivOK) (f : Int) (ah al bh bl : Int) (uf : 0 ≤ f ∧ f ≤ 255) (uah : U64 ah) (ual : U64 al) (ubh : U64 bh) (ubl : U64 bl) (w : World) (ft : FTab w) : Calls Tryz.prog 4 #[.int .u8 f, .agg #[.int .u64 ah, .int .u64 al], .agg #[.int .u64 bh, .int .u64 bl]] w fun e w' => e = .returned (.bool true) ∧ Below w.heap.size w w' := by
  have hva := val_range uah ual
  have hvb := val_range ubh ubl
  have h := back21_law_n C D S P F A f (val ah al) (val bh bl) hva.1 hva.2 hvb.1 hvb.2 uf w ft
  rw [(hl_val uah ual).1, (hl_val uah ual).2, (hl_val ubh ubl).1, (hl_val ubh ubl).2] at h
  exact h
end Go.Proofs.YtnlmceafleeaiaaGreatDoor
