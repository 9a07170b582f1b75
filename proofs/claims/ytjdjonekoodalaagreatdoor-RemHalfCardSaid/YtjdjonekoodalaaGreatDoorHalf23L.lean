import Derived.Test.YtjdjonekoodalaaGreatDoorHalf23
import Derived.Test.YtjdjonekoodalaaGreatDoorRem23F
set_option maxHeartbeats 1000000
set_option linter.unusedVariables false
set_option linter.unusedSimpArgs false
set_option maxRecDepth 100000
namespace Go.Proofs.YtjdjonekoodalaaGreatDoor
open Go.RowKit
attribute [local go_sem ↓] Go.wp_at_zero Go.wp_at_succ
theorem half23_law_n (C : FormOK) (D : ClassOK) (S : AddOK) (A : RemOK) (f a b : Int) (a0 : 0 ≤ a) (a1 : a < full) (b0 : 0 ≤ b) (b1 : b < full) (uf : 0 ≤ f ∧ f ≤ 255) (w : World) (ft : FTab w) : Calls Tryz.prog 4 #[.int .u8 f, .agg #[.int .u64 (hiOf (a)), .int .u64 (loOf (a))], .agg #[.int .u64 (hiOf (b)), .int .u64 (loOf (b))]] w fun e w' => e = .returned (.bool true) ∧ Below w.heap.size w w' := by
  have G := lH (goes23_any A)
  have K := C.known f uf.1 uf.2
  have OB := D.of f b uf.1 uf.2
  rw [Int.emod_eq_of_lt b0 b1] at OB
  have FA := D.fin f a uf.1 uf.2
  rw [Int.emod_eq_of_lt a0 a1] at FA
  by_cases hf : f < 4
  · rw [decide_eq_true hf] at K
    cases hn : finF f a with
    | false =>
      rw [hn] at FA
      exact half23_no2 f _ _ _ _ _ 0 0 0 0 0 0 0 0 0 0 0 0 0 0 0 0 _ (lH OB) (lH K) (lH FA) G w ft
    | true =>
      rw [hn] at FA
      unfold finF at hn
      have ca := of_decide_eq_true (Bool.and_eq_true_iff.1 hn).2
      by_cases cb : clsF f b = 1 ∨ clsF f b = 2
      · obtain ⟨h1, r0, r1, cr, tw, ow, e1, e2⟩ := rm_half uf.1 hf a0 a1 b0 b1 ca cb _ rfl
        have X := A.rem f a b uf.1 uf.2 a0 a1 b0 b1
        rw [h1] at X
        have FR := D.fin f (rmB f a b) uf.1 uf.2
        rw [Int.emod_eq_of_lt r0 r1, show finF f (rmB f a b) = true by unfold finF; rw [decide_eq_true hf, decide_eq_true cr]; rfl] at FR
        have X2 := A.rem f (rmB f a b) b uf.1 uf.2 r0 r1 b0 b1
        rw [e1, e2] at X2
        have SR := lH (size23N C f (rmB f a b) uf.1 uf.2 r0 r1)
        have SB := lH (size23N C f b uf.1 uf.2 b0 b1)
        have SA := lH (size23N C f a uf.1 uf.2 a0 a1)
        obtain ⟨p1, _⟩ := sz_same uf.1 hf r0 cr
        obtain ⟨p2, _⟩ := sz_same uf.1 hf b0 (show clsF f b ≤ 2 by omega)
        obtain ⟨p3, _⟩ := sz_same uf.1 hf a0 ca
        have TW := S.add f 4 false _ _ uf.1 uf.2 (by decide) (by decide) p1.1 p1.2.1 p1.1 p1.2.1
        rw [p1.2.2.2.1] at TW
        have OW := S.add f 4 false _ _ uf.1 uf.2 (by decide) (by decide) p3.1 p3.2.1 p3.1 p3.2.1
        rw [p3.2.2.2.1] at OW
        obtain ⟨t0, t1⟩ := ad_full23 (s := false) uf.1 hf (m := 4) (by decide) p1.1 p1.1
        obtain ⟨o0, o1⟩ := ad_full23 (s := false) uf.1 hf (m := 4) (by decide) p3.1 p3.1
        have C1 := cmpB (adB f 4 (szF f (rmB f a b)) (szF f (rmB f a b)) false) (szF f b)
        rw [Int.emod_eq_of_lt t0 t1, Int.emod_eq_of_lt p2.1 p2.2.1] at C1
        have C2 := cmpB (adB f 4 (szF f a) (szF f a) false) (szF f b)
        rw [Int.emod_eq_of_lt o0 o1, Int.emod_eq_of_lt p2.1 p2.2.1] at C2
        have g4 : decide (0 < cmpI (adB f 4 (szF f (rmB f a b)) (szF f (rmB f a b)) false) (szF f b)) = false := decide_eq_false (by have := cmpI_lei.2 tw; omega)
        have CU := C.cut f a uf.1 uf.2
        rw [Int.emod_eq_of_lt a0 a1] at CU
        have ow := ow false
        generalize hR : rmB f a b = r at *
        have fin : ∀ g2 : Bool, (clsF f b = 1 ∧ g2 = false) ∨ (clsF f b = 2 ∧ g2 = true) → (clsF f b != 1) = g2 := fun g h => by
          rcases h with ⟨h, rfl⟩ | ⟨h, rfl⟩ <;> rw [h] <;> rfl
        by_cases z : adFl f 4 false (szF f a) (szF f a) false = 0
        · by_cases lt : adB f 4 (szF f a) (szF f a) false < szF f b
          · have e := ow z lt
            rw [← e] at CU
            rcases cb with c | c
            · exact half23_sub f _ _ _ _ _ _ _ _ _ _ _ _ _ _ _ _ _ _ _ _ _ _ (lH OB) (lH K) (lH FA) (lH X) (lH FR) SR SB (lH TW) (lH C1) SA (lH OW) (fin _ (.inl ⟨c, rfl⟩)) g4 (.inr (.inr ⟨beq_iff_eq.2 z, decide_eq_true (cmpI_lti.2 lt), lH C2, lH CU, lH X2, G⟩)) w ft
            · exact half23_nor f _ _ _ _ _ _ _ _ _ _ _ _ _ _ _ _ _ _ _ _ _ _ (lH OB) (lH K) (lH FA) (lH X) (lH FR) SR SB (lH TW) (lH C1) SA (lH OW) (fin _ (.inr ⟨c, rfl⟩)) (by rw [c]; rfl) g4 (.inr (.inr ⟨beq_iff_eq.2 z, decide_eq_true (cmpI_lti.2 lt), lH C2, lH CU, lH X2, G⟩)) w ft
          · have nl : decide (cmpI (adB f 4 (szF f a) (szF f a) false) (szF f b) < 0) = false := decide_eq_false (fun k => lt (cmpI_lti.1 k))
            rcases cb with c | c
            · exact half23_sub f _ _ _ _ _ _ _ _ _ _ _ _ _ _ _ _ _ _ _ _ _ _ (lH OB) (lH K) (lH FA) (lH X) (lH FR) SR SB (lH TW) (lH C1) SA (lH OW) (fin _ (.inl ⟨c, rfl⟩)) g4 (.inr (.inl ⟨beq_iff_eq.2 z, nl, lH C2, lH X2, G⟩)) w ft
            · exact half23_nor f _ _ _ _ _ _ _ _ _ _ _ _ _ _ _ _ _ _ _ _ _ _ (lH OB) (lH K) (lH FA) (lH X) (lH FR) SR SB (lH TW) (lH C1) SA (lH OW) (fin _ (.inr ⟨c, rfl⟩)) (by rw [c]; rfl) g4 (.inr (.inl ⟨beq_iff_eq.2 z, nl, lH C2, lH X2, G⟩)) w ft
        · rcases cb with c | c
          · exact half23_sub f _ _ _ _ _ _ 0 _ _ _ _ _ _ _ _ _ _ _ _ _ _ _ (lH OB) (lH K) (lH FA) (lH X) (lH FR) SR SB (lH TW) (lH C1) SA (lH OW) (fin _ (.inl ⟨c, rfl⟩)) g4 (.inl ⟨beq_eq_false_iff_ne.2 z, lH X2, G⟩) w ft
          · exact half23_nor f _ _ _ _ _ _ 0 _ _ _ _ _ _ _ _ _ _ _ _ _ _ _ (lH OB) (lH K) (lH FA) (lH X) (lH FR) SR SB (lH TW) (lH C1) SA (lH OW) (fin _ (.inr ⟨c, rfl⟩)) (by rw [c]; rfl) g4 (.inl ⟨beq_eq_false_iff_ne.2 z, lH X2, G⟩) w ft
      · exact half23_no3 f _ _ _ _ _ 0 0 0 0 0 0 0 0 0 0 0 0 0 0 0 0 _ (lH OB) (lH K) (lH FA) G (bne_iff_ne.2 (by omega)) (bne_iff_ne.2 (by omega)) w ft
  · rw [decide_eq_false hf] at K
    exact half23_no1 f _ _ _ _ _ 0 0 0 0 0 0 0 0 0 0 0 0 0 0 0 0 _ (lH OB) (lH K) G w ft
theorem half23_law (C : FormOK) (D : ClassOK) (S : AddOK) (A : RemOK) (f : Int) (ah al bh bl : Int) (uf : 0 ≤ f ∧ f ≤ 255) (uah : U64 ah) (ual : U64 al) (ubh : U64 bh) (ubl : U64 bl) (w : World) (ft : FTab w) : Calls Tryz.prog 4 #[.int .u8 f, .agg #[.int .u64 ah, .int .u64 al], .agg #[.int .u64 bh, .int .u64 bl]] w fun e w' => e = .returned (.bool true) ∧ Below w.heap.size w w' := by
  have hva := val_range uah ual
  have hvb := val_range ubh ubl
  have h := half23_law_n C D S A f (val ah al) (val bh bl) hva.1 hva.2 hvb.1 hvb.2 uf w ft
  rw [(hl_val uah ual).1, (hl_val uah ual).2, (hl_val ubh ubl).1, (hl_val ubh ubl).2] at h
  exact h
end Go.Proofs.YtjdjonekoodalaaGreatDoor
