import Derived.Test.YtbighggnfkdncaaGreatDoorBetw22
import Derived.Test.YtbighggnfkdncaaGreatDoorWiden22L
set_option maxHeartbeats 1000000
set_option linter.unusedVariables false
set_option linter.unusedSimpArgs false
set_option maxRecDepth 100000
namespace Go.Proofs.YtbighggnfkdncaaGreatDoor
open Go.RowKit
attribute [local go_sem ↓] Go.wp_at_zero Go.wp_at_succ
theorem betw22_law_n (C : FormOK) (D : ClassOK) (P : MulOK) (S : AddOK) (A : SqrtOK) (f m : Int) (t : Bool) (a : Int) (a0 : 0 ≤ a) (a1 : a < full) (uf : 0 ≤ f ∧ f ≤ 255) (um : 0 ≤ m ∧ m ≤ 255) (w : World) (ft : FTab w) : Calls Tryz.prog 4 #[.int .u8 f, .agg #[.int .u8 m, .bool t], .agg #[.int .u64 (hiOf (a)), .int .u64 (loOf (a))]] w fun e w' => e = .returned (.bool true) ∧ Below w.heap.size w w' := by
  have G := lH (goes22_any A)
  obtain ⟨mm, hm⟩ : ∃ mm, m % 5 = mm := ⟨_, rfl⟩
  have mt : m.tmod 5 = mm := by rw [Int.tmod_eq_emod_of_nonneg um.1, hm]
  have r5 : 0 ≤ mm ∧ mm < 5 := by omega
  have SA := lH (size22N C f a uf.1 uf.2 a0 a1)
  obtain ⟨s0, s1⟩ := sz_full (f := f) (b := a) uf.1
  have OA := D.of f (szF f a) uf.1 uf.2
  rw [Int.emod_eq_of_lt s0 s1] at OA
  by_cases h2 : 2 < f
  · exact betw22_no1 f m _ _ mm _ 0 0 0 0 _ _ 0 0 0 0 0 0 0 0 0 0 0 0 t _ false SA (lH OA) G mt hm (decide_eq_true h2) w ft
  · have d2 : decide (2 < f) = false := decide_eq_false h2
    by_cases cz : clsF f (szF f a) = 1 ∨ clsF f (szF f a) = 2
    · have hf : f < 4 := by omega
      obtain ⟨cc, _, _⟩ := sz_cls uf.1 hf a0
      obtain ⟨px, _⟩ := sz_same uf.1 hf a0 (show clsF f a ≤ 2 by omega)
      generalize szF f a = z at *
      have X1 := A.sqrt f mm t z uf.1 uf.2 r5.1 (by omega) s0 s1
      have X2 := A.sqrt f 4 false z uf.1 uf.2 (by decide) (by decide) s0 s1
      obtain ⟨_, fl⟩ := sq_flags (m := mm) uf.1 hf r5.2 s0 s1 cz px.2.2.2.1 _ rfl
      obtain ⟨R0, R1, cR, cS, wR, wS, wN, pX, pY, le, lt, ex⟩ := sq_between uf.1 (by omega) px cz _ _ _ _ rfl rfl rfl rfl
      have AD := addB (sqB f 4 z) 1
      rw [show hiOf 1 = 0 by decide, show loOf 1 = 1 by decide] at AD
      have U := square22N C P S f (sqB f 4 z) uf.1 (by omega) R0 (by omega) (.inr cR) wR
      have V := square22N C P S f (sqB f 4 z + 1) uf.1 (by omega) (by omega) R1 (.inr cS) wS
      have W := widen22N C P S f z uf.1 (by omega) s0 s1 cz
      have K0 := cmpB (mlB (f + 1) 0 (wdF f (sqB f 4 z)) (wdF f (sqB f 4 z))) (wdF f z)
      have K1 := cmpB (mlB (f + 1) 0 (wdF f (sqB f 4 z + 1)) (wdF f (sqB f 4 z + 1))) (wdF f z)
      rw [Int.emod_eq_of_lt pX.1 pX.2.1, Int.emod_eq_of_lt wN.1 wN.2.1] at K0
      rw [Int.emod_eq_of_lt pY.1 pY.2.1, Int.emod_eq_of_lt wN.1 wN.2.1] at K1
      have ex := ex false
      generalize mlB (f + 1) 0 (wdF f (sqB f 4 z)) (wdF f (sqB f 4 z)) = X at *
      generalize mlB (f + 1) 0 (wdF f (sqB f 4 z + 1)) (wdF f (sqB f 4 z + 1)) = Y at *
      have l1 : decide (cmpI X (wdF f z) ≤ 0) = true := decide_eq_true (cmpI_lei.2 le)
      have l2 : decide (0 < cmpI Y (wdF f z)) = true := decide_eq_true (by have := cmpI_turn (wdF f z) Y; have := cmpI_lti.2 lt; omega)
      have l3 : (cmpI X (wdF f z) == 0) = (sqFl f 4 false z == 0) := by
        rw [Bool.eq_iff_iff, beq_iff_eq, beq_iff_eq, cmpI_eqi]; exact ex
      rcases cz with c | c
      · rw [c] at OA
        exact betw22_sub f m _ _ mm _ _ _ _ _ _ _ _ _ _ _ _ _ _ _ _ _ _ _ t _ _ SA (lH OA) (lH X1) (lH X2) (lH AD) (lH U) (lH V) (lH W) (lH K0) (lH K1) G mt hm d2 rfl (fl_and1 (fl t)).2 l1 l2 l3 w ft
      · rw [c] at OA
        exact betw22_nor f m _ _ mm _ _ _ _ _ _ _ _ _ _ _ _ _ _ _ _ _ _ _ t _ _ SA (lH OA) (lH X1) (lH X2) (lH AD) (lH U) (lH V) (lH W) (lH K0) (lH K1) G mt hm d2 rfl rfl (fl_and1 (fl t)).2 l1 l2 l3 w ft
    · exact betw22_no2 f m _ _ mm _ 0 0 0 0 _ _ 0 0 0 0 0 0 0 0 0 0 0 0 t _ false SA (lH OA) G mt hm d2 (bne_iff_ne.2 (by omega)) (bne_iff_ne.2 (by omega)) w ft
theorem betw22_law (C : FormOK) (D : ClassOK) (P : MulOK) (S : AddOK) (A : SqrtOK) (f m : Int) (t : Bool) (ah al : Int) (uf : 0 ≤ f ∧ f ≤ 255) (um : 0 ≤ m ∧ m ≤ 255) (uah : U64 ah) (ual : U64 al) (w : World) (ft : FTab w) : Calls Tryz.prog 4 #[.int .u8 f, .agg #[.int .u8 m, .bool t], .agg #[.int .u64 ah, .int .u64 al]] w fun e w' => e = .returned (.bool true) ∧ Below w.heap.size w w' := by
  have hva := val_range uah ual
  have h := betw22_law_n C D P S A f m t (val ah al) hva.1 hva.2 uf um w ft
  rw [(hl_val uah ual).1, (hl_val uah ual).2] at h
  exact h
end Go.Proofs.YtbighggnfkdncaaGreatDoor
