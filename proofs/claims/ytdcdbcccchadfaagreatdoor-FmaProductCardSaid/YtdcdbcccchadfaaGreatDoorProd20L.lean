import Derived.Test.YtdcdbcccchadfaaGreatDoorProd20
import Derived.Test.YtdcdbcccchadfaaGreatDoorGuA
import Derived.Test.YtdcdbcccchadfaaGreatDoorFma20L
import Derived.Test.YtdcdbcccchadfaaGreatDoorFma20N
import Derived.Test.YtdcdbcccchadfaaGreatDoorRest0
set_option maxHeartbeats 1000000
set_option linter.unusedVariables false
set_option linter.unusedSimpArgs false
set_option maxRecDepth 100000
namespace Go.Proofs.YtdcdbcccchadfaaGreatDoor
open Go.RowKit
attribute [local go_sem ↓] Go.wp_at_zero Go.wp_at_succ
theorem prod20_law_n (C : FormOK) (D : ClassOK) (M : ModeOK) (P : MulOK) (A : FmaOK) (f m : Int) (t : Bool) (a b : Int) (ng : Bool) (a0 : 0 ≤ a) (a1 : a < full) (b0 : 0 ≤ b) (b1 : b < full) (uf : 0 ≤ f ∧ f ≤ 255) (um : 0 ≤ m ∧ m ≤ 255) (w : World) (ft : FTab w) : Calls Tryz.prog 6 #[.int .u8 f, .agg #[.int .u8 m, .bool t], .agg #[.int .u64 (hiOf (a)), .int .u64 (loOf (a))], .agg #[.int .u64 (hiOf (b)), .int .u64 (loOf (b))], .bool ng] w fun e w' => e = .returned (.bool true) ∧ Below w.heap.size w w' := by
  have G := lH (goes20_any A)
  have K := C.known f uf.1 uf.2
  have MK := M.known m um.1 um.2
  have NZ := lH (C.nought f ng uf.1 uf.2)
  obtain ⟨z0, z1⟩ := make_full uf.1 (f := f) ng 0 0
  have MX := P.mul f m t a b uf.1 uf.2 um.1 um.2 a0 a1 b0 b1
  have MY := A.fma f m t a b (makeF f ng 0 0) uf.1 uf.2 um.1 um.2 a0 a1 b0 b1 z0 z1
  have zz : ¬ (f < 4 ∧ m < 5) → mlB f m a b = 0 ∧ mlFl f m t a b = 0 ∧ fmB f m a b (makeF f ng 0 0) = 0 ∧ fmFl f m t a b (makeF f ng 0 0) = 0 := fun k => by
    unfold mlB mlFl fmB fmFl; rw [if_neg k, if_neg k, if_neg k, if_neg k]; exact ⟨rfl, rfl, rfl, rfl⟩
  by_cases hf : f < 4
  · rw [decide_eq_true hf] at K
    by_cases hm : m < 5
    · rw [decide_eq_true hm] at MK
      obtain ⟨x0, x1⟩ := ml_fullA (m := m) uf.1 hf hm a0 a1 b0 b1
      have OX := D.of f (mlB f m a b) uf.1 uf.2
      rw [Int.emod_eq_of_lt x0 x1] at OX
      rcases fm_prod (m := m) uf.1 hf hm a0 a1 b0 b1 z0 z1 (nought_cls uf.1 hf ng).1 with ⟨e1, e2⟩ | ⟨k1, k2, y0, y1, k3, k4⟩
      · rw [e1, e2] at MY
        by_cases kc : clsF f (mlB f m a b) = 0
        · have gc : (clsF f (mlB f m a b) == 0) = true := beq_iff_eq.2 kc
          by_cases kf : mlFl f m t a b = 0
          · rw [kc] at OX
            exact prod20_main f m _ _ _ _ _ _ _ _ _ _ _ _ _ t ng _ _ (lH MX) NZ (lH MY) (lH K) (lH MK) (lH OX) (.inl ⟨rfl, beq_iff_eq.2 kf, beq_iff_eq.2 kf, lH OX, G⟩) w ft
          · exact prod20_main f m _ _ _ _ _ _ _ _ _ _ _ _ _ t ng _ false (lH MX) NZ (lH MY) (lH K) (lH MK) (lH OX) (.inr (.inl ⟨gc, beq_eq_false_iff_ne.2 kf, eqr20 _ _ _, G⟩)) w ft
        · exact prod20_main f m _ _ _ _ _ _ _ _ _ _ _ _ _ t ng _ false (lH MX) NZ (lH MY) (lH K) (lH MK) (lH OX) (.inr (.inr ⟨beq_eq_false_iff_ne.2 kc, eqr20 _ _ _, G⟩)) w ft
      · have OY := D.of f (fmB f m a b (makeF f ng 0 0)) uf.1 uf.2
        rw [Int.emod_eq_of_lt y0 y1, k3] at OY
        rw [k1] at OX
        exact prod20_main f m _ _ _ _ _ _ _ _ _ _ _ _ _ t ng _ _ (lH MX) NZ (lH MY) (lH K) (lH MK) (lH OX) (.inl ⟨rfl, beq_iff_eq.2 (k2 t), beq_iff_eq.2 (k4 t), lH OY, G⟩) w ft
    · rw [decide_eq_false hm] at MK
      obtain ⟨q1, q2, q3, q4⟩ := zz (fun k => hm k.2)
      rw [q1, q2] at MX
      rw [q3, q4] at MY
      exact prod20_no2 f m _ _ _ _ _ _ t ng (lH MX) NZ (lH MY) (lH K) (lH MK) G w ft
  · rw [decide_eq_false hf] at K
    obtain ⟨q1, q2, q3, q4⟩ := zz (fun k => hf k.1)
    rw [q1, q2] at MX
    rw [q3, q4] at MY
    exact prod20_no1 f m _ _ _ _ _ _ t ng (lH MX) NZ (lH MY) (lH K) G w ft
theorem prod20_law (C : FormOK) (D : ClassOK) (M : ModeOK) (P : MulOK) (A : FmaOK) (f m : Int) (t : Bool) (ah al bh bl : Int) (ng : Bool) (uf : 0 ≤ f ∧ f ≤ 255) (um : 0 ≤ m ∧ m ≤ 255) (uah : U64 ah) (ual : U64 al) (ubh : U64 bh) (ubl : U64 bl) (w : World) (ft : FTab w) : Calls Tryz.prog 6 #[.int .u8 f, .agg #[.int .u8 m, .bool t], .agg #[.int .u64 ah, .int .u64 al], .agg #[.int .u64 bh, .int .u64 bl], .bool ng] w fun e w' => e = .returned (.bool true) ∧ Below w.heap.size w w' := by
  have hva := val_range uah ual
  have hvb := val_range ubh ubl
  have h := prod20_law_n C D M P A f m t (val ah al) (val bh bl) ng hva.1 hva.2 hvb.1 hvb.2 uf um w ft
  rw [(hl_val uah ual).1, (hl_val uah ual).2, (hl_val ubh ubl).1, (hl_val ubh ubl).2] at h
  exact h
end Go.Proofs.YtdcdbcccchadfaaGreatDoor
