import Derived.Test.YtnlmceafleeaiaaGreatDoorOne21
import Derived.Test.YtnlmceafleeaiaaGreatDoorGoes21L
import Derived.Test.YtnlmceafleeaiaaGreatDoorDiv21L
import Derived.Test.YtnlmceafleeaiaaGreatDoorRest0
set_option maxHeartbeats 1000000
set_option linter.unusedVariables false
set_option linter.unusedSimpArgs false
set_option maxRecDepth 100000
namespace Go.Proofs.YtnlmceafleeaiaaGreatDoor
open Go.RowKit
attribute [local go_sem ↓] Go.wp_at_zero Go.wp_at_succ
theorem one21_law_n (C : FormOK) (D : ClassOK) (M : ModeOK) (A : DivOK) (f m : Int) (t : Bool) (a : Int) (a0 : 0 ≤ a) (a1 : a < full) (uf : 0 ≤ f ∧ f ≤ 255) (um : 0 ≤ m ∧ m ≤ 255) (w : World) (ft : FTab w) : Calls Tryz.prog 5 #[.int .u8 f, .agg #[.int .u8 m, .bool t], .agg #[.int .u64 (hiOf (a)), .int .u64 (loOf (a))]] w fun e w' => e = .returned (.bool true) ∧ Below w.heap.size w w' := by
  have G := lH (goes21_any A)
  have K := C.known f uf.1 uf.2
  have MK := M.known m um.1 um.2
  have AA := A.div f m t a a uf.1 uf.2 um.1 um.2 a0 a1 a0 a1
  have zz : ¬ (f < 4 ∧ m < 5) → dvB f m a a = 0 ∧ dvFl f m t a a = 0 := fun k => by
    unfold dvB dvFl; rw [if_neg k, if_neg k]; exact ⟨rfl, rfl⟩
  by_cases hf : f < 4
  · rw [decide_eq_true hf] at K
    by_cases hm : m < 5
    · rw [decide_eq_true hm] at MK
      obtain ⟨p0, p1, p2, p3, p4, p5, p6, p7, p8⟩ := f_nums uf.1 hf
      have EM := C.emax f uf.1 uf.2
      have MP := C.make f false (fE f) 0 uf.1 uf.2 (by omega) (by omega)
      rw [show (0 : Int) % full = 0 by decide, show hiOf 0 = 0 by decide, show loOf 0 = 0 by decide] at MP
      obtain ⟨o0, o1, h1, h2⟩ := dv_one (m := m) uf.1 hf hm a0 a1 _ rfl
      have AO := A.div f m t a (makeF f false (fE f) 0) uf.1 uf.2 um.1 um.2 a0 a1 o0 o1
      have NC := D.nan f a uf.1 uf.2
      have CU := C.cut f a uf.1 uf.2
      rw [Int.emod_eq_of_lt a0 a1] at NC CU
      have PL := plain21N C D f a uf a0 a1
      cases hn : nanF f a with
      | true =>
        rw [hn] at NC
        have c : ¬ (clsF f a = 1 ∨ clsF f a = 2) := by unfold nanF at hn; have := of_decide_eq_true hn; omega
        rw [decide_eq_false c] at PL
        exact one21_main f m _ _ _ _ _ 0 0 t (lH K) (lH MK) (lH EM) (lH MP) (.inl ⟨lH NC, lH PL, G⟩) w ft
      | false =>
        rw [hn] at NC
        obtain ⟨b1, b2⟩ := h1 hn
        rw [b1, b2 t] at AO
        by_cases cp : clsF f a = 1 ∨ clsF f a = 2
        · rw [decide_eq_true cp] at PL
          obtain ⟨g1, g2⟩ := h2 cp
          rw [g1, g2 t] at AA
          exact one21_main f m _ _ _ _ _ _ _ t (lH K) (lH MK) (lH EM) (lH MP) (.inr (.inr ⟨lH NC, lH AO, lH CU, lH PL, lH AA, G⟩)) w ft
        · rw [decide_eq_false cp] at PL
          exact one21_main f m _ _ _ _ _ _ _ t (lH K) (lH MK) (lH EM) (lH MP) (.inr (.inl ⟨lH NC, lH AO, lH CU, lH PL, G⟩)) w ft
    · rw [decide_eq_false hm] at MK
      obtain ⟨z1, z2⟩ := zz (fun k => hm k.2)
      rw [z1, z2] at AA
      exact one21_no2 f m _ _ t (lH K) (lH MK) (lH AA) G w ft
  · rw [decide_eq_false hf] at K
    obtain ⟨z1, z2⟩ := zz (fun k => hf k.1)
    rw [z1, z2] at AA
    exact one21_no1 f m _ _ t (lH K) (lH AA) G w ft
theorem one21_law (C : FormOK) (D : ClassOK) (M : ModeOK) (A : DivOK) (f m : Int) (t : Bool) (ah al : Int) (uf : 0 ≤ f ∧ f ≤ 255) (um : 0 ≤ m ∧ m ≤ 255) (uah : U64 ah) (ual : U64 al) (w : World) (ft : FTab w) : Calls Tryz.prog 5 #[.int .u8 f, .agg #[.int .u8 m, .bool t], .agg #[.int .u64 ah, .int .u64 al]] w fun e w' => e = .returned (.bool true) ∧ Below w.heap.size w w' := by
  have hva := val_range uah ual
  have h := one21_law_n C D M A f m t (val ah al) hva.1 hva.2 uf um w ft
  rw [(hl_val uah ual).1, (hl_val uah ual).2] at h
  exact h
end Go.Proofs.YtnlmceafleeaiaaGreatDoor
