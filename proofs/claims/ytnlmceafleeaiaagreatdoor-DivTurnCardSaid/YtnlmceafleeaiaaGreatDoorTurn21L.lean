import Derived.Test.YtnlmceafleeaiaaGreatDoorTurn21
import Derived.Test.YtnlmceafleeaiaaGreatDoorGoes21L
import Derived.Test.YtnlmceafleeaiaaGreatDoorDiv21L
import Derived.Test.YtnlmceafleeaiaaGreatDoorAddT
import Derived.Test.YtnlmceafleeaiaaGreatDoorRest0
set_option maxHeartbeats 1000000
set_option linter.unusedVariables false
set_option linter.unusedSimpArgs false
set_option maxRecDepth 100000
namespace Go.Proofs.YtnlmceafleeaiaaGreatDoor
open Go.RowKit
attribute [local go_sem ↓] Go.wp_at_zero Go.wp_at_succ
theorem turn21_law_n (C : FormOK) (D : ClassOK) (Y : AnyOK) (M : ModeOK) (S : TurnOK) (A : DivOK) (f m : Int) (t : Bool) (a b : Int) (a0 : 0 ≤ a) (a1 : a < full) (b0 : 0 ≤ b) (b1 : b < full) (uf : 0 ≤ f ∧ f ≤ 255) (um : 0 ≤ m ∧ m ≤ 255) (w : World) (ft : FTab w) : Calls Tryz.prog 7 #[.int .u8 f, .agg #[.int .u8 m, .bool t], .agg #[.int .u64 (hiOf (a)), .int .u64 (loOf (a))], .agg #[.int .u64 (hiOf (b)), .int .u64 (loOf (b))]] w fun e w' => e = .returned (.bool true) ∧ Below w.heap.size w w' := by
  have G := lH (goes21_any A)
  have K := C.known f uf.1 uf.2
  have MK := M.known m um.1 um.2
  have AN : ∀ w, FTab w → ∀ p T, HB w p T #[.int .u64 (hiOf a), .int .u64 (loOf a), .int .u64 (hiOf b), .int .u64 (loOf b)] → Calls Tryz.prog 25 #[.int .u8 f, .func (.func 24) #[] #[], .slice (some ⟨p, 0, none⟩) 2 2] w fun e w' => e = .returned (.bool (anyN f [a, b])) ∧ Below w.heap.size w w' := fun w ft p T x => Y.nan f (some ⟨p, 0, none⟩) 2 2 [a, b] uf.1 uf.2 w ft (Bs.ofHB [a, b] x rfl (by simp))
  by_cases hf : f < 4
  · rw [decide_eq_true hf] at K
    by_cases hm : m < 5
    · rw [decide_eq_true hm] at MK
      have aa : anyN f [a, b] = (nanF f a || nanF f b) := by unfold anyN; simp [Int.emod_eq_of_lt a0 a1, Int.emod_eq_of_lt b0 b1]
      rw [aa] at AN
      cases hn : (nanF f a || nanF f b) with
      | true =>
        rw [hn] at AN
        exact turn21_no3 f m _ _ _ _ t (lH K) (lH MK) G (lH AN) w ft
      | false =>
        rw [hn] at AN
        have na : nanF f a = false := (Bool.or_eq_false_iff.1 hn).1
        have nb : nanF f b = false := (Bool.or_eq_false_iff.1 hn).2
        have mr := mir_range um.1 um.2
        have MR := lH (M.mirror m um.1 um.2)
        obtain ⟨ta0, ta1⟩ := turn_full (f := f) (b := a) uf.1
        obtain ⟨tb0, tb1⟩ := turn_full (f := f) (b := b) uf.1
        have m5 : mirM m < 5 := by have := mir_known m; rw [decide_eq_decide] at this; exact this.2 hm
        have AB := A.div f m t a b uf.1 uf.2 um.1 um.2 a0 a1 b0 b1
        have TA := lH (S.turn f a uf.1 uf.2 a0 a1)
        have TB := lH (S.turn f b uf.1 uf.2 b0 b1)
        have AY := A.div f (mirM m) t (turnF f a) b uf.1 uf.2 mr.1 mr.2 ta0 ta1 b0 b1
        have AZ := A.div f (mirM m) t a (turnF f b) uf.1 uf.2 mr.1 mr.2 a0 a1 tb0 tb1
        have AT := A.div f m t (turnF f a) (turnF f b) uf.1 uf.2 um.1 um.2 ta0 ta1 tb0 tb1
        obtain ⟨⟨c1, c2⟩, _⟩ := dv_turn2 (m := m) uf.1 hf hm a0 a1 b0 b1 na nb
        obtain ⟨_, ⟨d1, d2⟩⟩ := dv_turn2 (m := mirM m) uf.1 hf m5 a0 a1 b0 b1 na nb
        rw [c1, c2 t] at AT
        rw [d1, d2 t] at AZ
        obtain ⟨x0, x1, y0, y1, fy, R⟩ := dv_turn (m := m) uf.1 hf hm a0 a1 b0 b1 na nb _ _ rfl rfl
        rw [fy t] at AY AZ
        generalize dvB f m a b = x at *
        generalize dvB f (mirM m) (turnF f a) b = y at *
        have NX := D.nan f x uf.1 uf.2
        have TX := S.turn f x uf.1 uf.2 x0 x1
        rw [Int.emod_eq_of_lt x0 x1] at NX
        rcases R with ⟨hx, rfl⟩ | ⟨hx, rfl⟩
        · rw [hx] at NX
          exact turn21_main f m _ _ _ _ _ _ _ _ _ _ _ _ _ _ 0 0 t (lH K) (lH MK) (lH AB) MR TA (lH AY) TB (lH AZ) (lH AT) (lH AN) (.inl ⟨eqr21 _ _ _, lH NX, G⟩) w ft
        · rw [hx] at NX
          exact turn21_main f m _ _ _ _ _ _ _ _ _ _ _ _ _ _ _ _ t (lH K) (lH MK) (lH AB) MR TA (lH AY) TB (lH AZ) (lH AT) (lH AN) (.inr ⟨eqb21 _ _, lH NX, lH TX, G⟩) w ft
    · rw [decide_eq_false hm] at MK
      exact turn21_no2 f m _ _ _ _ t (lH K) (lH MK) G w ft
  · rw [decide_eq_false hf] at K
    exact turn21_no1 f m _ _ _ _ t (lH K) G w ft
theorem turn21_law (C : FormOK) (D : ClassOK) (Y : AnyOK) (M : ModeOK) (S : TurnOK) (A : DivOK) (f m : Int) (t : Bool) (ah al bh bl : Int) (uf : 0 ≤ f ∧ f ≤ 255) (um : 0 ≤ m ∧ m ≤ 255) (uah : U64 ah) (ual : U64 al) (ubh : U64 bh) (ubl : U64 bl) (w : World) (ft : FTab w) : Calls Tryz.prog 7 #[.int .u8 f, .agg #[.int .u8 m, .bool t], .agg #[.int .u64 ah, .int .u64 al], .agg #[.int .u64 bh, .int .u64 bl]] w fun e w' => e = .returned (.bool true) ∧ Below w.heap.size w w' := by
  have hva := val_range uah ual
  have hvb := val_range ubh ubl
  have h := turn21_law_n C D Y M S A f m t (val ah al) (val bh bl) hva.1 hva.2 hvb.1 hvb.2 uf um w ft
  rw [(hl_val uah ual).1, (hl_val uah ual).2, (hl_val ubh ubl).1, (hl_val ubh ubl).2] at h
  exact h
end Go.Proofs.YtnlmceafleeaiaaGreatDoor
