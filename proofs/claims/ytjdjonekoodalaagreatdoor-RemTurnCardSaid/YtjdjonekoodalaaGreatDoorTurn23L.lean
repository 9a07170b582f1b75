import Derived.Test.YtjdjonekoodalaaGreatDoorTurn23
import Derived.Test.YtjdjonekoodalaaGreatDoorAddT
set_option maxHeartbeats 1000000
set_option linter.unusedVariables false
set_option linter.unusedSimpArgs false
set_option maxRecDepth 100000
namespace Go.Proofs.YtjdjonekoodalaaGreatDoor
open Go.RowKit
attribute [local go_sem ↓] Go.wp_at_zero Go.wp_at_succ
theorem turn23_law_n (C : FormOK) (D : ClassOK) (Y : AnyOK) (T : TurnOK) (A : RemOK) (f a b : Int) (a0 : 0 ≤ a) (a1 : a < full) (b0 : 0 ≤ b) (b1 : b < full) (uf : 0 ≤ f ∧ f ≤ 255) (w : World) (ft : FTab w) : Calls Tryz.prog 5 #[.int .u8 f, .agg #[.int .u64 (hiOf (a)), .int .u64 (loOf (a))], .agg #[.int .u64 (hiOf (b)), .int .u64 (loOf (b))]] w fun e w' => e = .returned (.bool true) ∧ Below w.heap.size w w' := by
  have G := lH (goes23_any A)
  have K := C.known f uf.1 uf.2
  have AN : ∀ w, FTab w → ∀ p T, HB w p T #[.int .u64 (hiOf a), .int .u64 (loOf a), .int .u64 (hiOf b), .int .u64 (loOf b)] → Calls Tryz.prog 21 #[.int .u8 f, .func (.func 22) #[] #[], .slice (some ⟨p, 0, none⟩) 2 2] w fun e w' => e = .returned (.bool (anyN f [a, b])) ∧ Below w.heap.size w w' := fun w ft p T x => Y.nan f (some ⟨p, 0, none⟩) 2 2 [a, b] uf.1 uf.2 w ft (Bs.ofHB [a, b] x rfl (by simp))
  by_cases hf : f < 4
  · rw [decide_eq_true hf] at K
    have aa : anyN f [a, b] = (nanF f a || nanF f b) := by unfold anyN; simp [Int.emod_eq_of_lt a0 a1, Int.emod_eq_of_lt b0 b1]
    rw [aa] at AN
    cases hn : (nanF f a || nanF f b) with
    | true =>
      rw [hn] at AN
      exact turn23_no2 f _ _ _ _ (lH K) G (lH AN) w ft
    | false =>
      rw [hn] at AN
      have na : clsF f a ≤ 3 := by have h := (Bool.or_eq_false_iff.1 hn).1; unfold nanF at h; have := of_decide_eq_false h; omega
      have nb : clsF f b ≤ 3 := by have h := (Bool.or_eq_false_iff.1 hn).2; unfold nanF at h; have := of_decide_eq_false h; omega
      obtain ⟨ta0, ta1⟩ := turn_full (f := f) (b := a) uf.1
      obtain ⟨tb0, tb1⟩ := turn_full (f := f) (b := b) uf.1
      have X := A.rem f a b uf.1 uf.2 a0 a1 b0 b1
      have TA := lH (T.turn f a uf.1 uf.2 a0 a1)
      have TB := lH (T.turn f b uf.1 uf.2 b0 b1)
      have XB := A.rem f a (turnF f b) uf.1 uf.2 a0 a1 tb0 tb1
      have XA := A.rem f (turnF f a) b uf.1 uf.2 ta0 ta1 b0 b1
      obtain ⟨h1, h2, h3, r0, r1, R⟩ := rm_turn uf.1 hf a0 a1 b0 b1 na nb
      obtain ⟨s1, s2⟩ := rm_some hf a0 a1 b0 b1 na nb
      have fz : nanF f (rmB f a b) = false → rmFl f a b = 0 := fun h => by
        rw [s2]
        by_cases i : clsF f a = 3 ∨ clsF f b = 0
        · rw [s1, if_pos i] at h
          have d := def_cls uf.1 hf
          unfold nanF at h
          have := of_decide_eq_false h
          omega
        · rw [if_neg i]
      rw [h1, h2] at XB
      rw [h3] at XA
      generalize rmB f a b = r at *
      have NX := D.nan f r uf.1 uf.2
      have TX := T.turn f r uf.1 uf.2 r0 r1
      rw [Int.emod_eq_of_lt r0 r1] at NX
      rcases R with ⟨hx, e⟩ | ⟨hx, e⟩
      · rw [hx] at NX
        rw [e] at XA
        exact turn23_nan f _ _ _ _ _ _ _ _ _ _ _ (lH K) (lH X) TB (lH XB) TA (lH XA) (lH NX) G (lH AN) w ft
      · rw [hx] at NX
        rw [e, fz hx] at XA
        rw [fz hx] at X XB
        exact turn23_num f _ _ _ _ _ _ _ _ _ _ _ _ (lH K) (lH X) TB (lH XB) TA (lH XA) (lH NX) (lH TX) G (lH AN) w ft
  · rw [decide_eq_false hf] at K
    exact turn23_no1 f _ _ _ _ (lH K) G w ft
theorem turn23_law (C : FormOK) (D : ClassOK) (Y : AnyOK) (T : TurnOK) (A : RemOK) (f : Int) (ah al bh bl : Int) (uf : 0 ≤ f ∧ f ≤ 255) (uah : U64 ah) (ual : U64 al) (ubh : U64 bh) (ubl : U64 bl) (w : World) (ft : FTab w) : Calls Tryz.prog 5 #[.int .u8 f, .agg #[.int .u64 ah, .int .u64 al], .agg #[.int .u64 bh, .int .u64 bl]] w fun e w' => e = .returned (.bool true) ∧ Below w.heap.size w w' := by
  have hva := val_range uah ual
  have hvb := val_range ubh ubl
  have h := turn23_law_n C D Y T A f (val ah al) (val bh bl) hva.1 hva.2 hvb.1 hvb.2 uf w ft
  rw [(hl_val uah ual).1, (hl_val uah ual).2, (hl_val ubh ubl).1, (hl_val ubh ubl).2] at h
  exact h
end Go.Proofs.YtjdjonekoodalaaGreatDoor
