/-
  AddsubTurn.
-/
import Derived.Test.YtnaamckhignjeaaGreatDoorTurn18
import Derived.Test.YtnaamckhignjeaaGreatDoorGoes18L
import Derived.Test.YtnaamckhignjeaaGreatDoorAdd18L
set_option linter.unusedVariables false
set_option linter.unusedSimpArgs false
set_option maxRecDepth 100000
namespace Go.Proofs.YtnaamckhignjeaaGreatDoor
open Go.RowKit
attribute [local go_sem ↓] Go.wp_at_zero Go.wp_at_succ

set_option maxHeartbeats 1000000 in
theorem turn18_law_n (C : FormOK) (D : ClassOK) (Y : AnyOK) (M : ModeOK) (A : AddOK) (f m : Int) (t : Bool) (a b : Int) (a0 : 0 ≤ a) (a1 : a < full) (b0 : 0 ≤ b) (b1 : b < full) (uf : 0 ≤ f ∧ f ≤ 255) (um : 0 ≤ m ∧ m ≤ 255) (w : World) (ft : FTab w) : Calls Tryz.prog 6 #[.int .u8 f, .agg #[.int .u8 m, .bool t], .agg #[.int .u64 (hiOf (a)), .int .u64 (loOf (a))], .agg #[.int .u64 (hiOf (b)), .int .u64 (loOf (b))]] w fun e w' => e = .returned (.bool true) ∧ Below w.heap.size w w' := by
  have G := Lib.hid (goes18_any A)
  have K := C.known f uf.1 uf.2
  have MK := M.known m um.1 um.2
  have AN : ∀ w, FTab w → ∀ p T, HB w p T #[.int .u64 (hiOf a), .int .u64 (loOf a), .int .u64 (hiOf b), .int .u64 (loOf b)] → Calls Tryz.prog 24 #[.int .u8 f, .func (.func 25) #[] #[], .slice (some ⟨p, 0, none⟩) 2 2] w fun e w' => e = .returned (.bool (anyN f [a, b])) ∧ Below w.heap.size w w' := fun w ft p T x => Y.nan f (some ⟨p, 0, none⟩) 2 2 [a, b] uf.1 uf.2 w ft (Bs.ofHB [a, b] x rfl (by simp))
  by_cases hf : f < 4
  · rw [decide_eq_true hf] at K
    by_cases hm : m < 5
    · rw [decide_eq_true hm] at MK
      have aa : anyN f [a, b] = (nanF f a || nanF f b) := by unfold anyN; simp [Int.emod_eq_of_lt a0 a1, Int.emod_eq_of_lt b0 b1]
      rw [aa] at AN
      cases hn : (nanF f a || nanF f b) with
      | true =>
        rw [hn] at AN
        exact turn18_no3 f m _ _ _ _ t (Lib.hid K) (Lib.hid MK) G (Lib.hid AN) w ft
      | false =>
        rw [hn] at AN
        have na : nanF f a = false := (Bool.or_eq_false_iff.1 hn).1
        have nb : nanF f b = false := (Bool.or_eq_false_iff.1 hn).2
        have mr := mir_range um.1 um.2
        have MR := Lib.hid (M.mirror m um.1 um.2)
        obtain ⟨ta0, ta1⟩ := turn_full (f := f) (b := a) uf.1
        obtain ⟨tb0, tb1⟩ := turn_full (f := f) (b := b) uf.1
        have AB := A.add f m t a b uf.1 uf.2 um.1 um.2 a0 a1 b0 b1
        have BA := A.add f m t b a uf.1 uf.2 um.1 um.2 b0 b1 a0 a1
        have TA := Lib.hid (A.turn f a uf.1 uf.2 a0 a1)
        have TB := Lib.hid (A.turn f b uf.1 uf.2 b0 b1)
        have AY := A.add f (mirM m) t (turnF f a) (turnF f b) uf.1 uf.2 mr.1 mr.2 ta0 ta1 tb0 tb1
        obtain ⟨c1, c2⟩ := ad_comm (m := m) uf.1 hf hm a0 a1 b0 b1 na nb
        obtain ⟨x0, x1, y0, y1, fy, R⟩ := turn_ad (m := m) uf.1 hf um.1 hm a0 a1 b0 b1 na nb _ _ rfl rfl
        rw [c1, c2] at BA
        rw [fy] at AY
        generalize adB f m a b (negF f b) = x at *
        generalize adB f (mirM m) (turnF f a) (turnF f b) (negF f (turnF f b)) = y at *
        have OX := D.of f x uf.1 uf.2
        have NX := D.nan f x uf.1 uf.2
        have OY := D.of f y uf.1 uf.2
        have TX := A.turn f x uf.1 uf.2 x0 x1
        rw [Int.emod_eq_of_lt x0 x1] at OX NX
        rw [Int.emod_eq_of_lt y0 y1] at OY
        rcases R with ⟨hx, rfl⟩ | ⟨hx, R⟩
        · rw [hx] at NX
          exact turn18_main f m _ _ _ _ _ _ _ _ _ _ _ _ _ _ _ 0 0 t _ false (Lib.hid K) (Lib.hid MK) (Lib.hid AB) MR TA TB (Lib.hid AY) (Lib.hid BA) (Lib.hid OX) (Lib.hid AN) (.inl ⟨eqb18 _ _, Lib.hid NX, G⟩) w ft
        · rw [hx] at NX
          by_cases gc : clsF f x = 0
          · have gt : (clsF f x == 0) = true := beq_iff_eq.2 gc
            by_cases mm : m ≤ 1 ∨ m = 4
            · have cy : clsF f y = 0 := by
                rcases R with rfl | h
                · obtain ⟨q, _⟩ := turn_same uf.1 hf x0; omega
                · exact h.2.1
              rw [cy] at OY
              by_cases m1 : m ≤ 1
              · exact turn18_main f m _ _ _ _ _ _ _ _ _ _ _ _ _ _ _ 0 0 t _ _ (Lib.hid K) (Lib.hid MK) (Lib.hid AB) MR TA TB (Lib.hid AY) (Lib.hid BA) (Lib.hid OX) (Lib.hid AN) (.inr (.inl ⟨gt, decide_eq_true m1, Lib.hid NX, Lib.hid OY, G⟩)) w ft
              · exact turn18_main f m _ _ _ _ _ _ _ _ _ _ _ _ _ _ _ 0 0 t _ _ (Lib.hid K) (Lib.hid MK) (Lib.hid AB) MR TA TB (Lib.hid AY) (Lib.hid BA) (Lib.hid OX) (Lib.hid AN) (.inr (.inr (.inl ⟨gt, decide_eq_false m1, beq_iff_eq.2 (mm.resolve_left m1), Lib.hid NX, Lib.hid OY, G⟩))) w ft
            · have ey : y = turnF f x := by
                rcases R with h | h
                · exact h
                · exact absurd h.2.2 mm
              subst ey
              exact turn18_main f m _ _ _ _ _ _ _ _ _ _ _ _ _ _ _ _ _ t _ false (Lib.hid K) (Lib.hid MK) (Lib.hid AB) MR TA TB (Lib.hid AY) (Lib.hid BA) (Lib.hid OX) (Lib.hid AN) (.inr (.inr (.inr (.inr ⟨gt, decide_eq_false (fun k => mm (.inl k)), beq_eq_false_iff_ne.2 (fun k => mm (.inr k)), eqb18 _ _, Lib.hid NX, Lib.hid TX, G⟩)))) w ft
          · have ey : y = turnF f x := by
              rcases R with h | h
              · exact h
              · exact absurd h.1 gc
            subst ey
            exact turn18_main f m _ _ _ _ _ _ _ _ _ _ _ _ _ _ _ _ _ t _ false (Lib.hid K) (Lib.hid MK) (Lib.hid AB) MR TA TB (Lib.hid AY) (Lib.hid BA) (Lib.hid OX) (Lib.hid AN) (.inr (.inr (.inr (.inl ⟨beq_eq_false_iff_ne.2 gc, eqb18 _ _, Lib.hid NX, Lib.hid TX, G⟩)))) w ft
    · rw [decide_eq_false hm] at MK
      exact turn18_no2 f m _ _ _ _ t (Lib.hid K) (Lib.hid MK) G w ft
  · rw [decide_eq_false hf] at K
    exact turn18_no1 f m _ _ _ _ t (Lib.hid K) G w ft
theorem turn18_law (C : FormOK) (D : ClassOK) (Y : AnyOK) (M : ModeOK) (A : AddOK) (f m : Int) (t : Bool) (ah al bh bl : Int) (uf : 0 ≤ f ∧ f ≤ 255) (um : 0 ≤ m ∧ m ≤ 255) (uah : U64 ah) (ual : U64 al) (ubh : U64 bh) (ubl : U64 bl) (w : World) (ft : FTab w) : Calls Tryz.prog 6 #[.int .u8 f, .agg #[.int .u8 m, .bool t], .agg #[.int .u64 ah, .int .u64 al], .agg #[.int .u64 bh, .int .u64 bl]] w fun e w' => e = .returned (.bool true) ∧ Below w.heap.size w w' := by
  have hva := val_range uah ual
  have hvb := val_range ubh ubl
  have h := turn18_law_n C D Y M A f m t (val ah al) (val bh bl) hva.1 hva.2 hvb.1 hvb.2 uf um w ft
  rw [(hl_val uah ual).1, (hl_val uah ual).2, (hl_val ubh ubl).1, (hl_val ubh ubl).2] at h
  exact h


end Go.Proofs.YtnaamckhignjeaaGreatDoor
