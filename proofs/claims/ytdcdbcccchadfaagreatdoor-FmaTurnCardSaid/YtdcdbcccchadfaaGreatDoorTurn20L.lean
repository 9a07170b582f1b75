import Derived.Test.YtdcdbcccchadfaaGreatDoorTurn20
import Derived.Test.YtdcdbcccchadfaaGreatDoorGuA
import Derived.Test.YtdcdbcccchadfaaGreatDoorFma20L
import Derived.Test.YtdcdbcccchadfaaGreatDoorAddT
import Derived.Test.YtdcdbcccchadfaaGreatDoorRest0
set_option maxHeartbeats 1000000
set_option linter.unusedVariables false
set_option linter.unusedSimpArgs false
set_option maxRecDepth 100000
namespace Go.Proofs.YtdcdbcccchadfaaGreatDoor
open Go.RowKit
attribute [local go_sem ↓] Go.wp_at_zero Go.wp_at_succ
theorem turn20_law_n (C : FormOK) (D : ClassOK) (Y : AnyOK) (M : ModeOK) (S : TurnOK) (A : FmaOK) (f m : Int) (t : Bool) (a b c : Int) (a0 : 0 ≤ a) (a1 : a < full) (b0 : 0 ≤ b) (b1 : b < full) (c0 : 0 ≤ c) (c1 : c < full) (uf : 0 ≤ f ∧ f ≤ 255) (um : 0 ≤ m ∧ m ≤ 255) (w : World) (ft : FTab w) : Calls Tryz.prog 7 #[.int .u8 f, .agg #[.int .u8 m, .bool t], .agg #[.int .u64 (hiOf (a)), .int .u64 (loOf (a))], .agg #[.int .u64 (hiOf (b)), .int .u64 (loOf (b))], .agg #[.int .u64 (hiOf (c)), .int .u64 (loOf (c))]] w fun e w' => e = .returned (.bool true) ∧ Below w.heap.size w w' := by
  have G := lH (goes20_any A)
  have K := C.known f uf.1 uf.2
  have MK := M.known m um.1 um.2
  have AN : ∀ w, FTab w → ∀ p T, HB w p T #[.int .u64 (hiOf a), .int .u64 (loOf a), .int .u64 (hiOf b), .int .u64 (loOf b), .int .u64 (hiOf c), .int .u64 (loOf c)] → Calls Tryz.prog 25 #[.int .u8 f, .func (.func 26) #[] #[], .slice (some ⟨p, 0, none⟩) 3 3] w fun e w' => e = .returned (.bool (anyN f [a, b, c])) ∧ Below w.heap.size w w' := fun w ft p T x => Y.nan f (some ⟨p, 0, none⟩) 3 3 [a, b, c] uf.1 uf.2 w ft (Bs.ofHB [a, b, c] x rfl (by simp))
  by_cases hf : f < 4
  · rw [decide_eq_true hf] at K
    by_cases hm : m < 5
    · rw [decide_eq_true hm] at MK
      have aa : anyN f [a, b, c] = (nanF f a || (nanF f b || nanF f c)) := by unfold anyN; simp [Int.emod_eq_of_lt a0 a1, Int.emod_eq_of_lt b0 b1, Int.emod_eq_of_lt c0 c1]
      rw [aa] at AN
      cases hn : (nanF f a || (nanF f b || nanF f c)) with
      | true =>
        rw [hn] at AN
        exact turn20_no3 f m _ _ _ _ _ _ t (lH K) (lH MK) G (lH AN) w ft
      | false =>
        rw [hn] at AN
        have na : nanF f a = false := (Bool.or_eq_false_iff.1 hn).1
        have nb : nanF f b = false := (Bool.or_eq_false_iff.1 (Bool.or_eq_false_iff.1 hn).2).1
        have nc : nanF f c = false := (Bool.or_eq_false_iff.1 (Bool.or_eq_false_iff.1 hn).2).2
        have mr := mir_range um.1 um.2
        have MR := lH (M.mirror m um.1 um.2)
        obtain ⟨ta0, ta1⟩ := turn_full (f := f) (b := a) uf.1
        obtain ⟨tc0, tc1⟩ := turn_full (f := f) (b := c) uf.1
        have AB := A.fma f m t a b c uf.1 uf.2 um.1 um.2 a0 a1 b0 b1 c0 c1
        have BA := A.fma f m t b a c uf.1 uf.2 um.1 um.2 b0 b1 a0 a1 c0 c1
        have TA := lH (S.turn f a uf.1 uf.2 a0 a1)
        have TC := lH (S.turn f c uf.1 uf.2 c0 c1)
        have AY := A.fma f (mirM m) t (turnF f a) b (turnF f c) uf.1 uf.2 mr.1 mr.2 ta0 ta1 b0 b1 tc0 tc1
        obtain ⟨c1_, c2_⟩ := fm_comm (m := m) hf hm a0 a1 b0 b1 c0 c1 na nb nc
        obtain ⟨x0, x1, y0, y1, fy, R⟩ := fm_turn (m := m) uf.1 hf hm a0 a1 b0 b1 c0 c1 na nb nc _ _ rfl rfl
        rw [c1_, c2_] at BA
        rw [fy] at AY
        generalize fmB f m a b c = x at *
        generalize fmB f (mirM m) (turnF f a) b (turnF f c) = y at *
        have OX := D.of f x uf.1 uf.2
        have OY := D.of f y uf.1 uf.2
        have NX := D.nan f x uf.1 uf.2
        have TX := S.turn f x uf.1 uf.2 x0 x1
        rw [Int.emod_eq_of_lt x0 x1] at NX OX
        rw [Int.emod_eq_of_lt y0 y1] at OY
        by_cases kz : clsF f x = 0
        · have gk : (clsF f x == 0) = true := beq_iff_eq.2 kz
          have ky : clsF f y = 0 := by
            rcases R with ⟨_, h⟩ | ⟨h, _⟩ | ⟨h, rfl⟩
            · exact h
            · unfold nanF at h; have := of_decide_eq_true h; omega
            · rw [(turn_same uf.1 hf x0).1]; exact kz
          rw [ky] at OY
          exact turn20_main f m _ _ _ _ _ _ _ _ _ _ _ _ _ _ _ _ _ 0 0 t _ _ (lH K) (lH MK) (lH AB) MR TA TC (lH AY) (lH BA) (lH OX) (lH AN) (.inl ⟨gk, lH OY, G⟩) w ft
        · have gk : (clsF f x == 0) = false := beq_eq_false_iff_ne.2 kz
          rcases R with ⟨h, _⟩ | ⟨hx, rfl⟩ | ⟨hx, rfl⟩
          · exact absurd h kz
          · rw [hx] at NX
            exact turn20_main f m _ _ _ _ _ _ _ _ _ _ _ _ _ _ _ _ _ 0 0 t _ false (lH K) (lH MK) (lH AB) MR TA TC (lH AY) (lH BA) (lH OX) (lH AN) (.inr (.inl ⟨gk, eqr20 _ _ _, lH NX, G⟩)) w ft
          · rw [hx] at NX
            exact turn20_main f m _ _ _ _ _ _ _ _ _ _ _ _ _ _ _ _ _ _ _ t _ false (lH K) (lH MK) (lH AB) MR TA TC (lH AY) (lH BA) (lH OX) (lH AN) (.inr (.inr ⟨gk, eqb20 _ _, lH NX, lH TX, G⟩)) w ft
    · rw [decide_eq_false hm] at MK
      exact turn20_no2 f m _ _ _ _ _ _ t (lH K) (lH MK) G w ft
  · rw [decide_eq_false hf] at K
    exact turn20_no1 f m _ _ _ _ _ _ t (lH K) G w ft
theorem turn20_law (C : FormOK) (D : ClassOK) (Y : AnyOK) (M : ModeOK) (S : TurnOK) (A : FmaOK) (f m : Int) (t : Bool) (ah al bh bl ch cl : Int) (uf : 0 ≤ f ∧ f ≤ 255) (um : 0 ≤ m ∧ m ≤ 255) (uah : U64 ah) (ual : U64 al) (ubh : U64 bh) (ubl : U64 bl) (uch : U64 ch) (ucl : U64 cl) (w : World) (ft : FTab w) : Calls Tryz.prog 7 #[.int .u8 f, .agg #[.int .u8 m, .bool t], .agg #[.int .u64 ah, .int .u64 al], .agg #[.int .u64 bh, .int .u64 bl], .agg #[.int .u64 ch, .int .u64 cl]] w fun e w' => e = .returned (.bool true) ∧ Below w.heap.size w w' := by
  have hva := val_range uah ual
  have hvb := val_range ubh ubl
  have hvc := val_range uch ucl
  have h := turn20_law_n C D Y M S A f m t (val ah al) (val bh bl) (val ch cl) hva.1 hva.2 hvb.1 hvb.2 hvc.1 hvc.2 uf um w ft
  rw [(hl_val uah ual).1, (hl_val uah ual).2, (hl_val ubh ubl).1, (hl_val ubh ubl).2, (hl_val uch ucl).1, (hl_val uch ucl).2] at h
  exact h
end Go.Proofs.YtdcdbcccchadfaaGreatDoor
