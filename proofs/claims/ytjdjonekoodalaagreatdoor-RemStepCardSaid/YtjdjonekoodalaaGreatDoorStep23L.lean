import Derived.Test.YtjdjonekoodalaaGreatDoorStep23
import Derived.Test.YtjdjonekoodalaaGreatDoorGzC
import Derived.Test.YtjdjonekoodalaaGreatDoorRem23F
import Derived.Test.YtjdjonekoodalaaGreatDoorAddT
set_option maxHeartbeats 1000000
set_option linter.unusedVariables false
set_option linter.unusedSimpArgs false
set_option maxRecDepth 100000
namespace Go.Proofs.YtjdjonekoodalaaGreatDoor
open Go.RowKit
attribute [local go_sem ↓] Go.wp_at_zero Go.wp_at_succ
theorem neq_bits23 {x y : Int} (x0 : 0 ≤ x) (x1 : x < full) (y0 : 0 ≤ y) (y1 : y < full) (h : x ≠ y) (w : World) : (binOp .eql 25 (.agg #[.int .u64 (hiOf x), .int .u64 (loOf x)]) (.agg #[.int .u64 (hiOf y), .int .u64 (loOf y)])).run Tryz.prog w = .ok (.bool false) w := by
  go_simp
  intro k1 k2
  apply h
  have e1 := val_hiLo_mod x
  have e2 := val_hiLo_mod y
  rw [k1, k2, e2, Int.emod_eq_of_lt y0 y1, Int.emod_eq_of_lt x0 x1] at e1
  exact e1.symm
theorem step23_law_n (C : FormOK) (D : ClassOK) (S : AddOK) (T : TurnOK) (A : RemOK) (f a b : Int) (a0 : 0 ≤ a) (a1 : a < full) (b0 : 0 ≤ b) (b1 : b < full) (uf : 0 ≤ f ∧ f ≤ 255) (w : World) (ft : FTab w) : Calls Tryz.prog 7 #[.int .u8 f, .agg #[.int .u64 (hiOf (a)), .int .u64 (loOf (a))], .agg #[.int .u64 (hiOf (b)), .int .u64 (loOf (b))]] w fun e w' => e = .returned (.bool true) ∧ Below w.heap.size w w' := by
  have G := lH (goes23_any A)
  have K := C.known f uf.1 uf.2
  have OB := D.of f b uf.1 uf.2
  rw [Int.emod_eq_of_lt b0 b1] at OB
  have FA := D.fin f a uf.1 uf.2
  rw [Int.emod_eq_of_lt a0 a1] at FA
  by_cases hf : f < 4
  · rw [decide_eq_true hf] at K
    cases hn : finF f a with
    | false =>
      rw [hn] at FA
      exact step23_no2 f _ _ _ _ _ 0 0 0 0 0 0 0 0 0 0 0 0 0 0 0 0 0 0 _ (lH OB) (lH K) (lH FA) G w ft
    | true =>
      rw [hn] at FA
      unfold finF at hn
      have ca := of_decide_eq_true (Bool.and_eq_true_iff.1 hn).2
      by_cases cb : clsF f b = 1 ∨ clsF f b = 2
      · have SA := lH (size23N C f a uf.1 uf.2 a0 a1)
        have SB := lH (size23N C f b uf.1 uf.2 b0 b1)
        obtain ⟨pa, _⟩ := sz_same uf.1 hf a0 ca
        obtain ⟨pb, _⟩ := sz_same uf.1 hf b0 (show clsF f b ≤ 2 by omega)
        obtain ⟨cc, _, _⟩ := sz_cls uf.1 hf b0
        have cb' : clsF f (szF f b) = 1 ∨ clsF f (szF f b) = 2 := by omega
        have fin : ∀ g2 : Bool, (clsF f b = 1 ∧ g2 = false) ∨ (clsF f b = 2 ∧ g2 = true) → (clsF f b != 1) = g2 := fun g h => by
          rcases h with ⟨h, rfl⟩ | ⟨h, rfl⟩ <;> rw [h] <;> rfl
        have AD := S.add f 0 false _ _ uf.1 uf.2 (by decide) (by decide) pa.1 pa.2.1 pb.1 pb.2.1
        rw [pb.2.2.2.1] at AD
        clear cc
        generalize hx : szF f a = x at *
        generalize hy : szF f b = y at *
        by_cases z : adFl f 0 false x y false = 0
        · obtain ⟨e1, ps⟩ := sum_exact uf.1 hf (m := 0) (by decide) pa pb z
          rw [z] at AD
          obtain ⟨f1, f2, r0, r1, rc, y1, y2⟩ := rm_add uf.1 hf pa pb cb' ps e1
          have X1 := A.rem f x y uf.1 uf.2 pa.1 pa.2.1 pb.1 pb.2.1
          have X2 := A.rem f (adB f 0 x y false) y uf.1 uf.2 ps.1 ps.2.1 pb.1 pb.2.1
          rw [f1] at X1
          rw [f2] at X2
          have SR := lH (size23N C f (rmB f x y) uf.1 uf.2 r0 r1)
          obtain ⟨pz, vz⟩ := sz_same uf.1 hf r0 rc
          have TR := lH (T.turn f (rmB f x y) uf.1 uf.2 r0 r1)
          have TW := S.add f 0 false _ _ uf.1 uf.2 (by decide) (by decide) pz.1 pz.2.1 pz.1 pz.2.1
          rw [pz.2.2.2.1] at TW
          have hh := rm_is_half uf.1 hf (m := 0) (by decide) pz pb false
          rw [vz] at hh
          obtain ⟨t0, t1⟩ := ad_full23 (s := false) uf.1 hf (m := 0) (by decide) pz.1 pz.1
          by_cases t : 2 * vF f (rmB f x y) = vF f y
          · obtain ⟨h1, h2⟩ := hh.2 t
            rw [y1 t] at X2
            rw [h1, h2] at TW
            rcases cb with c | c
            · exact step23_sub f _ _ _ _ _ _ _ _ _ _ _ _ _ _ _ _ _ _ _ _ _ _ _ _ (lH OB) (lH K) (lH FA) SA SB (lH AD) (fin _ (.inl ⟨c, rfl⟩)) (.inr (.inl ⟨rfl, eqb23 _ _, rfl, eqb23 _ _, lH X1, lH X2, SR, lH TW, TR, G⟩)) w ft
            · exact step23_nor f _ _ _ _ _ _ _ _ _ _ _ _ _ _ _ _ _ _ _ _ _ _ _ _ (lH OB) (lH K) (lH FA) SA SB (lH AD) (fin _ (.inr ⟨c, rfl⟩)) (by rw [c]; rfl) (.inr (.inl ⟨rfl, eqb23 _ _, rfl, eqb23 _ _, lH X1, lH X2, SR, lH TW, TR, G⟩)) w ft
          · rw [y2 t] at X2
            have nh : ¬ (adB f 0 (szF f (rmB f x y)) (szF f (rmB f x y)) false = y ∧ adFl f 0 false (szF f (rmB f x y)) (szF f (rmB f x y)) false = 0) := fun k => t (hh.1 k)
            by_cases e : adB f 0 (szF f (rmB f x y)) (szF f (rmB f x y)) false = y
            · have nz : adFl f 0 false (szF f (rmB f x y)) (szF f (rmB f x y)) false ≠ 0 := fun k => nh ⟨e, k⟩
              rw [e] at TW
              rcases cb with c | c
              · exact step23_sub f _ _ _ _ _ _ _ _ _ _ _ _ _ _ _ _ _ _ _ _ _ 0 0 _ (lH OB) (lH K) (lH FA) SA SB (lH AD) (fin _ (.inl ⟨c, rfl⟩)) (.inr (.inr (.inl ⟨rfl, eqb23 _ _, beq_eq_false_iff_ne.2 nz, eqr23 _ _ _, lH X1, lH X2, SR, lH TW, G⟩))) w ft
              · exact step23_nor f _ _ _ _ _ _ _ _ _ _ _ _ _ _ _ _ _ _ _ _ _ 0 0 _ (lH OB) (lH K) (lH FA) SA SB (lH AD) (fin _ (.inr ⟨c, rfl⟩)) (by rw [c]; rfl) (.inr (.inr (.inl ⟨rfl, eqb23 _ _, beq_eq_false_iff_ne.2 nz, eqr23 _ _ _, lH X1, lH X2, SR, lH TW, G⟩))) w ft
            · have nb := neq_bits23 t0 t1 pb.1 pb.2.1 e
              rcases cb with c | c
              · exact step23_sub f _ _ _ _ _ _ _ _ _ _ _ _ _ _ _ _ _ _ _ _ _ 0 0 _ (lH OB) (lH K) (lH FA) SA SB (lH AD) (fin _ (.inl ⟨c, rfl⟩)) (.inr (.inr (.inr ⟨rfl, nb, eqr23 _ _ _, lH X1, lH X2, SR, lH TW, G⟩))) w ft
              · exact step23_nor f _ _ _ _ _ _ _ _ _ _ _ _ _ _ _ _ _ _ _ _ _ 0 0 _ (lH OB) (lH K) (lH FA) SA SB (lH AD) (fin _ (.inr ⟨c, rfl⟩)) (by rw [c]; rfl) (.inr (.inr (.inr ⟨rfl, nb, eqr23 _ _ _, lH X1, lH X2, SR, lH TW, G⟩))) w ft
        · rcases cb with c | c
          · exact step23_sub f _ _ _ _ _ _ 0 _ _ _ _ _ _ 0 0 0 0 0 0 0 0 0 0 _ (lH OB) (lH K) (lH FA) SA SB (lH AD) (fin _ (.inl ⟨c, rfl⟩)) (.inl ⟨bne_iff_ne.2 z, G⟩) w ft
          · exact step23_nor f _ _ _ _ _ _ 0 _ _ _ _ _ _ 0 0 0 0 0 0 0 0 0 0 _ (lH OB) (lH K) (lH FA) SA SB (lH AD) (fin _ (.inr ⟨c, rfl⟩)) (by rw [c]; rfl) (.inl ⟨bne_iff_ne.2 z, G⟩) w ft
      · exact step23_no3 f _ _ _ _ _ 0 0 0 0 0 0 0 0 0 0 0 0 0 0 0 0 0 0 _ (lH OB) (lH K) (lH FA) G (bne_iff_ne.2 (by omega)) (bne_iff_ne.2 (by omega)) w ft
  · rw [decide_eq_false hf] at K
    exact step23_no1 f _ _ _ _ _ 0 0 0 0 0 0 0 0 0 0 0 0 0 0 0 0 0 0 _ (lH OB) (lH K) G w ft
theorem step23_law (C : FormOK) (D : ClassOK) (S : AddOK) (T : TurnOK) (A : RemOK) (f : Int) (ah al bh bl : Int) (uf : 0 ≤ f ∧ f ≤ 255) (uah : U64 ah) (ual : U64 al) (ubh : U64 bh) (ubl : U64 bl) (w : World) (ft : FTab w) : Calls Tryz.prog 7 #[.int .u8 f, .agg #[.int .u64 ah, .int .u64 al], .agg #[.int .u64 bh, .int .u64 bl]] w fun e w' => e = .returned (.bool true) ∧ Below w.heap.size w w' := by
  have hva := val_range uah ual
  have hvb := val_range ubh ubl
  have h := step23_law_n C D S T A f (val ah al) (val bh bl) hva.1 hva.2 hvb.1 hvb.2 uf w ft
  rw [(hl_val uah ual).1, (hl_val uah ual).2, (hl_val ubh ubl).1, (hl_val ubh ubl).2] at h
  exact h
end Go.Proofs.YtjdjonekoodalaaGreatDoor
