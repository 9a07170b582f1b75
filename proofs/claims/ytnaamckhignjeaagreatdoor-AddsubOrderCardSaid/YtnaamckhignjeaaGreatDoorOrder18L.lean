/-
  AddsubOrder.
-/
import Derived.Test.YtnaamckhignjeaaGreatDoorOrder18
import Derived.Test.YtnaamckhignjeaaGreatDoorGoes18L
import Derived.Test.YtnaamckhignjeaaGreatDoorSize18L
set_option linter.unusedVariables false
set_option linter.unusedSimpArgs false
set_option maxRecDepth 100000
namespace Go.Proofs.YtnaamckhignjeaaGreatDoor
open Go.RowKit
attribute [local go_sem ↓] Go.wp_at_zero Go.wp_at_succ

set_option maxHeartbeats 1000000 in
theorem order18_law_n (C : FormOK) (D : ClassOK) (A : AddOK) (f m : Int) (t : Bool) (a b k : Int) (a0 : 0 ≤ a) (a1 : a < full) (b0 : 0 ≤ b) (b1 : b < full) (k0 : 0 ≤ k) (k1 : k < full) (uf : 0 ≤ f ∧ f ≤ 255) (um : 0 ≤ m ∧ m ≤ 255) (w : World) (ft : FTab w) : Calls Tryz.prog 9 #[.int .u8 f, .agg #[.int .u8 m, .bool t], .agg #[.int .u64 (hiOf (a)), .int .u64 (loOf (a))], .agg #[.int .u64 (hiOf (b)), .int .u64 (loOf (b))], .agg #[.int .u64 (hiOf (k)), .int .u64 (loOf (k))]] w fun e w' => e = .returned (.bool true) ∧ Below w.heap.size w w' := by
  have G := Lib.hid (goes18_any A)
  have K := C.known f uf.1 uf.2
  obtain ⟨mm, hm⟩ : ∃ mm, m % 5 = mm := ⟨_, rfl⟩
  have mt : m.tmod 5 = mm := by rw [Int.tmod_eq_emod_of_nonneg um.1, hm]
  have r5 : 0 ≤ mm ∧ mm < 5 := by omega
  have FA := D.fin f a uf.1 uf.2
  have FB := D.fin f b uf.1 uf.2
  have FK := D.fin f k uf.1 uf.2
  by_cases hf : f < 4
  · rw [decide_eq_true hf] at K
    by_cases ca : clsF f a ≤ 2
    · rw [Int.emod_eq_of_lt a0 a1, show finF f a = true by unfold finF; simp [hf, ca]] at FA
      by_cases cb : clsF f b ≤ 2
      · rw [Int.emod_eq_of_lt b0 b1, show finF f b = true by unfold finF; simp [hf, cb]] at FB
        by_cases ck : clsF f k ≤ 2
        · rw [Int.emod_eq_of_lt k0 k1, show finF f k = true by unfold finF; simp [hf, ck]] at FK
          obtain ⟨sa0, sa1⟩ := sz_full (f := f) (b := a) uf.1
          obtain ⟨sb0, sb1⟩ := sz_full (f := f) (b := b) uf.1
          obtain ⟨sk0, sk1⟩ := sz_full (f := f) (b := k) uf.1
          have SA := Lib.hid (size18N C f a uf.1 uf.2 a0 a1)
          have SB := Lib.hid (size18N C f b uf.1 uf.2 b0 b1)
          have SK := Lib.hid (size18N C f k uf.1 uf.2 k0 k1)
          have CM := Lib.hid (cmpB (szF f a) (szF f b))
          rw [Int.emod_eq_of_lt sa0 sa1, Int.emod_eq_of_lt sb0 sb1] at CM
          obtain ⟨pa, _⟩ := sz_same uf.1 hf a0 ca
          obtain ⟨pb, _⟩ := sz_same uf.1 hf b0 cb
          obtain ⟨pk, _⟩ := sz_same uf.1 hf k0 ck
          have AA := A.add f mm t (szF f a) (szF f k) uf.1 uf.2 r5.1 (by omega) sa0 sa1 sk0 sk1
          have BB := A.add f mm t (szF f b) (szF f k) uf.1 uf.2 r5.1 (by omega) sb0 sb1 sk0 sk1
          rw [pk.2.2.2.1] at AA BB
          obtain ⟨v0, v1, _⟩ := ad_res (m := mm) (s := false) uf.1 hf r5.2 sa0 sa1 sk0 sk1 pa.2.2.1 pk.2.2.1 _ rfl
          obtain ⟨u0, u1, _⟩ := ad_res (m := mm) (s := false) uf.1 hf r5.2 sb0 sb1 sk0 sk1 pb.2.2.1 pk.2.2.1 _ rfl
          by_cases sw : szF f b < szF f a
          · have gr : decide (0 < cmpI (szF f a) (szF f b)) = true := decide_eq_true (by have := cmpI_turn (szF f b) (szF f a); have := cmpI_lti.2 sw; omega)
            have C2 := Lib.hid (cmpB (adB f mm (szF f b) (szF f k) false) (adB f mm (szF f a) (szF f k) false))
            rw [Int.emod_eq_of_lt v0 v1, Int.emod_eq_of_lt u0 u1] at C2
            have le := order_ad (m := mm) uf.1 hf r5.2 pb pa pk (by omega)
            exact order18_main f m _ _ _ _ _ _ mm _ _ _ _ _ _ _ _ _ _ _ _ _ _ t (Lib.hid K) (Lib.hid FA) (Lib.hid FB) (Lib.hid FK) SA SB SK CM mt hm (decide_eq_true (cmpI_lei.2 le)) (.inl ⟨gr, Lib.hid BB, Lib.hid AA, C2, G⟩) w ft
          · have gr : decide (0 < cmpI (szF f a) (szF f b)) = false := decide_eq_false (fun q => sw (by have := cmpI_turn (szF f b) (szF f a); exact cmpI_lti.1 (by omega)))
            have C2 := Lib.hid (cmpB (adB f mm (szF f a) (szF f k) false) (adB f mm (szF f b) (szF f k) false))
            rw [Int.emod_eq_of_lt v0 v1, Int.emod_eq_of_lt u0 u1] at C2
            have le := order_ad (m := mm) uf.1 hf r5.2 pa pb pk (by omega)
            exact order18_main f m _ _ _ _ _ _ mm _ _ _ _ _ _ _ _ _ _ _ _ _ _ t (Lib.hid K) (Lib.hid FA) (Lib.hid FB) (Lib.hid FK) SA SB SK CM mt hm (decide_eq_true (cmpI_lei.2 le)) (.inr ⟨gr, Lib.hid AA, Lib.hid BB, C2, G⟩) w ft
        · rw [Int.emod_eq_of_lt k0 k1, show finF f k = false by unfold finF; simp [ck]] at FK
          exact order18_nc f m _ _ _ _ _ _ mm t (Lib.hid K) (Lib.hid FA) (Lib.hid FB) (Lib.hid FK) G mt hm w ft
      · rw [Int.emod_eq_of_lt b0 b1, show finF f b = false by unfold finF; simp [cb]] at FB
        exact order18_nb f m _ _ _ _ _ _ mm t (Lib.hid K) (Lib.hid FA) (Lib.hid FB) G mt hm w ft
    · rw [Int.emod_eq_of_lt a0 a1, show finF f a = false by unfold finF; simp [ca]] at FA
      exact order18_na f m _ _ _ _ _ _ mm t (Lib.hid K) (Lib.hid FA) G mt hm w ft
  · rw [decide_eq_false hf] at K
    exact order18_nf f m _ _ _ _ _ _ mm t (Lib.hid K) G mt hm w ft
theorem order18_law (C : FormOK) (D : ClassOK) (A : AddOK) (f m : Int) (t : Bool) (ah al bh bl kh kl : Int) (uf : 0 ≤ f ∧ f ≤ 255) (um : 0 ≤ m ∧ m ≤ 255) (uah : U64 ah) (ual : U64 al) (ubh : U64 bh) (ubl : U64 bl) (ukh : U64 kh) (ukl : U64 kl) (w : World) (ft : FTab w) : Calls Tryz.prog 9 #[.int .u8 f, .agg #[.int .u8 m, .bool t], .agg #[.int .u64 ah, .int .u64 al], .agg #[.int .u64 bh, .int .u64 bl], .agg #[.int .u64 kh, .int .u64 kl]] w fun e w' => e = .returned (.bool true) ∧ Below w.heap.size w w' := by
  have hva := val_range uah ual
  have hvb := val_range ubh ubl
  have hvk := val_range ukh ukl
  have h := order18_law_n C D A f m t (val ah al) (val bh bl) (val kh kl) hva.1 hva.2 hvb.1 hvb.2 hvk.1 hvk.2 uf um w ft
  rw [(hl_val uah ual).1, (hl_val uah ual).2, (hl_val ubh ubl).1, (hl_val ubh ubl).2, (hl_val ukh ukl).1, (hl_val ukh ukl).2] at h
  exact h


end Go.Proofs.YtnaamckhignjeaaGreatDoor
