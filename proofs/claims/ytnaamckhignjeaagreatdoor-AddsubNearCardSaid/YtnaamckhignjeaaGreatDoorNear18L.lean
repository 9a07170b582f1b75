/-
  AddsubNear.
-/
import Derived.Test.YtnaamckhignjeaaGreatDoorNear18
import Derived.Test.YtnaamckhignjeaaGreatDoorGoes18L
import Derived.Test.YtnaamckhignjeaaGreatDoorSize18L
set_option linter.unusedVariables false
set_option linter.unusedSimpArgs false
set_option maxRecDepth 100000
namespace Go.Proofs.YtnaamckhignjeaaGreatDoor
open Go.RowKit
attribute [local go_sem ↓] Go.wp_at_zero Go.wp_at_succ

theorem near18_turn_n (C : FormOK) (D : ClassOK) (A : AddOK) (f m mm : Int) (t : Bool) (a b : Int) (a0 : 0 ≤ a) (a1 : a < full) (b0 : 0 ≤ b) (b1 : b < full) (uf : 0 ≤ f ∧ f ≤ 255) (um : 0 ≤ m ∧ m ≤ 255) (mt : m.tmod 5 = mm) (hm : m % 5 = mm) (r5 : 0 ≤ mm ∧ mm < 5) (hf : f < 4) (ca : clsF f a ≤ 2) (cb : clsF f b ≤ 2) (hn : negF f a ≠ negF f b) (w : World) (ft : FTab w) : Calls Tryz.prog 8 #[.int .u8 f, .agg #[.int .u8 m, .bool t], .agg #[.int .u64 (hiOf (a)), .int .u64 (loOf (a))], .agg #[.int .u64 (hiOf (b)), .int .u64 (loOf (b))]] w fun e w' => e = .returned (.bool true) ∧ Below w.heap.size w w' := by
  have G := Lib.hid (goes18_any A)
  have K := C.known f uf.1 uf.2
  rw [decide_eq_true hf] at K
  have FA := D.fin f a uf.1 uf.2
  have FB := D.fin f b uf.1 uf.2
  have OA := D.of f a uf.1 uf.2
  have OB := D.of f b uf.1 uf.2
  rw [Int.emod_eq_of_lt a0 a1, show finF f a = true by unfold finF; simp [hf, ca]] at FA
  rw [Int.emod_eq_of_lt b0 b1, show finF f b = true by unfold finF; simp [hf, cb]] at FB
  rw [Int.emod_eq_of_lt a0 a1] at OA
  rw [Int.emod_eq_of_lt b0 b1] at OB
  obtain ⟨sa0, sa1⟩ := sz_full (f := f) (b := a) uf.1
  obtain ⟨sb0, sb1⟩ := sz_full (f := f) (b := b) uf.1
  have SA := Lib.hid (size18N C f a uf.1 uf.2 a0 a1)
  have CM := Lib.hid (cmpB (szF f a) (szF f b))
  rw [Int.emod_eq_of_lt sa0 sa1, Int.emod_eq_of_lt sb0 sb1] at CM
  have gn : (negF f a == negF f b) = false := by simp [hn]
  have TB := Lib.hid (A.turn f b uf.1 uf.2 b0 b1)
  obtain ⟨t0, t1⟩ := turn_full (f := f) (b := b) uf.1
  obtain ⟨tc, _, _, tg⟩ := turn_same uf.1 hf b0
  have SB := Lib.hid (size18N C f (turnF f b) uf.1 uf.2 t0 t1)
  rw [sz_turn uf.1 hf b0] at SB
  obtain ⟨N1, N2⟩ := near_ad (m := mm) uf.1 hf r5.2 a0 a1 t0 t1 ca (by omega) (show negF f a = negF f (turnF f b) by rw [tg]; revert hn; cases negF f a <;> cases negF f b <;> decide)
  rw [sz_turn uf.1 hf b0] at N1 N2
  have AS := A.sub f mm t a (turnF f b) uf.1 uf.2 r5.1 (by omega) a0 a1 t0 t1
  obtain ⟨pa, _⟩ := sz_same uf.1 hf a0 ca
  obtain ⟨pb, _⟩ := sz_same uf.1 hf b0 cb
  by_cases sw : szF f b < szF f a
  · have gr : decide (0 < cmpI (szF f a) (szF f b)) = true := decide_eq_true (by have := cmpI_turn (szF f b) (szF f a); have := cmpI_lti.2 sw; omega)
    have AZ := A.add f 4 false (szF f b) (szF f b) uf.1 uf.2 (by decide) (by decide) sb0 sb1 sb0 sb1
    rw [pb.2.2.2.1] at AZ
    obtain ⟨v0, v1, _⟩ := ad_res (m := 4) (s := false) uf.1 hf (by decide) sb0 sb1 sb0 sb1 pb.2.2.1 pb.2.2.1 _ rfl
    have C2 := Lib.hid (cmpB (adB f 4 (szF f b) (szF f b) false) (szF f a))
    rw [Int.emod_eq_of_lt v0 v1, Int.emod_eq_of_lt sa0 sa1] at C2
    by_cases ea : adB f 4 (szF f b) (szF f b) false < szF f a
    · exact near18_turn f m _ _ _ _ mm _ _ _ _ _ _ _ _ _ _ _ _ 0 0 _ t _ _ (Lib.hid K) (Lib.hid FA) (Lib.hid FB) (Lib.hid OA) (Lib.hid OB) TB SA SB CM mt hm gn (.inl ⟨gr, decide_eq_true (cmpI_lti.2 ea), Lib.hid AZ, C2, G⟩) w ft
    · rw [N2 (by omega) (by omega) t] at AS
      exact near18_turn f m _ _ _ _ mm _ _ _ _ _ _ _ _ _ _ _ _ _ _ _ t _ _ (Lib.hid K) (Lib.hid FA) (Lib.hid FB) (Lib.hid OA) (Lib.hid OB) TB SA SB CM mt hm gn (.inr (.inl ⟨gr, decide_eq_false (fun k => ea (cmpI_lti.1 k)), Lib.hid AZ, C2, Lib.hid AS, G⟩)) w ft
  · have gr : decide (0 < cmpI (szF f a) (szF f b)) = false := decide_eq_false (fun k => sw (by have := cmpI_turn (szF f b) (szF f a); exact cmpI_lti.1 (by omega)))
    have AZ := A.add f 4 false (szF f a) (szF f a) uf.1 uf.2 (by decide) (by decide) sa0 sa1 sa0 sa1
    rw [pa.2.2.2.1] at AZ
    obtain ⟨v0, v1, _⟩ := ad_res (m := 4) (s := false) uf.1 hf (by decide) sa0 sa1 sa0 sa1 pa.2.2.1 pa.2.2.1 _ rfl
    have C2 := Lib.hid (cmpB (adB f 4 (szF f a) (szF f a) false) (szF f b))
    rw [Int.emod_eq_of_lt v0 v1, Int.emod_eq_of_lt sb0 sb1] at C2
    by_cases ea : adB f 4 (szF f a) (szF f a) false < szF f b
    · exact near18_turn f m _ _ _ _ mm _ _ _ _ _ _ _ _ _ _ _ _ 0 0 _ t _ _ (Lib.hid K) (Lib.hid FA) (Lib.hid FB) (Lib.hid OA) (Lib.hid OB) TB SA SB CM mt hm gn (.inr (.inr (.inl ⟨gr, decide_eq_true (cmpI_lti.2 ea), Lib.hid AZ, C2, G⟩))) w ft
    · rw [N1 (by omega) (by omega) t] at AS
      exact near18_turn f m _ _ _ _ mm _ _ _ _ _ _ _ _ _ _ _ _ _ _ _ t _ _ (Lib.hid K) (Lib.hid FA) (Lib.hid FB) (Lib.hid OA) (Lib.hid OB) TB SA SB CM mt hm gn (.inr (.inr (.inr ⟨gr, decide_eq_false (fun k => ea (cmpI_lti.1 k)), Lib.hid AZ, C2, Lib.hid AS, G⟩))) w ft
theorem near18_same_n (C : FormOK) (D : ClassOK) (A : AddOK) (f m mm : Int) (t : Bool) (a b : Int) (a0 : 0 ≤ a) (a1 : a < full) (b0 : 0 ≤ b) (b1 : b < full) (uf : 0 ≤ f ∧ f ≤ 255) (um : 0 ≤ m ∧ m ≤ 255) (mt : m.tmod 5 = mm) (hm : m % 5 = mm) (r5 : 0 ≤ mm ∧ mm < 5) (hf : f < 4) (ca : clsF f a ≤ 2) (cb : clsF f b ≤ 2) (hn : negF f a = negF f b) (w : World) (ft : FTab w) : Calls Tryz.prog 8 #[.int .u8 f, .agg #[.int .u8 m, .bool t], .agg #[.int .u64 (hiOf (a)), .int .u64 (loOf (a))], .agg #[.int .u64 (hiOf (b)), .int .u64 (loOf (b))]] w fun e w' => e = .returned (.bool true) ∧ Below w.heap.size w w' := by
  have G := Lib.hid (goes18_any A)
  have K := C.known f uf.1 uf.2
  rw [decide_eq_true hf] at K
  have FA := D.fin f a uf.1 uf.2
  have FB := D.fin f b uf.1 uf.2
  have OA := D.of f a uf.1 uf.2
  have OB := D.of f b uf.1 uf.2
  rw [Int.emod_eq_of_lt a0 a1, show finF f a = true by unfold finF; simp [hf, ca]] at FA
  rw [Int.emod_eq_of_lt b0 b1, show finF f b = true by unfold finF; simp [hf, cb]] at FB
  rw [Int.emod_eq_of_lt a0 a1] at OA
  rw [Int.emod_eq_of_lt b0 b1] at OB
  obtain ⟨sa0, sa1⟩ := sz_full (f := f) (b := a) uf.1
  obtain ⟨sb0, sb1⟩ := sz_full (f := f) (b := b) uf.1
  have SA := Lib.hid (size18N C f a uf.1 uf.2 a0 a1)
  have CM := Lib.hid (cmpB (szF f a) (szF f b))
  rw [Int.emod_eq_of_lt sa0 sa1, Int.emod_eq_of_lt sb0 sb1] at CM
  have gn : (negF f a == negF f b) = true := by simp [hn]
  have SB := Lib.hid (size18N C f b uf.1 uf.2 b0 b1)
  obtain ⟨N1, N2⟩ := near_ad (m := mm) uf.1 hf r5.2 a0 a1 b0 b1 ca cb hn
  have AS := A.sub f mm t a b uf.1 uf.2 r5.1 (by omega) a0 a1 b0 b1
  obtain ⟨pa, _⟩ := sz_same uf.1 hf a0 ca
  obtain ⟨pb, _⟩ := sz_same uf.1 hf b0 cb
  by_cases sw : szF f b < szF f a
  · have gr : decide (0 < cmpI (szF f a) (szF f b)) = true := decide_eq_true (by have := cmpI_turn (szF f b) (szF f a); have := cmpI_lti.2 sw; omega)
    have AZ := A.add f 4 false (szF f b) (szF f b) uf.1 uf.2 (by decide) (by decide) sb0 sb1 sb0 sb1
    rw [pb.2.2.2.1] at AZ
    obtain ⟨v0, v1, _⟩ := ad_res (m := 4) (s := false) uf.1 hf (by decide) sb0 sb1 sb0 sb1 pb.2.2.1 pb.2.2.1 _ rfl
    have C2 := Lib.hid (cmpB (adB f 4 (szF f b) (szF f b) false) (szF f a))
    rw [Int.emod_eq_of_lt v0 v1, Int.emod_eq_of_lt sa0 sa1] at C2
    by_cases ea : adB f 4 (szF f b) (szF f b) false < szF f a
    · exact near18_same f m _ _ _ _ mm _ _ _ _ 0 0 _ _ _ _ _ _ 0 0 _ t _ _ (Lib.hid K) (Lib.hid FA) (Lib.hid FB) (Lib.hid OA) (Lib.hid OB) SA SB CM mt hm gn (.inl ⟨gr, decide_eq_true (cmpI_lti.2 ea), Lib.hid AZ, C2, G⟩) w ft
    · rw [N2 (by omega) (by omega) t] at AS
      exact near18_same f m _ _ _ _ mm _ _ _ _ 0 0 _ _ _ _ _ _ _ _ _ t _ _ (Lib.hid K) (Lib.hid FA) (Lib.hid FB) (Lib.hid OA) (Lib.hid OB) SA SB CM mt hm gn (.inr (.inl ⟨gr, decide_eq_false (fun k => ea (cmpI_lti.1 k)), Lib.hid AZ, C2, Lib.hid AS, G⟩)) w ft
  · have gr : decide (0 < cmpI (szF f a) (szF f b)) = false := decide_eq_false (fun k => sw (by have := cmpI_turn (szF f b) (szF f a); exact cmpI_lti.1 (by omega)))
    have AZ := A.add f 4 false (szF f a) (szF f a) uf.1 uf.2 (by decide) (by decide) sa0 sa1 sa0 sa1
    rw [pa.2.2.2.1] at AZ
    obtain ⟨v0, v1, _⟩ := ad_res (m := 4) (s := false) uf.1 hf (by decide) sa0 sa1 sa0 sa1 pa.2.2.1 pa.2.2.1 _ rfl
    have C2 := Lib.hid (cmpB (adB f 4 (szF f a) (szF f a) false) (szF f b))
    rw [Int.emod_eq_of_lt v0 v1, Int.emod_eq_of_lt sb0 sb1] at C2
    by_cases ea : adB f 4 (szF f a) (szF f a) false < szF f b
    · exact near18_same f m _ _ _ _ mm _ _ _ _ 0 0 _ _ _ _ _ _ 0 0 _ t _ _ (Lib.hid K) (Lib.hid FA) (Lib.hid FB) (Lib.hid OA) (Lib.hid OB) SA SB CM mt hm gn (.inr (.inr (.inl ⟨gr, decide_eq_true (cmpI_lti.2 ea), Lib.hid AZ, C2, G⟩))) w ft
    · rw [N1 (by omega) (by omega) t] at AS
      exact near18_same f m _ _ _ _ mm _ _ _ _ 0 0 _ _ _ _ _ _ _ _ _ t _ _ (Lib.hid K) (Lib.hid FA) (Lib.hid FB) (Lib.hid OA) (Lib.hid OB) SA SB CM mt hm gn (.inr (.inr (.inr ⟨gr, decide_eq_false (fun k => ea (cmpI_lti.1 k)), Lib.hid AZ, C2, Lib.hid AS, G⟩))) w ft
theorem near18_law_n (C : FormOK) (D : ClassOK) (A : AddOK) (f m : Int) (t : Bool) (a b : Int) (a0 : 0 ≤ a) (a1 : a < full) (b0 : 0 ≤ b) (b1 : b < full) (uf : 0 ≤ f ∧ f ≤ 255) (um : 0 ≤ m ∧ m ≤ 255) (w : World) (ft : FTab w) : Calls Tryz.prog 8 #[.int .u8 f, .agg #[.int .u8 m, .bool t], .agg #[.int .u64 (hiOf (a)), .int .u64 (loOf (a))], .agg #[.int .u64 (hiOf (b)), .int .u64 (loOf (b))]] w fun e w' => e = .returned (.bool true) ∧ Below w.heap.size w w' := by
  have G := Lib.hid (goes18_any A)
  have K := C.known f uf.1 uf.2
  obtain ⟨mm, hm⟩ : ∃ mm, m % 5 = mm := ⟨_, rfl⟩
  have mt : m.tmod 5 = mm := by rw [Int.tmod_eq_emod_of_nonneg um.1, hm]
  have r5 : 0 ≤ mm ∧ mm < 5 := by omega
  by_cases hf : f < 4
  · by_cases ca : clsF f a ≤ 2
    · by_cases cb : clsF f b ≤ 2
      · by_cases hn : negF f a = negF f b
        · exact near18_same_n C D A f m mm t a b a0 a1 b0 b1 uf um mt hm r5 hf ca cb hn w ft
        · exact near18_turn_n C D A f m mm t a b a0 a1 b0 b1 uf um mt hm r5 hf ca cb hn w ft
      · rw [decide_eq_true hf] at K
        have FA := D.fin f a uf.1 uf.2
        have FB := D.fin f b uf.1 uf.2
        rw [Int.emod_eq_of_lt a0 a1, show finF f a = true by unfold finF; simp [hf, ca]] at FA
        rw [Int.emod_eq_of_lt b0 b1, show finF f b = false by unfold finF; simp [cb]] at FB
        exact near18_nb f m _ _ _ _ mm t (Lib.hid K) (Lib.hid FA) (Lib.hid FB) G mt hm w ft
    · rw [decide_eq_true hf] at K
      have FA := D.fin f a uf.1 uf.2
      rw [Int.emod_eq_of_lt a0 a1, show finF f a = false by unfold finF; simp [ca]] at FA
      exact near18_na f m _ _ _ _ mm t (Lib.hid K) (Lib.hid FA) G mt hm w ft
  · rw [decide_eq_false hf] at K
    exact near18_nf f m _ _ _ _ mm t (Lib.hid K) G mt hm w ft
theorem near18_law (C : FormOK) (D : ClassOK) (A : AddOK) (f m : Int) (t : Bool) (ah al bh bl : Int) (uf : 0 ≤ f ∧ f ≤ 255) (um : 0 ≤ m ∧ m ≤ 255) (uah : U64 ah) (ual : U64 al) (ubh : U64 bh) (ubl : U64 bl) (w : World) (ft : FTab w) : Calls Tryz.prog 8 #[.int .u8 f, .agg #[.int .u8 m, .bool t], .agg #[.int .u64 ah, .int .u64 al], .agg #[.int .u64 bh, .int .u64 bl]] w fun e w' => e = .returned (.bool true) ∧ Below w.heap.size w w' := by
  have hva := val_range uah ual
  have hvb := val_range ubh ubl
  have h := near18_law_n C D A f m t (val ah al) (val bh bl) hva.1 hva.2 hvb.1 hvb.2 uf um w ft
  rw [(hl_val uah ual).1, (hl_val uah ual).2, (hl_val ubh ubl).1, (hl_val ubh ubl).2] at h
  exact h


end Go.Proofs.YtnaamckhignjeaaGreatDoor
