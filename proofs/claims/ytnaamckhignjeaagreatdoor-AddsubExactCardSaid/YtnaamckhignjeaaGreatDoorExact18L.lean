/-
  AddsubExact.
-/
import Derived.Test.YtnaamckhignjeaaGreatDoorExact18
import Derived.Test.YtnaamckhignjeaaGreatDoorGoes18L
import Derived.Test.YtnaamckhignjeaaGreatDoorAdd18L
set_option linter.unusedVariables false
set_option linter.unusedSimpArgs false
set_option maxRecDepth 100000
namespace Go.Proofs.YtnaamckhignjeaaGreatDoor
open Go.RowKit
attribute [local go_sem ↓] Go.wp_at_zero Go.wp_at_succ

theorem eqb18n (a b c d : Int) (h : ¬ (a = c ∧ b = d)) (w : World) : (binOp .eql 28 (.agg #[.int .u64 a, .int .u64 b]) (.agg #[.int .u64 c, .int .u64 d])).run Tryz.prog w = .ok (.bool false) w := by
  by_cases h1 : a = c
  · subst h1
    by_cases h2 : b = d
    · exact absurd ⟨rfl, h2⟩ h
    · go_simp
  · go_simp
set_option maxHeartbeats 1000000 in
theorem exact18_law_n (C : FormOK) (D : ClassOK) (A : AddOK) (f m : Int) (t : Bool) (a b : Int) (a0 : 0 ≤ a) (a1 : a < full) (b0 : 0 ≤ b) (b1 : b < full) (uf : 0 ≤ f ∧ f ≤ 255) (um : 0 ≤ m ∧ m ≤ 255) (w : World) (ft : FTab w) : Calls Tryz.prog 5 #[.int .u8 f, .agg #[.int .u8 m, .bool t], .agg #[.int .u64 (hiOf (a)), .int .u64 (loOf (a))], .agg #[.int .u64 (hiOf (b)), .int .u64 (loOf (b))]] w fun e w' => e = .returned (.bool true) ∧ Below w.heap.size w w' := by
  have G := Lib.hid (goes18_any A)
  have K := C.known f uf.1 uf.2
  obtain ⟨mm, hm⟩ : ∃ mm, m % 5 = mm := ⟨_, rfl⟩
  have mt : m.tmod 5 = mm := by rw [Int.tmod_eq_emod_of_nonneg um.1, hm]
  have r5 : 0 ≤ mm ∧ mm < 5 := by omega
  have AB := A.add f mm t a b uf.1 uf.2 r5.1 (by omega) a0 a1 b0 b1
  by_cases hf : f < 4
  · rw [decide_eq_true hf] at K
    have FA := D.fin f a uf.1 uf.2
    have FB := D.fin f b uf.1 uf.2
    rw [Int.emod_eq_of_lt a0 a1] at FA
    rw [Int.emod_eq_of_lt b0 b1] at FB
    by_cases ca : clsF f a ≤ 2
    · rw [show finF f a = true by unfold finF; simp [hf, ca]] at FA
      by_cases cb : clsF f b ≤ 2
      · rw [show finF f b = true by unfold finF; simp [hf, cb]] at FB
        have AS := A.sub f mm t a b uf.1 uf.2 r5.1 (by omega) a0 a1 b0 b1
        have AZ := A.sub f mm t a a uf.1 uf.2 r5.1 (by omega) a0 a1 a0 a1
        obtain ⟨v0, v1, v2, v3, v4, v5, v6⟩ := ad_res (m := mm) (s := negF f b) uf.1 hf r5.2 a0 a1 b0 b1 ca cb _ rfl
        obtain ⟨z0, z1, z2, z3, z4, z5, z6⟩ := ad_res (m := mm) (s := !negF f a) uf.1 hf r5.2 a0 a1 a0 a1 ca ca _ rfl
        obtain ⟨s0, s1, s2, s3, s4, s5, s6⟩ := ad_res (m := mm) (s := !negF f b) uf.1 hf r5.2 a0 a1 b0 b1 ca cb _ rfl
        have zc := z5.2 (adX_self f a)
        have zn : adN f mm a a (!negF f a) = (mm == 3) := by
          unfold adN
          rw [if_pos ((ad_exact (m := mm) (ng := false) (s := !negF f a) uf.1 a0 a0).2.2.2 (adX_self f a))]
          unfold noM
          rw [if_neg (by cases negF f a <;> decide)]; rfl
        have OR := D.of f (adB f mm a b (negF f b)) uf.1 uf.2
        have OZ := D.of f (adB f mm a a (!negF f a)) uf.1 uf.2
        have OS := D.of f (adB f mm a b (!negF f b)) uf.1 uf.2
        have OA := D.of f a uf.1 uf.2
        have OB := D.of f b uf.1 uf.2
        have CA := C.cut f a uf.1 uf.2
        have CB := C.cut f b uf.1 uf.2
        rw [Int.emod_eq_of_lt v0 v1] at OR
        rw [Int.emod_eq_of_lt z0 z1, zc, z3, zn] at OZ
        rw [Int.emod_eq_of_lt s0 s1] at OS
        rw [Int.emod_eq_of_lt a0 a1] at OA CA
        rw [Int.emod_eq_of_lt b0 b1] at OB CB
        rw [(z6 t).2 (by omega)] at AZ
        have nz := adX_zero uf.1 hf a0 b0 ca cb
        have fa := fl_and (v6 t).1
        have HC : ((clsF f (adB f mm a b (negF f b)) == 0) = false ∧ (clsF f (adB f mm a b (negF f b)) == 1) = false) ∨ ((clsF f (adB f mm a b (negF f b)) == 0) = true ∧ (adFl f mm t a b (negF f b) != 0) = false) ∨ ((clsF f (adB f mm a b (negF f b)) == 0) = false ∧ (clsF f (adB f mm a b (negF f b)) == 1) = true ∧ (adFl f mm t a b (negF f b) != 0) = false) := by
          by_cases h0 : clsF f (adB f mm a b (negF f b)) = 0
          · exact .inr (.inl ⟨beq_iff_eq.2 h0, by rw [(v6 t).2 (by omega)]; rfl⟩)
          · by_cases h1 : clsF f (adB f mm a b (negF f b)) = 1
            · exact .inr (.inr ⟨beq_eq_false_iff_ne.2 h0, beq_iff_eq.2 h1, by rw [(v6 t).2 (by omega)]; rfl⟩)
            · exact .inl ⟨beq_eq_false_iff_ne.2 h0, beq_eq_false_iff_ne.2 h1⟩
        by_cases e : cutF f a = cutF f b
        · have gz := s5.2 (nz.2 (.inl e))
          rw [e] at CA
          exact exact18_main f m _ _ _ _ mm _ _ _ _ _ _ _ _ _ _ _ _ _ _ _ _ t _ _ _ _ false (Lib.hid K) (Lib.hid FA) (Lib.hid FB) (Lib.hid AB) (Lib.hid OR) (Lib.hid AZ) (Lib.hid OZ) (Lib.hid OA) (Lib.hid AS) (Lib.hid OS) (Lib.hid OB) fa.1 fa.2 HC mt hm (.inl ⟨eqb18 _ _, beq_iff_eq.2 gz, Lib.hid CA, Lib.hid CB, G⟩) w ft
        · have c1 := cut_range (f := f) uf.1 a0; have c2 := cut_range (f := f) uf.1 b0
          have nq := eqb18n (hiOf (cutF f a)) (loOf (cutF f a)) (hiOf (cutF f b)) (loOf (cutF f b)) (fun k => e ((hl_inj c1.1 (by omega) c2.1 (by omega)).1 ⟨k.2, k.1⟩))
          by_cases ea : clsF f a = 0
          · have gg : (clsF f (adB f mm a b (!negF f b)) == 0) = (clsF f b == 0) := by
              rw [Bool.eq_iff_iff]; simp only [beq_iff_eq]
              rw [s5, nz]
              exact ⟨fun k => (k.resolve_left e).2, fun k => .inr ⟨ea, k⟩⟩
            exact exact18_main f m _ _ _ _ mm _ _ _ _ _ _ _ _ _ _ _ _ _ _ _ _ t _ _ _ _ _ (Lib.hid K) (Lib.hid FA) (Lib.hid FB) (Lib.hid AB) (Lib.hid OR) (Lib.hid AZ) (Lib.hid OZ) (Lib.hid OA) (Lib.hid AS) (Lib.hid OS) (Lib.hid OB) fa.1 fa.2 HC mt hm (.inr (.inr ⟨nq, beq_iff_eq.2 ea, rfl, gg, Lib.hid CA, Lib.hid CB, G⟩)) w ft
          · have gn : clsF f (adB f mm a b (!negF f b)) ≠ 0 := fun k => by
              rcases nz.1 (s5.1 k) with h | h
              · exact e h
              · exact ea h.1
            exact exact18_main f m _ _ _ _ mm _ _ _ _ _ _ _ _ _ _ _ _ _ _ _ _ t _ _ _ _ false (Lib.hid K) (Lib.hid FA) (Lib.hid FB) (Lib.hid AB) (Lib.hid OR) (Lib.hid AZ) (Lib.hid OZ) (Lib.hid OA) (Lib.hid AS) (Lib.hid OS) (Lib.hid OB) fa.1 fa.2 HC mt hm (.inr (.inl ⟨nq, beq_eq_false_iff_ne.2 ea, beq_eq_false_iff_ne.2 gn, Lib.hid CA, Lib.hid CB, G⟩)) w ft
      · rw [show finF f b = false by unfold finF; simp [cb]] at FB
        exact exact18_nb f m _ _ _ _ mm t (Lib.hid K) (Lib.hid FA) (Lib.hid FB) G mt hm w ft
    · rw [show finF f a = false by unfold finF; simp [ca]] at FA
      exact exact18_na f m _ _ _ _ mm t (Lib.hid K) (Lib.hid FA) G mt hm w ft
  · rw [decide_eq_false hf] at K
    have z : ∀ s, adB f mm a b s = 0 ∧ adFl f mm t a b s = 0 := fun s => by unfold adB adFl; rw [if_neg (fun k => hf k.1), if_neg (fun k => hf k.1)]; exact ⟨rfl, rfl⟩
    rw [(z _).1, (z _).2] at AB
    exact exact18_nf f m _ _ _ _ mm t (Lib.hid K) (Lib.hid AB) G mt hm w ft
theorem exact18_law (C : FormOK) (D : ClassOK) (A : AddOK) (f m : Int) (t : Bool) (ah al bh bl : Int) (uf : 0 ≤ f ∧ f ≤ 255) (um : 0 ≤ m ∧ m ≤ 255) (uah : U64 ah) (ual : U64 al) (ubh : U64 bh) (ubl : U64 bl) (w : World) (ft : FTab w) : Calls Tryz.prog 5 #[.int .u8 f, .agg #[.int .u8 m, .bool t], .agg #[.int .u64 ah, .int .u64 al], .agg #[.int .u64 bh, .int .u64 bl]] w fun e w' => e = .returned (.bool true) ∧ Below w.heap.size w w' := by
  have hva := val_range uah ual
  have hvb := val_range ubh ubl
  have h := exact18_law_n C D A f m t (val ah al) (val bh bl) hva.1 hva.2 hvb.1 hvb.2 uf um w ft
  rw [(hl_val uah ual).1, (hl_val uah ual).2, (hl_val ubh ubl).1, (hl_val ubh ubl).2] at h
  exact h


end Go.Proofs.YtnaamckhignjeaaGreatDoor
