/-
  MulOrder.
-/
import Derived.Test.YtjnohbpebdnngaaGreatDoorOrder19
import Derived.Test.YtjnohbpebdnngaaGreatDoorOrder19A
import Derived.Test.YtjnohbpebdnngaaGreatDoorOrder19B
import Derived.Test.YtjnohbpebdnngaaGreatDoorGoes19L
import Derived.Test.YtjnohbpebdnngaaGreatDoorMul19O
set_option linter.unusedVariables false
set_option linter.unusedSimpArgs false
set_option maxRecDepth 100000
namespace Go.Proofs.YtjnohbpebdnngaaGreatDoor
open Go.RowKit
attribute [local go_sem ↓] Go.wp_at_zero Go.wp_at_succ

theorem size19N (C : FormOK) (f b : Int) (f0 : 0 ≤ f) (f1 : f ≤ 255) (b0 : 0 ≤ b) (b1 : b < full) (w : World) (ft : FTab w) : Calls Tryz.prog 33 #[.int .u8 f, .agg #[.int .u64 (hiOf (b)), .int .u64 (loOf (b))]] w fun e w' => e = .returned (.agg #[.int .u64 (hiOf (szF f b)), .int .u64 (loOf (szF f b))]) ∧ Below w.heap.size w w' := by
  have S := C.split f b f0 f1
  rw [Int.emod_eq_of_lt b0 b1] at S
  have er := exp_i64 (f := f) (b := b) f0 b0
  have fr := frac_low (f := f) (b := b) f0
  have Mk := C.make f false (expF f b) (fracF f b) f0 f1 er.1 er.2
  rw [Int.emod_eq_of_lt fr.1 fr.2] at Mk
  exact size19 f _ _ _ _ _ _ _ _ (Lib.hid S) (Lib.hid Mk) w ft
theorem digs_le {x y : Int} (y0 : 0 ≤ y) (y1 : y < full) (x0 : 0 ≤ x) (x1 : x < full) (h : x ≤ y) : decide (hiOf x < hiOf y) = true ∨ (decide (hiOf x < hiOf y) = false ∧ (hiOf x == hiOf y) = true ∧ decide (loOf x ≤ loOf y) = true) := by
  by_cases k : hiOf x < hiOf y
  · exact .inl (decide_eq_true k)
  · have e : hiOf x = hiOf y := by unfold hiOf full at *; omega
    exact .inr ⟨decide_eq_false k, beq_iff_eq.2 e, decide_eq_true (by unfold hiOf loOf full at *; omega)⟩
theorem digs_gt {x y : Int} (y0 : 0 ≤ y) (y1 : y < full) (x0 : 0 ≤ x) (x1 : x < full) (h : y < x) : decide (hiOf y < hiOf x) = true ∨ (decide (hiOf y < hiOf x) = false ∧ (hiOf x == hiOf y) = true ∧ decide (loOf y < loOf x) = true) := by
  by_cases k : hiOf y < hiOf x
  · exact .inl (decide_eq_true k)
  · have e : hiOf x = hiOf y := by unfold hiOf full at *; omega
    exact .inr ⟨decide_eq_false k, beq_iff_eq.2 e, decide_eq_true (by unfold hiOf loOf full at *; omega)⟩
theorem digs_ngt {x y : Int} (y0 : 0 ≤ y) (y1 : y < full) (x0 : 0 ≤ x) (x1 : x < full) (h : ¬ y < x) : (decide (hiOf y < hiOf x) = false ∧ (hiOf x == hiOf y) = false) ∨ (decide (hiOf y < hiOf x) = false ∧ (hiOf x == hiOf y) = true ∧ decide (loOf y < loOf x) = false) := by
  have k : ¬ hiOf y < hiOf x := by unfold hiOf full at *; omega
  by_cases e : hiOf x = hiOf y
  · exact .inr ⟨decide_eq_false k, beq_iff_eq.2 e, decide_eq_false (by unfold hiOf loOf full at *; omega)⟩
  · exact .inl ⟨decide_eq_false k, beq_eq_false_iff_ne.2 e⟩
theorem ml_full {f m lo z : Int} (f0 : 0 ≤ f) (hf : f < 4) (hm : m < 5) (l : sizeF f lo) (pz : plainF f z) (cz : clsF f z ≠ 0) : 0 ≤ mlB f m lo z ∧ mlB f m lo z < full := by
  have rz := cls_range f z
  obtain ⟨z0, z1, z2, z3, z4⟩ := pz
  rcases l with ⟨l0, l1, l2, l3, l4⟩ | hl
  · obtain ⟨er0, er1, sr0, sr1⟩ := ml_range (f := f) f0 l0 z0
    rw [(ml_fin (m := m) f0 hf hm l0 l1 z0 z1 l2 z2).1]
    have := pk_class (m := m) (ex := mlE f lo z) (ng := mlN f lo z) f0 hf hm sr0 sr1
    exact ⟨this.1, this.2.1⟩
  · subst hl
    have g : 0 ≤ infF f false ∧ infF f false < full := make_full f0 (f := f) false (2 * fE f + 1) 0
    rw [(ml_inf (m := m) hf hm g.1 g.2 z0 z1 (inf_cls f0 hf false).1 (by omega)).1]
    exact make_full f0 (f := f) _ (2 * fE f + 1) 0
set_option maxHeartbeats 1000000 in
theorem order19_law_n (C : FormOK) (D : ClassOK) (Y : AnyOK) (A : MulOK) (f m : Int) (t : Bool) (a b k : Int) (a0 : 0 ≤ a) (a1 : a < full) (b0 : 0 ≤ b) (b1 : b < full) (k0 : 0 ≤ k) (k1 : k < full) (uf : 0 ≤ f ∧ f ≤ 255) (um : 0 ≤ m ∧ m ≤ 255) (w : World) (ft : FTab w) : Calls Tryz.prog 8 #[.int .u8 f, .agg #[.int .u8 m, .bool t], .agg #[.int .u64 (hiOf (a)), .int .u64 (loOf (a))], .agg #[.int .u64 (hiOf (b)), .int .u64 (loOf (b))], .agg #[.int .u64 (hiOf (k)), .int .u64 (loOf (k))]] w fun e w' => e = .returned (.bool true) ∧ Below w.heap.size w w' := by
  have G := Lib.hid (goes19_any A)
  have K := C.known f uf.1 uf.2
  obtain ⟨mm, hm⟩ : ∃ mm, m % 5 = mm := ⟨_, rfl⟩
  have mt : m.tmod 5 = mm := by rw [Int.tmod_eq_emod_of_nonneg um.1, hm]
  have r5 : 0 ≤ mm ∧ mm < 5 := by omega
  have OK := D.of f k uf.1 uf.2
  rw [Int.emod_eq_of_lt k0 k1] at OK
  have AN : ∀ w, FTab w → ∀ p T, HB w p T #[.int .u64 (hiOf a), .int .u64 (loOf a), .int .u64 (hiOf b), .int .u64 (loOf b)] → Calls Tryz.prog 24 #[.int .u8 f, .func (.func 25) #[] #[], .slice (some ⟨p, 0, none⟩) 2 2] w fun e w' => e = .returned (.bool (anyN f [a, b])) ∧ Below w.heap.size w w' := fun w ft p T x => Y.nan f (some ⟨p, 0, none⟩) 2 2 [a, b] uf.1 uf.2 w ft (Bs.ofHB [a, b] x rfl (by simp))
  by_cases hf : f < 4
  · rw [decide_eq_true hf] at K
    have aa : anyN f [a, b] = (nanF f a || nanF f b) := by unfold anyN; simp [Int.emod_eq_of_lt a0 a1, Int.emod_eq_of_lt b0 b1]
    rw [aa] at AN
    cases hn : (nanF f a || nanF f b) with
    | true =>
      rw [hn] at AN
      exact order19_na f m _ _ _ _ _ _ mm _ t _ (Lib.hid OK) (Lib.hid K) G mt hm (Lib.hid AN) w ft
    | false =>
      rw [hn] at AN
      by_cases hk : clsF f k = 1 ∨ clsF f k = 2
      · have na : nanF f a = false := (Bool.or_eq_false_iff.1 hn).1
        have nb : nanF f b = false := (Bool.or_eq_false_iff.1 hn).2
        obtain ⟨sa0, sa1⟩ := sz_full (f := f) (b := a) uf.1
        obtain ⟨sb0, sb1⟩ := sz_full (f := f) (b := b) uf.1
        obtain ⟨sk0, sk1⟩ := sz_full (f := f) (b := k) uf.1
        have SA := Lib.hid (size19N C f a uf.1 uf.2 a0 a1)
        have SB := Lib.hid (size19N C f b uf.1 uf.2 b0 b1)
        have SK := Lib.hid (size19N C f k uf.1 uf.2 k0 k1)
        have pa := sz_size uf.1 hf a0 na
        have pb := sz_size uf.1 hf b0 nb
        obtain ⟨pk, ck⟩ := sz_same uf.1 hf k0 (by omega)
        have AA := A.mul f mm t (szF f a) (szF f k) uf.1 uf.2 r5.1 (by omega) sa0 sa1 sk0 sk1
        have BB := A.mul f mm t (szF f b) (szF f k) uf.1 uf.2 r5.1 (by omega) sb0 sb1 sk0 sk1
        have ckz : clsF f (szF f k) ≠ 0 := fun h => by
          have v := (vF_zero uf.1 hf sk0 pk.2.2.1).2 h
          rw [ck] at v
          have := (vF_zero uf.1 hf k0 (by omega)).1 v
          omega
        have va := ml_full (m := mm) uf.1 hf r5.2 pa pk ckz
        have vb := ml_full (m := mm) uf.1 hf r5.2 pb pk ckz
        have go : ∀ c kk, clsF f k = kk → (kk = 1 ∧ c = true ∨ kk = 2 ∧ c = false) → Calls Tryz.prog 8 #[.int .u8 f, .agg #[.int .u8 m, .bool t], .agg #[.int .u64 (hiOf (a)), .int .u64 (loOf (a))], .agg #[.int .u64 (hiOf (b)), .int .u64 (loOf (b))], .agg #[.int .u64 (hiOf (k)), .int .u64 (loOf (k))]] w fun e w' => e = .returned (.bool true) ∧ Below w.heap.size w w' := fun c kk hk' hc => by
          rw [hk'] at OK
          by_cases sw : szF f b < szF f a
          · have HL := digs_le va.1 va.2 vb.1 vb.2 (order_all uf.1 hf r5.2 pb pa pk ckz (by omega))
            rcases hc with ⟨rfl, _⟩ | ⟨rfl, _⟩ <;> rcases digs_gt sb0 sb1 sa0 sa1 sw with s1 | ⟨s1, s2, s3⟩
            · exact order19_main1 f m _ _ _ _ _ _ mm _ _ _ _ _ _ _ _ _ _ _ _ t _ (Lib.hid OK) (Lib.hid K) SA SB SK HL mt hm (Lib.hid AN) (.inl ⟨s1, Lib.hid BB, Lib.hid AA, G⟩) w ft
            · exact order19_main1 f m _ _ _ _ _ _ mm _ _ _ _ _ _ _ _ _ _ _ _ t _ (Lib.hid OK) (Lib.hid K) SA SB SK HL mt hm (Lib.hid AN) (.inr (.inl ⟨s1, s2, s3, Lib.hid BB, Lib.hid AA, G⟩)) w ft
            · exact order19_main2 f m _ _ _ _ _ _ mm _ _ _ _ _ _ _ _ _ _ _ _ t _ (Lib.hid OK) (Lib.hid K) SA SB SK HL mt hm (Lib.hid AN) (.inl ⟨s1, Lib.hid BB, Lib.hid AA, G⟩) w ft
            · exact order19_main2 f m _ _ _ _ _ _ mm _ _ _ _ _ _ _ _ _ _ _ _ t _ (Lib.hid OK) (Lib.hid K) SA SB SK HL mt hm (Lib.hid AN) (.inr (.inl ⟨s1, s2, s3, Lib.hid BB, Lib.hid AA, G⟩)) w ft
          · have HL := digs_le vb.1 vb.2 va.1 va.2 (order_all uf.1 hf r5.2 pa pb pk ckz (by omega))
            rcases hc with ⟨rfl, _⟩ | ⟨rfl, _⟩ <;> rcases digs_ngt sb0 sb1 sa0 sa1 sw with ⟨s1, s2⟩ | ⟨s1, s2, s3⟩
            · exact order19_main1 f m _ _ _ _ _ _ mm _ _ _ _ _ _ _ _ _ _ _ _ t _ (Lib.hid OK) (Lib.hid K) SA SB SK HL mt hm (Lib.hid AN) (.inr (.inr (.inl ⟨s1, s2, Lib.hid AA, Lib.hid BB, G⟩))) w ft
            · exact order19_main1 f m _ _ _ _ _ _ mm _ _ _ _ _ _ _ _ _ _ _ _ t _ (Lib.hid OK) (Lib.hid K) SA SB SK HL mt hm (Lib.hid AN) (.inr (.inr (.inr ⟨s1, s2, s3, Lib.hid AA, Lib.hid BB, G⟩))) w ft
            · exact order19_main2 f m _ _ _ _ _ _ mm _ _ _ _ _ _ _ _ _ _ _ _ t _ (Lib.hid OK) (Lib.hid K) SA SB SK HL mt hm (Lib.hid AN) (.inr (.inr (.inl ⟨s1, s2, Lib.hid AA, Lib.hid BB, G⟩))) w ft
            · exact order19_main2 f m _ _ _ _ _ _ mm _ _ _ _ _ _ _ _ _ _ _ _ t _ (Lib.hid OK) (Lib.hid K) SA SB SK HL mt hm (Lib.hid AN) (.inr (.inr (.inr ⟨s1, s2, s3, Lib.hid AA, Lib.hid BB, G⟩))) w ft
        rcases hk with h | h
        · exact go true 1 h (.inl ⟨rfl, rfl⟩)
        · exact go false 2 h (.inr ⟨rfl, rfl⟩)
      · exact order19_nk f m _ _ _ _ _ _ mm _ t _ (Lib.hid OK) (Lib.hid K) G mt hm (Lib.hid AN) (bne_iff_ne.2 (fun h => hk (.inl h))) (bne_iff_ne.2 (fun h => hk (.inr h))) w ft
  · rw [decide_eq_false hf] at K
    exact order19_nf f m _ _ _ _ _ _ mm _ t _ (Lib.hid OK) (Lib.hid K) G mt hm w ft
theorem order19_law (C : FormOK) (D : ClassOK) (Y : AnyOK) (A : MulOK) (f m : Int) (t : Bool) (ah al bh bl kh kl : Int) (uf : 0 ≤ f ∧ f ≤ 255) (um : 0 ≤ m ∧ m ≤ 255) (uah : U64 ah) (ual : U64 al) (ubh : U64 bh) (ubl : U64 bl) (ukh : U64 kh) (ukl : U64 kl) (w : World) (ft : FTab w) : Calls Tryz.prog 8 #[.int .u8 f, .agg #[.int .u8 m, .bool t], .agg #[.int .u64 ah, .int .u64 al], .agg #[.int .u64 bh, .int .u64 bl], .agg #[.int .u64 kh, .int .u64 kl]] w fun e w' => e = .returned (.bool true) ∧ Below w.heap.size w w' := by
  have hva := val_range uah ual
  have hvb := val_range ubh ubl
  have hvk := val_range ukh ukl
  have h := order19_law_n C D Y A f m t (val ah al) (val bh bl) (val kh kl) hva.1 hva.2 hvb.1 hvb.2 hvk.1 hvk.2 uf um w ft
  rw [(hl_val uah ual).1, (hl_val uah ual).2, (hl_val ubh ubl).1, (hl_val ubh ubl).2, (hl_val ukh ukl).1, (hl_val ukh ukl).2] at h
  exact h


end Go.Proofs.YtjnohbpebdnngaaGreatDoor
