import Derived.Test.YtbighggnfkdncaaGreatDoorOrder22
import Derived.Test.YtbighggnfkdncaaGreatDoorGxC
import Derived.Test.YtbighggnfkdncaaGreatDoorSqrt22L
set_option maxHeartbeats 1000000
set_option linter.unusedVariables false
set_option linter.unusedSimpArgs false
set_option maxRecDepth 100000
namespace Go.Proofs.YtbighggnfkdncaaGreatDoor
open Go.RowKit
attribute [local go_sem ↓] Go.wp_at_zero Go.wp_at_succ
theorem sq_zero_no {f m x : Int} (h : ¬ (f < 4 ∧ m < 5)) : sqB f m x = 0 ∧ ∀ t, sqFl f m t x = 0 := by
  unfold sqB sqFl; exact ⟨if_neg h, fun t => if_neg h⟩
theorem order22_law_n (C : FormOK) (Y : AnyOK) (A : SqrtOK) (f m : Int) (t : Bool) (a b : Int) (a0 : 0 ≤ a) (a1 : a < full) (b0 : 0 ≤ b) (b1 : b < full) (uf : 0 ≤ f ∧ f ≤ 255) (um : 0 ≤ m ∧ m ≤ 255) (w : World) (ft : FTab w) : Calls Tryz.prog 6 #[.int .u8 f, .agg #[.int .u8 m, .bool t], .agg #[.int .u64 (hiOf (a)), .int .u64 (loOf (a))], .agg #[.int .u64 (hiOf (b)), .int .u64 (loOf (b))]] w fun e w' => e = .returned (.bool true) ∧ Below w.heap.size w w' := by
  have G := lH (goes22_any A)
  obtain ⟨mm, hm⟩ : ∃ mm, m % 5 = mm := ⟨_, rfl⟩
  have mt : m.tmod 5 = mm := by rw [Int.tmod_eq_emod_of_nonneg um.1, hm]
  have r5 : 0 ≤ mm ∧ mm < 5 := by omega
  have SA := lH (size22N C f a uf.1 uf.2 a0 a1)
  have SB := lH (size22N C f b uf.1 uf.2 b0 b1)
  obtain ⟨s0, s1⟩ := sz_full (f := f) (b := a) uf.1
  obtain ⟨t0, t1⟩ := sz_full (f := f) (b := b) uf.1
  have AN : ∀ w, FTab w → ∀ p T, HB w p T #[.int .u64 (hiOf (szF f a)), .int .u64 (loOf (szF f a)), .int .u64 (hiOf (szF f b)), .int .u64 (loOf (szF f b))] → Calls Tryz.prog 22 #[.int .u8 f, .func (.func 23) #[] #[], .slice (some ⟨p, 0, none⟩) 2 2] w fun e w' => e = .returned (.bool (anyN f [szF f a, szF f b])) ∧ Below w.heap.size w w' := fun w ft p T x => Y.nan f (some ⟨p, 0, none⟩) 2 2 [szF f a, szF f b] uf.1 uf.2 w ft (Bs.ofHB [szF f a, szF f b] x rfl (by simp))
  have C1 := cmpB (szF f a) (szF f b)
  rw [Int.emod_eq_of_lt s0 s1, Int.emod_eq_of_lt t0 t1] at C1
  have QA := A.sqrt f mm t (szF f a) uf.1 uf.2 r5.1 (by omega) s0 s1
  have QB := A.sqrt f mm t (szF f b) uf.1 uf.2 r5.1 (by omega) t0 t1
  have aa : anyN f [szF f a, szF f b] = (nanF f (szF f a) || nanF f (szF f b)) := by unfold anyN; simp [Int.emod_eq_of_lt s0 s1, Int.emod_eq_of_lt t0 t1]
  rw [aa] at AN
  cases hn : (nanF f (szF f a) || nanF f (szF f b)) with
  | true =>
    rw [hn] at AN
    exact order22_no f m _ _ _ _ mm 0 0 _ _ _ _ 0 0 0 0 0 0 t SA SB G mt hm (lH AN) w ft
  | false =>
    rw [hn] at AN
    have key : ∀ x y, ((x = szF f a ∧ y = szF f b) ∨ (x = szF f b ∧ y = szF f a)) → x ≤ y → 0 ≤ sqB f mm x ∧ sqB f mm x < full ∧ 0 ≤ sqB f mm y ∧ sqB f mm y < full ∧ sqB f mm x ≤ sqB f mm y := fun x y hxy le => by
      by_cases hf : f < 4
      · obtain ⟨na, nb⟩ := Bool.or_eq_false_iff.1 hn
        have ca := (sz_cls uf.1 hf a0).1
        have cb := (sz_cls uf.1 hf b0).1
        have pa := sz_size uf.1 hf a0 (by unfold nanF at na ⊢; rw [ca] at na; exact na)
        have pb := sz_size uf.1 hf b0 (by unfold nanF at nb ⊢; rw [cb] at nb; exact nb)
        have hx : sizeF f x := by rcases hxy with ⟨h, _⟩ | ⟨h, _⟩ <;> rw [h] <;> assumption
        have hy : sizeF f y := by rcases hxy with ⟨_, h⟩ | ⟨_, h⟩ <;> rw [h] <;> assumption
        have il : 0 ≤ infF f false ∧ infF f false < full := make_full uf.1 (f := f) false (2 * fE f + 1) 0
        have rg : ∀ z, sizeF f z → 0 ≤ sqB f mm z ∧ sqB f mm z < full := fun z hz => by
          rcases sq_size (m := mm) uf.1 hf r5.2 hz with ⟨_, h⟩ | ⟨_, h⟩ | ⟨_, _, _, h1, h2⟩
          · rw [h]; exact il
          · rw [h]; exact ⟨by decide, by decide⟩
          · exact ⟨h1, by omega⟩
        exact ⟨(rg x hx).1, (rg x hx).2, (rg y hy).1, (rg y hy).2, sq_mono22 uf.1 hf r5.2 hx hy le⟩
      · rw [(sq_zero_no (m := mm) (x := x) (fun k => hf k.1)).1, (sq_zero_no (m := mm) (x := y) (fun k => hf k.1)).1]
        exact ⟨by decide, by decide, by decide, by decide, by decide⟩
    by_cases sw : szF f b < szF f a
    · have gr : decide (0 < cmpI (szF f a) (szF f b)) = true := decide_eq_true (by have := cmpI_turn (szF f b) (szF f a); have := cmpI_lti.2 sw; omega)
      obtain ⟨k0, k1, k2, k3, k4⟩ := key (szF f b) (szF f a) (.inr ⟨rfl, rfl⟩) (by omega)
      have C2 := cmpB (sqB f mm (szF f b)) (sqB f mm (szF f a))
      rw [Int.emod_eq_of_lt k0 k1, Int.emod_eq_of_lt k2 k3] at C2
      exact order22_1 f m _ _ _ _ mm _ _ _ _ _ _ _ _ _ _ _ _ t SA SB (lH C1) (lH QB) (lH QA) (lH C2) G mt hm (lH AN) gr (decide_eq_true (cmpI_lei.2 k4)) w ft
    · have gr : decide (0 < cmpI (szF f a) (szF f b)) = false := decide_eq_false (fun k => sw (by have := cmpI_turn (szF f b) (szF f a); exact cmpI_lti.1 (by omega)))
      obtain ⟨k0, k1, k2, k3, k4⟩ := key (szF f a) (szF f b) (.inl ⟨rfl, rfl⟩) (by omega)
      have C2 := cmpB (sqB f mm (szF f a)) (sqB f mm (szF f b))
      rw [Int.emod_eq_of_lt k0 k1, Int.emod_eq_of_lt k2 k3] at C2
      exact order22_0 f m _ _ _ _ mm _ _ _ _ _ _ _ _ _ _ _ _ t SA SB (lH C1) (lH QA) (lH QB) (lH C2) G mt hm (lH AN) gr (decide_eq_true (cmpI_lei.2 k4)) w ft
theorem order22_law (C : FormOK) (Y : AnyOK) (A : SqrtOK) (f m : Int) (t : Bool) (ah al bh bl : Int) (uf : 0 ≤ f ∧ f ≤ 255) (um : 0 ≤ m ∧ m ≤ 255) (uah : U64 ah) (ual : U64 al) (ubh : U64 bh) (ubl : U64 bl) (w : World) (ft : FTab w) : Calls Tryz.prog 6 #[.int .u8 f, .agg #[.int .u8 m, .bool t], .agg #[.int .u64 ah, .int .u64 al], .agg #[.int .u64 bh, .int .u64 bl]] w fun e w' => e = .returned (.bool true) ∧ Below w.heap.size w w' := by
  have hva := val_range uah ual
  have hvb := val_range ubh ubl
  have h := order22_law_n C Y A f m t (val ah al) (val bh bl) hva.1 hva.2 hvb.1 hvb.2 uf um w ft
  rw [(hl_val uah ual).1, (hl_val uah ual).2, (hl_val ubh ubl).1, (hl_val ubh ubl).2] at h
  exact h
end Go.Proofs.YtbighggnfkdncaaGreatDoor
