import Derived.Test.YtbighggnfkdncaaGreatDoorFour22
import Derived.Test.YtbighggnfkdncaaGreatDoorGxC
import Derived.Test.YtbighggnfkdncaaGreatDoorSqrt22L
set_option maxHeartbeats 1000000
set_option linter.unusedVariables false
set_option linter.unusedSimpArgs false
set_option maxRecDepth 100000
namespace Go.Proofs.YtbighggnfkdncaaGreatDoor
open Go.RowKit
attribute [local go_sem ↓] Go.wp_at_zero Go.wp_at_succ
theorem four22_law_n (C : FormOK) (S : AddOK) (A : SqrtOK) (f m : Int) (t : Bool) (a : Int) (a0 : 0 ≤ a) (a1 : a < full) (uf : 0 ≤ f ∧ f ≤ 255) (um : 0 ≤ m ∧ m ≤ 255) (w : World) (ft : FTab w) : Calls Tryz.prog 7 #[.int .u8 f, .agg #[.int .u8 m, .bool t], .agg #[.int .u64 (hiOf (a)), .int .u64 (loOf (a))]] w fun e w' => e = .returned (.bool true) ∧ Below w.heap.size w w' := by
  have G := lH (goes22_any A)
  have K := C.known f uf.1 uf.2
  obtain ⟨mm, hm⟩ : ∃ mm, m % 5 = mm := ⟨_, rfl⟩
  have mt : m.tmod 5 = mm := by rw [Int.tmod_eq_emod_of_nonneg um.1, hm]
  have r5 : 0 ≤ mm ∧ mm < 5 := by omega
  have SA := lH (size22N C f a uf.1 uf.2 a0 a1)
  obtain ⟨s0, s1⟩ := sz_full (f := f) (b := a) uf.1
  have SP := C.split f (szF f a) uf.1 uf.2
  rw [Int.emod_eq_of_lt s0 s1] at SP
  have er : 0 ≤ expF f (szF f a) ∧ expF f (szF f a) ≤ 32767 := by
    by_cases hf : f < 4
    · have := exp_range uf.1 hf s0; omega
    · unfold expF; rw [if_neg hf]; omega
  by_cases hf : f < 4
  · rw [decide_eq_true hf] at K
    obtain ⟨p0, p1, p2, p3, p4, p5, p6, p7, p8⟩ := f_nums uf.1 hf
    by_cases h1 : expF f (szF f a) < 1
    · exact four22_no2 f m _ _ mm (expF f (szF f a)) (expF f (szF f a) + 2) 0 0 _ _ _ _ 0 0 0 0 0 0 0 0 t _ SA (lH SP) (lH K) G mt hm (IntWalk.i64_in _ (by omega)) (by unfold wrap64; omega) (by decide +kernel) (by decide +kernel) (decide_eq_true h1) w ft
    · have EM := C.emax f uf.1 uf.2
      by_cases h2 : 2 * fE f < expF f (szF f a) + 2
      · exact four22_no3 f m _ _ mm (expF f (szF f a)) (expF f (szF f a) + 2) (fE f) (2 * fE f) _ _ _ _ 0 0 0 0 0 0 0 0 t _ SA (lH SP) (lH K) (lH EM) G mt hm (IntWalk.i64_in _ (by omega)) (by unfold wrap64; omega) (IntWalk.i64_in _ (by omega)) (by unfold wrap64; omega) (decide_eq_false h1) (decide_eq_true h2) w ft
      · obtain ⟨cc, ce, cf⟩ := sz_cls uf.1 hf a0
        have c2 : clsF f a = 2 := (cls_2 hf).2 ⟨by omega, by omega⟩
        obtain ⟨px, _⟩ := sz_same uf.1 hf a0 (show clsF f a ≤ 2 by omega)
        obtain ⟨b0, b1, r0, r1, nr, e1, e2⟩ := sq_four (m := mm) uf.1 hf r5.2 px (by omega) (by omega) _ _ rfl rfl
        have X1 := A.sqrt f mm t (szF f a) uf.1 uf.2 r5.1 (by omega) s0 s1
        have MK := C.make f false (expF f (szF f a) + 2) (fracF f (szF f a)) uf.1 uf.2 (by omega) (by omega)
        have fr := frac_low (f := f) (b := szF f a) uf.1
        rw [Int.emod_eq_of_lt fr.1 fr.2] at MK
        have X2 := A.sqrt f mm t _ uf.1 uf.2 r5.1 (by omega) b0 b1
        rw [e2 t] at X2
        have X3 := S.add f mm t _ _ uf.1 uf.2 r5.1 (by omega) r0 r1 r0 r1
        rw [nr, ← e1] at X3
        exact four22_main f m _ _ mm (expF f (szF f a)) (expF f (szF f a) + 2) (fE f) (2 * fE f) _ _ _ _ _ _ _ _ _ _ _ _ t _ SA (lH SP) (lH K) (lH EM) (lH X1) (lH MK) (lH X2) (lH X3) G mt hm (IntWalk.i64_in _ (by omega)) (by unfold wrap64; omega) (IntWalk.i64_in _ (by omega)) (by unfold wrap64; omega) (decide_eq_false h1) (decide_eq_false h2) w ft
  · rw [decide_eq_false hf] at K
    exact four22_no1 f m _ _ mm (expF f (szF f a)) (expF f (szF f a) + 2) 0 0 _ _ _ _ 0 0 0 0 0 0 0 0 t _ SA (lH SP) (lH K) G mt hm (IntWalk.i64_in _ (by omega)) (by unfold wrap64; omega) (by decide +kernel) (by decide +kernel) w ft
theorem four22_law (C : FormOK) (S : AddOK) (A : SqrtOK) (f m : Int) (t : Bool) (ah al : Int) (uf : 0 ≤ f ∧ f ≤ 255) (um : 0 ≤ m ∧ m ≤ 255) (uah : U64 ah) (ual : U64 al) (w : World) (ft : FTab w) : Calls Tryz.prog 7 #[.int .u8 f, .agg #[.int .u8 m, .bool t], .agg #[.int .u64 ah, .int .u64 al]] w fun e w' => e = .returned (.bool true) ∧ Below w.heap.size w w' := by
  have hva := val_range uah ual
  have h := four22_law_n C S A f m t (val ah al) hva.1 hva.2 uf um w ft
  rw [(hl_val uah ual).1, (hl_val uah ual).2] at h
  exact h
end Go.Proofs.YtbighggnfkdncaaGreatDoor
