import Derived.Test.YtbighggnfkdncaaGreatDoorSquare22
import Derived.Test.YtbighggnfkdncaaGreatDoorGxC
import Derived.Test.YtbighggnfkdncaaGreatDoorSqrt22L
set_option maxHeartbeats 1000000
set_option linter.unusedVariables false
set_option linter.unusedSimpArgs false
set_option maxRecDepth 100000
namespace Go.Proofs.YtbighggnfkdncaaGreatDoor
open Go.RowKit
attribute [local go_sem ↓] Go.wp_at_zero Go.wp_at_succ
theorem square22_law_n (C : FormOK) (D : ClassOK) (P : MulOK) (A : SqrtOK) (f m : Int) (t : Bool) (a : Int) (a0 : 0 ≤ a) (a1 : a < full) (uf : 0 ≤ f ∧ f ≤ 255) (um : 0 ≤ m ∧ m ≤ 255) (w : World) (ft : FTab w) : Calls Tryz.prog 5 #[.int .u8 f, .agg #[.int .u8 m, .bool t], .agg #[.int .u64 (hiOf (a)), .int .u64 (loOf (a))]] w fun e w' => e = .returned (.bool true) ∧ Below w.heap.size w w' := by
  have G := lH (goes22_any A)
  have K := C.known f uf.1 uf.2
  obtain ⟨mm, hm⟩ : ∃ mm, m % 5 = mm := ⟨_, rfl⟩
  have mt : m.tmod 5 = mm := by rw [Int.tmod_eq_emod_of_nonneg um.1, hm]
  have r5 : 0 ≤ mm ∧ mm < 5 := by omega
  have SA := lH (size22N C f a uf.1 uf.2 a0 a1)
  obtain ⟨s0, s1⟩ := sz_full (f := f) (b := a) uf.1
  have MX := P.mul f mm t (szF f a) (szF f a) uf.1 uf.2 r5.1 (by omega) s0 s1 s0 s1
  have FI := D.fin f (szF f a) uf.1 uf.2
  rw [Int.emod_eq_of_lt s0 s1] at FI
  by_cases hf : f < 4
  · rw [decide_eq_true hf] at K
    cases hn : finF f (szF f a) with
    | false =>
      rw [hn] at FI
      exact square22_no2 f m _ _ mm _ _ _ _ _ t SA (lH MX) (lH K) (lH FI) G mt hm w ft
    | true =>
      rw [hn] at FI
      unfold finF at hn
      have c2 := of_decide_eq_true (Bool.and_eq_true_iff.1 hn).2
      obtain ⟨cc, _, _⟩ := sz_cls uf.1 hf a0
      obtain ⟨px, _⟩ := sz_same uf.1 hf a0 (show clsF f a ≤ 2 by omega)
      by_cases z : mlFl f mm t (szF f a) (szF f a) = 0
      · obtain ⟨q0, q1, e1, e2⟩ := sq_square uf.1 hf r5.2 px z _ rfl
        have SQ := A.sqrt f mm t _ uf.1 uf.2 r5.1 (by omega) q0 q1
        rw [e1, e2 t] at SQ
        rw [z] at MX
        exact square22_main f m _ _ mm _ _ _ _ 0 t SA (lH MX) (lH K) (lH FI) (lH SQ) G mt hm w ft
      · exact square22_no3 f m _ _ mm _ _ _ _ _ t SA (lH MX) (lH K) (lH FI) G mt hm (bne_iff_ne.2 z) w ft
  · rw [decide_eq_false hf] at K
    exact square22_no1 f m _ _ mm _ _ _ _ _ t SA (lH MX) (lH K) G mt hm w ft
theorem square22_law (C : FormOK) (D : ClassOK) (P : MulOK) (A : SqrtOK) (f m : Int) (t : Bool) (ah al : Int) (uf : 0 ≤ f ∧ f ≤ 255) (um : 0 ≤ m ∧ m ≤ 255) (uah : U64 ah) (ual : U64 al) (w : World) (ft : FTab w) : Calls Tryz.prog 5 #[.int .u8 f, .agg #[.int .u8 m, .bool t], .agg #[.int .u64 ah, .int .u64 al]] w fun e w' => e = .returned (.bool true) ∧ Below w.heap.size w w' := by
  have hva := val_range uah ual
  have h := square22_law_n C D P A f m t (val ah al) hva.1 hva.2 uf um w ft
  rw [(hl_val uah ual).1, (hl_val uah ual).2] at h
  exact h
end Go.Proofs.YtbighggnfkdncaaGreatDoor
