/-
  MulWide.
-/
import Derived.Test.YtjnohbpebdnngaaGreatDoorWide19
import Derived.Test.YtjnohbpebdnngaaGreatDoorGoes19L
import Derived.Test.YtjnohbpebdnngaaGreatDoorMul19P
import Derived.Test.YtjnohbpebdnngaaGreatDoorPack16M
set_option linter.unusedVariables false
set_option linter.unusedSimpArgs false
set_option maxRecDepth 100000
namespace Go.Proofs.YtjnohbpebdnngaaGreatDoor
open Go.RowKit
attribute [local go_sem ↓] Go.wp_at_zero Go.wp_at_succ

theorem wd_up19 {s : Int} (h0 : 0 ≤ s) (h1 : s < full) : wd0 (s * full) = 0 ∧ wd1 (s * full) = 0 ∧ wd2 (s * full) = loOf s ∧ wd3 (s * full) = hiOf s := by
  unfold wd0 wd1 wd2 wd3 loOf hiOf full at *; omega
theorem widenedN (F : FldOK) (f b : Int) (f0 : 0 ≤ f) (hf : f ≤ 2) (b0 : 0 ≤ b) (b1 : b < full) (w : World) (ft : FTab w) : Calls Tryz.prog 19 #[.int .u8 f, .agg #[.int .u64 (hiOf (b)), .int .u64 (loOf (b))]] w fun e w' => e = .returned (.agg #[.int .u64 (hiOf (packV (f + 1) (negF f b) (clsF f b) (uE f b) (uS f b))), .int .u64 (loOf (packV (f + 1) (negF f b) (clsF f b) (uE f b) (uS f b)))]) ∧ Below w.heap.size w w' := by
  have ws : IntKind.u8.wrap (f + 1) = f + 1 := by rw [IntKind.wrap_u8]; exact Int.emod_eq_of_lt (by omega) (by omega)
  have s := uS_range (f := f) f0 b0
  have e := uE_range (f := f) f0 b0
  have c := cls_range f b
  have U := F.unpackAt f b f0 (by omega) b0 b1
  have P := F.packAt (f + 1) (negF f b) (clsF f b) (uE f b) (uS f b) (by omega) (by omega) c.1 (by omega) (by omega) (by omega) s.1 s.2
  exact widened19 f (f + 1) _ _ _ _ _ _ _ _ _ _ (Lib.hid U) (Lib.hid P) ws (Int.emod_eq_of_lt (by omega) (by omega)) w ft
set_option maxHeartbeats 1000000 in
theorem wide19_law_n (D : ClassOK) (F : FldOK) (P : PackOK) (A : MulOK) (f m : Int) (t : Bool) (a b : Int) (a0 : 0 ≤ a) (a1 : a < full) (b0 : 0 ≤ b) (b1 : b < full) (uf : 0 ≤ f ∧ f ≤ 255) (um : 0 ≤ m ∧ m ≤ 255) (w : World) (ft : FTab w) : Calls Tryz.prog 5 #[.int .u8 f, .agg #[.int .u8 m, .bool t], .agg #[.int .u64 (hiOf (a)), .int .u64 (loOf (a))], .agg #[.int .u64 (hiOf (b)), .int .u64 (loOf (b))]] w fun e w' => e = .returned (.bool true) ∧ Below w.heap.size w w' := by
  have G := Lib.hid (goes19_any A)
  obtain ⟨mm, hm⟩ : ∃ mm, m % 5 = mm := ⟨_, rfl⟩
  have mt : m.tmod 5 = mm := by rw [Int.tmod_eq_emod_of_nonneg um.1, hm]
  have r5 : 0 ≤ mm ∧ mm < 5 := by omega
  by_cases hf : 2 < f
  · exact wide19_nf f m _ _ _ _ mm t G mt hm (decide_eq_true hf) w ft
  · have g2 : decide (2 < f) = false := decide_eq_false hf
    have FA := D.fin f a uf.1 uf.2
    have FB := D.fin f b uf.1 uf.2
    rw [Int.emod_eq_of_lt a0 a1] at FA
    rw [Int.emod_eq_of_lt b0 b1] at FB
    by_cases ca : clsF f a ≤ 2
    · rw [show finF f a = true by unfold finF; simp [ca]; omega] at FA
      by_cases cb : clsF f b ≤ 2
      · rw [show finF f b = true by unfold finF; simp [cb]; omega] at FB
        have ws : IntKind.u8.wrap (f + 1) = f + 1 := by rw [IntKind.wrap_u8]; exact Int.emod_eq_of_lt (by omega) (by omega)
        have WA := widenedN F f a uf.1 (by omega) a0 a1
        have WB := widenedN F f b uf.1 (by omega) b0 b1
        obtain ⟨A0, A1, cA, nA, eA, sA⟩ := wide_pack uf.1 (by omega) a0 ca _ rfl
        obtain ⟨B0, B1, cB, nB, eB, sB⟩ := wide_pack uf.1 (by omega) b0 cb _ rfl
        generalize packV (f + 1) (negF f a) (clsF f a) (uE f a) (uS f a) = Av at *
        generalize packV (f + 1) (negF f b) (clsF f b) (uE f b) (uS f b) = Bv at *
        have M1 := A.mul (f + 1) mm t Av Bv (by omega) (by omega) r5.1 (by omega) A0 A1 B0 B1
        obtain ⟨fl0, P0, P1, pb, pf⟩ := ml_wide (m := mm) uf.1 (by omega) r5.2 a0 a1 b0 b1 ca cb A0 A1 cA nA eA sA B0 B1 cB nB eB sB _ rfl
        rw [fl0] at M1
        generalize mlB (f + 1) mm Av Bv = S at *
        have U := F.unpackAt (f + 1) S (by omega) (by omega) P0 P1
        have M2 := A.mul f mm t a b uf.1 uf.2 r5.1 (by omega) a0 a1 b0 b1
        have rs := uS_range (f := f + 1) (by omega) P0
        have re := uE_range (f := f + 1) (by omega) P0
        have ro := room_u (f := f + 1) (by omega) P0
        have R := P.round f mm t (negF (f + 1) S) (uE (f + 1) S) (uS (f + 1) S * full) uf.1 uf.2 r5.1 (by omega) (by omega) (by omega) ro.1 ro.2.1
        obtain ⟨i0, i1, i2, i3⟩ := wd_up19 rs.1 rs.2
        rw [pb, pf, i0, i1, i2, i3] at R
        exact wide19_main f m _ _ _ _ mm (f + 1) _ _ _ _ _ _ _ _ _ _ _ _ _ t _ (Lib.hid FA) (Lib.hid FB) (Lib.hid WA) (Lib.hid WB) (Lib.hid M1) (Lib.hid U) (Lib.hid M2) (Lib.hid R) G mt hm g2 ws (Int.emod_eq_of_lt (by omega) (by omega)) w ft
      · rw [show finF f b = false by unfold finF; simp [cb]] at FB
        exact wide19_nb f m _ _ _ _ mm t (Lib.hid FA) (Lib.hid FB) G mt hm g2 w ft
    · rw [show finF f a = false by unfold finF; simp [ca]] at FA
      exact wide19_na f m _ _ _ _ mm t (Lib.hid FA) G mt hm g2 w ft
theorem wide19_law (D : ClassOK) (F : FldOK) (P : PackOK) (A : MulOK) (f m : Int) (t : Bool) (ah al bh bl : Int) (uf : 0 ≤ f ∧ f ≤ 255) (um : 0 ≤ m ∧ m ≤ 255) (uah : U64 ah) (ual : U64 al) (ubh : U64 bh) (ubl : U64 bl) (w : World) (ft : FTab w) : Calls Tryz.prog 5 #[.int .u8 f, .agg #[.int .u8 m, .bool t], .agg #[.int .u64 ah, .int .u64 al], .agg #[.int .u64 bh, .int .u64 bl]] w fun e w' => e = .returned (.bool true) ∧ Below w.heap.size w w' := by
  have hva := val_range uah ual
  have hvb := val_range ubh ubl
  have h := wide19_law_n D F P A f m t (val ah al) (val bh bl) hva.1 hva.2 hvb.1 hvb.2 uf um w ft
  rw [(hl_val uah ual).1, (hl_val uah ual).2, (hl_val ubh ubl).1, (hl_val ubh ubl).2] at h
  exact h


end Go.Proofs.YtjnohbpebdnngaaGreatDoor
