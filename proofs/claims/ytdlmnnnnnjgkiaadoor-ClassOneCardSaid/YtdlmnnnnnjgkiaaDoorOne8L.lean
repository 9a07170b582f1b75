/-
  ClassOne over digits.
-/
import Derived.Test.YtdlmnnnnnjgkiaaDoorOne8
import Derived.Test.YtdlmnnnnnjgkiaaDoorGoes8L
import Derived.Test.YtdlmnnnnnjgkiaaDoorBack7L
set_option linter.unusedVariables false
set_option linter.unusedSimpArgs false
set_option maxRecDepth 100000
namespace Go.Proofs.YtdlmnnnnnjgkiaaDoor
open Go.RowKit
attribute [local go_sem ↓] Go.wp_at_zero Go.wp_at_succ

theorem up_down (b : Int) {k j : Nat} (h : k + j = 128) : b * 2 ^ k % full / 2 ^ k = b % 2 ^ j := by
  have e : full = 2 ^ k * 2 ^ j := by rw [← full_pow, ← Int.pow_add, h]
  have hp := two_pow_pos k
  rw [e, Int.mul_comm b, Int.mul_emod_mul_of_pos _ _ hp, Int.mul_ediv_cancel_left _ (by omega)]
theorem one8_law_n (C : FormOK) (D : ClassOK) (f b q : Int) (f0 : 0 ≤ f) (f1 : f ≤ 255) (w : World) (ft : FTab w) : Calls Tryd.prog 5 #[.int .u8 f, .agg #[.int .u64 (hiOf (b)), .int .u64 (loOf (b))], .agg #[.int .u64 (hiOf (q)), .int .u64 (loOf (q))]] w fun e w' => e = .returned (.bool true) ∧ Below w.heap.size w w' := by
  have G := Lib.hid (goes8_any D)
  have hK := C.known f f0 f1
  by_cases h4 : f < 4
  · rw [show decide (f < 4) = true by simp [h4]] at hK
    obtain ⟨p0, p1, p2, p3, p4, p5, p6, p7, p8⟩ := f_nums f0 h4
    have B0 := (mod_f b).1
    have hw := two_pow_pos (fW f - 1)
    have sW : (2 : Int) ^ fW f = 2 * 2 ^ (fW f - 1) := by rw [← Int.pow_succ', show fW f - 1 + 1 = fW f by omega]
    have fw := fW_full f
    -- the size
    have hL := leftB b ((129 - fW f : Nat) : Int) (by omega) (by omega)
    rw [Int.toNat_natCast] at hL
    have hR := rightB (b * 2 ^ (129 - fW f)) ((129 - fW f : Nat) : Int) (by omega) (by omega)
    rw [Int.toNat_natCast, up_down b (show 129 - fW f + (fW f - 1) = 128 by omega)] at hR
    obtain ⟨s, hs⟩ : ∃ s, b % 2 ^ (fW f - 1) = s := ⟨_, rfl⟩
    rw [hs] at hR
    have s0 : 0 ≤ s := hs ▸ Int.emod_nonneg _ (by omega)
    have s1 : s < 2 ^ (fW f - 1) := hs ▸ Int.emod_lt_of_pos _ hw
    have ss : s % 2 ^ (fW f - 1) = s := Int.emod_eq_of_lt s0 s1
    have sf : s % full = s := Int.emod_eq_of_lt s0 (by omega)
    have hl1 := leftB 1 ((fW f - 1 : Nat) : Int) (by omega) (by omega)
    rw [Int.toNat_natCast, Int.one_mul, show hiOf 1 = 0 from rfl, show loOf 1 = 1 from rfl] at hl1
    have hA1 := addB s (2 ^ (fW f - 1))
    have hL2 := leftB q (fW f) (by omega) (by omega)
    rw [Int.toNat_natCast] at hL2
    have hA2 := addB s (q * 2 ^ fW f)
    have mf : (s + 2 ^ (fW f - 1)) % full = s + 2 ^ (fW f - 1) := Int.emod_eq_of_lt (by omega) (by omega)
    have cs : cutF f s = s := by unfold cutF; exact Int.emod_eq_of_lt s0 (by omega)
    obtain ⟨i1, i2, i3⟩ := fields_of_cut f0 h4 (a := (s + q * 2 ^ fW f) % full) (b := s) (by rw [cut_above (m := q) f0 cs, cs])
    have lowm : (s + 2 ^ (fW f - 1)) % 2 ^ (fW f - 1) = s := by rw [Int.add_emod_right, ss]
    have em : expF f (s + 2 ^ (fW f - 1)) = expF f s := by unfold expF; rw [if_pos h4, if_pos h4, lowm, ss]
    have fm : fracF f (s + 2 ^ (fW f - 1)) = fracF f s := by
      unfold fracF; rw [if_pos h4, if_pos h4, ← mod_mod_pow (s + 2 ^ (fW f - 1)) (show fP f - 1 ≤ fW f - 1 by omega), lowm]
    have ns : negF f s = false := by unfold negF; rw [Int.ediv_eq_zero_of_lt s0 s1]; simp
    have nm : negF f (s + 2 ^ (fW f - 1)) = true := by
      unfold negF; rw [Int.add_ediv_of_dvd_right (Int.dvd_refl _), Int.ediv_eq_zero_of_lt s0 s1, Int.ediv_self (by omega)]; simp [h4]
    obtain ⟨k1, k2, k3, k4, k5, k6, k7⟩ := cls_size f0 h4 s0 s (infF f false) _ _ ss rfl rfl rfl
    have h8 := D.of f s f0 f1
    rw [sf, ns] at h8
    have h9 := D.of f (s + 2 ^ (fW f - 1)) f0 f1
    rw [mf, cls_congr em fm, nm] at h9
    have h10 := D.of f (s + q * 2 ^ fW f) f0 f1
    rw [i1, cls_congr i2 i3, ns] at h10
    have hC := cmpB s (infF f false)
    have ir := make_full f0 false (2 * fE f + 1) 0
    rw [sf, Int.emod_eq_of_lt (a := infF f false) ir.1 ir.2] at hC
    have h13 := D.fin f (s + 2 ^ (fW f - 1)) f0 f1
    rw [mf] at h13
    have h14 := D.nan f (s + q * 2 ^ fW f) f0 f1
    have h15 := zeroB s
    rw [sf] at h15
    obtain ⟨z, hz⟩ : ∃ z, cmpI s (infF f false) = z := ⟨_, rfl⟩
    have hz3 : (z < 0 ↔ s < infF f false) ∧ (z = 0 ↔ s = infF f false) ∧ (0 < z ↔ infF f false < s) := by
      rw [← hz]; unfold cmpI; split <;> (try split) <;> omega
    rw [hz] at hC
    exact one8_yes f _ _ _ _ _ _ _ _ _ _ _ _ _ _ _ _ _ _ _ ((129 - fW f : Nat) : Int) ((fW f - 1 : Nat) : Int) _ z _ _ _ _ _ (decide (clsF f s = 3)) (Lib.hid hK) (Lib.hid (C.width f f0 f1)) (Lib.hid hL) (Lib.hid hR) (Lib.hid hl1) (Lib.hid hA1) (Lib.hid hL2) (Lib.hid hA2)
      (Lib.hid h8) (Lib.hid h9) (Lib.hid h10) (Lib.hid (C.inf f false f0 f1)) (Lib.hid hC) (Lib.hid h13) (Lib.hid h14) (Lib.hid h15) G (by rw [IntWalk.i64_in _ (by omega)]; omega) (by rw [IntWalk.i64_in _ (by omega)]; omega)
      (by unfold finF; rw [cls_congr em fm, show decide (f < 4) = true by simp [h4], Bool.true_and, decide_eq_decide]; omega) (by rw [Bool.eq_iff_iff, beq_iff_eq, decide_eq_true_eq]; omega) (by rw [Bool.eq_iff_iff, beq_iff_eq, decide_eq_true_eq])
      (by unfold nanF; rw [cls_congr i2 i3, decide_eq_decide]; omega) (by rw [Bool.eq_iff_iff, beq_iff_eq, beq_iff_eq]; omega) w ft
  · rw [show decide (f < 4) = false by simp [h4]] at hK
    have h1 := D.of f b f0 f1
    rw [cls_no h4, neg_no h4] at h1
    have h2 := D.fin f b f0 f1
    rw [show finF f (b % full) = false by unfold finF; simp [h4]] at h2
    exact one8_no f _ _ _ _ (Lib.hid hK) (Lib.hid h1) (Lib.hid h2) G w ft
theorem one8_law (C : FormOK) (D : ClassOK) (f bh bl qh ql : Int) (uf : 0 ≤ f ∧ f ≤ 255) (ubh : U64 bh) (ubl : U64 bl) (uqh : U64 qh) (uql : U64 ql) (w : World) (ft : FTab w) : Calls Tryd.prog 5 #[.int .u8 f, .agg #[.int .u64 bh, .int .u64 bl], .agg #[.int .u64 qh, .int .u64 ql]] w fun e w' => e = .returned (.bool true) ∧ Below w.heap.size w w' := by
  have h := one8_law_n C D f (val bh bl) (val qh ql) uf.1 uf.2 w ft
  rw [(hl_val ubh ubl).1, (hl_val ubh ubl).2, (hl_val uqh uql).1, (hl_val uqh uql).2] at h
  exact h


end Go.Proofs.YtdlmnnnnnjgkiaaDoor
