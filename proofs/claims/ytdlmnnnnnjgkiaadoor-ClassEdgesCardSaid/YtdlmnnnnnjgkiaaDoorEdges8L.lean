/-
  ClassEdges over digits.
-/
import Derived.Test.YtdlmnnnnnjgkiaaDoorEdges8
import Derived.Test.YtdlmnnnnnjgkiaaDoorGoes8L
set_option linter.unusedVariables false
set_option linter.unusedSimpArgs false
set_option maxRecDepth 100000
namespace Go.Proofs.YtdlmnnnnnjgkiaaDoor
open Go.RowKit
attribute [local go_sem ↓] Go.wp_at_zero Go.wp_at_succ

theorem edges8_law_n (C : FormOK) (D : ClassOK) (f b : Int) (f0 : 0 ≤ f) (f1 : f ≤ 255) (w : World) (ft : FTab w) : Calls Tryd.prog 6 #[.int .u8 f, .agg #[.int .u64 (hiOf (b)), .int .u64 (loOf (b))]] w fun e w' => e = .returned (.bool true) ∧ Below w.heap.size w w' := by
  have G := Lib.hid (goes8_any D)
  have hK := C.known f f0 f1
  by_cases h4 : f < 4
  · rw [show decide (f < 4) = true by simp [h4]] at hK
    obtain ⟨p0, p1, p2, p3, p4, p5, p6, p7, p8⟩ := f_nums f0 h4
    have B0 := (mod_f b).1
    obtain ⟨x0, x1, x2, x3⟩ := exp_range (B := b % full) f0 h4 B0
    obtain ⟨r0, r1⟩ := frac_range (b := b % full) f0 h4
    have hp := two_pow_pos (fP f - 1)
    have hp2 := two_pow_pos (fP f - 2)
    have n2 : (2 : Int) ^ (fP f - 1) = 2 * 2 ^ (fP f - 2) := by rw [← Int.pow_succ', show fP f - 2 + 1 = fP f - 1 by omega]
    have hM1 := C.make f false (expF f (b % full)) (fracF f (b % full)) f0 f1 (by omega) (by omega)
    rw [Int.emod_eq_of_lt r0 (frac_full f0 h4)] at hM1
    obtain ⟨s, hs⟩ : ∃ s, makeF f false (expF f (b % full)) (fracF f (b % full)) = s := ⟨_, rfl⟩
    obtain ⟨sp1, sp2, sp3⟩ := make_fields f0 h4 false (expF f (b % full)) (fracF f (b % full))
    obtain ⟨sr1, sr2⟩ := make_full f0 false (expF f (b % full)) (fracF f (b % full))
    have sl : s % 2 ^ (fW f - 1) = s := by
      obtain ⟨_, _, q3, q4, _, _⟩ := make_parts f0 h4 false (expF f (b % full)) (fracF f (b % full))
      rw [← hs]; unfold makeF; rw [if_pos h4, if_neg (by decide), Int.add_zero, Int.emod_eq_of_lt q3 q4]
    rw [hs] at hM1 sp1 sp2 sp3 sr1 sr2
    have hM2 := C.make f false 1 0 f0 f1 (by omega) (by omega)
    rw [show (0 : Int) % full = 0 from by decide +kernel, hl_zero.1, hl_zero.2] at hM2
    obtain ⟨n, hn⟩ : ∃ n, makeF f false 1 0 = n := ⟨_, rfl⟩
    obtain ⟨np1, np2, np3⟩ := make_fields f0 h4 false 1 0
    obtain ⟨nr1, nr2⟩ := make_full f0 false 1 0
    have nv : n = 2 ^ (fP f - 1) := by
      rw [← hn]; unfold makeF; rw [if_pos h4, expOf_id f0 h4 (by omega) (by omega), if_neg (by decide), Int.zero_emod]; omega
    rw [hn] at hM2 np1 np2 np3 nr1 nr2
    have hl1 := leftB 1 ((fP f - 2 : Nat) : Int) (by omega) (by omega)
    rw [Int.toNat_natCast, Int.one_mul, show hiOf 1 = 0 from rfl, show loOf 1 = 1 from rfl] at hl1
    have uf2 : (2 : Int) ^ (fP f - 2) % full = 2 ^ (fP f - 2) := Int.emod_eq_of_lt (by omega) (by have := two_pow_le (show fP f - 1 ≤ 128 by omega); rw [full_pow] at this; omega)
    have hM3 := C.make f false (2 * fE f + 1) (2 ^ (fP f - 2)) f0 f1 (by omega) (by omega)
    rw [uf2] at hM3
    obtain ⟨qn, hqn⟩ : ∃ n, makeF f false (2 * fE f + 1) (2 ^ (fP f - 2)) = n := ⟨_, rfl⟩
    obtain ⟨qp1, qp2, qp3⟩ := make_fields f0 h4 false (2 * fE f + 1) (2 ^ (fP f - 2))
    obtain ⟨qr1, qr2⟩ := make_full f0 false (2 * fE f + 1) (2 ^ (fP f - 2))
    have u1 : (2 : Int) ^ (fP f - 2) % 2 ^ (fP f - 1) = 2 ^ (fP f - 2) := Int.emod_eq_of_lt (by omega) (by omega)
    have qv : infF f false + 2 ^ (fP f - 2) = qn := by
      rw [← hqn, inf_val f0 h4]; unfold makeF; rw [if_pos h4, expOf_id f0 h4 (by omega) (by omega), u1]; simp
    rw [hqn] at hM3 qp1 qp2 qp3 qr1 qr2
    have h8 := D.of f s f0 f1
    rw [Int.emod_eq_of_lt sr1 sr2] at h8
    have h9 := D.of f n f0 f1
    rw [Int.emod_eq_of_lt nr1 nr2] at h9
    have h10 := D.of f qn f0 f1
    rw [Int.emod_eq_of_lt qr1 qr2] at h10
    have cn : clsF f n = 2 := by
      unfold clsF; rw [if_pos h4, np1, expOf_id f0 h4 (by omega) (by omega), if_neg (by omega), if_neg (by omega)]
    have cq : clsF f qn = 4 := by
      unfold clsF; rw [if_pos h4, qp1, expOf_id f0 h4 (by omega) (by omega), if_neg (by omega), if_pos rfl, qp2, u1, if_neg (by omega), if_pos (Int.le_refl _)]
    rw [cn] at h9
    rw [cq] at h10
    obtain ⟨k1, k2, k3, k4, k5, k6, k7⟩ := cls_size f0 h4 sr1 s (infF f false) n qn sl rfl nv.symm qv
    have hz := zeroB s
    rw [Int.emod_eq_of_lt sr1 sr2] at hz
    have c1 := cmpB s n
    rw [Int.emod_eq_of_lt sr1 sr2, Int.emod_eq_of_lt nr1 nr2] at c1
    have c2 := cmpB s qn
    rw [Int.emod_eq_of_lt sr1 sr2, Int.emod_eq_of_lt qr1 qr2] at c2
    have lt0 : ∀ x y : Int, decide (cmpI x y < 0) = decide (x < y) := fun x y => by unfold cmpI; rw [decide_eq_decide]; split <;> (try split) <;> omega
    have ge0 : ∀ x y : Int, decide (0 ≤ cmpI x y) = decide (y ≤ x) := fun x y => by unfold cmpI; rw [decide_eq_decide]; split <;> (try split) <;> omega
    have w1 : IntKind.i64.wrap (2 * (fE f : Int)) = 2 * fE f := IntWalk.i64_in _ (by omega)
    have w2 : IntKind.i64.wrap (2 * (fE f : Int) + 1) = 2 * fE f + 1 := IntWalk.i64_in _ (by omega)
    have w2x : wrap64 (2 * (fE f : Int) + 1) = 2 * fE f + 1 := by unfold wrap64; omega
    have w3 : IntKind.i64.wrap ((fP f : Int) - 2) = ((fP f - 2 : Nat) : Int) := by rw [IntWalk.i64_in _ (by omega)]; omega
    have b4 : (clsF f s == 4) = decide (qn ≤ s) := by rw [Bool.eq_iff_iff, beq_iff_eq, decide_eq_true_eq]; exact k6
    by_cases z0 : s = 0
    · rw [show (s == 0) = true by simp [z0]] at hz
      exact edges8_zero f _ _ _ _ _ _ _ _ _ _ _ _ _ _ _ _ _ _ _ _ _ _ _ _ (decide (qn ≤ s)) (Lib.hid hK) (Lib.hid (C.split f b f0 f1)) (Lib.hid hM1) (Lib.hid hM2) (Lib.hid (C.emax f f0 f1)) (Lib.hid (C.prec f f0 f1)) (Lib.hid hl1) (Lib.hid hM3) (Lib.hid h8) (Lib.hid h9) (Lib.hid h10) (Lib.hid hz) (Lib.hid c2) G
        w1 w2 w2x w3 b4 (ge0 _ _) (by rw [k4.1 z0]; rfl) w ft
    · rw [show (s == 0) = false by simp [z0]] at hz
      exact edges8_not f _ _ _ _ _ _ _ _ _ _ _ _ _ _ _ _ _ _ _ _ _ _ _ _ _ (decide (qn ≤ s)) (decide (s < n)) (Lib.hid hK) (Lib.hid (C.split f b f0 f1)) (Lib.hid hM1) (Lib.hid hM2) (Lib.hid (C.emax f f0 f1)) (Lib.hid (C.prec f f0 f1)) (Lib.hid hl1) (Lib.hid hM3) (Lib.hid h8) (Lib.hid h9) (Lib.hid h10) (Lib.hid hz) (Lib.hid c1) (Lib.hid c2) G
        w1 w2 w2x w3 b4 (ge0 _ _) (by rw [Bool.eq_iff_iff, beq_iff_eq, decide_eq_true_eq, k5]; exact ⟨fun h => h.2, fun h => ⟨z0, h⟩⟩) (lt0 _ _) w ft
  · rw [show decide (f < 4) = false by simp [h4]] at hK
    exact edges8_no f _ _ (Lib.hid hK) G w ft
theorem edges8_law (C : FormOK) (D : ClassOK) (f bh bl : Int) (uf : 0 ≤ f ∧ f ≤ 255) (ubh : U64 bh) (ubl : U64 bl) (w : World) (ft : FTab w) : Calls Tryd.prog 6 #[.int .u8 f, .agg #[.int .u64 bh, .int .u64 bl]] w fun e w' => e = .returned (.bool true) ∧ Below w.heap.size w w' := by
  have h := edges8_law_n C D f (val bh bl) uf.1 uf.2 w ft
  rw [(hl_val ubh ubl).1, (hl_val ubh ubl).2] at h
  exact h


end Go.Proofs.YtdlmnnnnnjgkiaaDoor
