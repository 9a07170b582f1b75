/-
  OverNeighbours.
-/
import Derived.Test.YtfmccbokipljfaaDoorNear14
import Derived.Test.YtfmccbokipljfaaDoorGoes14L
import Derived.Test.YtfmccbokipljfaaDoorGfA
import Derived.Test.YtfmccbokipljfaaDoorGdA
set_option linter.unusedVariables false
set_option linter.unusedSimpArgs false
set_option maxRecDepth 100000
namespace Go.Proofs.YtfmccbokipljfaaDoor
open Go.RowKit
attribute [local go_sem ↓] Go.wp_at_zero Go.wp_at_succ

theorem hl_sub14 (x d : Int) : hiOf (x - d % full) = hiOf (x - d) ∧ loOf (x - d % full) = loOf (x - d) := hl_congr (by unfold full; omega)
theorem sub14 (n m : Int) (w : World) : Calls Tryd.prog 23 #[.agg #[.int .u64 (hiOf n), .int .u64 (loOf n)], .agg #[.int .u64 (hiOf m), .int .u64 (loOf m)]] w fun e w' =>
    e = .returned (.tuple #[.agg #[.int .u64 (hiOf (n - m)), .int .u64 (loOf (n - m))], .bool (decide (n % full < m % full))]) ∧ Below w.heap.size w w' := by
  have h := sub_any (hiOf n) (loOf n) (hiOf m) (loOf m) (hiOf_u _) (loOf_u _) (hiOf_u _) (loOf_u _) w
  rw [val_hiLo_mod, val_hiLo_mod, (hl_sub14 (n % full) m).1, (hl_sub14 (n % full) m).2, (hl_congr (show (n % full - m) % full = (n - m) % full by unfold full; omega)).1, (hl_congr (show (n % full - m) % full = (n - m) % full by unfold full; omega)).2] at h
  exact h
theorem least_val {f : Int} (h0 : 0 ≤ f) (h : f < 4) : makeF f false 0 1 = 1 := by
  obtain ⟨p0, p1, p2, p3, p4, p5, p6, p7, p8⟩ := f_nums h0 h
  have := two_pow_le (show 1 ≤ fP f - 1 by omega)
  unfold makeF; rw [if_pos h, expOf_id h0 h (by omega) (by omega), if_neg (by decide), Int.emod_eq_of_lt (by decide) (by omega)]; omega
theorem normal_val {f : Int} (h0 : 0 ≤ f) (h : f < 4) : makeF f false 1 0 = 2 ^ (fP f - 1) := by
  obtain ⟨p0, p1, p2, p3, p4, p5, p6, p7, p8⟩ := f_nums h0 h
  unfold makeF; rw [if_pos h, expOf_id h0 h (by omega) (by omega), if_neg (by decide), Int.zero_emod]; omega
/-- What is less than the least normal one has no exponent. -/
theorem low_exp {f b : Int} (h0 : 0 ≤ f) (h : f < 4) (b0 : 0 ≤ b) (b1 : b < 2 ^ (fP f - 1)) : expF f b = 0 ∧ fracF f b = b := by
  obtain ⟨p0, p1, p2, p3, p4, p5, p6, p7, p8⟩ := f_nums h0 h
  have := two_pow_le (show fP f - 1 ≤ fW f - 1 by omega)
  unfold expF fracF
  rw [if_pos h, if_pos h, Int.emod_eq_of_lt (b := 2 ^ (fW f - 1)) b0 (by omega), Int.emod_eq_of_lt b0 b1, Int.ediv_eq_zero_of_lt b0 b1]
  exact ⟨rfl, rfl⟩
theorem near14_law_n (C : FormOK) (D : ClassOK) (U : FldOK) (O : OverOK) (f b : Int) (f0 : 0 ≤ f) (f1 : f ≤ 255) (w : World) (ft : FTab w) : Calls Tryd.prog 5 #[.int .u8 f, .agg #[.int .u64 (hiOf (b)), .int .u64 (loOf (b))]] w fun e w' => e = .returned (.bool true) ∧ Below w.heap.size w w' := by
  have G := Lib.hid (goes14_any O)
  have hK := C.known f f0 f1
  have hL := O.least f false f0 f1
  by_cases hf : f < 4
  · rw [show decide (f < 4) = true by simp [hf]] at hK
    obtain ⟨p0, p1, p2, p3, p4, p5, p6, p7, p8⟩ := f_nums f0 hf
    have hN := O.normal f false f0 f1
    have nv := normal_val f0 hf
    have lv := least_val f0 hf
    rw [lv, show hiOf 1 = 0 from rfl, show loOf 1 = 1 from rfl] at hL
    have n4 := two_pow_le (show 2 ≤ fP f - 1 by omega)
    have nf : (2 : Int) ^ (fP f - 1) < full := by
      have := two_pow_le (show fP f - 1 ≤ 112 by omega)
      have : (2 : Int) ^ 112 < full := by decide +kernel
      omega
    obtain ⟨n, hn⟩ : ∃ n, makeF f false 1 0 = n := ⟨_, rfl⟩
    rw [hn] at nv hN
    rw [← nv] at n4 nf
    have hS := sub14 n 1
    rw [show hiOf 1 = 0 from rfl, show loOf 1 = 1 from rfl] at hS
    have lo := low_exp f0 hf (b := n - 1) (by omega) (by omega)
    have hC := D.of f (n - 1) f0 f1
    rw [Int.emod_eq_of_lt (show 0 ≤ n - 1 by omega) (show n - 1 < full by omega), (cls_1 hf).2 ⟨lo.1, by rw [lo.2]; omega⟩] at hC
    have h1 := U.unpackAt f 1 f0 f1 (by decide) (by decide)
    have l1 := low_exp f0 hf (b := 1) (by decide) (by omega)
    have c1 : clsF f 1 = 1 := (cls_1 hf).2 ⟨l1.1, by rw [l1.2]; decide⟩
    obtain ⟨_, _, _, _, ue1, _⟩ := un_sub f0 hf c1
    rw [l1.2, show blen 1 = 1 from by decide +kernel] at ue1
    rw [show hiOf 1 = 0 from rfl, show loOf 1 = 1 from rfl] at h1
    have h2 := U.unpackAt f n f0 f1 (by omega) (by omega)
    obtain ⟨np1, np2, np3⟩ := make_fields f0 hf false 1 0
    rw [hn, expOf_id f0 hf (by omega) (by omega)] at np1
    have c2 : clsF f n = 2 := (cls_2 hf).2 ⟨by rw [np1]; decide, by rw [np1]; omega⟩
    obtain ⟨_, _, ue2, _⟩ := un_nor f0 hf (by omega) c2
    rw [np1] at ue2
    rw [c2] at h2
    have B0 := (mod_f b).1
    obtain ⟨x0, x1, x2, x3⟩ := exp_range (B := b % full) f0 hf B0
    obtain ⟨r0, r1⟩ := frac_range (b := b % full) f0 hf
    have hM := C.make f false (expF f (b % full)) (fracF f (b % full)) f0 f1 (by omega) (by omega)
    rw [Int.emod_eq_of_lt r0 (frac_full f0 hf)] at hM
    obtain ⟨c, hc⟩ : ∃ c, makeF f false (expF f (b % full)) (fracF f (b % full)) = c := ⟨_, rfl⟩
    obtain ⟨sr1, sr2⟩ := make_full f0 false (expF f (b % full)) (fracF f (b % full))
    rw [hc] at hM sr1 sr2
    have hZ := zeroB c
    rw [Int.emod_eq_of_lt sr1 sr2] at hZ
    have e1 : IntKind.i64.wrap (2 - fE f) = 2 - fE f := IntWalk.i64_in _ (by omega)
    have e2 : IntKind.i64.wrap (2 - fE f - fP f) = uE f 1 := by rw [IntWalk.i64_in _ (by omega)]; omega
    have e3 : wrap64 (2 - fE f - fP f) = uE f 1 := by unfold wrap64; omega
    have e4 : IntKind.i64.wrap (1 - fE f) = uE f n := by rw [IntWalk.i64_in _ (by omega)]; omega
    by_cases z : c = 0
    · rw [show (c == 0) = true by simp [z]] at hZ
      exact near14_zero f _ _ _ _ _ _ _ _ _ _ _ _ _ _ _ _ _ _ _ _ _ _ _ _ _ _ (Lib.hid hK) (Lib.hid hL) (Lib.hid hN) (Lib.hid hS) (Lib.hid hC) (Lib.hid h1) (Lib.hid h2) (Lib.hid (C.split f b f0 f1)) (Lib.hid hM) (Lib.hid (C.emax f f0 f1)) (Lib.hid (C.prec f f0 f1)) (Lib.hid hZ) G e1 e2 e3 e4 w ft
    · rw [show (c == 0) = false by simp [z]] at hZ
      have hQ := cmpB c 1
      rw [Int.emod_eq_of_lt sr1 sr2, show (1 : Int) % full = 1 from by decide +kernel, show hiOf 1 = 0 from rfl, show loOf 1 = 1 from rfl] at hQ
      have hj : decide (0 ≤ cmpI c 1) = true := decide_eq_true (by unfold cmpI; rw [if_neg (by omega)]; split <;> decide)
      exact near14_not f _ _ _ _ _ _ _ _ _ _ _ _ _ _ _ _ _ _ _ _ _ _ _ _ _ _ _ (Lib.hid hK) (Lib.hid hL) (Lib.hid hN) (Lib.hid hS) (Lib.hid hC) (Lib.hid h1) (Lib.hid h2) (Lib.hid (C.split f b f0 f1)) (Lib.hid hM) (Lib.hid (C.emax f f0 f1)) (Lib.hid (C.prec f f0 f1)) (Lib.hid hZ) (Lib.hid hQ) G e1 e2 e3 e4 hj w ft
  · rw [show decide (f < 4) = false by simp [hf]] at hK
    have hN := O.normal f true f0 f1
    rw [makeF_zero hf, hl_zero.1, hl_zero.2] at hL hN
    exact near14_no f _ _ (Lib.hid hK) (Lib.hid hL) (Lib.hid hN) G w ft
theorem near14_law (C : FormOK) (D : ClassOK) (U : FldOK) (O : OverOK) (f bh bl : Int) (uf : 0 ≤ f ∧ f ≤ 255) (ub : U64 bh) (ul : U64 bl) (w : World) (ft : FTab w) : Calls Tryd.prog 5 #[.int .u8 f, .agg #[.int .u64 bh, .int .u64 bl]] w fun e w' => e = .returned (.bool true) ∧ Below w.heap.size w w' := by
  have h := near14_law_n C D U O f (val bh bl) uf.1 uf.2 w ft
  rw [(hl_val ub ul).1, (hl_val ub ul).2] at h
  exact h


end Go.Proofs.YtfmccbokipljfaaDoor
