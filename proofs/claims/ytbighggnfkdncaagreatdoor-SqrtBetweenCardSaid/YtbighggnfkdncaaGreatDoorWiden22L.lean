import Derived.Test.YtbighggnfkdncaaGreatDoorWiden22
import Derived.Test.YtbighggnfkdncaaGreatDoorGxC
import Derived.Test.YtbighggnfkdncaaGreatDoorSqrt22W
set_option linter.unusedVariables false
set_option linter.unusedSimpArgs false
set_option maxRecDepth 100000
namespace Go.Proofs.YtbighggnfkdncaaGreatDoor
open Go.RowKit
attribute [local go_sem ↓] Go.wp_at_zero Go.wp_at_succ
theorem widen22N (C : FormOK) (P : MulOK) (S : AddOK) (f b : Int) (f0 : 0 ≤ f) (hf : f ≤ 2) (b0 : 0 ≤ b) (b1 : b < full) (cb : clsF f b = 1 ∨ clsF f b = 2) (w : World) (ft : FTab w) : Calls Tryz.prog 17 #[.int .u8 f, .agg #[.int .u64 (hiOf (b)), .int .u64 (loOf (b))]] w fun e w' => e = .returned (.agg #[.int .u64 (hiOf (wdF f b)), .int .u64 (loOf (wdF f b))]) ∧ Below w.heap.size w w' := by
  have f4 : f < 4 := by omega
  have g0 : 0 ≤ f + 1 := by omega
  have hg : f + 1 < 4 := by omega
  have ws : IntKind.u8.wrap (f + 1) = f + 1 := by rw [IntKind.wrap_u8]; exact Int.emod_eq_of_lt (by omega) (by omega)
  obtain ⟨k1, k2, k3, k4⟩ := wide_nums f0 hf
  obtain ⟨p0, p1, p2, p3, p4, p5, p6, p7, p8⟩ := f_nums f0 f4
  have hE := fE_le (f + 1)
  obtain ⟨x0, x1⟩ := frac_wide f0 hf b
  obtain ⟨r0, r1⟩ := frac_range (b := b) f0 f4
  obtain ⟨y0, y1, y2, y3⟩ := exp_range f0 f4 b0
  have h112 := two_pow_le (show fP (f + 1) - 1 ≤ 112 by omega)
  have F : (2 : Int) ^ 112 * 2 < full := by decide +kernel
  have hp112 := two_pow_pos 112
  have x2 : fracF f b * 2 ^ (fP (f + 1) - fP f) < full := by omega
  have SP : ∀ w, FTab w → Calls Tryz.prog 24 #[.int .u8 f, .agg #[.int .u64 (hiOf (b)), .int .u64 (loOf (b))]] w fun e w' => e = .returned (.tuple #[.bool (negF f b), .int .i64 (expF f b), .agg #[.int .u64 (hiOf (fracF f b * 2 ^ 0)), .int .u64 (loOf (fracF f b * 2 ^ 0))]]) ∧ Below w.heap.size w w' := fun w ft => by
    have h := C.split f b f0 (by omega) w ft
    rw [Int.emod_eq_of_lt b0 b1] at h
    rw [show fracF f b * 2 ^ 0 = fracF f b by rw [Int.pow_zero, Int.mul_one]]
    exact h
  have AD : ∀ k : Nat, k < fP (f + 1) - fP f → ∀ w, Calls Tryz.prog 15 #[.agg #[.int .u64 (hiOf (fracF f b * 2 ^ k)), .int .u64 (loOf (fracF f b * 2 ^ k))], .agg #[.int .u64 (hiOf (fracF f b * 2 ^ k)), .int .u64 (loOf (fracF f b * 2 ^ k))]] w fun e w' => e = .returned (.tuple #[.agg #[.int .u64 (hiOf (fracF f b * 2 ^ (k + 1))), .int .u64 (loOf (fracF f b * 2 ^ (k + 1)))], .bool false]) ∧ Below w.heap.size w w' := fun k hk w => by
    have h := addB (fracF f b * 2 ^ k) (fracF f b * 2 ^ k) w
    have e : fracF f b * 2 ^ k + fracF f b * 2 ^ k = fracF f b * 2 ^ (k + 1) := by rw [Int.pow_succ, ← Int.mul_assoc]; omega
    have n0 : 0 ≤ fracF f b * 2 ^ k := Int.mul_nonneg r0 (by have := two_pow_pos k; omega)
    have le : fracF f b * 2 ^ (k + 1) ≤ fracF f b * 2 ^ (fP (f + 1) - fP f) := Int.mul_le_mul_of_nonneg_left (two_pow_le (by omega)) r0
    rw [Int.emod_eq_of_lt n0 (by omega), e, decide_eq_false (by omega)] at h
    exact h
  have P1 := C.prec (f + 1) g0 (by omega)
  have P0 := C.prec f f0 (by omega)
  have wd : IntKind.i64.wrap ((fP (f + 1) : Int) - fP f) = ((fP (f + 1) - fP f : Nat) : Int) := (IntWalk.i64_in _ (by omega)).trans (by omega)
  have wdx : wrap64 ((fP (f + 1) : Int) - fP f) = ((fP (f + 1) - fP f : Nat) : Int) := by unfold wrap64; omega
  have E1 := C.emax (f + 1) g0 (by omega)
  have E0 := C.emax f f0 (by omega)
  have MO := C.make (f + 1) false (fE (f + 1)) 0 g0 (by omega) (by omega) (by omega)
  rw [show (0 : Int) % full = 0 by decide, show hiOf 0 = 0 by decide, show loOf 0 = 0 by decide] at MO
  rcases cb with cb | cb
  · obtain ⟨z1, z2⟩ := (cls_1 f4).1 cb
    obtain ⟨J, hJ⟩ : ∃ J : Nat, (J : Int) = 1099511628031 := ⟨1099511628031, rfl⟩
    obtain ⟨pl, _⟩ := wd_less f0 hf b0 cb J hJ
    obtain ⟨pp, _, _, _, _⟩ := mk_nor g0 hg (y := 1 - fE f + fE (f + 1)) (k := 0) (by omega) (by omega) (by omega) (by have := two_pow_pos (fP (f + 1) - 1); omega) _ rfl
    have MY := C.make (f + 1) false (fE (f + 1)) (fracF f b * 2 ^ (fP (f + 1) - fP f)) g0 (by omega) (by omega) (by omega)
    rw [Int.emod_eq_of_lt x0 x2] at MY
    obtain ⟨q0, q1⟩ := make_full g0 (f := f + 1) false (fE (f + 1)) (fracF f b * 2 ^ (fP (f + 1) - fP f))
    obtain ⟨o0, o1⟩ := make_full g0 (f := f + 1) false (fE (f + 1)) 0
    have SB := S.sub (f + 1) 0 false _ _ g0 (by omega) (by decide) (by decide) q0 q1 o0 o1
    rw [show (!negF (f + 1) (makeF (f + 1) false (fE (f + 1)) 0)) = true by rw [(make_fields g0 hg false (fE (f + 1)) 0).2.2]; rfl, show adB (f + 1) 0 (makeF (f + 1) false (fE (f + 1)) (fracF f b * 2 ^ (fP (f + 1) - fP f))) (makeF (f + 1) false (fE (f + 1)) 0) true = lsF f b from rfl] at SB
    have MP := C.make (f + 1) false (1 - fE f + fE (f + 1)) 0 g0 (by omega) (by omega) (by omega)
    rw [show (0 : Int) % full = 0 by decide, show hiOf 0 = 0 by decide, show loOf 0 = 0 by decide] at MP
    have ML := P.mul (f + 1) 0 false _ _ g0 (by omega) (by decide) (by decide) pl.1 pl.2.1 pp.1 pp.2.1
    rw [show mlB (f + 1) 0 (lsF f b) (makeF (f + 1) false (1 - fE f + fE (f + 1)) 0) = wdF f b by unfold wdF; rw [if_neg (by omega)]] at ML
    exact widen22_sub (fun k => hiOf (fracF f b * 2 ^ k)) (fun k => loOf (fracF f b * 2 ^ k)) (fP (f + 1) - fP f) f (f + 1) (hiOf b) (loOf b) _ _ _ _ _ _ _ _ _ _ (expF f b) (fP f) (fP (f + 1)) (fE f) (fE (f + 1)) 0 0 (1 - fE f) (1 - fE f + fE (f + 1)) _ _ _ (lH SP) (lH E1) (lH MO) (lH MY) (lH SB) (lH E0) (lH MP) (lH ML) ws (lH (by omega)) wd wdx (lH P1) (lH P0) (lH AD) (decide_eq_false (by omega)) (IntWalk.i64_in _ (by omega)) (by unfold wrap64; omega) (IntWalk.i64_in _ (by omega)) (by unfold wrap64; omega) w ft
  · obtain ⟨z1, z2⟩ := (cls_2 f4).1 cb
    have MR := C.make (f + 1) false (expF f b - fE f + fE (f + 1)) (fracF f b * 2 ^ (fP (f + 1) - fP f)) g0 (by omega) (by omega) (by omega)
    rw [Int.emod_eq_of_lt x0 x2, show makeF (f + 1) false (expF f b - fE f + fE (f + 1)) (fracF f b * 2 ^ (fP (f + 1) - fP f)) = wdF f b by unfold wdF; rw [if_pos (by omega)]] at MR
    exact widen22_nor (fun k => hiOf (fracF f b * 2 ^ k)) (fun k => loOf (fracF f b * 2 ^ k)) (fP (f + 1) - fP f) f (f + 1) (hiOf b) (loOf b) _ _ _ _ 0 0 0 0 0 0 (expF f b) (fP f) (fP (f + 1)) (fE f) (fE (f + 1)) (expF f b - fE f) (expF f b - fE f + fE (f + 1)) 0 0 0 0 _ (lH SP) (lH E1) (lH MO) (lH E0) (lH MR) ws (lH (by omega)) wd wdx (lH P1) (lH P0) (lH AD) (decide_eq_true (by omega)) (IntWalk.i64_in _ (by omega)) (by unfold wrap64; omega) (IntWalk.i64_in _ (by omega)) (by unfold wrap64; omega) w ft
theorem square22N (C : FormOK) (P : MulOK) (S : AddOK) (f b : Int) (f0 : 0 ≤ f) (hf : f ≤ 2) (b0 : 0 ≤ b) (b1 : b < full) (cb : clsF f b = 1 ∨ clsF f b = 2) (p : plainF (f + 1) (wdF f b)) (w : World) (ft : FTab w) : Calls Tryz.prog 16 #[.int .u8 f, .agg #[.int .u64 (hiOf (b)), .int .u64 (loOf (b))]] w fun e w' => e = .returned (.agg #[.int .u64 (hiOf (mlB (f + 1) 0 (wdF f b) (wdF f b))), .int .u64 (loOf (mlB (f + 1) 0 (wdF f b) (wdF f b)))]) ∧ Below w.heap.size w w' := by
  have ws : IntKind.u8.wrap (f + 1) = f + 1 := by rw [IntKind.wrap_u8]; exact Int.emod_eq_of_lt (by omega) (by omega)
  have W := widen22N C P S f b f0 hf b0 b1 cb
  have M := P.mul (f + 1) 0 false _ _ (by omega) (by omega) (by decide) (by decide) p.1 p.2.1 p.1 p.2.1
  exact square22 f (f + 1) _ _ _ _ _ _ _ (lH W) (lH M) ws w ft
end Go.Proofs.YtbighggnfkdncaaGreatDoor
