/-
  Products of two numbers of a format: as terms, and exact; what the document asks of package mul; plain arithmetic.
-/
import Derived.Test.YtjnohbpebdnngaaGreatDoorPack16E
import Derived.Test.YtjnohbpebdnngaaGreatDoorGjB
set_option linter.unusedVariables false
set_option linter.unusedSimpArgs false
set_option maxRecDepth 100000
namespace Go.Proofs.YtjnohbpebdnngaaGreatDoor
open Go.RowKit
attribute [local go_sem ↓] Go.wp_at_zero Go.wp_at_succ

/-- A number and a number, by their classes. -/
def numC (c d : Int) : Bool := decide ((c = 1 ∨ c = 2) ∧ (d = 1 ∨ d = 2))
def tmE (c d x y : Int) : Int := if numC c d then IntKind.i64.wrap (IntKind.i64.wrap (x + y) + 1) else 0
def tmS (c d s t : Int) : Int := if numC c d then s * t else 0
/-- A nought and an infinity. -/
def badC (c d : Int) : Bool := decide ((c = 0 ∧ d = 3) ∨ (c = 3 ∧ d = 0))
def mlI (f a b : Int) : Bool := badC (clsF f a) (clsF f b)
def mlN (f a b : Int) : Bool := negF f a != negF f b
def mlE (f a b : Int) : Int := tmE (clsF f a) (clsF f b) (uE f a) (uE f b)
def mlS (f a b : Int) : Int := tmS (clsF f a) (clsF f b) (uS f a) (uS f b)
/-- What the document asks of products: bits, flags. -/
def mlB (f m a b : Int) : Int := if f < 4 ∧ m < 5 then (if pickK f (mlI f a b) [a, b] then pickV f (mlI f a b) [a, b] else if clsF f a = 3 ∨ clsF f b = 3 then infF f (mlN f a b) else pkB f m (mlN f a b) (mlE f a b) (mlS f a b)) else 0
def mlFl (f m : Int) (t : Bool) (a b : Int) : Int := if f < 4 ∧ m < 5 then (if pickK f (mlI f a b) [a, b] then pickF f (mlI f a b) [a, b] else if clsF f a = 3 ∨ clsF f b = 3 then 0 else pkFl f m t (mlN f a b) (mlE f a b) (mlS f a b)) else 0

/-- What the document asks of package mul. -/
structure MulOK : Prop where
  mul : ∀ f m t a b, 0 ≤ f → f ≤ 255 → 0 ≤ m → m ≤ 255 → 0 ≤ a → a < full → 0 ≤ b → b < full → ∀ w, FTab w → Calls Tryz.prog 11 #[.int .u8 f, .agg #[.int .u8 m, .bool t], .agg #[.int .u64 (hiOf (a)), .int .u64 (loOf (a))], .agg #[.int .u64 (hiOf (b)), .int .u64 (loOf (b))]] w fun e w' => e = .returned (.agg #[.int .u64 (hiOf (mlB f m a b)), .int .u64 (loOf (mlB f m a b)), .int .u8 (mlFl f m t a b)]) ∧ Below w.heap.size w w'
  term : ∀ g c x s h d y u, 0 ≤ s → s < full → 0 ≤ u → u < full → ∀ w, Calls Tryz.prog 14 #[.agg #[.bool g, .int .u8 c, .int .i64 x, .int .u64 (hiOf (s)), .int .u64 (loOf (s))], .agg #[.bool h, .int .u8 d, .int .i64 y, .int .u64 (hiOf (u)), .int .u64 (loOf (u))]] w fun e w' => e = .returned (.tuple #[.int .i64 (tmE c d x y), .agg #[.int .u64 (wd0 (tmS c d s u)), .int .u64 (wd1 (tmS c d s u)), .int .u64 (wd2 (tmS c d s u)), .int .u64 (wd3 (tmS c d s u))]]) ∧ Below w.heap.size w w'
  bad : ∀ g c x k l h d y p q, ∀ w, Calls Tryz.prog 16 #[.agg #[.bool g, .int .u8 c, .int .i64 x, .int .u64 k, .int .u64 l], .agg #[.bool h, .int .u8 d, .int .i64 y, .int .u64 p, .int .u64 q]] w fun e w' => e = .returned (.bool (badC c d)) ∧ Below w.heap.size w w'

theorem badC_turn (c d : Int) : badC d c = badC c d := by unfold badC; rw [decide_eq_decide]; omega
theorem numC_turn (c d : Int) : numC d c = numC c d := by unfold numC; rw [decide_eq_decide]; omega
theorem mlN_turn (f a b : Int) : mlN f b a = mlN f a b := by unfold mlN; cases negF f a <;> cases negF f b <;> rfl
theorem mlE_turn (f a b : Int) : mlE f b a = mlE f a b := by unfold mlE tmE; rw [numC_turn, Int.add_comm (uE f b)]
theorem mlS_turn (f a b : Int) : mlS f b a = mlS f a b := by unfold mlS tmS; rw [numC_turn, Int.mul_comm (uS f b)]
/-- As the terms are, a number without digits among them. -/
theorem mlS_eq (f a b : Int) : mlS f a b = uS f a * uS f b := by
  unfold mlS tmS numC
  by_cases h : (clsF f a = 1 ∨ clsF f a = 2) ∧ (clsF f b = 1 ∨ clsF f b = 2)
  · rw [decide_eq_true h, if_pos rfl]
  · rw [decide_eq_false h, if_neg (by decide)]
    by_cases k : clsF f a = 1 ∨ clsF f a = 2
    · rw [(u_none (fun z => h ⟨k, z⟩)).2, Int.mul_zero]
    · rw [(u_none k).2, Int.zero_mul]
theorem ml_range {f a b : Int} (f0 : 0 ≤ f) (a0 : 0 ≤ a) (b0 : 0 ≤ b) : -9223372036854775808 ≤ mlE f a b ∧ mlE f a b ≤ 9223372036854775807 ∧ 0 ≤ mlS f a b ∧ mlS f a b < wfull := by
  have ea := uE_range (f := f) f0 a0; have eb := uE_range (f := f) f0 b0
  obtain ⟨s0, s1⟩ := uS_range (f := f) f0 a0; obtain ⟨t0, t1⟩ := uS_range (f := f) f0 b0
  have w2 : wfull = full * full := by decide +kernel
  rw [mlS_eq, w2]
  have h1 : uS f a * uS f b ≤ full * uS f b := Int.mul_le_mul_of_nonneg_right (by omega) t0
  have h2 : full * uS f b < full * full := Int.mul_lt_mul_of_pos_left t1 (by decide)
  refine ⟨?_, ?_, Int.mul_nonneg s0 t0, by omega⟩
  all_goals
    unfold mlE tmE
    split
    · rw [IntKind.wrap_i64, IntKind.wrap_i64]; omega
    · omega
theorem mlE_num {f a b : Int} (f0 : 0 ≤ f) (a0 : 0 ≤ a) (b0 : 0 ≤ b) (ca : clsF f a = 1 ∨ clsF f a = 2) (cb : clsF f b = 1 ∨ clsF f b = 2) : mlE f a b = uE f a + uE f b + 1 := by
  have ea := uE_range (f := f) f0 a0; have eb := uE_range (f := f) f0 b0
  unfold mlE tmE numC
  rw [decide_eq_true ⟨ca, cb⟩, if_pos rfl, IntKind.wrap_i64, IntKind.wrap_i64]; omega
/-- What is picked ahead of all. -/
theorem ml_fin {f m a b : Int} (f0 : 0 ≤ f) (hf : f < 4) (hm : m < 5) (a0 : 0 ≤ a) (a1 : a < full) (b0 : 0 ≤ b) (b1 : b < full) (ca : clsF f a ≤ 2) (cb : clsF f b ≤ 2) :
    mlB f m a b = pkB f m (mlN f a b) (mlE f a b) (mlS f a b) ∧ ∀ t, mlFl f m t a b = pkFl f m t (mlN f a b) (mlE f a b) (mlS f a b) := by
  have na : nanF f a = false := by unfold nanF; simp; omega
  have nb : nanF f b = false := by unfold nanF; simp; omega
  have ii : mlI f a b = false := by unfold mlI badC; rw [decide_eq_false]; omega
  have an : anyN f [a, b] = false := by unfold anyN; simp [Int.emod_eq_of_lt a0 a1, Int.emod_eq_of_lt b0 b1, na, nb]
  obtain ⟨k1, k2, k3⟩ := pick_none (f := f) [a, b] an
  unfold mlB mlFl
  rw [if_pos ⟨hf, hm⟩, ii, k3, if_neg (by decide), if_neg (by omega)]
  refine ⟨rfl, fun t => ?_⟩
  rw [if_pos ⟨hf, hm⟩, if_neg (by decide), if_neg (by omega)]
theorem uM_zero {f b : Int} (f0 : 0 ≤ f) (hf : f < 4) (c : clsF f b = 0) : uM f b = 0 := by
  obtain ⟨x, y⟩ := (cls_0 hf).1 c
  unfold uM; rw [if_pos x]; exact y
theorem fP_19 {f : Int} (f0 : 0 ≤ f) : fP f ≤ 113 := by
  by_cases h : f < 4
  · obtain ⟨p0, p1, p2, p3, p4, p5, p6, p7, p8⟩ := f_nums f0 h; exact p8
  · rw [fP_no h]; omega
theorem um_19 {f b : Int} (f0 : 0 ≤ f) (hf : f < 4) (b0 : 0 ≤ b) (c : clsF f b ≤ 2) : 0 ≤ uM f b ∧ uM f b < 2 ^ fP f ∧ 2 - fE f - fP f ≤ uX f b ∧ uX f b ≤ 16383 := by
  obtain ⟨p0, p1, p2, p3, p4, p5, p6, p7, p8⟩ := f_nums f0 hf
  obtain ⟨r0, r1⟩ := frac_range (b := b) f0 hf
  obtain ⟨x0, x1, x2, x3⟩ := exp_range f0 hf b0
  have cr := cls_range f b
  have tp := pow_top (show 1 ≤ fP f by omega)
  have m0 : 0 ≤ uM f b ∧ uM f b < 2 ^ fP f := by unfold uM; split <;> omega
  have xr : 2 - fE f - fP f ≤ uX f b ∧ uX f b ≤ 16383 := by
    have ne : expF f b ≠ 2 * fE f + 1 := by
      intro h; unfold clsF at c; rw [if_pos hf, if_neg (by omega), if_pos h] at c; split at c
      · omega
      · split at c <;> omega
    unfold uX; split <;> omega
  exact ⟨m0.1, m0.2, xr.1, xr.2⟩
/-- As terms, and exact, as the document has it: rounded the same. -/
theorem ml_exact {f m a b : Int} {ng : Bool} (f0 : 0 ≤ f) (hf : f < 4) (a0 : 0 ≤ a) (b0 : 0 ≤ b) (ca : clsF f a ≤ 2) (cb : clsF f b ≤ 2) :
    pkB f m ng (mlE f a b) (mlS f a b) = dcB f m ng (uM f a * uM f b) (uX f a + uX f b) false ∧ ∀ t, pkFl f m t ng (mlE f a b) (mlS f a b) = dcFl f m t ng (uM f a * uM f b) (uX f a + uX f b) false := by
  have ra := cls_range f a; have rb := cls_range f b
  have rg := ml_range (f := f) f0 a0 b0
  obtain ⟨d1, d2⟩ := dc_pk (f := f) (m := m) (exp := mlE f a b) (x := mlS f a b) (ng := ng) f0 rg.2.2.1 rg.2.2.2
  by_cases k : (clsF f a = 1 ∨ clsF f a = 2) ∧ (clsF f b = 1 ∨ clsF f b = 2)
  · have ea := uE_range (f := f) f0 a0; have eb := uE_range (f := f) f0 b0
    have p8 := fP_19 f0
    obtain ⟨m0, m1, x0, x1⟩ := um_19 f0 hf a0 ca
    obtain ⟨n0, n1, y0, y1⟩ := um_19 f0 hf b0 cb
    have la := blen_le m0 m1
    have lb := blen_le n0 n1
    have xa : uE f a = uX f a + blen (uM f a) - 1 := by unfold uE; rw [if_pos k.1]
    have xb : uE f b = uX f b + blen (uM f b) - 1 := by unfold uE; rw [if_pos k.2]
    have sa : uS f a = uM f a * 2 ^ (128 - blen (uM f a)) := by unfold uS; rw [if_pos k.1]
    have sb : uS f b = uM f b * 2 ^ (128 - blen (uM f b)) := by unfold uS; rw [if_pos k.2]
    obtain ⟨c1, c2⟩ := dc_scale (f := f) (m := m) (q := uM f a * uM f b) (E := uX f a + uX f b) (ng := ng) ((128 - blen (uM f a)) + (128 - blen (uM f b))) (Int.mul_nonneg m0 n0)
    have me := mlE_num f0 a0 b0 k.1 k.2
    have ms : mlS f a b = uM f a * uM f b * 2 ^ ((128 - blen (uM f a)) + (128 - blen (uM f b))) := by
      rw [mlS_eq, sa, sb, Int.pow_add]
      simp only [Int.mul_assoc, Int.mul_left_comm]
    rw [clip_id (by omega) (by omega)] at d1 d2
    rw [show mlE f a b - 255 = uX f a + uX f b - (((128 - blen (uM f a)) + (128 - blen (uM f b)) : Nat) : Int) by omega, ms] at d1 d2
    rw [ms]
    exact ⟨d1.symm.trans c1, fun t => (d2 t).symm.trans (c2 t)⟩
  · have z : mlS f a b = 0 := by unfold mlS tmS numC; rw [decide_eq_false k, if_neg (by decide)]
    have z2 : uM f a * uM f b = 0 := by
      by_cases h : clsF f a = 0
      · rw [uM_zero f0 hf h, Int.zero_mul]
      · rw [uM_zero f0 hf (b := b) (by omega), Int.mul_zero]
    rw [z] at d1 d2 ⊢
    rw [z2]
    rw [dc_zero.1] at d1 ⊢
    exact ⟨d1.symm, fun t => by rw [← d2 t, dc_zero.2, dc_zero.2]⟩


end Go.Proofs.YtjnohbpebdnngaaGreatDoor
