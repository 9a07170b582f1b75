import Derived.Laws.EntriesVeiled
import Derived.Test.YtjdjonekoodalaaGreatDoorGxB
import Derived.Test.YtjdjonekoodalaaGreatDoorAdd18N
set_option linter.unusedVariables false
set_option linter.unusedSimpArgs false
set_option maxRecDepth 100000
namespace Go.Proofs.YtjdjonekoodalaaGreatDoor
open Go.RowKit
attribute [local go_sem ↓] Go.wp_at_zero Go.wp_at_succ
def rmC (A B : Int) : Bool := decide (B < 2 * (A % B) ∨ (2 * (A % B) = B ∧ A / B % 2 = 1))
def rmR (A B : Int) : Int := if rmC A B then B - A % B else A % B
def rmI (f a b : Int) : Bool := decide (clsF f a ≤ 3 ∧ clsF f b ≤ 3 ∧ (clsF f a = 3 ∨ clsF f b = 0))
def rmE (f a b : Int) : Int := if uX f a < uX f b then uX f a else uX f b
def rmM (f a b : Int) : Int := uM f a * 2 ^ (uX f a - rmE f a b).toNat
def rmD (f a b : Int) : Int := uM f b * 2 ^ (uX f b - rmE f a b).toNat
def rmX (f a b : Int) : Int := rmR (rmM f a b) (rmD f a b)
def rmN (f a b : Int) : Bool := negF f a != rmC (rmM f a b) (rmD f a b)
def rmB (f a b : Int) : Int := if f < 4 then (if pickK f (rmI f a b) [a, b] then pickV f (rmI f a b) [a, b] else if clsF f b = 3 then cutF f a else dcB f 0 (rmN f a b) (rmX f a b) (rmE f a b) false) else 0
def rmFl (f a b : Int) : Int := if f < 4 ∧ pickK f (rmI f a b) [a, b] = true then pickF f (rmI f a b) [a, b] else 0
structure RemOK : Prop where
  rem : ∀ f a b, 0 ≤ f → f ≤ 255 → 0 ≤ a → a < full → 0 ≤ b → b < full → ∀ w, FTab w → Calls Tryz.prog 12 #[.int .u8 f, .agg #[.int .u64 (hiOf (a)), .int .u64 (loOf (a))], .agg #[.int .u64 (hiOf (b)), .int .u64 (loOf (b))]] w fun e w' => e = .returned (.agg #[.int .u64 (hiOf (rmB f a b)), .int .u64 (loOf (rmB f a b)), .int .u8 (rmFl f a b)]) ∧ Below w.heap.size w w'
theorem rm_range {A B : Int} (A0 : 0 ≤ A) (B0 : 0 < B) : 0 ≤ rmR A B ∧ 2 * rmR A B ≤ B ∧ rmR A B ≤ A ∧ (rmR A B = 0 → rmC A B = false) ∧ (rmR A B = 0 ↔ A % B = 0) := by
  have r0 := Int.emod_nonneg A (show B ≠ 0 by omega)
  have r1 := Int.emod_lt_of_pos A B0
  have r2 : A % B ≤ A := by
    have dm := Int.emod_add_mul_ediv A B
    have q0 := Int.mul_nonneg (show 0 ≤ B by omega) (Int.ediv_nonneg A0 (show 0 ≤ B by omega))
    omega
  unfold rmR
  cases c : rmC A B with
  | true =>
    have c' := of_decide_eq_true (show decide (B < 2 * (A % B) ∨ (2 * (A % B) = B ∧ A / B % 2 = 1)) = true from c)
    rw [if_pos rfl]
    generalize A % B = r at *
    generalize A / B % 2 = z at *
    refine ⟨by omega, by omega, by omega, fun h => by omega, by omega⟩
  | false =>
    have c' := of_decide_eq_false (show decide (B < 2 * (A % B) ∨ (2 * (A % B) = B ∧ A / B % 2 = 1)) = false from c)
    rw [if_neg (by decide)]
    generalize A % B = r at *
    generalize A / B % 2 = z at *
    refine ⟨by omega, by omega, by omega, fun _ => rfl, by omega⟩
theorem rm_scale {A B c : Int} (c0 : 0 < c) : rmC (A * c) (B * c) = rmC A B ∧ rmR (A * c) (B * c) = rmR A B * c := by
  have e1 : A * c % (B * c) = A % B * c := by rw [Int.mul_comm A, Int.mul_comm B, Int.mul_emod_mul_of_pos A B c0, Int.mul_comm]
  have e2 : A * c / (B * c) = A / B := Int.mul_ediv_mul_of_pos_left A B c0
  have C : rmC (A * c) (B * c) = rmC A B := by
    unfold rmC
    rw [e1, e2, decide_eq_decide, ← Int.mul_assoc]
    constructor
    · rintro (h | ⟨h, k⟩)
      · exact .inl (Int.lt_of_mul_lt_mul_right h (by omega))
      · exact .inr ⟨Int.eq_of_mul_eq_mul_right (by omega) h, k⟩
    · rintro (h | ⟨h, k⟩)
      · exact .inl (Int.mul_lt_mul_of_pos_right h c0)
      · exact .inr ⟨by rw [h], k⟩
  refine ⟨C, ?_⟩
  unfold rmR
  rw [C, e1]
  split
  · rw [Int.sub_mul]
  · rfl
theorem rm_small {A B : Int} (A0 : 0 ≤ A) (h : 2 * A ≤ B) (B0 : 0 < B) : rmR A B = A ∧ rmC A B = false := by
  have e : A % B = A := Int.emod_eq_of_lt A0 (by omega)
  have q : A / B = 0 := Int.ediv_eq_zero_of_lt A0 (by omega)
  have c : rmC A B = false := by unfold rmC; rw [e, q]; exact decide_eq_false (by omega)
  refine ⟨?_, c⟩
  unfold rmR
  rw [c, if_neg (by decide), e]
theorem rm_step {A B : Int} (B0 : 0 < B) : rmR (A + B) B = rmR A B ∧ (2 * rmR A B = B ∨ rmC (A + B) B = rmC A B) ∧ (2 * rmR A B = B → rmC (A + B) B = !rmC A B) := by
  have e : (A + B) % B = A % B := Int.add_emod_right A B
  have q : (A + B) / B = A / B + 1 := by
    have := Int.add_mul_ediv_right A 1 (show B ≠ 0 by omega)
    rw [Int.one_mul] at this; exact this
  have r0 := Int.emod_nonneg A (show B ≠ 0 by omega)
  have r1 := Int.emod_lt_of_pos A B0
  have ed : rmC (A + B) B = decide (B < 2 * (A % B) ∨ (2 * (A % B) = B ∧ (A / B + 1) % 2 = 1)) := by unfold rmC; rw [e, q]
  have ee : rmC A B = decide (B < 2 * (A % B) ∨ (2 * (A % B) = B ∧ A / B % 2 = 1)) := rfl
  by_cases h : 2 * (A % B) = B
  · have c1 : rmR A B = A % B := by unfold rmR; split <;> omega
    have c2 : rmR (A + B) B = A % B := by unfold rmR; rw [e]; split <;> omega
    refine ⟨by omega, .inl (by omega), fun _ => ?_⟩
    rw [ed, ee]
    rcases (show A / B % 2 = 0 ∨ A / B % 2 = 1 by omega) with k | k
    · rw [decide_eq_true (by omega), decide_eq_false (by omega)]; rfl
    · rw [decide_eq_false (by omega), decide_eq_true (by omega)]; rfl
  · have c : rmC (A + B) B = rmC A B := by rw [ed, ee, decide_eq_decide]; omega
    have c1 : rmR (A + B) B = rmR A B := by unfold rmR; rw [c, e]
    have ne : 2 * rmR A B ≠ B := by unfold rmR; split <;> omega
    exact ⟨c1, .inr c, fun k => absurd k ne⟩
theorem rm_val {f a b : Int} (f0 : 0 ≤ f) (hf : f < 4) (a0 : 0 ≤ a) (b0 : 0 ≤ b) (ca : clsF f a ≤ 2) (cb : clsF f b ≤ 2) : ∃ c : Nat, (c : Int) = rmE f a b + 1099511628031 ∧ vF f a = rmM f a b * 2 ^ c ∧ vF f b = rmD f a b * 2 ^ c ∧ ulpF f ≤ c := by
  obtain ⟨va, ma0, ma1, xa0, xa1⟩ := vF_val f0 hf a0 ca
  obtain ⟨vb, mb0, mb1, xb0, xb1⟩ := vF_val f0 hf b0 cb
  obtain ⟨p0, p1, p2, p3, p4, p5, p6, p7, p8⟩ := f_nums f0 hf
  have u := ulpF_eq f0 hf
  have hE : (rmE f a b = uX f a ∧ uX f a ≤ uX f b) ∨ (rmE f a b = uX f b ∧ uX f b ≤ uX f a) := by unfold rmE; split <;> omega
  refine ⟨(rmE f a b + 1099511628031).toNat, by omega, ?_, ?_, by omega⟩
  · rw [va]; unfold rmM; rw [Int.mul_assoc, ← Int.pow_add]; congr 2; omega
  · rw [vb]; unfold rmD; rw [Int.mul_assoc, ← Int.pow_add]; congr 2; omega
theorem rm_size {f a b : Int} (f0 : 0 ≤ f) (hf : f < 4) (a0 : 0 ≤ a) (b0 : 0 ≤ b) (ca : clsF f a ≤ 2) (cb : clsF f b ≤ 2) : rmC (vF f a) (vF f b) = rmC (rmM f a b) (rmD f a b) ∧ ∀ m ng, 0 < vF f b → dcB f m ng (rmX f a b) (rmE f a b) false = dcB f m ng (rmR (vF f a) (vF f b)) (-1099511628031) false ∧ ∀ t, dcFl f m t ng (rmX f a b) (rmE f a b) false = dcFl f m t ng (rmR (vF f a) (vF f b)) (-1099511628031) false := by
  obtain ⟨c, hc, ea, eb, _⟩ := rm_val f0 hf a0 b0 ca cb
  obtain ⟨s1, s2⟩ := rm_scale (A := rmM f a b) (B := rmD f a b) (two_pow_pos c)
  have ma := (um_19 f0 hf a0 ca).1
  rw [ea, eb, s1, s2]
  refine ⟨rfl, fun m ng vb => ?_⟩
  have B0 : 0 < rmD f a b := by
    apply Classical.byContradiction; intro k
    have := Int.mul_nonpos_of_nonpos_of_nonneg (show rmD f a b ≤ 0 by omega) (show (0 : Int) ≤ 2 ^ c by have := two_pow_pos c; omega)
    omega
  have A0 : 0 ≤ rmM f a b := Int.mul_nonneg ma (by have := two_pow_pos (uX f a - rmE f a b).toNat; omega)
  have r := rm_range A0 B0
  have s := dc_scale (f := f) (m := m) (q := rmR (rmM f a b) (rmD f a b)) (E := rmE f a b) (ng := ng) c r.1
  rw [show rmE f a b - (c : Int) = -1099511628031 by omega] at s
  exact ⟨s.1.symm, fun t => (s.2 t).symm⟩
theorem dc_exactN {f m q : Int} {t ng : Bool} (f0 : 0 ≤ f) (hf : f < 4) (hm : m < 5) (q0 : 0 < q) (hl : fP f + 1 ≤ blen q) (fl : dcFl f m t ng q (-1099511628031) false = 0) : ∀ B, dcB f m ng q (-1099511628031) false = B → 0 ≤ B ∧ B < full ∧ clsF f B ≤ 2 ∧ negF f B = ng ∧ vF f B = q ∧ cutF f B = B ∧ clsF f B ≠ 0 := by
  intro B hB
  obtain ⟨e1, e2⟩ := dc_exact4 f0 hf hm q0 hl fl
  rw [e1] at hB
  obtain ⟨l, u, hb, l0, l1, u1, lu, n0, n1, nl, nz⟩ := dc_zeroM f0 hf q0 hl (.inl e2)
  rw [hb] at hB
  obtain ⟨B0, B1, Bn, Bv, Bc⟩ := pt_val (ng := ng) f0 hf l0 l1 n0 (by omega) nl B hB
  have c := Bc n1
  have v := Bv c
  have dm := Int.emod_add_mul_ediv q (2 ^ u)
  rw [nz e2, Int.mul_comm (2 ^ u)] at dm
  rw [show (l - ((fP f - 1 : Nat) : Int) + 1099511628031).toNat = u by omega, show q / 2 ^ u * 2 ^ u = q by omega] at v
  refine ⟨B0, B1, c, Bn, v, ?_, fun h => ?_⟩
  · have s := (dc_same (m := 4) f0 hf (by decide) B0 c).1
    rw [Bn, v, hb, hB] at s
    exact s.symm
  · have := (vF_zero f0 hf B0 c).2 h
    omega
theorem rm_fits {f m a b : Int} {ng : Bool} (f0 : 0 ≤ f) (hf : f < 4) (hm : m < 5) (a0 : 0 ≤ a) (b0 : 0 ≤ b) (ca : clsF f a ≤ 2) (cb : clsF f b = 1 ∨ clsF f b = 2) : ∀ B, dcB f m ng (rmX f a b) (rmE f a b) false = B →
    0 ≤ B ∧ B < full ∧ clsF f B ≤ 2 ∧ negF f B = ng ∧ vF f B = rmR (vF f a) (vF f b) ∧ cutF f B = B ∧ ∀ t, dcFl f m t ng (rmX f a b) (rmE f a b) false = 0 := by
  intro B hB
  have vb := (vF_dcE f0 hf b0 cb).1
  obtain ⟨_, S⟩ := rm_size f0 hf a0 b0 ca (show clsF f b ≤ 2 by omega)
  obtain ⟨S1, S2⟩ := S m ng vb
  rw [S1] at hB
  simp only [S2]
  obtain ⟨c, hc, ea, eb, uc⟩ := rm_val f0 hf a0 b0 ca (show clsF f b ≤ 2 by omega)
  obtain ⟨ma0, ma1, xa0, xa1⟩ := um_19 f0 hf a0 ca
  obtain ⟨mb0, mb1, xb0, xb1⟩ := um_19 f0 hf b0 (show clsF f b ≤ 2 by omega)
  obtain ⟨p0, p1, p2, p3, p4, p5, p6, p7, p8⟩ := f_nums f0 hf
  have hp := two_pow_pos c
  have D0 : 0 < rmD f a b := by
    apply Classical.byContradiction; intro k
    have := Int.mul_nonpos_of_nonpos_of_nonneg (show rmD f a b ≤ 0 by omega) (show (0 : Int) ≤ 2 ^ c by omega)
    omega
  have M0 : 0 ≤ rmM f a b := Int.mul_nonneg ma0 (by have := two_pow_pos (uX f a - rmE f a b).toNat; omega)
  obtain ⟨r0, r1, r2, _⟩ := rm_range M0 D0
  obtain ⟨_, s2⟩ := rm_scale (A := rmM f a b) (B := rmD f a b) hp
  rw [ea, eb, s2] at hB ⊢
  have lt : rmR (rmM f a b) (rmD f a b) < 2 ^ fP f := by
    by_cases h : uX f a < uX f b
    · have e : rmM f a b = uM f a := by unfold rmM rmE; rw [if_pos h, Int.sub_self]; simp
      omega
    · have e : rmD f a b = uM f b := by unfold rmD rmE; rw [if_neg h, Int.sub_self]; simp
      omega
  generalize rmR (rmM f a b) (rmD f a b) = r at *
  by_cases z : r = 0
  · rw [z, Int.zero_mul] at hB ⊢
    rw [dc_zero.1, if_pos ⟨hf, hm⟩] at hB
    obtain ⟨g0, g1⟩ := make_full f0 (f := f) ng 0 0
    obtain ⟨k, n⟩ := nought_cls f0 hf ng
    obtain ⟨_, _, _, _, q5, q6⟩ := make_parts f0 hf ng 0 0
    rw [hB] at g0 g1 k n q5 q6
    exact ⟨g0, g1, by omega, n, (vF_zero f0 hf g0 (by omega)).2 k, Int.emod_eq_of_lt q5 q6, fun t => dc_zero.2 t⟩
  · have bl := blen_le (show 0 ≤ r by omega) lt
    have bp := blen_pos (show 0 < r by omega)
    have bq := blen_shl (show 0 < r by omega) c
    have cE : (c : Int) ≤ uX f b + 1099511628031 := by
      unfold rmE at hc; split at hc <;> omega
    have eb' : uX f b ≤ fE f - (fP f - 1 : Nat) := by
      obtain ⟨y0, y1, y2, y3⟩ := exp_range f0 hf b0
      have ne : expF f b ≠ 2 * fE f + 1 := fun k => by
        rcases cb with h | h
        · have := ((cls_1 hf).1 h).1; omega
        · exact ((cls_2 hf).1 h).2 k
      unfold uX; split <;> omega
    obtain ⟨g1, _⟩ := dc_fits (m := m) (ng := ng) (M := r) f0 hf hm rfl (by omega) lt uc (by unfold dcE; omega)
    have u := ulpF_eq f0 hf
    obtain ⟨b1, b2, b3, b4, b5, b6, _⟩ := dc_exactN (t := false) f0 hf hm (Int.mul_pos (by omega) hp) (by omega) (g1 false) B hB
    exact ⟨b1, b2, b3, b4, b5, b6, g1⟩
end Go.Proofs.YtjdjonekoodalaaGreatDoor
namespace Go.Proofs.YtjdjonekoodalaaGreatDoor
open Go.RowKit
theorem rm_some {f a b : Int} (hf : f < 4) (a0 : 0 ≤ a) (a1 : a < full) (b0 : 0 ≤ b) (b1 : b < full) (ca : clsF f a ≤ 3) (cb : clsF f b ≤ 3) :
    rmB f a b = (if clsF f a = 3 ∨ clsF f b = 0 then defF f else if clsF f b = 3 then cutF f a else dcB f 0 (rmN f a b) (rmX f a b) (rmE f a b) false) ∧ rmFl f a b = (if clsF f a = 3 ∨ clsF f b = 0 then 1 else 0) := by
  obtain ⟨an, fv⟩ := any_two a0 a1 b0 b1 (num_nan ca) (num_nan cb)
  unfold rmB rmFl
  rw [if_pos hf]
  by_cases i : clsF f a = 3 ∨ clsF f b = 0
  · have e : rmI f a b = true := by unfold rmI; exact decide_eq_true ⟨ca, cb, i⟩
    obtain ⟨k1, k2, k3⟩ := pick_inv hf [a, b]
    rw [e, k1, k2, k3, if_pos rfl, if_pos i, if_pos i, if_pos (show f < 4 ∧ true = true from ⟨hf, rfl⟩), fv]
    exact ⟨rfl, rfl⟩
  · have e : rmI f a b = false := by unfold rmI; exact decide_eq_false (fun h => i h.2.2)
    obtain ⟨k1, k2, k3⟩ := pick_none (f := f) [a, b] an
    rw [e, k3, if_neg (show ¬ (false = true) by decide), if_neg (show ¬ (f < 4 ∧ false = true) from fun h => by cases h.2), if_neg i, if_neg i]
    exact ⟨rfl, rfl⟩
theorem rm_fin {f a b : Int} (f0 : 0 ≤ f) (hf : f < 4) (a0 : 0 ≤ a) (a1 : a < full) (b0 : 0 ≤ b) (b1 : b < full) (ca : clsF f a ≤ 2) (cb : clsF f b = 1 ∨ clsF f b = 2) : ∀ B, rmB f a b = B →
    0 ≤ B ∧ B < full ∧ clsF f B ≤ 2 ∧ negF f B = (negF f a != rmC (vF f a) (vF f b)) ∧ vF f B = rmR (vF f a) (vF f b) ∧ cutF f B = B ∧ rmFl f a b = 0 := by
  intro B hB
  obtain ⟨e1, e2⟩ := rm_some hf a0 a1 b0 b1 (by omega) (by omega)
  rw [e1, if_neg (by omega), if_neg (by omega)] at hB
  rw [if_neg (by omega)] at e2
  obtain ⟨g1, g2, g3, g4, g5, g6, _⟩ := rm_fits (m := 0) f0 hf (by decide) a0 b0 ca cb B hB
  have c := (rm_size f0 hf a0 b0 ca (show clsF f b ≤ 2 by omega)).1
  refine ⟨g1, g2, g3, ?_, g5, g6, e2⟩
  rw [g4, c]; rfl
theorem nm_same23 {f a b : Int} (f0 : 0 ≤ f) (hf : f < 4) (a0 : 0 ≤ a) (b0 : 0 ≤ b) (ca : clsF f a ≤ 2) (cb : clsF f b ≤ 2) (n : negF f a = negF f b) (v : vF f a = vF f b) : cutF f a = cutF f b := by
  have e1 := (dc_same (m := 4) f0 hf (by decide) a0 ca).1
  have e2 := (dc_same (m := 4) f0 hf (by decide) b0 cb).1
  rw [n, v, e2] at e1
  exact e1.symm
theorem rm_own {f a b : Int} (f0 : 0 ≤ f) (hf : f < 4) (a0 : 0 ≤ a) (a1 : a < full) (b0 : 0 ≤ b) (b1 : b < full) (ca : clsF f a ≤ 2) (cb : clsF f b = 1 ∨ clsF f b = 2) (h : 2 * vF f a ≤ vF f b) : rmB f a b = cutF f a ∧ rmFl f a b = 0 := by
  obtain ⟨g1, g2, g3, g4, g5, g6, g7⟩ := rm_fin f0 hf a0 a1 b0 b1 ca cb _ rfl
  have va := vF_nonneg (f := f) f0 a0
  have vb := (vF_dcE f0 hf b0 cb).1
  obtain ⟨e1, e2⟩ := rm_small va h vb
  rw [e2] at g4
  rw [e1] at g5
  refine ⟨?_, g7⟩
  rw [← g6]
  exact nm_same23 f0 hf g1 a0 g3 ca (by rw [g4]; cases negF f a <;> rfl) g5
theorem rm_twice {f a b x y : Int} (f0 : 0 ≤ f) (hf : f < 4) (a0 : 0 ≤ a) (a1 : a < full) (b0 : 0 ≤ b) (b1 : b < full) (ca : clsF f a ≤ 2) (cb : clsF f b = 1 ∨ clsF f b = 2) (hx : szF f (rmB f a b) = x) (hy : szF f b = y) : adB f 4 x x false ≤ y := by
  obtain ⟨g1, g2, g3, g4, g5, g6, g7⟩ := rm_fin f0 hf a0 a1 b0 b1 ca cb _ rfl
  obtain ⟨px, vx⟩ := sz_same f0 hf g1 g3
  obtain ⟨py, vy⟩ := sz_same f0 hf b0 (show clsF f b ≤ 2 by omega)
  rw [hx] at px vx
  rw [hy] at py vy
  have va := vF_nonneg (f := f) f0 a0
  have vb := (vF_dcE f0 hf b0 cb).1
  obtain ⟨r0, r1, r2, _⟩ := rm_range va vb
  obtain ⟨d1, un, w0, w1⟩ := ad_pos (m := 4) f0 hf (by decide) px px
  obtain ⟨z1, z2⟩ := dcE_bounds f0 hf un w0 w1
  obtain ⟨y1, y2⟩ := dcE_bounds f0 hf (vF_unit f0 hf py.1 py.2.2.1) (vF_nonneg f0 py.1) (vF_below f0 py.1)
  have M := dc_mono (m := 4) (E := -1099511628031) f0 w0 (show vF f x + vF f x ≤ vF f y by rw [vx, vy, g5]; omega) (fun q => by have := z1 q; omega) (fun q => by have := y1 q; omega) (by omega)
  have s := (dc_same (m := 4) f0 hf (by decide) py.1 py.2.2.1).1
  rw [py.2.2.2.1, py.2.2.2.2] at s
  rw [d1, ← s]; exact M
theorem sum_exact {f m x y : Int} {t : Bool} (f0 : 0 ≤ f) (hf : f < 4) (hm : m < 5) (px : plainF f x) (py : plainF f y) (fl : adFl f m t x y false = 0) : vF f (adB f m x y false) = vF f x + vF f y ∧ plainF f (adB f m x y false) := by
  have n0 : (if adX f x y false = 0 then noM m (negF f x) false else if negF f x = false then negF f x else if vF f x < vF f y then false else negF f x) = false := by
    rw [px.2.2.2.1]; unfold noM; split <;> simp
  obtain ⟨d1, d2⟩ := ad_dc (m := m) f0 hf hm px.1 px.2.1 py.1 py.2.1 px.2.2.1 py.2.2.1 (s := false) false n0
  have X : adX f x y false = vF f x + vF f y := by unfold adX; rw [if_pos px.2.2.2.1]
  rw [X] at d1 d2
  rw [d2] at fl
  have vx := vF_nonneg (f := f) f0 px.1
  have vy := vF_nonneg (f := f) f0 py.1
  by_cases z : vF f x + vF f y = 0
  · rw [z, dc_zero.1, if_pos ⟨hf, hm⟩] at d1
    obtain ⟨g0, g1⟩ := make_full f0 (f := f) false 0 0
    obtain ⟨k, n⟩ := nought_cls f0 hf false
    obtain ⟨_, _, _, _, q5, q6⟩ := make_parts f0 hf false 0 0
    rw [← d1] at g0 g1 k n q5 q6
    exact ⟨by rw [z]; exact (vF_zero f0 hf g0 (by omega)).2 k, g0, g1, by omega, n, Int.emod_eq_of_lt q5 q6⟩
  · have u := ulpF_eq f0 hf
    have un : (2 : Int) ^ ulpF f ∣ vF f x + vF f y := Int.dvd_add (vF_unit f0 hf px.1 px.2.2.1) (vF_unit f0 hf py.1 py.2.2.1)
    have b := blen_above (Int.le_of_dvd (by omega) un)
    obtain ⟨p0, p1, p2, p3, p4, p5, p6, p7, p8⟩ := f_nums f0 hf
    obtain ⟨e1, e2, _⟩ := dc_exactV f0 hf hm (show 0 < vF f x + vF f y by omega) (by omega) fl _ d1.symm
    exact ⟨e2, e1⟩
theorem sum_is {f m x y z : Int} (f0 : 0 ≤ f) (hf : f < 4) (hm : m < 5) (px : plainF f x) (py : plainF f y) (pz : plainF f z) (h : vF f x + vF f y = vF f z) : adB f m x y false = z ∧ ∀ t, adFl f m t x y false = 0 := by
  have n0 : (if adX f x y false = 0 then noM m (negF f x) false else if negF f x = false then negF f x else if vF f x < vF f y then false else negF f x) = false := by
    rw [px.2.2.2.1]; unfold noM; split <;> simp
  obtain ⟨d1, d2⟩ := ad_dc (m := m) f0 hf hm px.1 px.2.1 py.1 py.2.1 px.2.2.1 py.2.2.1 (s := false) false n0
  have X : adX f x y false = vF f x + vF f y := by unfold adX; rw [if_pos px.2.2.2.1]
  obtain ⟨s1, s2⟩ := dc_same (m := m) f0 hf hm pz.1 pz.2.2.1
  rw [X, h] at d1 d2
  rw [pz.2.2.2.1] at s1 s2
  rw [pz.2.2.2.2] at s1
  exact ⟨d1.trans s1, fun t => (d2 t).trans (s2 t)⟩
theorem rm_half {f a b : Int} (f0 : 0 ≤ f) (hf : f < 4) (a0 : 0 ≤ a) (a1 : a < full) (b0 : 0 ≤ b) (b1 : b < full) (ca : clsF f a ≤ 2) (cb : clsF f b = 1 ∨ clsF f b = 2) : ∀ r, rmB f a b = r →
    rmFl f a b = 0 ∧ 0 ≤ r ∧ r < full ∧ clsF f r ≤ 2 ∧ adB f 4 (szF f r) (szF f r) false ≤ szF f b ∧ (∀ t, adFl f 4 t (szF f a) (szF f a) false = 0 → adB f 4 (szF f a) (szF f a) false < szF f b → r = cutF f a) ∧ rmB f r b = r ∧ rmFl f r b = 0 := by
  intro r hr
  obtain ⟨g1, g2, g3, g4, g5, g6, g7⟩ := rm_fin f0 hf a0 a1 b0 b1 ca cb r hr
  have tw := rm_twice f0 hf a0 a1 b0 b1 ca cb rfl (rfl : szF f b = szF f b)
  rw [hr] at tw
  have va := vF_nonneg (f := f) f0 a0
  have vb := (vF_dcE f0 hf b0 cb).1
  obtain ⟨r0, r1, r2, _⟩ := rm_range va vb
  obtain ⟨o1, o2⟩ := rm_own f0 hf g1 g2 b0 b1 g3 cb (by rw [g5]; exact r1)
  refine ⟨g7, g1, g2, g3, tw, fun t fl lt => ?_, o1.trans g6, o2⟩
  obtain ⟨pa, xa⟩ := sz_same f0 hf a0 ca
  obtain ⟨pb, xb⟩ := sz_same f0 hf b0 (show clsF f b ≤ 2 by omega)
  obtain ⟨e1, e2⟩ := sum_exact f0 hf (by decide) pa pa fl
  have m := sz_mono f0 hf e2 pb (by omega)
  rw [e1, xa, xb] at m
  obtain ⟨h1, _⟩ := rm_own f0 hf a0 a1 b0 b1 ca cb (by omega)
  rw [← hr]; exact h1
theorem rm_turn {f a b : Int} (f0 : 0 ≤ f) (hf : f < 4) (a0 : 0 ≤ a) (a1 : a < full) (b0 : 0 ≤ b) (b1 : b < full) (ca : clsF f a ≤ 3) (cb : clsF f b ≤ 3) :
    rmB f a (turnF f b) = rmB f a b ∧ rmFl f a (turnF f b) = rmFl f a b ∧ rmFl f (turnF f a) b = rmFl f a b ∧ 0 ≤ rmB f a b ∧ rmB f a b < full ∧ ((nanF f (rmB f a b) = true ∧ rmB f (turnF f a) b = rmB f a b) ∨ (nanF f (rmB f a b) = false ∧ rmB f (turnF f a) b = turnF f (rmB f a b))) := by
  obtain ⟨tb0, tb1⟩ := turn_full (f := f) (b := b) f0
  obtain ⟨ta0, ta1⟩ := turn_full (f := f) (b := a) f0
  obtain ⟨ac, ae, as_, an⟩ := turn_same f0 hf a0
  obtain ⟨bc, be, bs, bn⟩ := turn_same f0 hf b0
  obtain ⟨x1, x2⟩ := rm_some hf a0 a1 b0 b1 ca cb
  obtain ⟨y1, y2⟩ := rm_some hf a0 a1 tb0 tb1 ca (by omega)
  obtain ⟨z1, z2⟩ := rm_some hf ta0 ta1 b0 b1 (by omega) cb
  by_cases i : clsF f a = 3 ∨ clsF f b = 0
  · rw [if_pos i] at x1 x2
    rw [if_pos (by omega)] at y1 y2 z1 z2
    have d := def_cls f0 hf
    have df := def_full (f := f) f0
    rw [x1, x2, y1, y2, z1, z2]
    exact ⟨rfl, rfl, rfl, df.1, df.2, .inl ⟨by unfold nanF; exact decide_eq_true (by omega), rfl⟩⟩
  · rw [if_neg i] at x2
    rw [if_neg (by omega)] at y2 z2
    by_cases c3 : clsF f b = 3
    · rw [if_neg i, if_pos c3] at x1
      rw [if_neg (by omega), if_pos (by omega)] at y1 z1
      have cf : 0 ≤ cutF f a ∧ cutF f a < full := by
        unfold cutF
        obtain ⟨p0, p1, p2, p3, p4, p5, p6, p7, p8⟩ := f_nums f0 hf
        have hp := two_pow_pos (fW f)
        have := two_pow_le (show fW f ≤ 128 by omega)
        rw [full_pow] at this
        have h0 := Int.emod_nonneg a (show (2 : Int) ^ fW f ≠ 0 by omega)
        have h1 := Int.emod_lt_of_pos a hp
        exact ⟨h0, by omega⟩
      have cc : clsF f (cutF f a) = clsF f a := cls_congr (exp_cut f0 hf a) (frac_cut f0 hf a)
      have tc : cutF f (turnF f a) = turnF f (cutF f a) := by
        obtain ⟨_, _, _, _, q5, q6⟩ := make_parts f0 hf (!negF f a) (expF f a) (fracF f a)
        unfold turnF
        rw [neg_cut f0 hf, exp_cut f0 hf, frac_cut f0 hf]
        exact Int.emod_eq_of_lt q5 q6
      rw [x1, y1, z1, x2, y2, z2]
      exact ⟨rfl, rfl, rfl, cf.1, cf.2, .inr ⟨num_nan (by omega), tc⟩⟩
    · have ca2 : clsF f a ≤ 2 := by omega
      have cb2 : clsF f b = 1 ∨ clsF f b = 2 := by have := cls_range f b; omega
      obtain ⟨g1, g2, g3, g4, g5, g6, _⟩ := rm_fin f0 hf a0 a1 b0 b1 ca2 cb2 _ rfl
      obtain ⟨h1, h2, h3, h4, h5, h6, _⟩ := rm_fin f0 hf a0 a1 tb0 tb1 ca2 (by omega) _ rfl
      obtain ⟨k1, k2, k3, k4, k5, k6, _⟩ := rm_fin f0 hf ta0 ta1 b0 b1 (by omega) cb2 _ rfl
      have vb : vF f (turnF f b) = vF f b := by unfold vF; rw [be, bs]
      have va : vF f (turnF f a) = vF f a := by unfold vF; rw [ae, as_]
      rw [vb] at h4 h5
      rw [va, an] at k4
      rw [va] at k5
      rw [x2, y2, z2]
      refine ⟨?_, rfl, rfl, g1, g2, .inr ⟨num_nan (by omega), ?_⟩⟩
      · rw [← h6, ← g6]; exact nm_same23 f0 hf h1 g1 h3 g3 (by rw [h4, g4]) (by rw [h5, g5])
      · obtain ⟨t1, t2, t3, t4⟩ := turn_same f0 hf g1
        obtain ⟨u0, u1⟩ := turn_full (f := f) (b := rmB f a b) f0
        obtain ⟨_, _, _, _, q5, q6⟩ := make_parts f0 hf (!negF f (rmB f a b)) (expF f (rmB f a b)) (fracF f (rmB f a b))
        have tcut : cutF f (turnF f (rmB f a b)) = turnF f (rmB f a b) := Int.emod_eq_of_lt q5 q6
        rw [← k6, ← tcut]
        refine nm_same23 f0 hf k1 u0 k3 (by omega) ?_ ?_
        · rw [k4, t4, g4]; cases negF f a <;> cases rmC (vF f a) (vF f b) <;> rfl
        · rw [k5]; unfold vF at g5 ⊢; rw [t2, t3, g5]
theorem rm_multiple {f a b K : Int} (f0 : 0 ≤ f) (hf : f < 4) (a0 : 0 ≤ a) (a1 : a < full) (b0 : 0 ≤ b) (b1 : b < full) (ca : clsF f a ≤ 2) (cb : clsF f b = 1 ∨ clsF f b = 2) (h : vF f a = K * vF f b) : rmB f a b = makeF f (negF f a) 0 0 ∧ rmFl f a b = 0 := by
  obtain ⟨g1, g2, g3, g4, g5, g6, g7⟩ := rm_fin f0 hf a0 a1 b0 b1 ca cb _ rfl
  have va := vF_nonneg (f := f) f0 a0
  have vb := (vF_dcE f0 hf b0 cb).1
  obtain ⟨r0, r1, r2, r3, r4⟩ := rm_range va vb
  have z : rmR (vF f a) (vF f b) = 0 := r4.2 (by rw [h]; exact Int.mul_emod_left ..)
  rw [r3 z] at g4
  rw [z] at g5
  obtain ⟨m0, m1⟩ := make_full f0 (f := f) (negF f a) 0 0
  obtain ⟨k, n⟩ := nought_cls f0 hf (negF f a)
  obtain ⟨_, _, _, _, q5, q6⟩ := make_parts f0 hf (negF f a) 0 0
  have mc : cutF f (makeF f (negF f a) 0 0) = makeF f (negF f a) 0 0 := Int.emod_eq_of_lt q5 q6
  refine ⟨?_, g7⟩
  rw [← g6, ← mc]
  exact nm_same23 f0 hf g1 m0 g3 (by omega) (by rw [g4, n]; cases negF f a <;> rfl) (by rw [g5]; exact ((vF_zero f0 hf m0 (by omega)).2 k).symm)
theorem rm_add {f a b s : Int} (f0 : 0 ≤ f) (hf : f < 4) (pa : plainF f a) (pb : plainF f b) (cb : clsF f b = 1 ∨ clsF f b = 2) (ps : plainF f s) (h : vF f s = vF f a + vF f b) : rmFl f a b = 0 ∧ rmFl f s b = 0 ∧ 0 ≤ rmB f a b ∧ rmB f a b < full ∧ clsF f (rmB f a b) ≤ 2 ∧
    (2 * vF f (rmB f a b) = vF f b → rmB f s b = turnF f (rmB f a b)) ∧ (2 * vF f (rmB f a b) ≠ vF f b → rmB f s b = rmB f a b) := by
  obtain ⟨g1, g2, g3, g4, g5, g6, g7⟩ := rm_fin f0 hf pa.1 pa.2.1 pb.1 pb.2.1 pa.2.2.1 cb _ rfl
  obtain ⟨k1, k2, k3, k4, k5, k6, k7⟩ := rm_fin f0 hf ps.1 ps.2.1 pb.1 pb.2.1 ps.2.2.1 cb _ rfl
  have vb := (vF_dcE f0 hf pb.1 cb).1
  obtain ⟨e1, e2, e3⟩ := rm_step (A := vF f a) vb
  rw [← h] at e1 e2 e3
  rw [ps.2.2.2.1] at k4
  rw [pa.2.2.2.1] at g4
  rw [e1] at k5
  refine ⟨g7, k7, g1, g2, g3, fun t => ?_, fun t => ?_⟩
  · rw [g5] at t
    rw [e3 t] at k4
    obtain ⟨t1, t2, t3, t4⟩ := turn_same f0 hf g1
    obtain ⟨u0, u1⟩ := turn_full (f := f) (b := rmB f a b) f0
    obtain ⟨_, _, _, _, q5, q6⟩ := make_parts f0 hf (!negF f (rmB f a b)) (expF f (rmB f a b)) (fracF f (rmB f a b))
    have tcut : cutF f (turnF f (rmB f a b)) = turnF f (rmB f a b) := Int.emod_eq_of_lt q5 q6
    rw [← k6, ← tcut]
    refine nm_same23 f0 hf k1 u0 k3 (by omega) ?_ ?_
    · rw [k4, t4, g4]; cases rmC (vF f a) (vF f b) <;> rfl
    · rw [k5]; unfold vF at g5 ⊢; rw [t2, t3, g5]
  · rw [g5] at t
    rw [e2.resolve_left t] at k4
    rw [← k6, ← g6]
    exact nm_same23 f0 hf k1 g1 k3 g3 (by rw [k4, g4]) (by rw [k5, g5])
theorem rm_is_half {f m x b : Int} (f0 : 0 ≤ f) (hf : f < 4) (hm : m < 5) (px : plainF f x) (pb : plainF f b) : ∀ t, (adB f m x x false = b ∧ adFl f m t x x false = 0) ↔ 2 * vF f x = vF f b := fun t => by
  constructor
  · rintro ⟨h1, h2⟩
    obtain ⟨e1, e2⟩ := sum_exact f0 hf hm px px h2
    rw [h1] at e1
    omega
  · intro h
    obtain ⟨e1, e2⟩ := sum_is (m := m) f0 hf hm px px pb (by omega)
    exact ⟨e1, e2 t⟩
theorem rm_nan {f a z : Int} (f0 : 0 ≤ f) (hf : f < 4) (a0 : 0 ≤ a) (a1 : a < full) (z0 : 0 ≤ z) (z1 : z < full) (ca : 4 ≤ clsF f a) (cz : clsF f z ≤ 3) : rmB f a z = quietF f a ∧ rmB f z a = quietF f a ∧ rmFl f a z = (if clsF f a = 5 then 1 else 0) ∧ rmFl f z a = (if clsF f a = 5 then 1 else 0) := by
  have na : nanF f a = true := by unfold nanF; exact decide_eq_true ca
  have nz := num_nan cz
  have sz : sigF f z = false := by unfold sigF; exact decide_eq_false (by omega)
  have sa : (if sigF f a = true then (1 : Int) else 0) = if clsF f a = 5 then 1 else 0 := by unfold sigF; by_cases h : clsF f a = 5 <;> simp [h]
  have e1 := Int.emod_eq_of_lt a0 a1
  have e2 := Int.emod_eq_of_lt z0 z1
  have i1 : rmI f a z = false := by unfold rmI; exact decide_eq_false (by omega)
  have i2 : rmI f z a = false := by unfold rmI; exact decide_eq_false (by omega)
  have an1 : anyN f [a, z] = true := by unfold anyN; simp [e1, e2, na, nz]
  have an2 : anyN f [z, a] = true := by unfold anyN; simp [e1, e2, na, nz]
  have s1 : anyS f [a, z] = sigF f a := by unfold anyS; simp [e1, e2, sz]
  have s2 : anyS f [z, a] = sigF f a := by unfold anyS; simp [e1, e2, sz]
  have f1 : firstV f [a, z] = quietF f a := by unfold firstV; simp [List.find?, e1, e2, na, nz]
  have f2 : firstV f [z, a] = quietF f a := by unfold firstV; simp [List.find?, e1, e2, na, nz]
  obtain ⟨k1, k2, k3⟩ := pick_nan hf [a, z] an1
  obtain ⟨l1, l2, l3⟩ := pick_nan hf [z, a] an2
  unfold rmB rmFl
  have T : true = true := rfl
  have FT : f < 4 ∧ true = true := ⟨hf, T⟩
  rw [i1, i2, if_pos hf, if_pos hf, k3, l3, if_pos T, if_pos T, if_pos FT, if_pos FT, k1, k2, l1, l2, s1, s2, f1, f2, sa]
  exact ⟨rfl, rfl, rfl, rfl⟩
theorem rm_special {f a : Int} (f0 : 0 ≤ f) (hf : f < 4) (a0 : 0 ≤ a) (a1 : a < full) (ca : clsF f a ≤ 3) (z i : Int) (ng : Bool) (hz : makeF f ng 0 0 = z) (hi : infF f ng = i) :
    (rmB f a z = defF f ∧ rmFl f a z = 1) ∧ (rmB f i a = defF f ∧ rmFl f i a = 1) ∧ (clsF f a = 3 → rmB f a i = defF f) ∧ (clsF f a ≤ 2 → rmB f a i = cutF f a ∧ rmFl f a i = 0) ∧ (clsF f a = 0 → rmFl f z a = 1) ∧ (clsF f a ≠ 0 → rmB f z a = z ∧ rmFl f z a = 0) := by
  obtain ⟨z0, z1⟩ := make_full f0 (f := f) ng 0 0
  obtain ⟨i0, i1⟩ : 0 ≤ infF f ng ∧ infF f ng < full := make_full f0 (f := f) ng (2 * fE f + 1) 0
  obtain ⟨zc, zn⟩ := nought_cls f0 hf ng
  obtain ⟨ic, inn⟩ := inf_cls f0 hf ng
  obtain ⟨_, _, _, _, q5, q6⟩ := make_parts f0 hf ng 0 0
  have mc : cutF f (makeF f ng 0 0) = makeF f ng 0 0 := Int.emod_eq_of_lt q5 q6
  rw [hz] at z0 z1 zc zn mc
  rw [hi] at i0 i1 ic inn
  obtain ⟨x1, x2⟩ := rm_some hf a0 a1 z0 z1 ca (by omega)
  obtain ⟨y1, y2⟩ := rm_some hf i0 i1 a0 a1 (by omega) ca
  obtain ⟨u1, u2⟩ := rm_some hf a0 a1 i0 i1 ca (by omega)
  obtain ⟨v1, v2⟩ := rm_some hf z0 z1 a0 a1 (by omega) ca
  rw [if_pos (.inr zc)] at x1 x2
  rw [if_pos (.inl ic)] at y1 y2
  refine ⟨⟨x1, x2⟩, ⟨y1, y2⟩, fun h => ?_, fun h => ?_, fun h => ?_, fun h => ?_⟩
  · rw [u1, if_pos (.inl h)]
  · have no : ¬ (clsF f a = 3 ∨ clsF f i = 0) := by omega
    rw [u1, u2, if_neg no, if_neg no, if_pos ic]; exact ⟨rfl, rfl⟩
  · rw [v2, if_pos (.inr h)]
  · rw [v2, if_neg (by omega)]
    refine ⟨?_, rfl⟩
    by_cases c3 : clsF f a = 3
    · rw [v1, if_neg (by omega), if_pos c3, mc]
    · have r := cls_range f a
      have vz : vF f z = 0 * vF f a := by rw [Int.zero_mul]; exact (vF_zero f0 hf z0 (by omega)).2 zc
      obtain ⟨e, _⟩ := rm_multiple f0 hf z0 z1 a0 a1 (by omega) (by omega) vz
      rw [e, zn, hz]
end Go.Proofs.YtjdjonekoodalaaGreatDoor
