import Derived.Test.YtbighggnfkdncaaGreatDoorGqB
import Derived.Test.YtbighggnfkdncaaGreatDoorGvB
set_option linter.unusedVariables false
set_option linter.unusedSimpArgs false
set_option maxRecDepth 100000
namespace Go.Proofs.YtbighggnfkdncaaGreatDoor
open Go.RowKit
theorem sq_mono {x y : Int} (x0 : 0 ≤ x) (h : x < y) : x * x < y * y := by
  have h1 : x * x ≤ x * y := Int.mul_le_mul_of_nonneg_left (by omega) x0
  have h2 : x * y < y * y := Int.mul_lt_mul_of_pos_right h (by omega)
  omega
theorem sq_scale (x P : Int) : x * P * (x * P) = x * x * (P * P) := by simp only [Int.mul_assoc, Int.mul_left_comm]
end Go.Proofs.YtbighggnfkdncaaGreatDoor
namespace Go.Proofs.YtbighggnfkdncaaGreatDoor
open Go.RowKit
attribute [local go_sem ↓] Go.wp_at_zero Go.wp_at_succ
def sqI (f a : Int) : Bool := negF f a && decide (1 ≤ clsF f a ∧ clsF f a ≤ 3)
def sqN (f a : Int) : Int := uS f a * 2 ^ (127 + (uE f a % 2).toNat)
def sqS (f a : Int) : Int := rootN (sqN f a) * full + (if exactN (sqN f a) then 0 else 1)
def sqE (f a : Int) : Int := uE f a / 2
def sqB (f m a : Int) : Int := if f < 4 ∧ m < 5 then (if pickK f (sqI f a) [a] then pickV f (sqI f a) [a] else if clsF f a = 0 ∨ clsF f a = 3 then cutF f a else pkB f m false (sqE f a) (sqS f a)) else 0
def sqFl (f m : Int) (t : Bool) (a : Int) : Int := if f < 4 ∧ m < 5 then (if pickK f (sqI f a) [a] then pickF f (sqI f a) [a] else if clsF f a = 0 ∨ clsF f a = 3 then 0 else pkFl f m t false (sqE f a) (sqS f a)) else 0
structure SqrtOK : Prop where
  sqrt : ∀ f m t a, 0 ≤ f → f ≤ 255 → 0 ≤ m → m ≤ 255 → 0 ≤ a → a < full → ∀ w, FTab w → Calls Tryz.prog 10 #[.int .u8 f, .agg #[.int .u8 m, .bool t], .agg #[.int .u64 (hiOf (a)), .int .u64 (loOf (a))]] w fun e w' => e = .returned (.agg #[.int .u64 (hiOf (sqB f m a)), .int .u64 (loOf (sqB f m a)), .int .u8 (sqFl f m t a)]) ∧ Below w.heap.size w w'
theorem sqE_range {f a : Int} (f0 : 0 ≤ f) (a0 : 0 ≤ a) : -20000 ≤ sqE f a ∧ sqE f a ≤ 20000 := by
  have er := uE_range (f := f) f0 a0
  unfold sqE; omega
theorem sqN_range {f a : Int} (f0 : 0 ≤ f) (hf : f < 4) (a0 : 0 ≤ a) (ca : clsF f a = 1 ∨ clsF f a = 2) : 2 ^ 254 ≤ sqN f a ∧ sqN f a < wfull := by
  obtain ⟨_, _, s0, s1, _⟩ := un_range f0 hf a0 ca
  have e1 : (2 : Int) ^ 254 = 2 ^ 127 * 2 ^ 127 := by decide +kernel
  have e2 : wfull = full * 2 ^ 128 := by decide +kernel
  have l := two_pow_le (show 127 ≤ 127 + (uE f a % 2).toNat by omega)
  have h := two_pow_le (show 127 + (uE f a % 2).toNat ≤ 128 by omega)
  have p := two_pow_pos (127 + (uE f a % 2).toNat)
  unfold sqN
  generalize (2 : Int) ^ (127 + (uE f a % 2).toNat) = Q at *
  rw [e1, e2]
  have p7 := two_pow_pos 127
  constructor
  · have h1 : (2 : Int) ^ 127 * 2 ^ 127 ≤ uS f a * 2 ^ 127 := Int.mul_le_mul_of_nonneg_right s0 (by omega)
    have h2 : uS f a * 2 ^ 127 ≤ uS f a * Q := Int.mul_le_mul_of_nonneg_left l (by omega)
    omega
  · have h1 : uS f a * Q < full * Q := Int.mul_lt_mul_of_pos_right s1 p
    have h2 : full * Q ≤ full * 2 ^ 128 := Int.mul_le_mul_of_nonneg_left h (by decide)
    omega
theorem sq_root {f a : Int} (f0 : 0 ≤ f) (hf : f < 4) (a0 : 0 ≤ a) (ca : clsF f a = 1 ∨ clsF f a = 2) : RootAt (sqN f a) (rootN (sqN f a)) 0 ∧ 2 ^ 127 ≤ rootN (sqN f a) ∧ rootN (sqN f a) < full := by
  obtain ⟨n0, n1⟩ := sqN_range f0 hf a0 ca
  have hp := two_pow_pos 254
  have R := root_spec (a := sqN f a) (by omega) n1
  obtain ⟨r0, r1, r2, r3⟩ := root_range (a := sqN f a) (by omega) n1
  refine ⟨R, ?_, r1⟩
  apply Classical.byContradiction; intro k
  have h := sq_le (r := rootN (sqN f a) + 1) (s := 2 ^ 127) (by omega) (by omega)
  rw [show (2 : Int) ^ 127 * 2 ^ 127 = 2 ^ 254 by decide +kernel] at h
  omega
theorem sqS_range {f a : Int} (f0 : 0 ≤ f) (hf : f < 4) (a0 : 0 ≤ a) (ca : clsF f a = 1 ∨ clsF f a = 2) : 2 ^ 255 ≤ sqS f a ∧ sqS f a < wfull := by
  obtain ⟨_, r0, r1⟩ := sq_root f0 hf a0 ca
  have e1 : (2 : Int) ^ 255 = 2 ^ 127 * full := by decide +kernel
  have e2 : wfull = (full - 1) * full + full := by decide +kernel
  have F : (1 : Int) < full := by decide
  unfold sqS
  rw [e1, e2]
  have h1 : (2 : Int) ^ 127 * full ≤ rootN (sqN f a) * full := Int.mul_le_mul_of_nonneg_right r0 (by omega)
  have h2 : rootN (sqN f a) * full ≤ (full - 1) * full := Int.mul_le_mul_of_nonneg_right (by omega) (by omega)
  split <;> omega
theorem sq_val {f a : Int} (f0 : 0 ≤ f) (hf : f < 4) (a0 : 0 ≤ a) (ca : clsF f a = 1 ∨ clsF f a = 2) (T : Nat) (hT : (T : Int) = 2 * sqE f a + 1099511627777) : vF f a = sqN f a * 2 ^ T := by
  obtain ⟨v, _, _, x0, x1⟩ := vF_val f0 hf a0 (show clsF f a ≤ 2 by omega)
  obtain ⟨m0, m1, l0, l1, xa, sa⟩ := um_pos f0 hf a0 ca
  have p8 := fP_19 f0
  have p0 := f_nums f0 hf
  unfold sqE at hT
  have ee : (uE f a % 2).toNat = uE f a - 2 * (uE f a / 2) := by omega
  unfold sqN
  rw [v, sa, Int.mul_assoc, Int.mul_assoc, ← Int.pow_add, ← Int.pow_add]
  congr 2
  omega
theorem sq_pick {f a : Int} (a0 : 0 ≤ a) (a1 : a < full) (hf : f < 4) : pickK f (sqI f a) [a] = (sqI f a || nanF f a) := by
  unfold pickK anyN
  rw [decide_eq_true hf]
  simp [Int.emod_eq_of_lt a0 a1]
theorem sqI_nan {f a : Int} (h : nanF f a = true) : sqI f a = false := by
  unfold nanF at h
  have := of_decide_eq_true h
  unfold sqI
  rw [decide_eq_false (by omega), Bool.and_false]
theorem sq_some {f m a : Int} (hf : f < 4) (hm : m < 5) (a0 : 0 ≤ a) (a1 : a < full) (na : clsF f a ≤ 3) (i : sqI f a = false) :
    sqB f m a = (if clsF f a = 0 ∨ clsF f a = 3 then cutF f a else pkB f m false (sqE f a) (sqS f a)) ∧ ∀ t, sqFl f m t a = (if clsF f a = 0 ∨ clsF f a = 3 then 0 else pkFl f m t false (sqE f a) (sqS f a)) := by
  have k := sq_pick a0 a1 hf
  rw [i, num_nan na, Bool.or_false] at k
  unfold sqB sqFl
  rw [i, if_pos ⟨hf, hm⟩, k, if_neg (by decide)]
  exact ⟨rfl, fun t => by rw [if_pos ⟨hf, hm⟩, if_neg (by decide)]⟩
theorem sq_num {f m a : Int} (hf : f < 4) (hm : m < 5) (a0 : 0 ≤ a) (a1 : a < full) (ca : clsF f a = 1 ∨ clsF f a = 2) (n : negF f a = false) :
    sqB f m a = pkB f m false (sqE f a) (sqS f a) ∧ ∀ t, sqFl f m t a = pkFl f m t false (sqE f a) (sqS f a) := by
  obtain ⟨e1, e2⟩ := sq_some (m := m) hf hm a0 a1 (by omega) (show sqI f a = false by unfold sqI; rw [n]; rfl)
  rw [e1, if_neg (by omega)]
  exact ⟨rfl, fun t => by rw [e2, if_neg (by omega)]⟩
theorem fP_fE {f : Int} (f0 : 0 ≤ f) (hf : f < 4) : fP f ≤ fE f := by
  obtain rfl | rfl | rfl | rfl := f_cases f0 hf <;> decide
theorem sq_pt {f m a : Int} (f0 : 0 ≤ f) (hf : f < 4) (hm : m < 5) (a0 : 0 ≤ a) (ca : clsF f a = 1 ∨ clsF f a = 2) :
    pkB f m false (sqE f a) (sqS f a) = ptF f false (sqE f a) (cutQ (sqS f a) (256 - fP f) false m false) ∧ (∀ t, pkFl f m t false (sqE f a) (sqS f a) = if restQ (sqS f a) (256 - fP f) false = 0 then 0 else 16) ∧
    1 - fE f ≤ sqE f a ∧ sqE f a < fE f ∧ 2 ^ (fP f - 1) ≤ cutQ (sqS f a) (256 - fP f) false m false ∧ cutQ (sqS f a) (256 - fP f) false m false ≤ 2 ^ fP f ∧ pkE (sqE f a) (sqS f a) = sqE f a ∧ pkS (sqS f a) = sqS f a := by
  obtain ⟨s0, s1⟩ := sqS_range f0 hf a0 ca
  obtain ⟨e1, e2, _⟩ := un_range f0 hf a0 ca
  obtain ⟨p0, p1, p2, p3, p4, p5, p6, p7, p8⟩ := f_nums f0 hf
  have pe := fP_fE f0 hf
  have er := sqE_range (f := f) f0 a0
  have hp := two_pow_pos 255
  rw [← wfull_pow] at s1
  obtain ⟨u0, u1⟩ := up_none s0 s1
  have eE : pkE (sqE f a) (sqS f a) = sqE f a := by unfold pkE; rw [u0, clip_id (by omega) (by omega)]; omega
  have x0 : 1 - fE f ≤ sqE f a := by unfold sqE; omega
  have x1 : sqE f a < fE f := by unfold sqE; omega
  have L : pkL f (sqE f a) = sqE f a := by rcases pkL_cases f (sqE f a) with h | h <;> omega
  have ov : ¬ (fE f : Int) < pkA f m false (sqE f a) (sqS f a) := by rcases pkA_cases f m false (sqE f a) (sqS f a) with h | h <;> omega
  have tn : ∀ t : Bool, ¬ (if t then pkA f m false (sqE f a) (sqS f a) else sqE f a) < 1 - fE f := fun t => by
    cases t with
    | true => rw [if_pos rfl]; rcases pkA_cases f m false (sqE f a) (sqS f a) with h | h <;> omega
    | false => rw [if_neg (by decide)]; omega
  obtain ⟨_, n1, _, n3⟩ := pkN_bounds (e := sqE f a) f0 hf s0 s1 m false
  obtain ⟨n3, n4⟩ := n3 x0
  obtain ⟨b1, b2⟩ := pk_num (exp := sqE f a) (x := sqS f a) (ng := false) hf hm (by omega)
  rw [eE, u1] at b1 b2
  have R : pkR f (sqE f a) (sqS f a) = restQ (sqS f a) (256 - fP f) false := by
    unfold pkR; rw [L, show (256 : Int) - fP f + (sqE f a - sqE f a) = 256 - fP f by omega]
  rw [n4] at n1 n3
  refine ⟨?_, fun t => ?_, x0, x1, n3, n1, eE, u1⟩
  · rw [b1]; unfold numB; rw [if_neg ov, L, n4]
  · rw [b2]; unfold numFl; rw [if_neg ov, R]
    by_cases z : restQ (sqS f a) (256 - fP f) false = 0
    · rw [if_pos z, if_pos z]
    · rw [if_neg z, if_neg z, if_neg (tn t)]
theorem mk_nor {f y k : Int} (f0 : 0 ≤ f) (hf : f < 4) (y0 : 1 ≤ y) (y1 : y ≤ 2 * fE f) (k0 : 0 ≤ k) (k1 : k < 2 ^ (fP f - 1)) : ∀ B, makeF f false y k = B → plainF f B ∧ clsF f B = 2 ∧ expF f B = y ∧ fracF f B = k ∧ vF f B = (k + 2 ^ (fP f - 1)) * 2 ^ (y - fE f - (fP f - 1 : Nat) + 1099511628031).toNat := by
  intro B hb
  obtain ⟨p0, p1, p2, p3, p4, p5, p6, p7, p8⟩ := f_nums f0 hf
  obtain ⟨g0, g1⟩ := make_full f0 (f := f) false y k
  obtain ⟨a1, a2, a3⟩ := make_fields f0 hf false y k
  rw [expOf_id f0 hf (by omega) (by omega)] at a1
  rw [Int.emod_eq_of_lt k0 k1] at a2
  obtain ⟨_, _, _, _, q5, q6⟩ := make_parts f0 hf false y k
  rw [hb] at g0 g1 a1 a2 a3 q5 q6
  have c : clsF f B = 2 := (cls_2 hf).2 ⟨by omega, by omega⟩
  refine ⟨⟨g0, g1, by omega, a3, Int.emod_eq_of_lt q5 q6⟩, c, a1, a2, ?_⟩
  rw [(vF_val f0 hf g0 (by omega)).1]
  unfold uM uX
  rw [if_neg (by omega), if_neg (by omega), a1, a2]
theorem pt_nor2 {f l n : Int} (f0 : 0 ≤ f) (hf : f < 4) (l0 : 1 - fE f ≤ l) (l1 : l < fE f) (n0 : 2 ^ (fP f - 1) ≤ n) (n1 : n ≤ 2 ^ fP f) : ∀ B, ptF f false l n = B → plainF f B ∧ clsF f B = 2 ∧ vF f B = n * 2 ^ (l - (fP f - 1 : Nat) + 1099511628031).toNat := by
  intro B hB
  obtain ⟨p0, p1, p2, p3, p4, p5, p6, p7, p8⟩ := f_nums f0 hf
  have tp := pow_top (show 1 ≤ fP f by omega)
  have hp := two_pow_pos (fP f - 1)
  by_cases c2 : n < 2 ^ fP f
  · rw [pt_nor f0 hf false n0 c2 l0 (by omega)] at hB
    have hB' : makeF f false (l + fE f) (n - 2 ^ (fP f - 1)) = B := by
      rw [← hB]; unfold makeF
      rw [Int.sub_emod_right]
    obtain ⟨P, c, _, _, v⟩ := mk_nor f0 hf (by omega) (by omega) (by omega) (by omega) B hB'
    refine ⟨P, c, ?_⟩
    rw [v, show n - 2 ^ (fP f - 1) + 2 ^ (fP f - 1) = n by omega, show l + (fE f : Int) - fE f = l by omega]
  · have hn : n = 2 ^ fP f := by omega
    rw [hn, pt_top f0 hf false l0 (by omega)] at hB
    have hB' : makeF f false (l + fE f + 1) 0 = B := by
      rw [← hB]; unfold makeF
      rw [Int.emod_self, Int.zero_emod]
    obtain ⟨P, c, _, _, v⟩ := mk_nor f0 hf (by omega) (by omega) (by omega) (by omega) B hB'
    refine ⟨P, c, ?_⟩
    rw [v, hn, Int.zero_add, tp, Int.mul_assoc, show (2 : Int) * 2 ^ (l - ((fP f - 1 : Nat) : Int) + 1099511628031).toNat = 2 ^ (1 + (l - ((fP f - 1 : Nat) : Int) + 1099511628031).toNat) by rw [Int.pow_add]; rfl]
    congr 2; omega
end Go.Proofs.YtbighggnfkdncaaGreatDoor
namespace Go.Proofs.YtbighggnfkdncaaGreatDoor
open Go.RowKit
theorem dc_exact4 {f m q E : Int} {t ng : Bool} (f0 : 0 ≤ f) (hf : f < 4) (hm : m < 5) (q0 : 0 < q) (hl : fP f + 1 ≤ blen q) (fl : dcFl f m t ng q E false = 0) : dcB f m ng q E false = dcB f 4 ng q E false ∧ dcFl f 4 false ng q E false = 0 := by
  have Z : ¬ (q = 0 ∧ false = false) := fun h => by omega
  have U : (blen q : Int) - fP f ≤ dcU f q E := by unfold dcU; rcases pkL_cases f (dcE q E) with h | h <;> omega
  have FM : (f < 4 ∧ m < 5) ∧ ¬ (q = 0 ∧ false = false) := ⟨⟨hf, hm⟩, Z⟩
  have FM4 : (f < 4 ∧ (4 : Int) < 5) ∧ ¬ (q = 0 ∧ false = false) := ⟨⟨hf, by decide⟩, Z⟩
  unfold dcFl at fl
  rw [if_pos FM] at fl
  by_cases ov : (fE f : Int) < dcA f m ng q E false
  · rw [if_pos ov] at fl
    unfold overFl at fl
    rw [if_pos ⟨hf, hm⟩] at fl
    omega
  rw [if_neg ov] at fl
  have r : restQ q (dcU f q E) false = 0 := by
    apply Classical.byContradiction; intro k
    rw [if_neg k] at fl
    split at fl <;> omega
  have r2 : restQ q ((blen q : Int) - fP f) false = 0 := by
    rw [rest_zero (by omega)] at r ⊢
    exact mod_zero_le (by omega) r
  have A : dcA f 4 ng q E false = dcA f m ng q E false := by unfold dcA; rw [cut_none r2, cut_none r2]
  constructor
  · unfold dcB
    rw [if_pos ⟨hf, hm⟩, if_neg Z, if_neg ov, if_pos ⟨hf, by decide⟩, if_neg Z, A, if_neg ov, cut_none r, cut_none r]
  · unfold dcFl
    rw [if_pos FM4, A, if_neg ov, if_pos r]
theorem dc_exactV {f m q : Int} {t : Bool} (f0 : 0 ≤ f) (hf : f < 4) (hm : m < 5) (q0 : 0 < q) (hl : fP f + 1 ≤ blen q) (fl : dcFl f m t false q (-1099511628031) false = 0) : ∀ B, dcB f m false q (-1099511628031) false = B → plainF f B ∧ vF f B = q ∧ (clsF f B = 1 ∨ clsF f B = 2) := by
  intro B hB
  obtain ⟨e1, e2⟩ := dc_exact4 f0 hf hm q0 hl fl
  rw [e1] at hB
  obtain ⟨l, u, hb, l0, l1, u1, lu, n0, n1, nl, nz⟩ := dc_zeroM f0 hf q0 hl (.inl e2)
  rw [hb] at hB
  obtain ⟨B0, B1, Bn, Bv, Bc⟩ := pt_val (ng := false) f0 hf l0 l1 n0 (by omega) nl B hB
  have c := Bc n1
  have v := Bv c
  have dm := Int.emod_add_mul_ediv q (2 ^ u)
  rw [nz e2, Int.mul_comm (2 ^ u)] at dm
  rw [show (l - ((fP f - 1 : Nat) : Int) + 1099511628031).toNat = u by omega, show q / 2 ^ u * 2 ^ u = q by omega] at v
  have z : clsF f B ≠ 0 := fun h => by
    have := (vF_zero f0 hf B0 c).2 h
    omega
  have rc := cls_range f B
  refine ⟨⟨B0, B1, c, Bn, ?_⟩, v, by omega⟩
  have s := (dc_same (m := 4) f0 hf (by decide) B0 c).1
  rw [Bn, v, hb, hB] at s
  exact s.symm
theorem dc_fitsP {f m q M : Int} {j : Nat} (f0 : 0 ≤ f) (hf : f < 4) (hm : m < 5) (hq : q = M * 2 ^ j) (M0 : 0 < M) (M1 : M < 2 ^ fP f) (hj : ulpF f ≤ j) (hl : fP f + 1 ≤ j) (he : dcE q (-1099511628031) ≤ fE f) : ∀ B, dcB f m false q (-1099511628031) false = B → plainF f B ∧ vF f B = q ∧ (clsF f B = 1 ∨ clsF f B = 2) ∧ ∀ t, dcFl f m t false q (-1099511628031) false = 0 := by
  intro B hB
  obtain ⟨g1, _⟩ := dc_fits (m := m) (ng := false) f0 hf hm hq M0 M1 hj he
  have bq : blen q = blen M + j := by rw [hq]; exact blen_shl M0 j
  have := two_pow_pos j
  obtain ⟨a, b, c⟩ := dc_exactV (t := false) f0 hf hm (by rw [hq]; exact Int.mul_pos M0 this) (by omega) (g1 false) B hB
  exact ⟨a, b, c, g1⟩
end Go.Proofs.YtbighggnfkdncaaGreatDoor
namespace Go.Proofs.YtbighggnfkdncaaGreatDoor
open Go.RowKit
theorem sz_cls {f a : Int} (f0 : 0 ≤ f) (hf : f < 4) (a0 : 0 ≤ a) : clsF f (szF f a) = clsF f a ∧ expF f (szF f a) = expF f a ∧ fracF f (szF f a) = fracF f a := by
  obtain ⟨x0, x1, x2, x3⟩ := exp_range f0 hf a0
  obtain ⟨r0, r1⟩ := frac_range (b := a) f0 hf
  obtain ⟨e1, e2, e3⟩ := make_fields f0 hf false (expF f a) (fracF f a)
  rw [expOf_id f0 hf x0 x1] at e1
  rw [Int.emod_eq_of_lt r0 r1] at e2
  exact ⟨cls_congr e1 e2, e1, e2⟩
theorem sq_flags {f m a : Int} (f0 : 0 ≤ f) (hf : f < 4) (hm : m < 5) (a0 : 0 ≤ a) (a1 : a < full) (ca : clsF f a = 1 ∨ clsF f a = 2) (n : negF f a = false) : ∀ B, sqB f m a = B → plainF f B ∧ ∀ t, sqFl f m t a = 0 ∨ sqFl f m t a = 16 := by
  intro B hB
  obtain ⟨e1, e2⟩ := sq_num (m := m) hf hm a0 a1 ca n
  obtain ⟨r1, r2, x0, x1, n0, n1, _, _⟩ := sq_pt (m := m) f0 hf hm a0 ca
  rw [e1, r1] at hB
  refine ⟨(pt_nor2 f0 hf x0 x1 n0 n1 B hB).1, fun t => ?_⟩
  rw [e2, r2]
  split
  · exact .inl rfl
  · exact .inr rfl
theorem fl_and1 {x : Int} (h : x = 0 ∨ x = 16) : bits .and .u8 x 1 = 0 ∧ bits .andNot .u8 x 16 = 0 := by
  rcases h with rfl | rfl <;> decide
end Go.Proofs.YtbighggnfkdncaaGreatDoor
