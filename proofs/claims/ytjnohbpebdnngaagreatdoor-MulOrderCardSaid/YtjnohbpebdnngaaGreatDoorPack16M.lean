/-
  Numbers rounded to a format: by definition; what the document asks of package pack; plain arithmetic.
-/
import Derived.Test.YtjnohbpebdnngaaGreatDoorGoA
import Derived.Test.YtjnohbpebdnngaaGreatDoorGrA
import Derived.Test.YtjnohbpebdnngaaGreatDoorGdA
set_option linter.unusedVariables false
set_option linter.unusedSimpArgs false
set_option maxRecDepth 100000
namespace Go.Proofs.YtjnohbpebdnngaaGreatDoor
open Go.RowKit
attribute [local go_sem ↓] Go.wp_at_zero Go.wp_at_succ

def clipE (x : Int) : Int := if x < -1099511627776 then -1099511627776 else if 1099511627776 < x then 1099511627776 else x
/-- A number's exponent; its digits, moved up so that the highest of 256 bits is 1. -/
def pkE (exp x : Int) : Int := clipE exp - upN 256 x
def pkS (x : Int) : Int := x * 2 ^ upN 256 x
/-- The exponent of the places that a format has for it. -/
def pkL (f e : Int) : Int := if e < 1 - fE f then 1 - fE f else e
/-- The exponent of what is rounded with unbounded exponent. -/
def pkA (f m : Int) (ng : Bool) (e s : Int) : Int := if cutQ s (256 - fP f) false m ng = 2 ^ fP f then e + 1 else e
def pkN (f m : Int) (ng : Bool) (e s : Int) : Int := cutQ s (256 - fP f + (pkL f e - e)) false m ng
def pkR (f e s : Int) : Int := restQ s (256 - fP f + (pkL f e - e)) false
def ptF (f : Int) (ng : Bool) (l n : Int) : Int := (l + fE f - 1) * 2 ^ (fP f - 1) + n + (if ng then 2 ^ (fW f - 1) else 0)
/-- What a number of 256 digits, the highest 1, is rounded to: its bits, its flags. -/
def numB (f m : Int) (ng : Bool) (e s : Int) : Int := if fE f < pkA f m ng e s then overB f m ng else ptF f ng (pkL f e) (pkN f m ng e s)
def numFl (f m : Int) (t ng : Bool) (e s : Int) : Int := if fE f < pkA f m ng e s then overFl f m else if pkR f e s = 0 then 0 else if (if t then pkA f m ng e s else e) < 1 - fE f then 24 else 16
/-- What the document asks of Round: bits, flags. -/
def pkB (f m : Int) (ng : Bool) (exp x : Int) : Int := if f < 4 ∧ m < 5 then (if x = 0 then makeF f ng 0 0 else numB f m ng (pkE exp x) (pkS x)) else 0
def pkFl (f m : Int) (t ng : Bool) (exp x : Int) : Int := if (f < 4 ∧ m < 5) ∧ x ≠ 0 then numFl f m t ng (pkE exp x) (pkS x) else 0
/-- What the document asks of package pack. -/
structure PackOK : Prop where
  round : ∀ f m t ng exp x, 0 ≤ f → f ≤ 255 → 0 ≤ m → m ≤ 255 → -9223372036854775808 ≤ exp → exp ≤ 9223372036854775807 → 0 ≤ x → x < wfull → ∀ w, FTab w → Calls Tryz.prog 21 #[.int .u8 f, .agg #[.int .u8 m, .bool t], .bool ng, .int .i64 exp, .agg #[.int .u64 (wd0 (x)), .int .u64 (wd1 (x)), .int .u64 (wd2 (x)), .int .u64 (wd3 (x))]] w fun e w' => e = .returned (.agg #[.int .u64 (hiOf (pkB f m ng exp x)), .int .u64 (loOf (pkB f m ng exp x)), .int .u8 (pkFl f m t ng exp x)]) ∧ Below w.heap.size w w'

/-! ### what is cut -/
theorem scale_floor (x : Int) (k : Nat) (n : Int) : floorQ (x * 2 ^ k) (n + k) = floorQ x n := by
  unfold floorQ
  by_cases h : n + k ≤ 0
  · rw [if_pos h, if_pos (by omega), Int.mul_assoc, ← Int.pow_add]
    congr 2; omega
  · rw [if_neg h]
    by_cases h2 : n ≤ 0
    · rw [if_pos h2, show k = (-n).toNat + (n + k).toNat by omega, Int.pow_add, ← Int.mul_assoc, show (n + ((-n).toNat + (n + k).toNat : Nat)).toNat = (n + k).toNat by omega, mul_pow_div]
    · rw [if_neg h2, show (n + k).toNat = k + n.toNat by omega, ← jam_div, mul_pow_div]
theorem scale_rest (x : Int) (k : Nat) (n : Int) : restQ (x * 2 ^ k) (n + k) false = restQ x n false := by
  by_cases h2 : n ≤ 0
  · have r : restQ x n false = 0 := by unfold restQ; rw [if_pos h2]; rfl
    rw [r]
    by_cases h : n + k ≤ 0
    · unfold restQ; rw [if_pos h]; rfl
    · rw [rest_zero (by omega), show k = (-n).toNat + (n + k).toNat by omega, Int.pow_add, ← Int.mul_assoc, show (n + ((-n).toNat + (n + k).toNat : Nat)).toNat = (n + k).toNat by omega]
      exact Int.mul_emod_left ..
  · obtain ⟨j, rfl⟩ : ∃ j : Nat, n = (j : Int) + 1 := ⟨(n - 1).toNat, by omega⟩
    have a := rest_of (x * 2 ^ k) (k + j)
    have b := rest_of x j
    rw [← jam_div, mul_pow_div] at a
    have e : (x * 2 ^ k % 2 ^ (k + j) != 0) = (x % 2 ^ j != 0) := by
      rw [Bool.eq_iff_iff]; simp only [bne_iff_ne, ne_eq, lost_split, mul_pow_div, Int.mul_emod_left, true_and]
    rw [e, ← b] at a
    rw [show ((j : Int) + 1 + k) = ((k + j : Nat) : Int) + 1 by omega]
    exact a
theorem scale_cut (x : Int) (k : Nat) (n m : Int) (ng : Bool) : cutQ (x * 2 ^ k) (n + k) false m ng = cutQ x n false m ng := by unfold cutQ; rw [scale_floor, scale_rest]
theorem jam_cut16 (x : Int) {n : Int} (d : Nat) (hn : 2 ≤ n) (m : Int) (ng : Bool) : cutQ (jamN x d) n false m ng = cutQ x (n + d) false m ng ∧ restQ (jamN x d) n false = restQ x (n + d) false := by
  obtain ⟨j, hj⟩ : ∃ j : Nat, n = (j : Int) + 1 := ⟨(n - 1).toNat, by omega⟩
  have a1 := rest_of (jamN x d) j
  have a2 := rest_of x (j + d)
  rw [jam_div15 x _ _ (by omega)] at a1
  have e : (jamN x d % 2 ^ j != 0) = (x % 2 ^ (j + d) != 0) := by
    rw [Bool.eq_iff_iff]; simp only [bne_iff_ne, ne_eq, jam_mod15 x d j (by omega)]
  rw [e, ← a2] at a1
  rw [← hj, show ((j + d : Nat) : Int) + 1 = n + d by omega] at a1
  have f : floorQ (jamN x d) n = floorQ x (n + d) := by
    rw [floor_pos (by omega), floor_pos (by omega), jam_div15 x _ _ (by omega)]
    congr 2; omega
  unfold cutQ
  rw [f, a1]
  exact ⟨rfl, rfl⟩
theorem cut_none {s n : Int} (h : restQ s n false = 0) (m : Int) (ng : Bool) : cutQ s n false m ng = floorQ s n := by unfold cutQ; rw [h, next_none, if_neg (by decide)]
theorem cut_le16 {s n : Int} {k : Nat} (n0 : 0 < n) (hk : 256 ≤ n.toNat + k) (s1 : s < 2 ^ 256) (m : Int) (ng : Bool) : floorQ s n < 2 ^ k ∧ cutQ s n false m ng ≤ 2 ^ k := by
  have h : floorQ s n < 2 ^ k := by
    rw [floor_pos n0]
    apply Int.ediv_lt_of_lt_mul (two_pow_pos _)
    rw [← Int.pow_add]
    have := two_pow_le (show 256 ≤ k + n.toNat by omega)
    omega
  refine ⟨h, ?_⟩
  rcases cut_floor s n false m ng with e | e <;> rw [e] <;> omega
theorem cut_ge16 {s n : Int} {k : Nat} (n0 : 0 < n) (hk : n.toNat + k ≤ 255) (s0 : 2 ^ 255 ≤ s) (m : Int) (ng : Bool) : 2 ^ k ≤ floorQ s n ∧ 2 ^ k ≤ cutQ s n false m ng := by
  have h : 2 ^ k ≤ floorQ s n := by
    rw [floor_pos n0, Int.le_ediv_iff_mul_le (two_pow_pos _), ← Int.pow_add]
    have := two_pow_le (show k + n.toNat ≤ 255 by omega)
    omega
  refine ⟨h, ?_⟩
  rcases cut_floor s n false m ng with e | e <;> rw [e] <;> omega
theorem cut_pos16 {s n : Int} (n0 : 0 < n) (s0 : 0 ≤ s) (m : Int) (ng : Bool) : 0 ≤ floorQ s n ∧ 0 ≤ cutQ s n false m ng := by
  have h : 0 ≤ floorQ s n := by rw [floor_pos n0]; exact Int.ediv_nonneg s0 (by have := two_pow_pos n.toNat; omega)
  refine ⟨h, ?_⟩
  rcases cut_floor s n false m ng with e | e <;> rw [e] <;> omega
/-! ### exponents -/
theorem clip_range (x : Int) : -1099511627776 ≤ clipE x ∧ clipE x ≤ 1099511627776 := by
  unfold clipE; repeat' split
  all_goals omega
theorem clip_id {x : Int} (h0 : -1099511627776 ≤ x) (h1 : x ≤ 1099511627776) : clipE x = x := by unfold clipE; rw [if_neg (by omega), if_neg (by omega)]
theorem pkS_range {x : Int} (h0 : 0 < x) (h1 : x < wfull) : 2 ^ 255 ≤ pkS x ∧ pkS x < 2 ^ 256 := up_spec h0 (blen_w (by omega) h1)
theorem pkE_range (exp x : Int) : -1099511628032 ≤ pkE exp x ∧ pkE exp x ≤ 1099511627776 := by
  have := clip_range exp; have := up_le 256 x
  unfold pkE; omega
theorem pkL_cases (f e : Int) : (e < 1 - fE f ∧ pkL f e = 1 - fE f) ∨ (1 - fE f ≤ e ∧ pkL f e = e) := by unfold pkL; split <;> omega
theorem pkA_cases (f m : Int) (ng : Bool) (e s : Int) : (pkA f m ng e s = e ∧ cutQ s (256 - fP f) false m ng ≠ 2 ^ fP f) ∨ (pkA f m ng e s = e + 1 ∧ cutQ s (256 - fP f) false m ng = 2 ^ fP f) := by
  unfold pkA; split
  · rename_i h; exact .inr ⟨rfl, h⟩
  · rename_i h; exact .inl ⟨rfl, h⟩
/-- What is normalized already. -/
theorem up_none {x : Int} (h0 : 2 ^ 255 ≤ x) (h1 : x < 2 ^ 256) : upN 256 x = 0 ∧ pkS x = x := by
  have b : blen x = 256 := blen_of (j := 255) h0 h1
  have hp := two_pow_pos 255
  have u : upN 256 x = 0 := by unfold upN; rw [if_neg (by omega), b]
  exact ⟨u, by unfold pkS; rw [u, Int.pow_zero, Int.mul_one]⟩
/-! ### encodings -/
theorem pt_sub {f : Int} (f0 : 0 ≤ f) (hf : f < 4) (ng : Bool) {n : Int} (n0 : 0 ≤ n) (n1 : n < 2 ^ (fP f - 1)) : ptF f ng (1 - fE f) n = makeF f ng 0 n := by
  unfold ptF makeF
  rw [if_pos hf, expOf_id f0 hf (by decide) (two_pow_pos _), Int.emod_eq_of_lt n0 n1, show (1 - (fE f : Int) + fE f - 1) = 0 by omega]
theorem pt_nor {f : Int} (f0 : 0 ≤ f) (hf : f < 4) (ng : Bool) {l n : Int} (n0 : 2 ^ (fP f - 1) ≤ n) (n1 : n < 2 ^ fP f) (l0 : 1 - fE f ≤ l) (l1 : l ≤ fE f + 1) : ptF f ng l n = makeF f ng (l + fE f) n := by
  obtain ⟨p0, p1, p2, p3, p4, p5, p6, p7, p8⟩ := f_nums f0 hf
  have t := pow_top (show 1 ≤ fP f by omega)
  have e : n % 2 ^ (fP f - 1) = n - 2 ^ (fP f - 1) := by
    rw [show n = (n - 2 ^ (fP f - 1)) + 2 ^ (fP f - 1) by omega, Int.add_emod_right, Int.emod_eq_of_lt (by omega) (by omega)]; omega
  unfold ptF makeF
  rw [if_pos hf, expOf_id f0 hf (by omega) (by omega), e, Int.sub_mul, Int.one_mul]; omega
theorem pt_top {f : Int} (f0 : 0 ≤ f) (hf : f < 4) (ng : Bool) {l : Int} (l0 : 1 - fE f ≤ l) (l1 : l ≤ fE f) : ptF f ng l (2 ^ fP f) = makeF f ng (l + fE f + 1) (2 ^ (fP f - 1)) := by
  obtain ⟨p0, p1, p2, p3, p4, p5, p6, p7, p8⟩ := f_nums f0 hf
  have t := pow_top (show 1 ≤ fP f by omega)
  unfold ptF makeF
  rw [if_pos hf, expOf_id f0 hf (by omega) (by omega), Int.emod_self, t, Int.sub_mul, Int.add_mul (l + fE f), Int.one_mul]; omega
/-- What is rounded, by its places. -/
theorem pkN_bounds {f e s : Int} (f0 : 0 ≤ f) (hf : f < 4) (s0 : 2 ^ 255 ≤ s) (s1 : s < 2 ^ 256) (m : Int) (ng : Bool) :
    0 ≤ pkN f m ng e s ∧ pkN f m ng e s ≤ 2 ^ fP f ∧ (e < 1 - fE f → pkN f m ng e s ≤ 2 ^ (fP f - 1)) ∧ (1 - fE f ≤ e → 2 ^ (fP f - 1) ≤ pkN f m ng e s ∧ pkN f m ng e s = cutQ s (256 - fP f) false m ng) := by
  obtain ⟨p0, p1, p2, p3, p4, p5, p6, p7, p8⟩ := f_nums f0 hf
  have hp := two_pow_pos 255
  have hl := two_pow_le (show fP f - 1 ≤ fP f by omega)
  unfold pkN
  rcases pkL_cases f e with ⟨h, l⟩ | ⟨h, l⟩
  · rw [l]
    have c := (cut_le16 (k := fP f - 1) (n := 256 - fP f + (1 - fE f - e)) (by omega) (by omega) s1 m ng).2
    exact ⟨(cut_pos16 (by omega) (by omega) m ng).2, by omega, fun _ => c, fun z => by omega⟩
  · rw [l, show (256 - (fP f : Int) + (e - e)) = 256 - fP f by omega]
    have c := (cut_le16 (k := fP f) (n := 256 - fP f) (by omega) (by omega) s1 m ng).2
    exact ⟨(cut_pos16 (by omega) (by omega) m ng).2, c, fun z => by omega, fun _ => ⟨(cut_ge16 (k := fP f - 1) (by omega) (by omega) s0 m ng).2, rfl⟩⟩
/-- What does not overflow is a finite number. -/
theorem num_make {f m e s : Int} {ng : Bool} (f0 : 0 ≤ f) (hf : f < 4) (s0 : 2 ^ 255 ≤ s) (s1 : s < 2 ^ 256) (h : ¬ fE f < pkA f m ng e s) :
    ∃ x k, ptF f ng (pkL f e) (pkN f m ng e s) = makeF f ng x k ∧ 0 ≤ x ∧ x ≤ 2 * fE f := by
  obtain ⟨p0, p1, p2, p3, p4, p5, p6, p7, p8⟩ := f_nums f0 hf
  have t := pow_top (show 1 ≤ fP f by omega)
  have hp := two_pow_pos (fP f - 1)
  obtain ⟨b0, b1, b2, b3⟩ := pkN_bounds (e := e) f0 hf s0 s1 m ng
  rcases pkL_cases f e with ⟨h1, l⟩ | ⟨h1, l⟩
  · rw [l]
    have b2 := b2 h1
    by_cases z : pkN f m ng e s < 2 ^ (fP f - 1)
    · exact ⟨0, _, pt_sub f0 hf ng b0 z, by omega, by omega⟩
    · exact ⟨_, _, pt_nor f0 hf ng (by omega) (by omega) (by omega) (by omega), by omega, by omega⟩
  · rw [l]
    obtain ⟨b3, b4⟩ := b3 h1
    rcases pkA_cases f m ng e s with ⟨a, c⟩ | ⟨a, c⟩
    · exact ⟨_, _, pt_nor f0 hf ng b3 (by omega) (by omega) (by omega), by omega, by omega⟩
    · rw [b4, c]
      exact ⟨_, _, pt_top f0 hf ng (by omega) (by omega), by omega, by omega⟩
theorem make_le_max {f x k : Int} (f0 : 0 ≤ f) (hf : f < 4) (x0 : 0 ≤ x) (x1 : x ≤ 2 * fE f) : makeF f false x k ≤ maxF f false := by
  obtain ⟨p0, p1, p2, p3, p4, p5, p6, p7, p8⟩ := f_nums f0 hf
  obtain ⟨q1, q2, _⟩ := make_parts f0 hf false x k
  have m := mul_le_of (c := 2 ^ (fP f - 1)) (by have := two_pow_pos (fP f - 1); omega) x1
  rw [max_val f0 hf]
  unfold makeF
  rw [if_pos hf, expOf_id f0 hf x0 (by omega), if_neg (by decide)]
  omega
theorem max_inf {f : Int} (f0 : 0 ≤ f) (hf : f < 4) (ng : Bool) : infF f ng = maxF f ng + 1 := by
  rw [max_val f0 hf, inf_val f0 hf, Int.add_mul (2 * (fE f : Int)), Int.one_mul]; omega
theorem over_ge {f m : Int} (f0 : 0 ≤ f) (hf : f < 4) (hm : m < 5) : overB f m false = maxF f false ∨ overB f m false = maxF f false + 1 := by
  cases i : infM m false with
  | true => rw [(over_inf ⟨hf, hm⟩ i).1, max_inf f0 hf]; exact .inr rfl
  | false => rw [(over_fin ⟨hf, hm⟩ i).1]; exact .inl rfl

/-! ### order -/
theorem pkA_mono {f m e e' s s' : Int} (f0 : 0 ≤ f) (hf : f < 4) (s1' : s' < 2 ^ 256) (h : e < e' ∨ (e = e' ∧ s ≤ s')) (ng : Bool) : pkA f m ng e s ≤ pkA f m ng e' s' := by
  obtain ⟨p0, p1, p2, p3, p4, p5, p6, p7, p8⟩ := f_nums f0 hf
  rcases pkA_cases f m ng e s with ⟨a, c⟩ | ⟨a, c⟩ <;> rcases pkA_cases f m ng e' s' with ⟨a', c'⟩ | ⟨a', c'⟩ <;> rw [a, a']
  · omega
  · omega
  · rcases h with h | ⟨h, h2⟩
    · omega
    · exfalso
      have := cut_mono (n := 256 - fP f) (by omega) h2 m ng
      have := (cut_le16 (k := fP f) (n := 256 - fP f) (by omega) (by omega) s1' m ng).2
      omega
  · omega
theorem num_mono {f m e e' s s' : Int} (f0 : 0 ≤ f) (hf : f < 4) (hm : m < 5) (s0 : 2 ^ 255 ≤ s) (s1 : s < 2 ^ 256) (s0' : 2 ^ 255 ≤ s') (s1' : s' < 2 ^ 256) (h : e < e' ∨ (e = e' ∧ s ≤ s')) : numB f m false e s ≤ numB f m false e' s' := by
  have a := pkA_mono (m := m) f0 hf s1' h false
  obtain ⟨p0, p1, p2, p3, p4, p5, p6, p7, p8⟩ := f_nums f0 hf
  unfold numB
  by_cases o : fE f < pkA f m false e' s'
  · rw [if_pos o]
    by_cases o2 : fE f < pkA f m false e s
    · rw [if_pos o2]; exact Int.le_refl _
    · rw [if_neg o2]
      obtain ⟨x, k, e1, x0, x1⟩ := num_make f0 hf s0 s1 o2
      rw [e1]
      have := make_le_max (k := k) f0 hf x0 x1
      rcases over_ge (m := m) f0 hf hm with z | z <;> rw [z] <;> omega
  · rw [if_neg o, if_neg (by omega)]
    unfold ptF
    have t := pow_top (show 1 ≤ fP f by omega)
    have hp := two_pow_pos (fP f - 1)
    obtain ⟨b0, b1, b2, b3⟩ := pkN_bounds (e := e) f0 hf s0 s1 m false
    obtain ⟨b0', b1', b2', b3'⟩ := pkN_bounds (e := e') f0 hf s0' s1' m false
    by_cases l : pkL f e = pkL f e'
    · have n : pkN f m false e s ≤ pkN f m false e' s' := by
        obtain ⟨k, hk⟩ : ∃ k : Nat, e' - e = k := ⟨(e' - e).toNat, by omega⟩
        unfold pkN
        rw [← scale_cut s' k, show (256 - (fP f : Int) + (pkL f e' - e') + k) = 256 - fP f + (pkL f e - e) by omega]
        apply cut_mono
        · rcases pkL_cases f e with ⟨z, y⟩ | ⟨z, y⟩ <;> omega
        · rcases h with h | ⟨h, h2⟩
          · have q := Int.mul_le_mul_of_nonneg_left (two_pow_le (show 1 ≤ k by omega)) (show 0 ≤ s' by have := two_pow_pos 255; omega)
            have : (2 : Int) ^ 256 = 2 ^ 255 * 2 ^ 1 := by decide +kernel
            have := Int.mul_le_mul_of_nonneg_right s0' (show (0 : Int) ≤ 2 ^ 1 by decide)
            omega
          · obtain rfl : k = 0 := by omega
            rw [Int.pow_zero, Int.mul_one]; exact h2
      rw [l]; omega
    · have c : 1 - fE f ≤ e' := by
        rcases pkL_cases f e' with ⟨z, y⟩ | ⟨z, y⟩
        · rcases pkL_cases f e with ⟨z2, y2⟩ | ⟨z2, y2⟩ <;> omega
        · exact z
      have lt : pkL f e + 1 ≤ pkL f e' := by
        rcases pkL_cases f e' with ⟨z, y⟩ | ⟨z, y⟩ <;> rcases pkL_cases f e with ⟨z2, y2⟩ | ⟨z2, y2⟩ <;> omega
      have b3' := (b3' c).1
      have q := mul_le_of (c := 2 ^ (fP f - 1)) (by omega) (show (pkL f e + fE f - 1) + 1 ≤ pkL f e' + fE f - 1 by omega)
      rw [Int.add_mul, Int.one_mul] at q
      omega

end Go.Proofs.YtjnohbpebdnngaaGreatDoor
