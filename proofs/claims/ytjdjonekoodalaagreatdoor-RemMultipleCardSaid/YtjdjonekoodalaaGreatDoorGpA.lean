import Derived.Test.YtjdjonekoodalaaGreatDoorGoA
import Derived.Test.YtjdjonekoodalaaGreatDoorGrA
import Derived.Test.YtjdjonekoodalaaGreatDoorGdA
set_option linter.unusedVariables false
set_option linter.unusedSimpArgs false
set_option maxRecDepth 100000
namespace Go.Proofs.YtjdjonekoodalaaGreatDoor
open Go.RowKit
attribute [local go_sem ↓] Go.wp_at_zero Go.wp_at_succ
def clipE (x : Int) : Int := if x < -1099511627776 then -1099511627776 else if 1099511627776 < x then 1099511627776 else x
def pkE (exp x : Int) : Int := clipE exp - upN 256 x
def pkS (x : Int) : Int := x * 2 ^ upN 256 x
def pkL (f e : Int) : Int := if e < 1 - fE f then 1 - fE f else e
def pkA (f m : Int) (ng : Bool) (e s : Int) : Int := if cutQ s (256 - fP f) false m ng = 2 ^ fP f then e + 1 else e
def pkN (f m : Int) (ng : Bool) (e s : Int) : Int := cutQ s (256 - fP f + (pkL f e - e)) false m ng
def pkR (f e s : Int) : Int := restQ s (256 - fP f + (pkL f e - e)) false
def ptF (f : Int) (ng : Bool) (l n : Int) : Int := (l + fE f - 1) * 2 ^ (fP f - 1) + n + (if ng then 2 ^ (fW f - 1) else 0)
def numB (f m : Int) (ng : Bool) (e s : Int) : Int := if fE f < pkA f m ng e s then overB f m ng else ptF f ng (pkL f e) (pkN f m ng e s)
def numFl (f m : Int) (t ng : Bool) (e s : Int) : Int := if fE f < pkA f m ng e s then overFl f m else if pkR f e s = 0 then 0 else if (if t then pkA f m ng e s else e) < 1 - fE f then 24 else 16
def pkB (f m : Int) (ng : Bool) (exp x : Int) : Int := if f < 4 ∧ m < 5 then (if x = 0 then makeF f ng 0 0 else numB f m ng (pkE exp x) (pkS x)) else 0
def pkFl (f m : Int) (t ng : Bool) (exp x : Int) : Int := if (f < 4 ∧ m < 5) ∧ x ≠ 0 then numFl f m t ng (pkE exp x) (pkS x) else 0
def pkX (f : Int) (ng : Bool) (exp x : Int) : Bool := decide (f < 4) && (pkFl f 4 false ng exp x == 0)
structure PackOK : Prop where
  round : ∀ f m t ng exp x, 0 ≤ f → f ≤ 255 → 0 ≤ m → m ≤ 255 → -9223372036854775808 ≤ exp → exp ≤ 9223372036854775807 → 0 ≤ x → x < wfull → ∀ w, FTab w → Calls Tryz.prog 53 #[.int .u8 f, .agg #[.int .u8 m, .bool t], .bool ng, .int .i64 exp, .agg #[.int .u64 (wd0 (x)), .int .u64 (wd1 (x)), .int .u64 (wd2 (x)), .int .u64 (wd3 (x))]] w fun e w' => e = .returned (.agg #[.int .u64 (hiOf (pkB f m ng exp x)), .int .u64 (loOf (pkB f m ng exp x)), .int .u8 (pkFl f m t ng exp x)]) ∧ Below w.heap.size w w'
  exact_ : ∀ f ng exp x, 0 ≤ f → f ≤ 255 → -9223372036854775808 ≤ exp → exp ≤ 9223372036854775807 → 0 ≤ x → x < wfull → ∀ w, FTab w → Calls Tryz.prog 89 #[.int .u8 f, .bool ng, .int .i64 exp, .agg #[.int .u64 (wd0 (x)), .int .u64 (wd1 (x)), .int .u64 (wd2 (x)), .int .u64 (wd3 (x))]] w fun e w' => e = .returned (.tuple #[.agg #[.int .u64 (hiOf (if pkX f ng exp x then pkB f 4 ng exp x else 0)), .int .u64 (loOf (if pkX f ng exp x then pkB f 4 ng exp x else 0))], .bool (pkX f ng exp x)]) ∧ Below w.heap.size w w'
theorem scale_floor (x : Int) (k : Nat) (n : Int) : floorQ (x * 2 ^ k) (n + k) = floorQ x n := by
  unfold floorQ
  by_cases h : n + k ≤ 0
  · rw [if_pos h, if_pos (by omega), Int.mul_assoc, ← Int.pow_add]
    congr 2; omega
  · rw [if_neg h]
    by_cases h2 : n ≤ 0
    · rw [if_pos h2, show k = (-n).toNat + (n + k).toNat by omega, Int.pow_add, ← Int.mul_assoc, show (n + ((-n).toNat + (n + k).toNat : Nat)).toNat = (n + k).toNat by omega, mul_pow_div]
    · rw [if_neg h2, show (n + k).toNat = k + n.toNat by omega, ← jam_div, mul_pow_div]
theorem scale_rest (x : Int) (k : Nat) (n : Int) : restQ (x * 2 ^ k) (n + k) false = restQ x n false := by
  by_cases h2 : n ≤ 0
  · have r : restQ x n false = 0 := by unfold restQ; rw [if_pos h2]; rfl
    rw [r]
    by_cases h : n + k ≤ 0
    · unfold restQ; rw [if_pos h]; rfl
    · rw [rest_zero (by omega), show k = (-n).toNat + (n + k).toNat by omega, Int.pow_add, ← Int.mul_assoc, show (n + ((-n).toNat + (n + k).toNat : Nat)).toNat = (n + k).toNat by omega]
      exact Int.mul_emod_left ..
  · obtain ⟨j, rfl⟩ : ∃ j : Nat, n = (j : Int) + 1 := ⟨(n - 1).toNat, by omega⟩
    have a := rest_of (x * 2 ^ k) (k + j)
    have b := rest_of x j
    rw [← jam_div, mul_pow_div] at a
    have e : (x * 2 ^ k % 2 ^ (k + j) != 0) = (x % 2 ^ j != 0) := by
      rw [Bool.eq_iff_iff]; simp only [bne_iff_ne, ne_eq, lost_split, mul_pow_div, Int.mul_emod_left, true_and]
    rw [e, ← b] at a
    rw [show ((j : Int) + 1 + k) = ((k + j : Nat) : Int) + 1 by omega]
    exact a
theorem scale_cut (x : Int) (k : Nat) (n m : Int) (ng : Bool) : cutQ (x * 2 ^ k) (n + k) false m ng = cutQ x n false m ng := by unfold cutQ; rw [scale_floor, scale_rest]
theorem jam_cut16 (x : Int) {n : Int} (d : Nat) (hn : 2 ≤ n) (m : Int) (ng : Bool) : cutQ (jamN x d) n false m ng = cutQ x (n + d) false m ng ∧ restQ (jamN x d) n false = restQ x (n + d) false := by
  obtain ⟨j, hj⟩ : ∃ j : Nat, n = (j : Int) + 1 := ⟨(n - 1).toNat, by omega⟩
  have a1 := rest_of (jamN x d) j
  have a2 := rest_of x (j + d)
  rw [jam_div15 x _ _ (by omega)] at a1
  have e : (jamN x d % 2 ^ j != 0) = (x % 2 ^ (j + d) != 0) := by
    rw [Bool.eq_iff_iff]; simp only [bne_iff_ne, ne_eq, jam_mod15 x d j (by omega)]
  rw [e, ← a2] at a1
  rw [← hj, show ((j + d : Nat) : Int) + 1 = n + d by omega] at a1
  have f : floorQ (jamN x d) n = floorQ x (n + d) := by
    rw [floor_pos (by omega), floor_pos (by omega), jam_div15 x _ _ (by omega)]
    congr 2; omega
  unfold cutQ
  rw [f, a1]
  exact ⟨rfl, rfl⟩
theorem cut_none {s n : Int} (h : restQ s n false = 0) (m : Int) (ng : Bool) : cutQ s n false m ng = floorQ s n := by unfold cutQ; rw [h, next_none, if_neg (by decide)]
theorem cut_le16 {s n : Int} {k : Nat} (n0 : 0 < n) (hk : 256 ≤ n.toNat + k) (s1 : s < 2 ^ 256) (m : Int) (ng : Bool) : floorQ s n < 2 ^ k ∧ cutQ s n false m ng ≤ 2 ^ k := by
  have h : floorQ s n < 2 ^ k := by
    rw [floor_pos n0]
    apply Int.ediv_lt_of_lt_mul (two_pow_pos _)
    rw [← Int.pow_add]
    have := two_pow_le (show 256 ≤ k + n.toNat by omega)
    omega
  refine ⟨h, ?_⟩
  rcases cut_floor s n false m ng with e | e <;> rw [e] <;> omega
theorem cut_ge16 {s n : Int} {k : Nat} (n0 : 0 < n) (hk : n.toNat + k ≤ 255) (s0 : 2 ^ 255 ≤ s) (m : Int) (ng : Bool) : 2 ^ k ≤ floorQ s n ∧ 2 ^ k ≤ cutQ s n false m ng := by
  have h : 2 ^ k ≤ floorQ s n := by
    rw [floor_pos n0, Int.le_ediv_iff_mul_le (two_pow_pos _), ← Int.pow_add]
    have := two_pow_le (show k + n.toNat ≤ 255 by omega)
    omega
  refine ⟨h, ?_⟩
  rcases cut_floor s n false m ng with e | e <;> rw [e] <;> omega
theorem cut_pos16 {s n : Int} (n0 : 0 < n) (s0 : 0 ≤ s) (m : Int) (ng : Bool) : 0 ≤ floorQ s n ∧ 0 ≤ cutQ s n false m ng := by
  have h : 0 ≤ floorQ s n := by rw [floor_pos n0]; exact Int.ediv_nonneg s0 (by have := two_pow_pos n.toNat; omega)
  refine ⟨h, ?_⟩
  rcases cut_floor s n false m ng with e | e <;> rw [e] <;> omega
theorem clip_range (x : Int) : -1099511627776 ≤ clipE x ∧ clipE x ≤ 1099511627776 := by
  unfold clipE; repeat' split
  all_goals omega
theorem clip_id {x : Int} (h0 : -1099511627776 ≤ x) (h1 : x ≤ 1099511627776) : clipE x = x := by unfold clipE; rw [if_neg (by omega), if_neg (by omega)]
theorem pkS_range {x : Int} (h0 : 0 < x) (h1 : x < wfull) : 2 ^ 255 ≤ pkS x ∧ pkS x < 2 ^ 256 := up_spec h0 (blen_w (by omega) h1)
theorem pkE_range (exp x : Int) : -1099511628032 ≤ pkE exp x ∧ pkE exp x ≤ 1099511627776 := by
  have := clip_range exp; have := up_le 256 x
  unfold pkE; omega
theorem pkL_cases (f e : Int) : (e < 1 - fE f ∧ pkL f e = 1 - fE f) ∨ (1 - fE f ≤ e ∧ pkL f e = e) := by unfold pkL; split <;> omega
theorem pkA_cases (f m : Int) (ng : Bool) (e s : Int) : (pkA f m ng e s = e ∧ cutQ s (256 - fP f) false m ng ≠ 2 ^ fP f) ∨ (pkA f m ng e s = e + 1 ∧ cutQ s (256 - fP f) false m ng = 2 ^ fP f) := by
  unfold pkA; split
  · rename_i h; exact .inr ⟨rfl, h⟩
  · rename_i h; exact .inl ⟨rfl, h⟩
theorem up_none {x : Int} (h0 : 2 ^ 255 ≤ x) (h1 : x < 2 ^ 256) : upN 256 x = 0 ∧ pkS x = x := by
  have b : blen x = 256 := blen_of (j := 255) h0 h1
  have hp := two_pow_pos 255
  have u : upN 256 x = 0 := by unfold upN; rw [if_neg (by omega), b]
  exact ⟨u, by unfold pkS; rw [u, Int.pow_zero, Int.mul_one]⟩
theorem pt_sub {f : Int} (f0 : 0 ≤ f) (hf : f < 4) (ng : Bool) {n : Int} (n0 : 0 ≤ n) (n1 : n < 2 ^ (fP f - 1)) : ptF f ng (1 - fE f) n = makeF f ng 0 n := by
  unfold ptF makeF
  rw [if_pos hf, expOf_id f0 hf (by decide) (two_pow_pos _), Int.emod_eq_of_lt n0 n1, show (1 - (fE f : Int) + fE f - 1) = 0 by omega]
theorem pt_nor {f : Int} (f0 : 0 ≤ f) (hf : f < 4) (ng : Bool) {l n : Int} (n0 : 2 ^ (fP f - 1) ≤ n) (n1 : n < 2 ^ fP f) (l0 : 1 - fE f ≤ l) (l1 : l ≤ fE f + 1) : ptF f ng l n = makeF f ng (l + fE f) n := by
  obtain ⟨p0, p1, p2, p3, p4, p5, p6, p7, p8⟩ := f_nums f0 hf
  have t := pow_top (show 1 ≤ fP f by omega)
  have e : n % 2 ^ (fP f - 1) = n - 2 ^ (fP f - 1) := by
    rw [show n = (n - 2 ^ (fP f - 1)) + 2 ^ (fP f - 1) by omega, Int.add_emod_right, Int.emod_eq_of_lt (by omega) (by omega)]; omega
  unfold ptF makeF
  rw [if_pos hf, expOf_id f0 hf (by omega) (by omega), e, Int.sub_mul, Int.one_mul]; omega
theorem pt_top {f : Int} (f0 : 0 ≤ f) (hf : f < 4) (ng : Bool) {l : Int} (l0 : 1 - fE f ≤ l) (l1 : l ≤ fE f) : ptF f ng l (2 ^ fP f) = makeF f ng (l + fE f + 1) (2 ^ (fP f - 1)) := by
  obtain ⟨p0, p1, p2, p3, p4, p5, p6, p7, p8⟩ := f_nums f0 hf
  have t := pow_top (show 1 ≤ fP f by omega)
  unfold ptF makeF
  rw [if_pos hf, expOf_id f0 hf (by omega) (by omega), Int.emod_self, t, Int.sub_mul, Int.add_mul (l + fE f), Int.one_mul]; omega
theorem pkN_bounds {f e s : Int} (f0 : 0 ≤ f) (hf : f < 4) (s0 : 2 ^ 255 ≤ s) (s1 : s < 2 ^ 256) (m : Int) (ng : Bool) :
    0 ≤ pkN f m ng e s ∧ pkN f m ng e s ≤ 2 ^ fP f ∧ (e < 1 - fE f → pkN f m ng e s ≤ 2 ^ (fP f - 1)) ∧ (1 - fE f ≤ e → 2 ^ (fP f - 1) ≤ pkN f m ng e s ∧ pkN f m ng e s = cutQ s (256 - fP f) false m ng) := by
  obtain ⟨p0, p1, p2, p3, p4, p5, p6, p7, p8⟩ := f_nums f0 hf
  have hp := two_pow_pos 255
  have hl := two_pow_le (show fP f - 1 ≤ fP f by omega)
  unfold pkN
  rcases pkL_cases f e with ⟨h, l⟩ | ⟨h, l⟩
  · rw [l]
    have c := (cut_le16 (k := fP f - 1) (n := 256 - fP f + (1 - fE f - e)) (by omega) (by omega) s1 m ng).2
    exact ⟨(cut_pos16 (by omega) (by omega) m ng).2, by omega, fun _ => c, fun z => by omega⟩
  · rw [l, show (256 - (fP f : Int) + (e - e)) = 256 - fP f by omega]
    have c := (cut_le16 (k := fP f) (n := 256 - fP f) (by omega) (by omega) s1 m ng).2
    exact ⟨(cut_pos16 (by omega) (by omega) m ng).2, c, fun z => by omega, fun _ => ⟨(cut_ge16 (k := fP f - 1) (by omega) (by omega) s0 m ng).2, rfl⟩⟩
theorem num_make {f m e s : Int} {ng : Bool} (f0 : 0 ≤ f) (hf : f < 4) (s0 : 2 ^ 255 ≤ s) (s1 : s < 2 ^ 256) (h : ¬ fE f < pkA f m ng e s) :
    ∃ x k, ptF f ng (pkL f e) (pkN f m ng e s) = makeF f ng x k ∧ 0 ≤ x ∧ x ≤ 2 * fE f := by
  obtain ⟨p0, p1, p2, p3, p4, p5, p6, p7, p8⟩ := f_nums f0 hf
  have t := pow_top (show 1 ≤ fP f by omega)
  have hp := two_pow_pos (fP f - 1)
  obtain ⟨b0, b1, b2, b3⟩ := pkN_bounds (e := e) f0 hf s0 s1 m ng
  rcases pkL_cases f e with ⟨h1, l⟩ | ⟨h1, l⟩
  · rw [l]
    have b2 := b2 h1
    by_cases z : pkN f m ng e s < 2 ^ (fP f - 1)
    · exact ⟨0, _, pt_sub f0 hf ng b0 z, by omega, by omega⟩
    · exact ⟨_, _, pt_nor f0 hf ng (by omega) (by omega) (by omega) (by omega), by omega, by omega⟩
  · rw [l]
    obtain ⟨b3, b4⟩ := b3 h1
    rcases pkA_cases f m ng e s with ⟨a, c⟩ | ⟨a, c⟩
    · exact ⟨_, _, pt_nor f0 hf ng b3 (by omega) (by omega) (by omega), by omega, by omega⟩
    · rw [b4, c]
      exact ⟨_, _, pt_top f0 hf ng (by omega) (by omega), by omega, by omega⟩
theorem make_le_max {f x k : Int} (f0 : 0 ≤ f) (hf : f < 4) (x0 : 0 ≤ x) (x1 : x ≤ 2 * fE f) : makeF f false x k ≤ maxF f false := by
  obtain ⟨p0, p1, p2, p3, p4, p5, p6, p7, p8⟩ := f_nums f0 hf
  obtain ⟨q1, q2, _⟩ := make_parts f0 hf false x k
  have m := mul_le_of (c := 2 ^ (fP f - 1)) (by have := two_pow_pos (fP f - 1); omega) x1
  rw [max_val f0 hf]
  unfold makeF
  rw [if_pos hf, expOf_id f0 hf x0 (by omega), if_neg (by decide)]
  omega
theorem max_inf {f : Int} (f0 : 0 ≤ f) (hf : f < 4) (ng : Bool) : infF f ng = maxF f ng + 1 := by
  rw [max_val f0 hf, inf_val f0 hf, Int.add_mul (2 * (fE f : Int)), Int.one_mul]; omega
theorem over_ge {f m : Int} (f0 : 0 ≤ f) (hf : f < 4) (hm : m < 5) : overB f m false = maxF f false ∨ overB f m false = maxF f false + 1 := by
  cases i : infM m false with
  | true => rw [(over_inf ⟨hf, hm⟩ i).1, max_inf f0 hf]; exact .inr rfl
  | false => rw [(over_fin ⟨hf, hm⟩ i).1]; exact .inl rfl
theorem pkA_mono {f m e e' s s' : Int} (f0 : 0 ≤ f) (hf : f < 4) (s1' : s' < 2 ^ 256) (h : e < e' ∨ (e = e' ∧ s ≤ s')) (ng : Bool) : pkA f m ng e s ≤ pkA f m ng e' s' := by
  obtain ⟨p0, p1, p2, p3, p4, p5, p6, p7, p8⟩ := f_nums f0 hf
  rcases pkA_cases f m ng e s with ⟨a, c⟩ | ⟨a, c⟩ <;> rcases pkA_cases f m ng e' s' with ⟨a', c'⟩ | ⟨a', c'⟩ <;> rw [a, a']
  · omega
  · omega
  · rcases h with h | ⟨h, h2⟩
    · omega
    · exfalso
      have := cut_mono (n := 256 - fP f) (by omega) h2 m ng
      have := (cut_le16 (k := fP f) (n := 256 - fP f) (by omega) (by omega) s1' m ng).2
      omega
  · omega
theorem num_mono {f m e e' s s' : Int} (f0 : 0 ≤ f) (hf : f < 4) (hm : m < 5) (s0 : 2 ^ 255 ≤ s) (s1 : s < 2 ^ 256) (s0' : 2 ^ 255 ≤ s') (s1' : s' < 2 ^ 256) (h : e < e' ∨ (e = e' ∧ s ≤ s')) : numB f m false e s ≤ numB f m false e' s' := by
  have a := pkA_mono (m := m) f0 hf s1' h false
  obtain ⟨p0, p1, p2, p3, p4, p5, p6, p7, p8⟩ := f_nums f0 hf
  unfold numB
  by_cases o : fE f < pkA f m false e' s'
  · rw [if_pos o]
    by_cases o2 : fE f < pkA f m false e s
    · rw [if_pos o2]; exact Int.le_refl _
    · rw [if_neg o2]
      obtain ⟨x, k, e1, x0, x1⟩ := num_make f0 hf s0 s1 o2
      rw [e1]
      have := make_le_max (k := k) f0 hf x0 x1
      rcases over_ge (m := m) f0 hf hm with z | z <;> rw [z] <;> omega
  · rw [if_neg o, if_neg (by omega)]
    unfold ptF
    have t := pow_top (show 1 ≤ fP f by omega)
    have hp := two_pow_pos (fP f - 1)
    obtain ⟨b0, b1, b2, b3⟩ := pkN_bounds (e := e) f0 hf s0 s1 m false
    obtain ⟨b0', b1', b2', b3'⟩ := pkN_bounds (e := e') f0 hf s0' s1' m false
    by_cases l : pkL f e = pkL f e'
    · have n : pkN f m false e s ≤ pkN f m false e' s' := by
        obtain ⟨k, hk⟩ : ∃ k : Nat, e' - e = k := ⟨(e' - e).toNat, by omega⟩
        unfold pkN
        rw [← scale_cut s' k, show (256 - (fP f : Int) + (pkL f e' - e') + k) = 256 - fP f + (pkL f e - e) by omega]
        apply cut_mono
        · rcases pkL_cases f e with ⟨z, y⟩ | ⟨z, y⟩ <;> omega
        · rcases h with h | ⟨h, h2⟩
          · have q := Int.mul_le_mul_of_nonneg_left (two_pow_le (show 1 ≤ k by omega)) (show 0 ≤ s' by have := two_pow_pos 255; omega)
            have : (2 : Int) ^ 256 = 2 ^ 255 * 2 ^ 1 := by decide +kernel
            have := Int.mul_le_mul_of_nonneg_right s0' (show (0 : Int) ≤ 2 ^ 1 by decide)
            omega
          · obtain rfl : k = 0 := by omega
            rw [Int.pow_zero, Int.mul_one]; exact h2
      rw [l]; omega
    · have c : 1 - fE f ≤ e' := by
        rcases pkL_cases f e' with ⟨z, y⟩ | ⟨z, y⟩
        · rcases pkL_cases f e with ⟨z2, y2⟩ | ⟨z2, y2⟩ <;> omega
        · exact z
      have lt : pkL f e + 1 ≤ pkL f e' := by
        rcases pkL_cases f e' with ⟨z, y⟩ | ⟨z, y⟩ <;> rcases pkL_cases f e with ⟨z2, y2⟩ | ⟨z2, y2⟩ <;> omega
      have b3' := (b3' c).1
      have q := mul_le_of (c := 2 ^ (fP f - 1)) (by omega) (show (pkL f e + fE f - 1) + 1 ≤ pkL f e' + fE f - 1 by omega)
      rw [Int.add_mul, Int.one_mul] at q
      omega
end Go.Proofs.YtjdjonekoodalaaGreatDoor
namespace Go.Proofs.YtjdjonekoodalaaGreatDoor
open Go.RowKit
def dcE (q E : Int) : Int := blen q - 1 + E
def dcA (f m : Int) (ng : Bool) (q E : Int) (more : Bool) : Int := blen (cutQ q (blen q - fP f) more m ng) - fP f + dcE q E
def dcU (f q E : Int) : Int := pkL f (dcE q E) - dcE q E + (blen q - fP f)
def dcB (f m : Int) (ng : Bool) (q E : Int) (more : Bool) : Int :=
  if f < 4 ∧ m < 5 then (if q = 0 ∧ more = false then makeF f ng 0 0 else if fE f < dcA f m ng q E more then overB f m ng else ptF f ng (pkL f (dcE q E)) (cutQ q (dcU f q E) more m ng)) else 0
def dcFl (f m : Int) (t ng : Bool) (q E : Int) (more : Bool) : Int :=
  if (f < 4 ∧ m < 5) ∧ ¬ (q = 0 ∧ more = false) then (if fE f < dcA f m ng q E more then overFl f m else if restQ q (dcU f q E) more = 0 then 0 else if (if t then dcA f m ng q E more else dcE q E) < 1 - fE f then 24 else 16) else 0
theorem floor_lt_gen {q n : Int} {b k : Nat} (q0 : 0 ≤ q) (h : q < 2 ^ b) (hk : (b : Int) ≤ n + k) : floorQ q n < 2 ^ k := by
  unfold floorQ
  split
  · have h1 := Int.mul_lt_mul_of_pos_right h (two_pow_pos (-n).toNat)
    rw [← Int.pow_add] at h1
    have h2 := two_pow_le (show b + (-n).toNat ≤ k by omega)
    omega
  · apply Int.ediv_lt_of_lt_mul (two_pow_pos _)
    rw [← Int.pow_add]
    have := two_pow_le (show b ≤ k + n.toNat by omega)
    omega
theorem floor_ge_gen {q n : Int} {b k : Nat} (h : 2 ^ b ≤ q) (hk : n + k ≤ b) : 2 ^ k ≤ floorQ q n := by
  unfold floorQ
  split
  · have h1 := Int.mul_le_mul_of_nonneg_right h (show (0 : Int) ≤ 2 ^ (-n).toNat by have := two_pow_pos (-n).toNat; omega)
    rw [← Int.pow_add] at h1
    have h2 := two_pow_le (show k ≤ b + (-n).toNat by omega)
    omega
  · rw [Int.le_ediv_iff_mul_le (two_pow_pos _), ← Int.pow_add]
    have := two_pow_le (show k + n.toNat ≤ b by omega)
    omega
theorem floor_nn {q : Int} (q0 : 0 ≤ q) (n : Int) : 0 ≤ floorQ q n := by
  unfold floorQ; split
  · exact Int.mul_nonneg q0 (by have := two_pow_pos (-n).toNat; omega)
  · exact Int.ediv_nonneg q0 (by have := two_pow_pos n.toNat; omega)
theorem cut_lt_gen {q n : Int} {b k : Nat} (q0 : 0 ≤ q) (h : q < 2 ^ b) (hk : (b : Int) ≤ n + k) (more : Bool) (m : Int) (ng : Bool) : cutQ q n more m ng ≤ 2 ^ k := by
  have := floor_lt_gen q0 h hk
  rcases cut_floor q n more m ng with e | e <;> rw [e] <;> omega
theorem cut_ge_gen {q n : Int} {b k : Nat} (h : 2 ^ b ≤ q) (hk : n + k ≤ b) (more : Bool) (m : Int) (ng : Bool) : 2 ^ k ≤ cutQ q n more m ng := by
  have := floor_ge_gen h hk
  rcases cut_floor q n more m ng with e | e <;> rw [e] <;> omega
theorem cut_nn {q : Int} (q0 : 0 ≤ q) (n : Int) (more : Bool) (m : Int) (ng : Bool) : 0 ≤ cutQ q n more m ng := by
  have := floor_nn q0 n
  rcases cut_floor q n more m ng with e | e <;> rw [e] <;> omega
theorem blen_two {n : Int} {p : Nat} (hp : 1 ≤ p) (h0 : 2 ^ (p - 1) ≤ n) (h1 : n ≤ 2 ^ p) : (blen n = p ∧ n ≠ 2 ^ p) ∨ (blen n = p + 1 ∧ n = 2 ^ p) := by
  by_cases h : n = 2 ^ p
  · right
    exact ⟨blen_of (by omega) (by rw [h, Int.pow_succ]; have := two_pow_pos p; omega), h⟩
  · left
    refine ⟨?_, h⟩
    have := blen_of (n := n) (j := p - 1) h0 (by rw [show p - 1 + 1 = p by omega]; omega)
    omega
theorem dcA_cases {f q : Int} (f0 : 0 ≤ f) (hf : f < 4) (q0 : 0 < q) (m : Int) (ng : Bool) (E : Int) (more : Bool) :
    2 ^ (fP f - 1) ≤ cutQ q (blen q - fP f) more m ng ∧ cutQ q (blen q - fP f) more m ng ≤ 2 ^ fP f ∧
    ((dcA f m ng q E more = dcE q E ∧ blen (cutQ q (blen q - fP f) more m ng) = fP f ∧ cutQ q (blen q - fP f) more m ng ≠ 2 ^ fP f) ∨ (dcA f m ng q E more = dcE q E + 1 ∧ blen (cutQ q (blen q - fP f) more m ng) = fP f + 1 ∧ cutQ q (blen q - fP f) more m ng = 2 ^ fP f)) := by
  obtain ⟨p0, p1, p2, p3, p4, p5, p6, p7, p8⟩ := f_nums f0 hf
  have lb := blen_pos q0
  have c0 := cut_ge_gen (k := fP f - 1) (n := blen q - fP f) (blen_low q0) (by omega) more m ng
  have c1 := cut_lt_gen (k := fP f) (n := blen q - fP f) (by omega) (lt_blen q (by omega)) (by omega) more m ng
  refine ⟨c0, c1, ?_⟩
  unfold dcA
  rcases blen_two (by omega) c0 c1 with ⟨l, h⟩ | ⟨l, h⟩ <;> rw [l]
  · exact .inl ⟨by omega, rfl, h⟩
  · exact .inr ⟨by omega, rfl, h⟩
theorem dcN_bounds {f q : Int} (f0 : 0 ≤ f) (hf : f < 4) (q0 : 0 < q) (m : Int) (ng : Bool) (E : Int) (more : Bool) :
    0 ≤ cutQ q (dcU f q E) more m ng ∧ cutQ q (dcU f q E) more m ng ≤ 2 ^ fP f ∧ (dcE q E < 1 - fE f → cutQ q (dcU f q E) more m ng ≤ 2 ^ (fP f - 1)) ∧ (1 - fE f ≤ dcE q E → 2 ^ (fP f - 1) ≤ cutQ q (dcU f q E) more m ng ∧ dcU f q E = blen q - fP f) := by
  obtain ⟨p0, p1, p2, p3, p4, p5, p6, p7, p8⟩ := f_nums f0 hf
  have lb := blen_pos q0
  have hl := two_pow_le (show fP f - 1 ≤ fP f by omega)
  unfold dcU
  rcases pkL_cases f (dcE q E) with ⟨h, l⟩ | ⟨h, l⟩
  · rw [l]
    have c := cut_lt_gen (k := fP f - 1) (n := 1 - fE f - dcE q E + (blen q - fP f)) (by omega) (lt_blen q (by omega)) (by omega) more m ng
    exact ⟨cut_nn (by omega) _ more m ng, by omega, fun _ => c, fun z => by omega⟩
  · rw [l, show (dcE q E - dcE q E + ((blen q : Int) - fP f)) = blen q - fP f by omega]
    obtain ⟨c0, c1, _⟩ := dcA_cases f0 hf q0 m ng E more
    exact ⟨cut_nn (by omega) _ more m ng, c1, fun z => by omega, fun _ => ⟨c0, rfl⟩⟩
theorem dc_pk {f m exp x : Int} {ng : Bool} (f0 : 0 ≤ f) (x0 : 0 ≤ x) (x1 : x < wfull) : dcB f m ng x (clipE exp - 255) false = pkB f m ng exp x ∧ ∀ t, dcFl f m t ng x (clipE exp - 255) false = pkFl f m t ng exp x := by
  unfold dcB dcFl pkB pkFl
  by_cases hf : f < 4 ∧ m < 5
  · rw [if_pos hf, if_pos hf]
    by_cases z : x = 0
    · rw [if_pos ⟨z, rfl⟩, if_pos z]
      refine ⟨rfl, fun t => ?_⟩
      rw [if_neg (fun h => h.2 ⟨z, rfl⟩), if_neg (fun h => h.2 z)]
    · rw [if_neg (fun h => z h.1), if_neg z]
      have lb := blen_w x0 x1
      have hb := blen_pos (show 0 < x by omega)
      have ux : upN 256 x = 256 - blen x := by unfold upN; rw [if_neg z]
      have e : dcE x (clipE exp - 255) = pkE exp x := by unfold dcE pkE; rw [ux]; omega
      have cf : cutQ x (blen x - fP f) false m ng = cutQ (pkS x) (256 - fP f) false m ng := by
        unfold pkS; rw [← scale_cut x (upN 256 x), ux]; congr 1; omega
      have cu : dcU f x (clipE exp - 255) = 256 - fP f + (pkL f (pkE exp x) - pkE exp x) - upN 256 x := by unfold dcU; rw [e, ux]; omega
      have cn : cutQ x (dcU f x (clipE exp - 255)) false m ng = pkN f m ng (pkE exp x) (pkS x) := by
        unfold pkN pkS; rw [← scale_cut x (upN 256 x), cu]; congr 1; omega
      have cr : restQ x (dcU f x (clipE exp - 255)) false = pkR f (pkE exp x) (pkS x) := by
        unfold pkR pkS; rw [← scale_rest x (upN 256 x), cu]; congr 1; omega
      have a : dcA f m ng x (clipE exp - 255) false = pkA f m ng (pkE exp x) (pkS x) := by
        obtain ⟨_, _, c⟩ := dcA_cases f0 hf.1 (show 0 < x by omega) m ng (clipE exp - 255) false
        rw [cf, e] at c
        rcases c with ⟨c, _, d⟩ | ⟨c, _, d⟩ <;> rcases pkA_cases f m ng (pkE exp x) (pkS x) with ⟨c', d'⟩ | ⟨c', d'⟩
        · rw [c, c']
        · exact absurd d' d
        · exact absurd d d'
        · rw [c, c']
      rw [a, cn, cr, e]
      refine ⟨rfl, fun t => ?_⟩
      rw [if_pos (show (f < 4 ∧ m < 5) ∧ ¬ (x = 0 ∧ false = false) from ⟨hf, fun h => z h.1⟩), if_pos (show (f < 4 ∧ m < 5) ∧ x ≠ 0 from ⟨hf, z⟩)]
      rfl
  · rw [if_neg hf, if_neg hf]
    refine ⟨rfl, fun t => ?_⟩
    rw [if_neg (fun h => hf h.1), if_neg (fun h => hf h.1)]
end Go.Proofs.YtjdjonekoodalaaGreatDoor
namespace Go.Proofs.YtjdjonekoodalaaGreatDoor
open Go.RowKit
theorem pk_num {f m exp x : Int} {ng : Bool} (hf : f < 4) (hm : m < 5) (hx : x ≠ 0) : pkB f m ng exp x = numB f m ng (pkE exp x) (pkS x) ∧ ∀ t, pkFl f m t ng exp x = numFl f m t ng (pkE exp x) (pkS x) := by
  unfold pkB pkFl
  rw [if_pos ⟨hf, hm⟩, if_neg hx]
  exact ⟨rfl, fun t => if_pos ⟨⟨hf, hm⟩, hx⟩⟩
theorem pk_zero {f m exp : Int} {ng : Bool} (hf : f < 4) (hm : m < 5) : pkB f m ng exp 0 = makeF f ng 0 0 ∧ ∀ t, pkFl f m t ng exp 0 = 0 := by
  unfold pkB pkFl
  rw [if_pos ⟨hf, hm⟩, if_pos rfl]
  exact ⟨rfl, fun t => if_neg (fun h => h.2 rfl)⟩
theorem num_range {f m e s : Int} (f0 : 0 ≤ f) (hf : f < 4) (hm : m < 5) (s0 : 2 ^ 255 ≤ s) (s1 : s < 2 ^ 256) : 0 ≤ numB f m false e s ∧ numB f m false e s ≤ infF f false := by
  have mi := max_inf f0 hf false
  have m0 := (make_full f0 (f := f) false (2 * fE f) (2 ^ (fP f - 1) - 1)).1
  have m1 : 0 ≤ maxF f false := m0
  unfold numB
  split
  · rcases over_ge (m := m) f0 hf hm with h | h <;> rw [h] <;> omega
  · rename_i h
    obtain ⟨x, k, e1, x0, x1⟩ := num_make f0 hf s0 s1 h
    rw [e1]
    have := make_le_max (k := k) f0 hf x0 x1
    have := (make_full f0 (f := f) false x k).1
    omega
end Go.Proofs.YtjdjonekoodalaaGreatDoor
namespace Go.Proofs.YtjdjonekoodalaaGreatDoor
open Go.RowKit
theorem pk_same {f m b : Int} (f0 : 0 ≤ f) (hf : f < 4) (hm : m < 5) (b0 : 0 ≤ b) (c : clsF f b ≤ 2) : pkB f m (negF f b) (uE f b) (uS f b * full) = cutF f b ∧ ∀ t, pkFl f m t (negF f b) (uE f b) (uS f b * full) = 0 := by
  obtain ⟨p0, p1, p2, p3, p4, p5, p6, p7, p8⟩ := f_nums f0 hf
  have cr := cls_range f b
  by_cases k : clsF f b = 1 ∨ clsF f b = 2
  · obtain ⟨⟨k1, k2, k3, k4⟩, mk⟩ := pack_un f0 hf b0 k
    obtain ⟨_, _, _, r4, r5, r6⟩ := un_range f0 hf b0 k
    generalize uS f b = S at *
    generalize uE f b = e at *
    generalize negF f b = ng at *
    obtain ⟨o1, o2⟩ := off_le f0 hf k2
    have x0 : (2 : Int) ^ 255 ≤ S * 2 ^ 128 := by
      have := pow_le_mul 128 k3
      rw [← Int.pow_add] at this; exact this
    have x1 : S * 2 ^ 128 < 2 ^ 256 := by
      rw [← full_pow] at r4
      have := pow_lt_mul 128 r4
      rw [← Int.pow_add] at this; exact this
    obtain ⟨u0, u1⟩ := up_none x0 x1
    have hE : pkE e (S * 2 ^ 128) = e := by unfold pkE; rw [u0, clip_id (by omega) (by omega)]; omega
    have hx : S * 2 ^ 128 ≠ 0 := by have := two_pow_pos 255; omega
    rw [← full_pow]
    rw [(pk_num hf hm hx).1, hE, u1]
    have go : (offF f e : Int) = 128 - fP f + (pkL f e - e) := by
      unfold offF
      rcases pkL_cases f e with ⟨z, y⟩ | ⟨z, y⟩
      · rw [if_pos (by omega)]; omega
      · rw [if_neg (by omega)]; omega
    have r0 : restQ (S * 2 ^ 128) (256 - fP f) false = 0 := by
      have h := scale_rest S 128 (128 - fP f)
      rw [show (128 - (fP f : Int) + (128 : Nat)) = 256 - fP f by omega] at h
      rw [h, rest_zero (by omega), show (128 - (fP f : Int)).toNat = 128 - fP f by omega]; exact r5
    have f0' : floorQ (S * 2 ^ 128) (256 - fP f) = S / 2 ^ (128 - fP f) := by
      have h := scale_floor S 128 (128 - fP f)
      rw [show (128 - (fP f : Int) + (128 : Nat)) = 256 - fP f by omega] at h
      rw [h, floor_pos (by omega), show (128 - (fP f : Int)).toNat = 128 - fP f by omega]
    have flt : floorQ (S * 2 ^ 128) (256 - fP f) < 2 ^ fP f := (cut_le16 (k := fP f) (n := 256 - fP f) (by omega) (by omega) x1 m ng).1
    have A : pkA f m ng e (S * 2 ^ 128) = e := by unfold pkA; rw [cut_none r0, if_neg (by omega)]
    have nr : pkR f e (S * 2 ^ 128) = 0 := by
      have h := scale_rest S 128 (offF f e)
      unfold pkR
      rw [show (256 - (fP f : Int) + (pkL f e - e)) = (offF f e : Int) + (128 : Nat) by omega, h, rest_zero (by omega), Int.toNat_natCast]; exact k4
    have nn : pkN f m ng e (S * 2 ^ 128) = S / 2 ^ offF f e := by
      have h := scale_floor S 128 (offF f e)
      unfold pkN
      rw [cut_none nr, show (256 - (fP f : Int) + (pkL f e - e)) = (offF f e : Int) + (128 : Nat) by omega, h, floor_pos (by omega), Int.toNat_natCast]
    obtain ⟨t0, t1, t2, t3⟩ := shifted o1 k3 r4 k4
    constructor
    · unfold numB
      rw [A, if_neg (by omega), nn, ← mk]
      have nng : 0 ≤ S / 2 ^ offF f e := by have := two_pow_pos (127 - offF f e); omega
      rcases pkL_cases f e with ⟨z, y⟩ | ⟨z, y⟩
      · have l2 := two_pow_le (show 128 - offF f e ≤ fP f - 1 by omega)
        rw [y, pt_sub f0 hf ng nng (by omega), show fieldF f e = 0 by unfold fieldF; rw [if_pos (by omega)]]
      · have eo : offF f e = 128 - fP f := by omega
        have l1 := two_pow_le (show fP f - 1 ≤ 127 - offF f e by omega)
        have l2 := two_pow_le (show 128 - offF f e ≤ fP f by omega)
        rw [y, pt_nor f0 hf ng (by omega) (by omega) z (by omega), show fieldF f e = e + fE f by unfold fieldF; rw [if_neg (by omega)]]
    · intro t
      rw [(pk_num hf hm hx).2, hE, u1]
      unfold numFl
      rw [A, if_neg (by omega), if_pos nr]
  · have c0 : clsF f b = 0 := by omega
    obtain ⟨x, y⟩ := (cls_0 hf).1 c0
    rw [(u_none k).2, Int.zero_mul, (pk_zero hf hm).1]
    refine ⟨?_, fun t => (pk_zero hf hm).2 t⟩
    have ms := make_split f0 hf b0
    rw [x, y] at ms; exact ms
theorem make_fin {f y : Int} (f0 : 0 ≤ f) (hf : f < 4) (ng : Bool) (k : Int) (y0 : 0 ≤ y) (y1 : y ≤ 2 * fE f) : clsF f (makeF f ng y k) ≤ 2 := by
  obtain ⟨p0, p1, p2, p3, p4, p5, p6, p7, p8⟩ := f_nums f0 hf
  obtain ⟨a, b, _⟩ := make_fields f0 hf ng y k
  rw [expOf_id f0 hf y0 (by omega)] at a
  unfold clsF
  rw [if_pos hf, a]
  split
  · split <;> omega
  · rw [if_neg (by omega)]; omega
theorem pk_class {f m ex x : Int} {ng : Bool} (f0 : 0 ≤ f) (hf : f < 4) (hm : m < 5) (x0 : 0 ≤ x) (x1 : x < wfull) :
    0 ≤ pkB f m ng ex x ∧ pkB f m ng ex x < full ∧ cutF f (pkB f m ng ex x) = pkB f m ng ex x ∧ (clsF f (pkB f m ng ex x) ≤ 2 ∨ (clsF f (pkB f m ng ex x) = 3 ∧ ∀ t, pkFl f m t ng ex x = 20)) := by
  obtain ⟨p0, p1, p2, p3, p4, p5, p6, p7, p8⟩ := f_nums f0 hf
  have mk : ∀ y k : Int, 0 ≤ y → y ≤ 2 * fE f → 0 ≤ makeF f ng y k ∧ makeF f ng y k < full ∧ cutF f (makeF f ng y k) = makeF f ng y k ∧ (clsF f (makeF f ng y k) ≤ 2 ∨ (clsF f (makeF f ng y k) = 3 ∧ ∀ t, pkFl f m t ng ex x = 20)) := fun y k y0 y1 => by
    obtain ⟨r0, r1⟩ := make_full f0 (f := f) ng y k
    obtain ⟨_, _, _, _, q5, q6⟩ := make_parts f0 hf ng y k
    exact ⟨r0, r1, by unfold cutF; exact Int.emod_eq_of_lt q5 q6, .inl (make_fin f0 hf ng k y0 y1)⟩
  by_cases z : x = 0
  · subst z
    rw [(pk_zero hf hm).1]; exact mk 0 0 (by decide) (by omega)
  · obtain ⟨s0, s1⟩ := pkS_range (show 0 < x by omega) x1
    rw [(pk_num hf hm z).1]
    have fl := (pk_num (exp := ex) (ng := ng) hf hm z).2
    unfold numB
    by_cases ov : fE f < pkA f m ng (pkE ex x) (pkS x)
    · rw [if_pos ov]
      cases i : infM m ng with
      | true =>
        rw [(over_inf ⟨hf, hm⟩ i).1]
        obtain ⟨r0, r1⟩ := make_full f0 (f := f) ng (2 * fE f + 1) 0
        obtain ⟨_, _, _, _, q5, q6⟩ := make_parts f0 hf ng (2 * fE f + 1) 0
        refine ⟨r0, r1, by unfold cutF; exact Int.emod_eq_of_lt q5 q6, .inr ⟨(inf_cls f0 hf ng).1, fun t => ?_⟩⟩
        rw [fl]; unfold numFl; rw [if_pos ov, (over_inf (ng := ng) ⟨hf, hm⟩ i).2]
      | false =>
        rw [(over_fin ⟨hf, hm⟩ i).1]
        exact mk (2 * fE f) (2 ^ (fP f - 1) - 1) (by omega) (by omega)
    · rw [if_neg ov]
      obtain ⟨y, k, e1, y0, y1⟩ := num_make f0 hf s0 s1 ov
      rw [e1]; exact mk y k y0 y1
end Go.Proofs.YtjdjonekoodalaaGreatDoor
namespace Go.Proofs.YtjdjonekoodalaaGreatDoor
open Go.RowKit
theorem dc_zero {f m E : Int} {ng : Bool} : dcB f m ng 0 E false = (if f < 4 ∧ m < 5 then makeF f ng 0 0 else 0) ∧ ∀ t, dcFl f m t ng 0 E false = 0 := by
  unfold dcB dcFl
  rw [if_pos (show (0 : Int) = 0 ∧ false = false from ⟨rfl, rfl⟩)]
  exact ⟨rfl, fun t => if_neg (fun h => h.2 ⟨rfl, rfl⟩)⟩
theorem dc_none {f m q E : Int} {ng more : Bool} (h : ¬ (f < 4 ∧ m < 5)) : dcB f m ng q E more = 0 ∧ ∀ t, dcFl f m t ng q E more = 0 := by
  unfold dcB dcFl
  rw [if_neg h]
  exact ⟨rfl, fun t => if_neg (fun k => h k.1)⟩
theorem dc_congr {f m q E q' E' d : Int} {ng : Bool} (q0 : 0 < q) (q0' : 0 < q') (hl : (blen q' : Int) = blen q + d) (hE : E' + d = E)
    (hc : ∀ n : Int, (blen q : Int) - fP f ≤ n → cutQ q' (n + d) false m ng = cutQ q n false m ng ∧ restQ q' (n + d) false = restQ q n false) :
    dcB f m ng q' E' false = dcB f m ng q E false ∧ ∀ t, dcFl f m t ng q' E' false = dcFl f m t ng q E false := by
  have e : dcE q' E' = dcE q E := by unfold dcE; omega
  have u : dcU f q' E' = dcU f q E + d := by unfold dcU; rw [e]; omega
  have ul : (blen q : Int) - fP f ≤ dcU f q E := by
    unfold dcU; rcases pkL_cases f (dcE q E) with ⟨z, y⟩ | ⟨z, y⟩ <;> omega
  have c1 := (hc _ (Int.le_refl _)).1
  obtain ⟨c2, c3⟩ := hc _ ul
  have a : dcA f m ng q' E' false = dcA f m ng q E false := by
    unfold dcA; rw [show (blen q' : Int) - fP f = blen q - fP f + d by omega, c1, e]
  have z : ¬ (q = 0 ∧ false = false) := fun h => by omega
  have z' : ¬ (q' = 0 ∧ false = false) := fun h => by omega
  unfold dcB dcFl
  rw [if_neg z, if_neg z', a, u, c2, c3, e]
  refine ⟨rfl, fun t => ?_⟩
  by_cases h : f < 4 ∧ m < 5
  · rw [if_pos (show (f < 4 ∧ m < 5) ∧ ¬ (q' = 0 ∧ false = false) from ⟨h, z'⟩), if_pos (show (f < 4 ∧ m < 5) ∧ ¬ (q = 0 ∧ false = false) from ⟨h, z⟩)]
  · rw [if_neg (fun k => h k.1), if_neg (fun k => h k.1)]
theorem dc_scale {f m q E : Int} {ng : Bool} (k : Nat) (q0 : 0 ≤ q) : dcB f m ng (q * 2 ^ k) (E - k) false = dcB f m ng q E false ∧ ∀ t, dcFl f m t ng (q * 2 ^ k) (E - k) false = dcFl f m t ng q E false := by
  by_cases z : q = 0
  · subst z
    rw [Int.zero_mul, dc_zero.1, dc_zero.1]
    exact ⟨rfl, fun t => by rw [dc_zero.2, dc_zero.2]⟩
  · have hp := two_pow_pos k
    refine dc_congr (d := k) (by omega) (Int.mul_pos (by omega) hp) (by rw [blen_shl (by omega)]; omega) (by omega) (fun n _ => ?_)
    exact ⟨scale_cut q k n m ng, scale_rest q k n⟩
theorem blen_above {q : Int} {k : Nat} (h : 2 ^ k ≤ q) : k + 1 ≤ blen q := by
  have hp := two_pow_pos k
  have a := lt_blen q (by omega)
  apply Classical.byContradiction; intro z
  have := two_pow_le (show blen q ≤ k by omega)
  omega
theorem blen_jam {q : Int} {n : Nat} (q0 : 0 < q) (h : n + 1 ≤ blen q) : blen (jamN q n) = blen q - n ∧ 0 < jamN q n := by
  obtain ⟨j, e, b1, b2⟩ := blen_bounds q0
  rw [e] at h ⊢
  have lo : 2 ^ (j - n) ≤ q / 2 ^ n := by
    rw [Int.le_ediv_iff_mul_le (two_pow_pos _), ← Int.pow_add, show j - n + n = j by omega]; exact b1
  have hi : q / 2 ^ n < 2 ^ (j - n + 1) := by
    apply Int.ediv_lt_of_lt_mul (two_pow_pos _)
    rw [← Int.pow_add, show j - n + 1 + n = j + 1 by omega]; exact b2
  have hp := two_pow_pos (j - n)
  have l1 : 2 ^ (j - n) ≤ jamN q n := by have := (jam_range (show 0 ≤ q by omega) n).1; omega
  have l2 : jamN q n < 2 ^ (j - n + 1) := by
    have e2 : (2 : Int) ^ (j - n + 1) = 2 ^ (j - n) * 2 := Int.pow_succ ..
    unfold jamN; split <;> omega
  exact ⟨by rw [blen_of l1 l2]; omega, by omega⟩
theorem dc_jam {f m q E : Int} {ng : Bool} (n : Nat) (q0 : 0 < q) (hn : n + fP f + 2 ≤ blen q) : dcB f m ng (jamN q n) (E + n) false = dcB f m ng q E false ∧ ∀ t, dcFl f m t ng (jamN q n) (E + n) false = dcFl f m t ng q E false := by
  obtain ⟨b, p⟩ := blen_jam q0 (show n + 1 ≤ blen q by omega)
  refine dc_congr (d := -(n : Int)) q0 p (by omega) (by omega) (fun N hN => ?_)
  have c := jam_cut16 q n (n := N + -(n : Int)) (by omega) m ng
  rw [show N + -(n : Int) + n = N by omega] at c
  exact c
def nrmQ (q : Int) : Int := if blen q ≤ 256 then q * 2 ^ (256 - blen q) else jamN q (blen q - 256)
theorem nrm_range {q : Int} (q0 : 0 < q) : 2 ^ 255 ≤ nrmQ q ∧ nrmQ q < 2 ^ 256 := by
  have lp := blen_pos q0
  have e : blen (nrmQ q) = 256 ∧ 0 < nrmQ q := by
    unfold nrmQ; split
    · rw [blen_shl q0]; exact ⟨by omega, Int.mul_pos q0 (two_pow_pos _)⟩
    · obtain ⟨b, p⟩ := blen_jam q0 (n := blen q - 256) (by omega)
      exact ⟨by omega, p⟩
  have a := blen_low e.2
  have b := lt_blen (nrmQ q) (by omega)
  rw [e.1] at a b
  exact ⟨a, b⟩
theorem nrm_mono {p q : Int} (p0 : 0 < p) (h : p ≤ q) (l : blen p = blen q) : nrmQ p ≤ nrmQ q := by
  unfold nrmQ; rw [l]; split
  · exact pow_le_mul _ h
  · exact jam_mono h _
theorem dc_num {f m q E : Int} {ng : Bool} (f0 : 0 ≤ f) (hf : f < 4) (hm : m < 5) (q0 : 0 < q) (e0 : -1099511627776 ≤ dcE q E) (e1 : dcE q E ≤ 1099511627776) :
    dcB f m ng q E false = numB f m ng (dcE q E) (nrmQ q) ∧ ∀ t, dcFl f m t ng q E false = numFl f m t ng (dcE q E) (nrmQ q) := by
  obtain ⟨p0, p1, p2, p3, p4, p5, p6, p7, p8⟩ := f_nums f0 hf
  obtain ⟨n0, n1⟩ := nrm_range q0
  have hp := two_pow_pos 255
  have eE : dcE q E = blen q - 1 + E := rfl
  have a : dcB f m ng (nrmQ q) (dcE q E - 255) false = dcB f m ng q E false ∧ ∀ t, dcFl f m t ng (nrmQ q) (dcE q E - 255) false = dcFl f m t ng q E false := by
    unfold nrmQ; split
    · have h := dc_scale (f := f) (m := m) (E := E) (ng := ng) (256 - blen q) (show 0 ≤ q by omega)
      rw [show E - ((256 - blen q : Nat) : Int) = dcE q E - 255 by omega] at h; exact h
    · have h := dc_jam (f := f) (m := m) (E := E) (ng := ng) (blen q - 256) q0 (by omega)
      rw [show E + ((blen q - 256 : Nat) : Int) = dcE q E - 255 by omega] at h; exact h
  obtain ⟨d1, d2⟩ := dc_pk (f := f) (m := m) (exp := dcE q E) (x := nrmQ q) (ng := ng) f0 (by omega) (by rw [← wfull_pow]; exact n1)
  rw [clip_id e0 e1] at d1 d2
  obtain ⟨u0, u1⟩ := up_none n0 n1
  have hE : pkE (dcE q E) (nrmQ q) = dcE q E := by unfold pkE; rw [u0, clip_id e0 e1]; omega
  have nz : nrmQ q ≠ 0 := by omega
  obtain ⟨k1, k2⟩ := pk_num (exp := dcE q E) (x := nrmQ q) (ng := ng) hf hm nz
  rw [hE, u1] at k1 k2
  exact ⟨a.1.symm.trans (d1.trans k1), fun t => (a.2 t).symm.trans ((d2 t).trans (k2 t))⟩
theorem dcE_mono {p q E : Int} (p0 : 0 ≤ p) (h : p ≤ q) : dcE p E ≤ dcE q E := by
  have := blen_mono p0 h; unfold dcE; omega
theorem dc_mono {f m p q E : Int} (f0 : 0 ≤ f) (p0 : 0 ≤ p) (h : p ≤ q) (e0 : 0 < p → -1099511627776 ≤ dcE p E) (e2 : 0 < q → -1099511627776 ≤ dcE q E) (e1 : dcE q E ≤ 1099511627776) : dcB f m false p E false ≤ dcB f m false q E false := by
  by_cases hf : f < 4 ∧ m < 5
  · by_cases zq : q = 0
    · have : p = 0 := by omega
      subst this; subst zq; exact Int.le_refl _
    · obtain ⟨b0, b1⟩ := nrm_range (show 0 < q by omega)
      rw [(dc_num f0 hf.1 hf.2 (show 0 < q by omega) (e2 (by omega)) e1).1]
      by_cases zp : p = 0
      · subst zp
        rw [dc_zero.1, if_pos hf, nought_val f0 hf.1, if_neg (by decide)]
        exact (num_range f0 hf.1 hf.2 b0 b1).1
      · obtain ⟨a0, a1⟩ := nrm_range (show 0 < p by omega)
        have le := dcE_mono (E := E) p0 h
        rw [(dc_num f0 hf.1 hf.2 (show 0 < p by omega) (e0 (by omega)) (by omega)).1]
        refine num_mono f0 hf.1 hf.2 a0 a1 b0 b1 ?_
        by_cases l : blen p = blen q
        · right; exact ⟨by unfold dcE; omega, nrm_mono (by omega) h l⟩
        · left; have := blen_mono p0 h; unfold dcE; omega
  · rw [(dc_none hf).1, (dc_none hf).1]; exact Int.le_refl _
end Go.Proofs.YtjdjonekoodalaaGreatDoor
