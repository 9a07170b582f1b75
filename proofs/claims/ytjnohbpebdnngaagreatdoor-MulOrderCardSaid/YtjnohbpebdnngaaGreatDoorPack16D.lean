/-
  Numbers of any length rounded to a format, by definition; of 256 bits what package pack is asked.
-/
import Derived.Test.YtjnohbpebdnngaaGreatDoorPack16M
set_option linter.unusedVariables false
set_option linter.unusedSimpArgs false
set_option maxRecDepth 100000
namespace Go.Proofs.YtjnohbpebdnngaaGreatDoor
open Go.RowKit

/-- A number's exponent: q times 2^E, and, if more, something above, less than 2^E. -/
def dcE (q E : Int) : Int := blen q - 1 + E
def dcA (f m : Int) (ng : Bool) (q E : Int) (more : Bool) : Int := blen (cutQ q (blen q - fP f) more m ng) - fP f + dcE q E
def dcU (f q E : Int) : Int := pkL f (dcE q E) - dcE q E + (blen q - fP f)
def dcB (f m : Int) (ng : Bool) (q E : Int) (more : Bool) : Int :=
  if f < 4 ∧ m < 5 then (if q = 0 ∧ more = false then makeF f ng 0 0 else if fE f < dcA f m ng q E more then overB f m ng else ptF f ng (pkL f (dcE q E)) (cutQ q (dcU f q E) more m ng)) else 0
def dcFl (f m : Int) (t ng : Bool) (q E : Int) (more : Bool) : Int :=
  if (f < 4 ∧ m < 5) ∧ ¬ (q = 0 ∧ more = false) then (if fE f < dcA f m ng q E more then overFl f m else if restQ q (dcU f q E) more = 0 then 0 else if (if t then dcA f m ng q E more else dcE q E) < 1 - fE f then 24 else 16) else 0

theorem floor_lt_gen {q n : Int} {b k : Nat} (q0 : 0 ≤ q) (h : q < 2 ^ b) (hk : (b : Int) ≤ n + k) : floorQ q n < 2 ^ k := by
  unfold floorQ
  split
  · have h1 := Int.mul_lt_mul_of_pos_right h (two_pow_pos (-n).toNat)
    rw [← Int.pow_add] at h1
    have h2 := two_pow_le (show b + (-n).toNat ≤ k by omega)
    omega
  · apply Int.ediv_lt_of_lt_mul (two_pow_pos _)
    rw [← Int.pow_add]
    have := two_pow_le (show b ≤ k + n.toNat by omega)
    omega
theorem floor_ge_gen {q n : Int} {b k : Nat} (h : 2 ^ b ≤ q) (hk : n + k ≤ b) : 2 ^ k ≤ floorQ q n := by
  unfold floorQ
  split
  · have h1 := Int.mul_le_mul_of_nonneg_right h (show (0 : Int) ≤ 2 ^ (-n).toNat by have := two_pow_pos (-n).toNat; omega)
    rw [← Int.pow_add] at h1
    have h2 := two_pow_le (show k ≤ b + (-n).toNat by omega)
    omega
  · rw [Int.le_ediv_iff_mul_le (two_pow_pos _), ← Int.pow_add]
    have := two_pow_le (show k + n.toNat ≤ b by omega)
    omega
theorem floor_nn {q : Int} (q0 : 0 ≤ q) (n : Int) : 0 ≤ floorQ q n := by
  unfold floorQ; split
  · exact Int.mul_nonneg q0 (by have := two_pow_pos (-n).toNat; omega)
  · exact Int.ediv_nonneg q0 (by have := two_pow_pos n.toNat; omega)
theorem cut_lt_gen {q n : Int} {b k : Nat} (q0 : 0 ≤ q) (h : q < 2 ^ b) (hk : (b : Int) ≤ n + k) (more : Bool) (m : Int) (ng : Bool) : cutQ q n more m ng ≤ 2 ^ k := by
  have := floor_lt_gen q0 h hk
  rcases cut_floor q n more m ng with e | e <;> rw [e] <;> omega
theorem cut_ge_gen {q n : Int} {b k : Nat} (h : 2 ^ b ≤ q) (hk : n + k ≤ b) (more : Bool) (m : Int) (ng : Bool) : 2 ^ k ≤ cutQ q n more m ng := by
  have := floor_ge_gen h hk
  rcases cut_floor q n more m ng with e | e <;> rw [e] <;> omega
theorem cut_nn {q : Int} (q0 : 0 ≤ q) (n : Int) (more : Bool) (m : Int) (ng : Bool) : 0 ≤ cutQ q n more m ng := by
  have := floor_nn q0 n
  rcases cut_floor q n more m ng with e | e <;> rw [e] <;> omega
/-- The length of what fills p places, or one more. -/
theorem blen_two {n : Int} {p : Nat} (hp : 1 ≤ p) (h0 : 2 ^ (p - 1) ≤ n) (h1 : n ≤ 2 ^ p) : (blen n = p ∧ n ≠ 2 ^ p) ∨ (blen n = p + 1 ∧ n = 2 ^ p) := by
  by_cases h : n = 2 ^ p
  · right
    exact ⟨blen_of (by omega) (by rw [h, Int.pow_succ]; have := two_pow_pos p; omega), h⟩
  · left
    refine ⟨?_, h⟩
    have := blen_of (n := n) (j := p - 1) h0 (by rw [show p - 1 + 1 = p by omega]; omega)
    omega
theorem dcA_cases {f q : Int} (f0 : 0 ≤ f) (hf : f < 4) (q0 : 0 < q) (m : Int) (ng : Bool) (E : Int) (more : Bool) :
    2 ^ (fP f - 1) ≤ cutQ q (blen q - fP f) more m ng ∧ cutQ q (blen q - fP f) more m ng ≤ 2 ^ fP f ∧
    ((dcA f m ng q E more = dcE q E ∧ blen (cutQ q (blen q - fP f) more m ng) = fP f ∧ cutQ q (blen q - fP f) more m ng ≠ 2 ^ fP f) ∨ (dcA f m ng q E more = dcE q E + 1 ∧ blen (cutQ q (blen q - fP f) more m ng) = fP f + 1 ∧ cutQ q (blen q - fP f) more m ng = 2 ^ fP f)) := by
  obtain ⟨p0, p1, p2, p3, p4, p5, p6, p7, p8⟩ := f_nums f0 hf
  have lb := blen_pos q0
  have c0 := cut_ge_gen (k := fP f - 1) (n := blen q - fP f) (blen_low q0) (by omega) more m ng
  have c1 := cut_lt_gen (k := fP f) (n := blen q - fP f) (by omega) (lt_blen q (by omega)) (by omega) more m ng
  refine ⟨c0, c1, ?_⟩
  unfold dcA
  rcases blen_two (by omega) c0 c1 with ⟨l, h⟩ | ⟨l, h⟩ <;> rw [l]
  · exact .inl ⟨by omega, rfl, h⟩
  · exact .inr ⟨by omega, rfl, h⟩
/-- What is rounded to the format's places. -/
theorem dcN_bounds {f q : Int} (f0 : 0 ≤ f) (hf : f < 4) (q0 : 0 < q) (m : Int) (ng : Bool) (E : Int) (more : Bool) :
    0 ≤ cutQ q (dcU f q E) more m ng ∧ cutQ q (dcU f q E) more m ng ≤ 2 ^ fP f ∧ (dcE q E < 1 - fE f → cutQ q (dcU f q E) more m ng ≤ 2 ^ (fP f - 1)) ∧ (1 - fE f ≤ dcE q E → 2 ^ (fP f - 1) ≤ cutQ q (dcU f q E) more m ng ∧ dcU f q E = blen q - fP f) := by
  obtain ⟨p0, p1, p2, p3, p4, p5, p6, p7, p8⟩ := f_nums f0 hf
  have lb := blen_pos q0
  have hl := two_pow_le (show fP f - 1 ≤ fP f by omega)
  unfold dcU
  rcases pkL_cases f (dcE q E) with ⟨h, l⟩ | ⟨h, l⟩
  · rw [l]
    have c := cut_lt_gen (k := fP f - 1) (n := 1 - fE f - dcE q E + (blen q - fP f)) (by omega) (lt_blen q (by omega)) (by omega) more m ng
    exact ⟨cut_nn (by omega) _ more m ng, by omega, fun _ => c, fun z => by omega⟩
  · rw [l, show (dcE q E - dcE q E + ((blen q : Int) - fP f)) = blen q - fP f by omega]
    obtain ⟨c0, c1, _⟩ := dcA_cases f0 hf q0 m ng E more
    exact ⟨cut_nn (by omega) _ more m ng, c1, fun z => by omega, fun _ => ⟨c0, rfl⟩⟩
/-- Of 256 bits. -/
theorem dc_pk {f m exp x : Int} {ng : Bool} (f0 : 0 ≤ f) (x0 : 0 ≤ x) (x1 : x < wfull) : dcB f m ng x (clipE exp - 255) false = pkB f m ng exp x ∧ ∀ t, dcFl f m t ng x (clipE exp - 255) false = pkFl f m t ng exp x := by
  unfold dcB dcFl pkB pkFl
  by_cases hf : f < 4 ∧ m < 5
  · rw [if_pos hf, if_pos hf]
    by_cases z : x = 0
    · rw [if_pos ⟨z, rfl⟩, if_pos z]
      refine ⟨rfl, fun t => ?_⟩
      rw [if_neg (fun h => h.2 ⟨z, rfl⟩), if_neg (fun h => h.2 z)]
    · rw [if_neg (fun h => z h.1), if_neg z]
      have lb := blen_w x0 x1
      have hb := blen_pos (show 0 < x by omega)
      have ux : upN 256 x = 256 - blen x := by unfold upN; rw [if_neg z]
      have e : dcE x (clipE exp - 255) = pkE exp x := by unfold dcE pkE; rw [ux]; omega
      have cf : cutQ x (blen x - fP f) false m ng = cutQ (pkS x) (256 - fP f) false m ng := by
        unfold pkS; rw [← scale_cut x (upN 256 x), ux]; congr 1; omega
      have cu : dcU f x (clipE exp - 255) = 256 - fP f + (pkL f (pkE exp x) - pkE exp x) - upN 256 x := by unfold dcU; rw [e, ux]; omega
      have cn : cutQ x (dcU f x (clipE exp - 255)) false m ng = pkN f m ng (pkE exp x) (pkS x) := by
        unfold pkN pkS; rw [← scale_cut x (upN 256 x), cu]; congr 1; omega
      have cr : restQ x (dcU f x (clipE exp - 255)) false = pkR f (pkE exp x) (pkS x) := by
        unfold pkR pkS; rw [← scale_rest x (upN 256 x), cu]; congr 1; omega
      have a : dcA f m ng x (clipE exp - 255) false = pkA f m ng (pkE exp x) (pkS x) := by
        obtain ⟨_, _, c⟩ := dcA_cases f0 hf.1 (show 0 < x by omega) m ng (clipE exp - 255) false
        rw [cf, e] at c
        rcases c with ⟨c, _, d⟩ | ⟨c, _, d⟩ <;> rcases pkA_cases f m ng (pkE exp x) (pkS x) with ⟨c', d'⟩ | ⟨c', d'⟩
        · rw [c, c']
        · exact absurd d' d
        · exact absurd d d'
        · rw [c, c']
      rw [a, cn, cr, e]
      refine ⟨rfl, fun t => ?_⟩
      rw [if_pos (show (f < 4 ∧ m < 5) ∧ ¬ (x = 0 ∧ false = false) from ⟨hf, fun h => z h.1⟩), if_pos (show (f < 4 ∧ m < 5) ∧ x ≠ 0 from ⟨hf, z⟩)]
      rfl
  · rw [if_neg hf, if_neg hf]
    refine ⟨rfl, fun t => ?_⟩
    rw [if_neg (fun h => hf h.1), if_neg (fun h => hf h.1)]

end Go.Proofs.YtjnohbpebdnngaaGreatDoor
