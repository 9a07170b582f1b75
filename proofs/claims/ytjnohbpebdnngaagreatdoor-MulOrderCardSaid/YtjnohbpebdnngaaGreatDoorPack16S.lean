/-
  What a format has is rounded to itself; what is rounded is a number of the format, or infinite.
-/
import Derived.Test.YtjnohbpebdnngaaGreatDoorPack16L
import Derived.Test.YtjnohbpebdnngaaGreatDoorGdA
import Derived.Test.YtjnohbpebdnngaaGreatDoorGkA
set_option linter.unusedVariables false
set_option linter.unusedSimpArgs false
set_option maxRecDepth 100000
namespace Go.Proofs.YtjnohbpebdnngaaGreatDoor
open Go.RowKit

/-- What a format has is rounded to itself. -/
theorem pk_same {f m b : Int} (f0 : 0 ≤ f) (hf : f < 4) (hm : m < 5) (b0 : 0 ≤ b) (c : clsF f b ≤ 2) : pkB f m (negF f b) (uE f b) (uS f b * full) = cutF f b ∧ ∀ t, pkFl f m t (negF f b) (uE f b) (uS f b * full) = 0 := by
  obtain ⟨p0, p1, p2, p3, p4, p5, p6, p7, p8⟩ := f_nums f0 hf
  have cr := cls_range f b
  by_cases k : clsF f b = 1 ∨ clsF f b = 2
  · obtain ⟨⟨k1, k2, k3, k4⟩, mk⟩ := pack_un f0 hf b0 k
    obtain ⟨_, _, _, r4, r5, r6⟩ := un_range f0 hf b0 k
    generalize uS f b = S at *
    generalize uE f b = e at *
    generalize negF f b = ng at *
    obtain ⟨o1, o2⟩ := off_le f0 hf k2
    have x0 : (2 : Int) ^ 255 ≤ S * 2 ^ 128 := by
      have := pow_le_mul 128 k3
      rw [← Int.pow_add] at this; exact this
    have x1 : S * 2 ^ 128 < 2 ^ 256 := by
      rw [← full_pow] at r4
      have := pow_lt_mul 128 r4
      rw [← Int.pow_add] at this; exact this
    obtain ⟨u0, u1⟩ := up_none x0 x1
    have hE : pkE e (S * 2 ^ 128) = e := by unfold pkE; rw [u0, clip_id (by omega) (by omega)]; omega
    have hx : S * 2 ^ 128 ≠ 0 := by have := two_pow_pos 255; omega
    rw [← full_pow]
    rw [(pk_num hf hm hx).1, hE, u1]
    have go : (offF f e : Int) = 128 - fP f + (pkL f e - e) := by
      unfold offF
      rcases pkL_cases f e with ⟨z, y⟩ | ⟨z, y⟩
      · rw [if_pos (by omega)]; omega
      · rw [if_neg (by omega)]; omega
    -- nothing is cut off
    have r0 : restQ (S * 2 ^ 128) (256 - fP f) false = 0 := by
      have h := scale_rest S 128 (128 - fP f)
      rw [show (128 - (fP f : Int) + (128 : Nat)) = 256 - fP f by omega] at h
      rw [h, rest_zero (by omega), show (128 - (fP f : Int)).toNat = 128 - fP f by omega]; exact r5
    have f0' : floorQ (S * 2 ^ 128) (256 - fP f) = S / 2 ^ (128 - fP f) := by
      have h := scale_floor S 128 (128 - fP f)
      rw [show (128 - (fP f : Int) + (128 : Nat)) = 256 - fP f by omega] at h
      rw [h, floor_pos (by omega), show (128 - (fP f : Int)).toNat = 128 - fP f by omega]
    have flt : floorQ (S * 2 ^ 128) (256 - fP f) < 2 ^ fP f := (cut_le16 (k := fP f) (n := 256 - fP f) (by omega) (by omega) x1 m ng).1
    have A : pkA f m ng e (S * 2 ^ 128) = e := by unfold pkA; rw [cut_none r0, if_neg (by omega)]
    have nr : pkR f e (S * 2 ^ 128) = 0 := by
      have h := scale_rest S 128 (offF f e)
      unfold pkR
      rw [show (256 - (fP f : Int) + (pkL f e - e)) = (offF f e : Int) + (128 : Nat) by omega, h, rest_zero (by omega), Int.toNat_natCast]; exact k4
    have nn : pkN f m ng e (S * 2 ^ 128) = S / 2 ^ offF f e := by
      have h := scale_floor S 128 (offF f e)
      unfold pkN
      rw [cut_none nr, show (256 - (fP f : Int) + (pkL f e - e)) = (offF f e : Int) + (128 : Nat) by omega, h, floor_pos (by omega), Int.toNat_natCast]
    obtain ⟨t0, t1, t2, t3⟩ := shifted o1 k3 r4 k4
    constructor
    · unfold numB
      rw [A, if_neg (by omega), nn, ← mk]
      have nng : 0 ≤ S / 2 ^ offF f e := by have := two_pow_pos (127 - offF f e); omega
      rcases pkL_cases f e with ⟨z, y⟩ | ⟨z, y⟩
      · have l2 := two_pow_le (show 128 - offF f e ≤ fP f - 1 by omega)
        rw [y, pt_sub f0 hf ng nng (by omega), show fieldF f e = 0 by unfold fieldF; rw [if_pos (by omega)]]
      · have eo : offF f e = 128 - fP f := by omega
        have l1 := two_pow_le (show fP f - 1 ≤ 127 - offF f e by omega)
        have l2 := two_pow_le (show 128 - offF f e ≤ fP f by omega)
        rw [y, pt_nor f0 hf ng (by omega) (by omega) z (by omega), show fieldF f e = e + fE f by unfold fieldF; rw [if_neg (by omega)]]
    · intro t
      rw [(pk_num hf hm hx).2, hE, u1]
      unfold numFl
      rw [A, if_neg (by omega), if_pos nr]
  · have c0 : clsF f b = 0 := by omega
    obtain ⟨x, y⟩ := (cls_0 hf).1 c0
    rw [(u_none k).2, Int.zero_mul, (pk_zero hf hm).1]
    refine ⟨?_, fun t => (pk_zero hf hm).2 t⟩
    have ms := make_split f0 hf b0
    rw [x, y] at ms; exact ms
theorem make_fin {f y : Int} (f0 : 0 ≤ f) (hf : f < 4) (ng : Bool) (k : Int) (y0 : 0 ≤ y) (y1 : y ≤ 2 * fE f) : clsF f (makeF f ng y k) ≤ 2 := by
  obtain ⟨p0, p1, p2, p3, p4, p5, p6, p7, p8⟩ := f_nums f0 hf
  obtain ⟨a, b, _⟩ := make_fields f0 hf ng y k
  rw [expOf_id f0 hf y0 (by omega)] at a
  unfold clsF
  rw [if_pos hf, a]
  split
  · split <;> omega
  · rw [if_neg (by omega)]; omega
/-- What is rounded is a number of the format, or infinite: then it overflowed. -/
theorem pk_class {f m ex x : Int} {ng : Bool} (f0 : 0 ≤ f) (hf : f < 4) (hm : m < 5) (x0 : 0 ≤ x) (x1 : x < wfull) :
    0 ≤ pkB f m ng ex x ∧ pkB f m ng ex x < full ∧ cutF f (pkB f m ng ex x) = pkB f m ng ex x ∧ (clsF f (pkB f m ng ex x) ≤ 2 ∨ (clsF f (pkB f m ng ex x) = 3 ∧ ∀ t, pkFl f m t ng ex x = 20)) := by
  obtain ⟨p0, p1, p2, p3, p4, p5, p6, p7, p8⟩ := f_nums f0 hf
  have mk : ∀ y k : Int, 0 ≤ y → y ≤ 2 * fE f → 0 ≤ makeF f ng y k ∧ makeF f ng y k < full ∧ cutF f (makeF f ng y k) = makeF f ng y k ∧ (clsF f (makeF f ng y k) ≤ 2 ∨ (clsF f (makeF f ng y k) = 3 ∧ ∀ t, pkFl f m t ng ex x = 20)) := fun y k y0 y1 => by
    obtain ⟨r0, r1⟩ := make_full f0 (f := f) ng y k
    obtain ⟨_, _, _, _, q5, q6⟩ := make_parts f0 hf ng y k
    exact ⟨r0, r1, by unfold cutF; exact Int.emod_eq_of_lt q5 q6, .inl (make_fin f0 hf ng k y0 y1)⟩
  by_cases z : x = 0
  · subst z
    rw [(pk_zero hf hm).1]; exact mk 0 0 (by decide) (by omega)
  · obtain ⟨s0, s1⟩ := pkS_range (show 0 < x by omega) x1
    rw [(pk_num hf hm z).1]
    have fl := (pk_num (exp := ex) (ng := ng) hf hm z).2
    unfold numB
    by_cases ov : fE f < pkA f m ng (pkE ex x) (pkS x)
    · rw [if_pos ov]
      cases i : infM m ng with
      | true =>
        rw [(over_inf ⟨hf, hm⟩ i).1]
        obtain ⟨r0, r1⟩ := make_full f0 (f := f) ng (2 * fE f + 1) 0
        obtain ⟨_, _, _, _, q5, q6⟩ := make_parts f0 hf ng (2 * fE f + 1) 0
        refine ⟨r0, r1, by unfold cutF; exact Int.emod_eq_of_lt q5 q6, .inr ⟨(inf_cls f0 hf ng).1, fun t => ?_⟩⟩
        rw [fl]; unfold numFl; rw [if_pos ov, (over_inf (ng := ng) ⟨hf, hm⟩ i).2]
      | false =>
        rw [(over_fin ⟨hf, hm⟩ i).1]
        exact mk (2 * fE f) (2 ^ (fP f - 1) - 1) (by omega) (by omega)
    · rw [if_neg ov]
      obtain ⟨y, k, e1, y0, y1⟩ := num_make f0 hf s0 s1 ov
      rw [e1]; exact mk y k y0 y1

end Go.Proofs.YtjnohbpebdnngaaGreatDoor
