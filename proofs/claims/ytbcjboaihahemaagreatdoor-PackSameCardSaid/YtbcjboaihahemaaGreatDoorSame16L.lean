/-
  PackSame.
-/
import Derived.Test.YtbcjboaihahemaaGreatDoorSame16
import Derived.Test.YtbcjboaihahemaaGreatDoorGoes16L
import Derived.Test.YtbcjboaihahemaaGreatDoorGdA
import Derived.Test.YtbcjboaihahemaaGreatDoorGkA
set_option linter.unusedVariables false
set_option linter.unusedSimpArgs false
set_option maxRecDepth 100000
namespace Go.Proofs.YtbcjboaihahemaaGreatDoor
open Go.RowKit
attribute [local go_sem ↓] Go.wp_at_zero Go.wp_at_succ

/-- What a format has is rounded to itself. -/
theorem pk_same {f m b : Int} (f0 : 0 ≤ f) (hf : f < 4) (hm : m < 5) (b0 : 0 ≤ b) (c : clsF f b ≤ 2) : pkB f m (negF f b) (uE f b) (uS f b * full) = cutF f b ∧ ∀ t, pkFl f m t (negF f b) (uE f b) (uS f b * full) = 0 := by
  obtain ⟨p0, p1, p2, p3, p4, p5, p6, p7, p8⟩ := f_nums f0 hf
  have cr := cls_range f b
  by_cases k : clsF f b = 1 ∨ clsF f b = 2
  · obtain ⟨⟨k1, k2, k3, k4⟩, mk⟩ := pack_un f0 hf b0 k
    obtain ⟨_, _, _, r4, r5, r6⟩ := un_range f0 hf b0 k
    generalize uS f b = S at *
    generalize uE f b = e at *
    generalize negF f b = ng at *
    obtain ⟨o1, o2⟩ := off_le f0 hf k2
    have x0 : (2 : Int) ^ 255 ≤ S * 2 ^ 128 := by
      have := pow_le_mul 128 k3
      rw [← Int.pow_add] at this; exact this
    have x1 : S * 2 ^ 128 < 2 ^ 256 := by
      rw [← full_pow] at r4
      have := pow_lt_mul 128 r4
      rw [← Int.pow_add] at this; exact this
    obtain ⟨u0, u1⟩ := up_none x0 x1
    have hE : pkE e (S * 2 ^ 128) = e := by unfold pkE; rw [u0, clip_id (by omega) (by omega)]; omega
    have hx : S * 2 ^ 128 ≠ 0 := by have := two_pow_pos 255; omega
    rw [← full_pow]
    rw [(pk_num hf hm hx).1, hE, u1]
    have go : (offF f e : Int) = 128 - fP f + (pkL f e - e) := by
      unfold offF
      rcases pkL_cases f e with ⟨z, y⟩ | ⟨z, y⟩
      · rw [if_pos (by omega)]; omega
      · rw [if_neg (by omega)]; omega
    -- nothing is cut off
    have r0 : restQ (S * 2 ^ 128) (256 - fP f) false = 0 := by
      have h := scale_rest S 128 (128 - fP f)
      rw [show (128 - (fP f : Int) + (128 : Nat)) = 256 - fP f by omega] at h
      rw [h, rest_zero (by omega), show (128 - (fP f : Int)).toNat = 128 - fP f by omega]; exact r5
    have f0' : floorQ (S * 2 ^ 128) (256 - fP f) = S / 2 ^ (128 - fP f) := by
      have h := scale_floor S 128 (128 - fP f)
      rw [show (128 - (fP f : Int) + (128 : Nat)) = 256 - fP f by omega] at h
      rw [h, floor_pos (by omega), show (128 - (fP f : Int)).toNat = 128 - fP f by omega]
    have flt : floorQ (S * 2 ^ 128) (256 - fP f) < 2 ^ fP f := (cut_le16 (k := fP f) (n := 256 - fP f) (by omega) (by omega) x1 m ng).1
    have A : pkA f m ng e (S * 2 ^ 128) = e := by unfold pkA; rw [cut_none r0, if_neg (by omega)]
    have nr : pkR f e (S * 2 ^ 128) = 0 := by
      have h := scale_rest S 128 (offF f e)
      unfold pkR
      rw [show (256 - (fP f : Int) + (pkL f e - e)) = (offF f e : Int) + (128 : Nat) by omega, h, rest_zero (by omega), Int.toNat_natCast]; exact k4
    have nn : pkN f m ng e (S * 2 ^ 128) = S / 2 ^ offF f e := by
      have h := scale_floor S 128 (offF f e)
      unfold pkN
      rw [cut_none nr, show (256 - (fP f : Int) + (pkL f e - e)) = (offF f e : Int) + (128 : Nat) by omega, h, floor_pos (by omega), Int.toNat_natCast]
    obtain ⟨t0, t1, t2, t3⟩ := shifted o1 k3 r4 k4
    constructor
    · unfold numB
      rw [A, if_neg (by omega), nn, ← mk]
      have nng : 0 ≤ S / 2 ^ offF f e := by have := two_pow_pos (127 - offF f e); omega
      rcases pkL_cases f e with ⟨z, y⟩ | ⟨z, y⟩
      · have l2 := two_pow_le (show 128 - offF f e ≤ fP f - 1 by omega)
        rw [y, pt_sub f0 hf ng nng (by omega), show fieldF f e = 0 by unfold fieldF; rw [if_pos (by omega)]]
      · have eo : offF f e = 128 - fP f := by omega
        have l1 := two_pow_le (show fP f - 1 ≤ 127 - offF f e by omega)
        have l2 := two_pow_le (show 128 - offF f e ≤ fP f by omega)
        rw [y, pt_nor f0 hf ng (by omega) (by omega) z (by omega), show fieldF f e = e + fE f by unfold fieldF; rw [if_neg (by omega)]]
    · intro t
      rw [(pk_num hf hm hx).2, hE, u1]
      unfold numFl
      rw [A, if_neg (by omega), if_pos nr]
  · have c0 : clsF f b = 0 := by omega
    obtain ⟨x, y⟩ := (cls_0 hf).1 c0
    rw [(u_none k).2, Int.zero_mul, (pk_zero hf hm).1]
    refine ⟨?_, fun t => (pk_zero hf hm).2 t⟩
    have ms := make_split f0 hf b0
    rw [x, y] at ms; exact ms
theorem make_fin {f y : Int} (f0 : 0 ≤ f) (hf : f < 4) (ng : Bool) (k : Int) (y0 : 0 ≤ y) (y1 : y ≤ 2 * fE f) : clsF f (makeF f ng y k) ≤ 2 := by
  obtain ⟨p0, p1, p2, p3, p4, p5, p6, p7, p8⟩ := f_nums f0 hf
  obtain ⟨a, b, _⟩ := make_fields f0 hf ng y k
  rw [expOf_id f0 hf y0 (by omega)] at a
  unfold clsF
  rw [if_pos hf, a]
  split
  · split <;> omega
  · rw [if_neg (by omega)]; omega
/-- What is rounded is a number of the format, or infinite: then it overflowed. -/
theorem pk_class {f m ex x : Int} {ng : Bool} (f0 : 0 ≤ f) (hf : f < 4) (hm : m < 5) (x0 : 0 ≤ x) (x1 : x < wfull) :
    0 ≤ pkB f m ng ex x ∧ pkB f m ng ex x < full ∧ cutF f (pkB f m ng ex x) = pkB f m ng ex x ∧ (clsF f (pkB f m ng ex x) ≤ 2 ∨ (clsF f (pkB f m ng ex x) = 3 ∧ ∀ t, pkFl f m t ng ex x = 20)) := by
  obtain ⟨p0, p1, p2, p3, p4, p5, p6, p7, p8⟩ := f_nums f0 hf
  have mk : ∀ y k : Int, 0 ≤ y → y ≤ 2 * fE f → 0 ≤ makeF f ng y k ∧ makeF f ng y k < full ∧ cutF f (makeF f ng y k) = makeF f ng y k ∧ (clsF f (makeF f ng y k) ≤ 2 ∨ (clsF f (makeF f ng y k) = 3 ∧ ∀ t, pkFl f m t ng ex x = 20)) := fun y k y0 y1 => by
    obtain ⟨r0, r1⟩ := make_full f0 (f := f) ng y k
    obtain ⟨_, _, _, _, q5, q6⟩ := make_parts f0 hf ng y k
    exact ⟨r0, r1, by unfold cutF; exact Int.emod_eq_of_lt q5 q6, .inl (make_fin f0 hf ng k y0 y1)⟩
  by_cases z : x = 0
  · subst z
    rw [(pk_zero hf hm).1]; exact mk 0 0 (by decide) (by omega)
  · obtain ⟨s0, s1⟩ := pkS_range (show 0 < x by omega) x1
    rw [(pk_num hf hm z).1]
    have fl := (pk_num (exp := ex) (ng := ng) hf hm z).2
    unfold numB
    by_cases ov : fE f < pkA f m ng (pkE ex x) (pkS x)
    · rw [if_pos ov]
      cases i : infM m ng with
      | true =>
        rw [(over_inf ⟨hf, hm⟩ i).1]
        obtain ⟨r0, r1⟩ := make_full f0 (f := f) ng (2 * fE f + 1) 0
        obtain ⟨_, _, _, _, q5, q6⟩ := make_parts f0 hf ng (2 * fE f + 1) 0
        refine ⟨r0, r1, by unfold cutF; exact Int.emod_eq_of_lt q5 q6, .inr ⟨(inf_cls f0 hf ng).1, fun t => ?_⟩⟩
        rw [fl]; unfold numFl; rw [if_pos ov, (over_inf (ng := ng) ⟨hf, hm⟩ i).2]
      | false =>
        rw [(over_fin ⟨hf, hm⟩ i).1]
        exact mk (2 * fE f) (2 ^ (fP f - 1) - 1) (by omega) (by omega)
    · rw [if_neg ov]
      obtain ⟨y, k, e1, y0, y1⟩ := num_make f0 hf s0 s1 ov
      rw [e1]; exact mk y k y0 y1
theorem again16 (U : FldOK) (O : PackOK) (f m b : Int) (t : Bool) (f0 : 0 ≤ f) (hf : f < 4) (m0 : 0 ≤ m) (hm : m < 5) (b0 : 0 ≤ b) (b1 : b < full) (c : clsF f b ≤ 2) (w : World) (ft : FTab w) : Calls Tryz.prog 13 #[.int .u8 f, .agg #[.int .u8 m, .bool t], .agg #[.int .u64 (hiOf (b)), .int .u64 (loOf (b))]] w fun e w' => e = .returned (.agg #[.int .u64 (hiOf (cutF f b)), .int .u64 (loOf (cutF f b)), .int .u8 0]) ∧ Below w.heap.size w w' := by
  have h1 := U.unpackAt f b f0 (by omega) b0 b1
  obtain ⟨s0, s1⟩ := uS_range (f := f) f0 b0
  obtain ⟨e0, e1⟩ := uE_range (f := f) f0 b0
  have h2 := joinW (uS f b) 0
  rw [Int.emod_eq_of_lt s0 s1, show hiOf 0 = 0 from rfl, show loOf 0 = 0 from rfl, Int.zero_emod, Int.add_zero] at h2
  have fw : uS f b * full < wfull := by
    have : wfull = full * full := by decide +kernel
    rw [this]; exact Int.mul_lt_mul_of_pos_right s1 (by decide)
  have h3 := O.round f m t (negF f b) (uE f b) (uS f b * full) f0 (by omega) m0 (by omega) (by omega) (by omega) (Int.mul_nonneg s0 (by decide)) fw
  obtain ⟨v1, v2⟩ := pk_same (m := m) f0 hf hm b0 c
  rw [v1, v2] at h3
  exact again16_core f m _ _ _ _ _ _ _ _ _ _ _ _ _ t _ (Lib.hid h1) (Lib.hid h2) (Lib.hid h3) w ft
theorem same16_law_n (C : FormOK) (D : ClassOK) (U : FldOK) (O : PackOK) (f m1 : Int) (t1 : Bool) (m2 : Int) (t2 ng : Bool) (ex x b : Int) (x0 : 0 ≤ x) (x1 : x < wfull) (b0 : 0 ≤ b) (b1 : b < full) (uf : 0 ≤ f ∧ f ≤ 255) (um1 : 0 ≤ m1 ∧ m1 ≤ 255) (um2 : 0 ≤ m2 ∧ m2 ≤ 255) (ue : -9223372036854775808 ≤ ex ∧ ex ≤ 9223372036854775807) (w : World) (ft : FTab w) : Calls Tryz.prog 5 #[.int .u8 f, .agg #[.int .u8 m1, .bool t1], .agg #[.int .u8 m2, .bool t2], .bool ng, .int .i64 ex, .agg #[.int .u64 (wd0 (x)), .int .u64 (wd1 (x)), .int .u64 (wd2 (x)), .int .u64 (wd3 (x))], .agg #[.int .u64 (hiOf (b)), .int .u64 (loOf (b))]] w fun e w' => e = .returned (.bool true) ∧ Below w.heap.size w w' := by
  have G := Lib.hid (goes16_any O)
  have K := C.known f uf.1 uf.2
  obtain ⟨k1, hk1⟩ : ∃ k1, m1 % 5 = k1 := ⟨_, rfl⟩
  obtain ⟨k2, hk2⟩ : ∃ k2, m2 % 5 = k2 := ⟨_, rfl⟩
  have t1' : m1.tmod 5 = k1 := by rw [Int.tmod_eq_emod_of_nonneg um1.1, hk1]
  have t2' : m2.tmod 5 = k2 := by rw [Int.tmod_eq_emod_of_nonneg um2.1, hk2]
  have r1 : 0 ≤ k1 ∧ k1 < 5 := by omega
  have r2 : 0 ≤ k2 ∧ k2 < 5 := by omega
  have RD := O.round f k1 t1 ng ex x uf.1 uf.2 r1.1 (by omega) ue.1 ue.2 x0 x1
  by_cases hf : f < 4
  · rw [show decide (f < 4) = true from decide_eq_true hf] at K
    have d4 : decide (f < 4) = true := decide_eq_true hf
    have FB := D.fin f b uf.1 uf.2
    rw [Int.emod_eq_of_lt b0 b1] at FB
    obtain ⟨v0, v1, v2, v3⟩ := pk_class (ex := ex) (ng := ng) (x := x) uf.1 hf r1.2 x0 x1
    have FR := D.fin f (pkB f k1 ng ex x) uf.1 uf.2
    have OR := D.of f (pkB f k1 ng ex x) uf.1 uf.2
    rw [Int.emod_eq_of_lt v0 v1] at FR OR
    by_cases cb : clsF f b ≤ 2
    · rw [show finF f b = true by unfold finF; simp [hf, cb]] at FB
      have AB := again16 U O f k1 b t1 uf.1 hf r1.1 r1.2 b0 b1 cb
      have CB := C.cut f b uf.1 uf.2
      rw [Int.emod_eq_of_lt b0 b1] at CB
      by_cases cr : clsF f (pkB f k1 ng ex x) ≤ 2
      · rw [show finF f (pkB f k1 ng ex x) = true by unfold finF; simp [hf, cr]] at FR
        have AR := again16 U O f k2 _ t2 uf.1 hf r2.1 r2.2 v0 v1 cr
        rw [v2] at AR
        exact same16_11 f m1 m2 k1 k2 ex _ _ _ _ _ _ _ _ _ _ _ t1 t2 ng (Lib.hid K) (Lib.hid FB) (Lib.hid AB) (Lib.hid CB) (Lib.hid RD) (Lib.hid FR) (Lib.hid AR) G t1' hk1 t2' hk2 w ft
      · obtain ⟨c3, fl⟩ := v3.resolve_left cr
        rw [show finF f (pkB f k1 ng ex x) = false by unfold finF; simp [c3]] at FR
        rw [c3] at OR
        rw [fl] at RD
        exact same16_10 f m1 m2 k1 k2 ex _ _ _ _ _ _ _ _ _ _ t1 t2 ng _ (Lib.hid K) (Lib.hid FB) (Lib.hid AB) (Lib.hid CB) (Lib.hid RD) (Lib.hid FR) (Lib.hid OR) G t1' hk1 t2' hk2 w ft
    · rw [show finF f b = false by unfold finF; simp [cb]] at FB
      by_cases cr : clsF f (pkB f k1 ng ex x) ≤ 2
      · rw [show finF f (pkB f k1 ng ex x) = true by unfold finF; simp [hf, cr]] at FR
        have AR := again16 U O f k2 _ t2 uf.1 hf r2.1 r2.2 v0 v1 cr
        rw [v2] at AR
        exact same16_01 f m1 m2 k1 k2 ex _ _ _ _ _ _ _ _ _ t1 t2 ng (Lib.hid K) (Lib.hid FB) (Lib.hid RD) (Lib.hid FR) (Lib.hid AR) G t1' hk1 t2' hk2 w ft
      · obtain ⟨c3, fl⟩ := v3.resolve_left cr
        rw [show finF f (pkB f k1 ng ex x) = false by unfold finF; simp [c3]] at FR
        rw [c3] at OR
        rw [fl] at RD
        exact same16_00 f m1 m2 k1 k2 ex _ _ _ _ _ _ _ _ t1 t2 ng _ (Lib.hid K) (Lib.hid FB) (Lib.hid RD) (Lib.hid FR) (Lib.hid OR) G t1' hk1 t2' hk2 w ft
  · rw [show decide (f < 4) = false from decide_eq_false hf] at K
    rw [(pk_none (fun h => hf h.1) _ _ _).1, (pk_none (fun h => hf h.1) _ _ _).2, hl_zero.1, hl_zero.2] at RD
    exact same16_none f m1 m2 k1 k2 ex _ _ _ _ _ _ t1 t2 ng (Lib.hid K) (Lib.hid RD) G t1' hk1 t2' hk2 w ft
theorem same16_law (C : FormOK) (D : ClassOK) (U : FldOK) (O : PackOK) (f m1 : Int) (t1 : Bool) (m2 : Int) (t2 ng : Bool) (ex x0 x1 x2 x3 bh bl : Int) (uf : 0 ≤ f ∧ f ≤ 255) (um1 : 0 ≤ m1 ∧ m1 ≤ 255) (um2 : 0 ≤ m2 ∧ m2 ≤ 255) (ue : -9223372036854775808 ≤ ex ∧ ex ≤ 9223372036854775807) (ux0 : U64 x0) (ux1 : U64 x1) (ux2 : U64 x2) (ux3 : U64 x3) (ub : U64 bh) (ul : U64 bl) (w : World) (ft : FTab w) : Calls Tryz.prog 5 #[.int .u8 f, .agg #[.int .u8 m1, .bool t1], .agg #[.int .u8 m2, .bool t2], .bool ng, .int .i64 ex, .agg #[.int .u64 x0, .int .u64 x1, .int .u64 x2, .int .u64 x3], .agg #[.int .u64 bh, .int .u64 bl]] w fun e w' => e = .returned (.bool true) ∧ Below w.heap.size w w' := by
  obtain ⟨h0, h1⟩ := wval_range ux0 ux1 ux2 ux3
  obtain ⟨e0, e1, e2, e3⟩ := wd_wval ux0 ux1 ux2 ux3
  have hv := val_range ub ul
  have h := same16_law_n C D U O f m1 t1 m2 t2 ng ex (wval x0 x1 x2 x3) (val bh bl) h0 h1 hv.1 hv.2 uf um1 um2 ue w ft
  rw [e0, e1, e2, e3, (hl_val ub ul).1, (hl_val ub ul).2] at h
  exact h


end Go.Proofs.YtbcjboaihahemaaGreatDoor
