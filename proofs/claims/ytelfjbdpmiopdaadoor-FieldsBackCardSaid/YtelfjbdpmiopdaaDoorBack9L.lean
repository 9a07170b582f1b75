/-
  FieldsBack over digits.
-/
import Derived.Test.YtelfjbdpmiopdaaDoorBack9
import Derived.Test.YtelfjbdpmiopdaaDoorGoes9L
set_option linter.unusedVariables false
set_option linter.unusedSimpArgs false
set_option maxRecDepth 100000
namespace Go.Proofs.YtelfjbdpmiopdaaDoor
open Go.RowKit
attribute [local go_sem ↓] Go.wp_at_zero Go.wp_at_succ

theorem back9_law_n (C : FldOK) (K : FormOK) (D : ClassOK) (f b : Int) (ng : Bool) (nc ne s : Int) (f0 : 0 ≤ f) (f1 : f ≤ 255) (unc : 0 ≤ nc ∧ nc ≤ 255) (une : -9223372036854775808 ≤ ne ∧ ne ≤ 9223372036854775807) (w : World) (ft : FTab w) : Calls Tryd.prog 5 #[.int .u8 f, .agg #[.int .u64 (hiOf (b)), .int .u64 (loOf (b))], .agg #[.bool ng, .int .u8 nc, .int .i64 ne, .int .u64 (hiOf (s)), .int .u64 (loOf (s))]] w fun e w' => e = .returned (.bool true) ∧ Below w.heap.size w w' := by
  have G := Lib.hid (goes9_any C)
  obtain ⟨m0, m1⟩ := mod_f b
  obtain ⟨s0, s1⟩ := mod_f s
  obtain ⟨z1, z2⟩ := hl_zero
  have cr := cls_range f (b % full)
  have er := uE_range (f := f) (b := b % full) f0 m0
  have sr := uS_range (f := f) (b := b % full) f0 m0
  have hU := C.unpack f b f0 f1
  have hP := C.packAt f (negF f (b % full)) (clsF f (b % full)) (uE f (b % full)) (uS f (b % full)) f0 f1 (by omega) (by omega) (by omega) (by omega) sr.1 sr.2
  obtain ⟨pu1, pu2⟩ := pack_unpack (f := f) (b := b % full) f0 m0 m1
  have hK := K.known f f0 f1
  have hC := K.cut f b f0 f1
  have hN := D.nan f b f0 f1
  have hQ := C.pack f ng nc ne s f0 f1 unc.1 unc.2 une.1 une.2
  have pf := packV_full f0 ng nc ne (s % full)
  have hV := C.unpackAt f (packV f ng nc ne (s % full)) f0 f1 pf.1 pf.2
  by_cases h : f < 4
  · rw [show decide (f < 4) = true by simp [h]] at hK
    -- the second half
    by_cases q : packK f nc ne (s % full) = true
    · rw [q] at hQ
      have qv : packV f ng nc ne (s % full) = (if nc = 0 then makeF f ng 0 0 else if nc = 3 then infF f ng else makeF f ng (fieldF f ne) (s % full / 2 ^ offF f ne)) := by unfold packV; rw [q, if_pos rfl]
      by_cases n0 : nc = 0
      · subst n0
        rw [if_pos rfl] at qv
        rw [qv] at hQ hV
        obtain ⟨a1, a2⟩ := nought_cls f0 h ng
        obtain ⟨a3, a4⟩ := u_none (f := f) (b := makeF f ng 0 0) (by omega)
        rw [a1, a2, a3, a4, z1, z2] at hV
        by_cases c : clsF f (b % full) ≤ 3
        · obtain ⟨k1, k2⟩ := pu1 ⟨h, c⟩
          rw [k1, k2] at hP
          rw [show nanF f (b % full) = false by unfold nanF; simp; omega] at hN
          exact back9_num_0 f _ _ _ _ _ _ _ _ _ _ _ _ _ _ _ (Lib.hid hU) (Lib.hid hP) (Lib.hid hK) (Lib.hid hN) (Lib.hid hC) (Lib.hid hQ) (Lib.hid hV) G w ft
        · have k1 := pu2 (by omega)
          rw [k1, packV_no k1, z1, z2] at hP
          rw [show nanF f (b % full) = true by unfold nanF; simp; omega] at hN
          exact back9_nan_0 f _ _ _ _ _ _ _ _ _ _ _ _ _ (Lib.hid hU) (Lib.hid hP) (Lib.hid hK) (Lib.hid hN) (Lib.hid hQ) (Lib.hid hV) G w ft
      · by_cases n3 : nc = 3
        · subst n3
          rw [if_neg n0, if_pos rfl] at qv
          rw [qv] at hQ hV
          obtain ⟨a1, a2⟩ := inf_cls f0 h ng
          obtain ⟨a3, a4⟩ := u_none (f := f) (b := infF f ng) (by omega)
          rw [a1, a2, a3, a4, z1, z2] at hV
          by_cases c : clsF f (b % full) ≤ 3
          · obtain ⟨k1, k2⟩ := pu1 ⟨h, c⟩
            rw [k1, k2] at hP
            rw [show nanF f (b % full) = false by unfold nanF; simp; omega] at hN
            exact back9_num_3 f _ _ _ _ _ _ _ _ _ _ _ _ _ _ _ (Lib.hid hU) (Lib.hid hP) (Lib.hid hK) (Lib.hid hN) (Lib.hid hC) (Lib.hid hQ) (Lib.hid hV) G w ft
          · have k1 := pu2 (by omega)
            rw [k1, packV_no k1, z1, z2] at hP
            rw [show nanF f (b % full) = true by unfold nanF; simp; omega] at hN
            exact back9_nan_3 f _ _ _ _ _ _ _ _ _ _ _ _ _ (Lib.hid hU) (Lib.hid hP) (Lib.hid hK) (Lib.hid hN) (Lib.hid hQ) (Lib.hid hV) G w ft
        · rw [if_neg n0, if_neg n3] at qv
          obtain ⟨_, q2⟩ := packK_iff.1 q
          have k : fitK f ne (s % full) := by
            rcases q2 with q2 | q2 | q2
            · exact absurd q2 n0
            · exact absurd q2 n3
            · exact q2.2
          obtain ⟨a1, a2, a3, a4, _⟩ := un_pack f0 h ng k s1 _ qv.symm
          rw [a2, a3, a4, (hl_mod s).1, (hl_mod s).2] at hV
          by_cases c : clsF f (b % full) ≤ 3
          · obtain ⟨k1, k2⟩ := pu1 ⟨h, c⟩
            rw [k1, k2] at hP
            rw [show nanF f (b % full) = false by unfold nanF; simp; omega] at hN
            exact back9_num_else f _ _ _ _ _ _ _ _ _ _ _ _ _ _ _ _ _ (Lib.hid hU) (Lib.hid hP) (Lib.hid hK) (Lib.hid hN) (Lib.hid hC) (Lib.hid hQ) (Lib.hid hV) G (by simp [n0]) (by simp [n3]) w ft
          · have k1 := pu2 (by omega)
            rw [k1, packV_no k1, z1, z2] at hP
            rw [show nanF f (b % full) = true by unfold nanF; simp; omega] at hN
            exact back9_nan_else f _ _ _ _ _ _ _ _ _ _ _ _ _ _ _ (Lib.hid hU) (Lib.hid hP) (Lib.hid hK) (Lib.hid hN) (Lib.hid hQ) (Lib.hid hV) G (by simp [n0]) (by simp [n3]) w ft
    · have q' : packK f nc ne (s % full) = false := by simpa using q
      rw [q', packV_no q', z1, z2] at hQ
      by_cases c : clsF f (b % full) ≤ 3
      · obtain ⟨k1, k2⟩ := pu1 ⟨h, c⟩
        rw [k1, k2] at hP
        rw [show nanF f (b % full) = false by unfold nanF; simp; omega] at hN
        exact back9_num_no f _ _ _ _ _ _ _ _ _ _ _ _ _ _ (Lib.hid hU) (Lib.hid hP) (Lib.hid hK) (Lib.hid hN) (Lib.hid hC) (Lib.hid hQ) G w ft
      · have k1 := pu2 (by omega)
        rw [k1, packV_no k1, z1, z2] at hP
        rw [show nanF f (b % full) = true by unfold nanF; simp; omega] at hN
        exact back9_nan_no f _ _ _ _ _ _ _ _ _ _ _ _ (Lib.hid hU) (Lib.hid hP) (Lib.hid hK) (Lib.hid hN) (Lib.hid hQ) G w ft
  · rw [show decide (f < 4) = false by simp [h]] at hK
    have k1 := pu2 (by omega)
    rw [k1, packV_no k1, z1, z2] at hP
    have q' := packK_no (f := f) (c := nc) (e := ne) (s := s % full) (by omega)
    rw [q', packV_no q', z1, z2] at hQ
    exact back9_unknown_no f _ _ _ _ _ _ _ _ _ _ _ _ (Lib.hid hU) (Lib.hid hP) (Lib.hid hK) (Lib.hid hQ) G w ft
theorem back9_law (C : FldOK) (K : FormOK) (D : ClassOK) (f bh bl : Int) (ng : Bool) (nc ne nh nl : Int) (uf : 0 ≤ f ∧ f ≤ 255) (ubh : U64 bh) (ubl : U64 bl) (unc : 0 ≤ nc ∧ nc ≤ 255) (une : -9223372036854775808 ≤ ne ∧ ne ≤ 9223372036854775807) (unh : U64 nh) (unl : U64 nl) (w : World) (ft : FTab w) : Calls Tryd.prog 5 #[.int .u8 f, .agg #[.int .u64 bh, .int .u64 bl], .agg #[.bool ng, .int .u8 nc, .int .i64 ne, .int .u64 nh, .int .u64 nl]] w fun e w' => e = .returned (.bool true) ∧ Below w.heap.size w w' := by
  have h := back9_law_n C K D f (val bh bl) ng nc ne (val nh nl) uf.1 uf.2 unc une w ft
  rw [(hl_val unh unl).1, (hl_val unh unl).2, (hl_val ubh ubl).1, (hl_val ubh ubl).2] at h
  exact h


end Go.Proofs.YtelfjbdpmiopdaaDoor
