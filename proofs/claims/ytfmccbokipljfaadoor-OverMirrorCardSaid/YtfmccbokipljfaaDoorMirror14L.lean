/-
  OverMirror.
-/
import Derived.Test.YtfmccbokipljfaaDoorMirror14
import Derived.Test.YtfmccbokipljfaaDoorGoes14L
import Derived.Test.YtfmccbokipljfaaDoorGfA
set_option linter.unusedVariables false
set_option linter.unusedSimpArgs false
set_option maxRecDepth 100000
namespace Go.Proofs.YtfmccbokipljfaaDoor
open Go.RowKit
attribute [local go_sem ↓] Go.wp_at_zero Go.wp_at_succ

theorem inf14_cls {f : Int} (h0 : 0 ≤ f) (h : f < 4) (ng : Bool) : clsF f (infF f ng % full) = 3 ∧ negF f (infF f ng % full) = ng := by
  obtain ⟨p0, p1, p2, p3, p4, p5, p6, p7, p8⟩ := f_nums h0 h
  obtain ⟨a, b, c⟩ := make_fields h0 h ng (2 * fE f + 1) 0
  obtain ⟨r0, r1⟩ := make_full h0 ng (2 * fE f + 1) 0
  rw [expOf_id h0 h (by omega) (by omega)] at a
  rw [Int.zero_emod] at b
  unfold infF
  rw [Int.emod_eq_of_lt r0 r1]
  refine ⟨?_, c⟩
  unfold clsF; rw [if_pos h, a, b, if_neg (by omega), if_pos rfl, if_pos rfl]
theorem max14_cls {f : Int} (h0 : 0 ≤ f) (h : f < 4) (ng : Bool) : clsF f (maxF f ng % full) = 2 ∧ negF f (maxF f ng % full) = ng := by
  obtain ⟨p0, p1, p2, p3, p4, p5, p6, p7, p8⟩ := f_nums h0 h
  obtain ⟨a, b, c⟩ := make_fields h0 h ng (2 * fE f) (2 ^ (fP f - 1) - 1)
  obtain ⟨r0, r1⟩ := make_full h0 ng (2 * fE f) (2 ^ (fP f - 1) - 1)
  rw [expOf_id h0 h (by omega) (by omega)] at a
  unfold maxF
  rw [Int.emod_eq_of_lt r0 r1]
  refine ⟨?_, c⟩
  unfold clsF; rw [if_pos h, a, if_neg (by omega), if_neg (by omega)]
theorem mirror14_law (C : FormOK) (D : ClassOK) (M : ModeOK) (O : OverOK) (f m : Int) (uf : 0 ≤ f ∧ f ≤ 255) (um : 0 ≤ m ∧ m ≤ 255) (w : World) (ft : FTab w) : Calls Tryd.prog 4 #[.int .u8 f, .int .u8 m] w fun e w' => e = .returned (.bool true) ∧ Below w.heap.size w w' := by
  have G := Lib.hid (goes14_any O)
  obtain ⟨v0, v1⟩ := mir_range um.1 um.2
  have mk : mirM m < 5 ↔ m < 5 := by have := mir_known m; rwa [decide_eq_decide] at this
  have o1 := O.over f m false uf.1 uf.2 um.1 um.2
  have o2 := O.over f (mirM m) true uf.1 uf.2 v0 v1
  have hK := C.known f uf.1 uf.2
  have hM := M.known m um.1 um.2
  have hm := Lib.hid (M.mirror m um.1 um.2)
  by_cases hf : f < 4
  · rw [show decide (f < 4) = true by simp [hf]] at hK
    by_cases h5 : m < 5
    · rw [show decide (m < 5) = true by simp [h5]] at hM
      have im := inf_mirror (mirM m)
      rw [mir_mir] at im
      have n0 := O.over f 0 true uf.1 uf.2 (by decide) (by decide)
      rw [(over_inf (f := f) (m := 0) (ng := true) ⟨hf, by decide⟩ rfl).1, (over_inf (f := f) (m := 0) (ng := true) ⟨hf, by decide⟩ rfl).2] at n0
      have n1 := O.over f 1 true uf.1 uf.2 (by decide) (by decide)
      rw [(over_inf (f := f) (m := 1) (ng := true) ⟨hf, by decide⟩ rfl).1, (over_inf (f := f) (m := 1) (ng := true) ⟨hf, by decide⟩ rfl).2] at n1
      have n4 := O.over f 4 false uf.1 uf.2 (by decide) (by decide)
      rw [(over_fin (f := f) (m := 4) (ng := false) ⟨hf, by decide⟩ rfl).1, (over_fin (f := f) (m := 4) (ng := false) ⟨hf, by decide⟩ rfl).2] at n4
      have hX := Lib.hid (C.max f false uf.1 uf.2)
      cases i : infM m false with
      | true =>
        rw [i] at im
        rw [(over_inf ⟨hf, h5⟩ i).1, (over_inf ⟨hf, h5⟩ i).2] at o1
        rw [(over_inf ⟨hf, mk.2 h5⟩ im.symm).1, (over_inf ⟨hf, mk.2 h5⟩ im.symm).2] at o2
        have c1 := D.of f (infF f false) uf.1 uf.2
        rw [(inf14_cls uf.1 hf false).1, (inf14_cls uf.1 hf false).2] at c1
        have c2 := D.of f (infF f true) uf.1 uf.2
        rw [(inf14_cls uf.1 hf true).1, (inf14_cls uf.1 hf true).2] at c2
        exact mirror14_inf f m _ _ _ _ _ _ _ _ _ (Lib.hid o1) hm (Lib.hid o2) (Lib.hid hK) (Lib.hid hM) (Lib.hid c1) (Lib.hid c2) (Lib.hid n0) (Lib.hid n1) (Lib.hid n4) hX G w ft
      | false =>
        rw [i] at im
        rw [(over_fin ⟨hf, h5⟩ i).1, (over_fin ⟨hf, h5⟩ i).2] at o1
        rw [(over_fin ⟨hf, mk.2 h5⟩ im.symm).1, (over_fin ⟨hf, mk.2 h5⟩ im.symm).2] at o2
        have c1 := D.of f (maxF f false) uf.1 uf.2
        rw [(max14_cls uf.1 hf false).1, (max14_cls uf.1 hf false).2] at c1
        have c2 := D.of f (maxF f true) uf.1 uf.2
        rw [(max14_cls uf.1 hf true).1, (max14_cls uf.1 hf true).2] at c2
        exact mirror14_fin f m _ _ _ _ _ _ _ (Lib.hid o1) hm (Lib.hid o2) (Lib.hid hK) (Lib.hid hM) (Lib.hid c1) (Lib.hid c2) hX (Lib.hid n0) (Lib.hid n1) (Lib.hid n4) G w ft
    · rw [show decide (m < 5) = false by simp [h5]] at hM
      rw [(over_no (f := f) (m := m) (by omega) false).1, (over_no (f := f) (m := m) (by omega) false).2, hl_zero.1, hl_zero.2] at o1
      rw [(over_no (f := f) (m := mirM m) (by omega) true).1, (over_no (f := f) (m := mirM m) (by omega) true).2, hl_zero.1, hl_zero.2] at o2
      exact mirror14_no_m f m _ (Lib.hid o1) hm (Lib.hid o2) (Lib.hid hK) (Lib.hid hM) G w ft
  · rw [show decide (f < 4) = false by simp [hf]] at hK
    rw [(over_no (f := f) (m := m) (by omega) false).1, (over_no (f := f) (m := m) (by omega) false).2, hl_zero.1, hl_zero.2] at o1
    rw [(over_no (f := f) (m := mirM m) (by omega) true).1, (over_no (f := f) (m := mirM m) (by omega) true).2, hl_zero.1, hl_zero.2] at o2
    exact mirror14_no_f f m _ (Lib.hid o1) hm (Lib.hid o2) (Lib.hid hK) G w ft


end Go.Proofs.YtfmccbokipljfaaDoor
