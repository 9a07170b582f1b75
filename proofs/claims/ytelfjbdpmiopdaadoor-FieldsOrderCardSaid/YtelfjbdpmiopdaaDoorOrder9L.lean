/-
  FieldsOrder over digits.
-/
import Derived.Test.YtelfjbdpmiopdaaDoorOrder9
import Derived.Test.YtelfjbdpmiopdaaDoorGoes9L
set_option linter.unusedVariables false
set_option linter.unusedSimpArgs false
set_option maxRecDepth 100000
namespace Go.Proofs.YtelfjbdpmiopdaaDoor
open Go.RowKit
attribute [local go_sem ↓] Go.wp_at_zero Go.wp_at_succ

theorem order9_law_n (C : FldOK) (K : FormOK) (D : ClassOK) (f a b : Int) (f0 : 0 ≤ f) (f1 : f ≤ 255) (w : World) (ft : FTab w) : Calls Tryd.prog 6 #[.int .u8 f, .agg #[.int .u64 (hiOf (a)), .int .u64 (loOf (a))], .agg #[.int .u64 (hiOf (b)), .int .u64 (loOf (b))]] w fun e w' => e = .returned (.bool true) ∧ Below w.heap.size w w' := by
  have G := Lib.hid (goes9_any C)
  obtain ⟨a0, a1⟩ := mod_f a
  obtain ⟨b0, b1⟩ := mod_f b
  have hX := C.unpack f a f0 f1
  have hY := C.unpack f b f0 f1
  have hA := D.fin f a f0 f1
  have hB := D.fin f b f0 f1
  by_cases fa : finF f (a % full) = true
  · rw [fa] at hA
    by_cases fb : finF f (b % full) = true
    · rw [fb] at hB
      have h : f < 4 ∧ clsF f (a % full) ≤ 2 := by unfold finF at fa; simpa using fa
      have h' : f < 4 ∧ clsF f (b % full) ≤ 2 := by unfold finF at fb; simpa using fb
      have ca := cls_range f (a % full)
      have cb := cls_range f (b % full)
      by_cases xg : negF f (a % full) = true
      · rw [xg] at hX
        exact order9_e2 f _ _ _ _ _ _ _ _ _ _ _ _ _ (Lib.hid hX) (Lib.hid hY) (Lib.hid hA) (Lib.hid hB) G w ft
      · have xg' : negF f (a % full) = false := by simpa using xg
        rw [xg'] at hX
        by_cases yg : negF f (b % full) = true
        · rw [yg] at hY
          exact order9_e3 f _ _ _ _ _ _ _ _ _ _ _ _ (Lib.hid hX) (Lib.hid hY) (Lib.hid hA) (Lib.hid hB) G w ft
        · have yg' : negF f (b % full) = false := by simpa using yg
          rw [yg'] at hY
          by_cases xz : clsF f (a % full) = 0
          · rw [xz] at hX
            exact order9_e4 f _ _ _ _ _ _ _ _ _ _ _ (Lib.hid hX) (Lib.hid hY) (Lib.hid hA) (Lib.hid hB) G w ft
          · by_cases yz : clsF f (b % full) = 0
            · rw [yz] at hY
              exact order9_e5 f _ _ _ _ _ _ _ _ _ _ _ (Lib.hid hX) (Lib.hid hY) (Lib.hid hA) (Lib.hid hB) G (by simp [xz]) w ft
            · have xc : clsF f (a % full) = 1 ∨ clsF f (a % full) = 2 := by omega
              have yc : clsF f (b % full) = 1 ∨ clsF f (b % full) = 2 := by omega
              obtain ⟨l1, l2⟩ := order_un f0 h.1 a0 b0 xc yc xg' yg'
              have hP := K.cut f a f0 f1
              have hQ := K.cut f b f0 f1
              have cf := cut_range (f := f) f0 a0
              have cg := cut_range (f := f) f0 b0
              have hK := cmpB (cutF f (a % full)) (cutF f (b % full))
              rw [Int.emod_eq_of_lt (a := cutF f (a % full)) cf.1 (by omega), Int.emod_eq_of_lt (a := cutF f (b % full)) cg.1 (by omega)] at hK
              have k0 : decide (cmpI (cutF f (a % full)) (cutF f (b % full)) < 0) = decide (cutF f (a % full) < cutF f (b % full)) := by unfold cmpI; rw [decide_eq_decide]; split <;> (try split) <;> omega
              have k1 : (cmpI (cutF f (a % full)) (cutF f (b % full)) == 0) = decide (cutF f (a % full) = cutF f (b % full)) := by
                unfold cmpI; rw [Bool.eq_iff_iff, beq_iff_eq, decide_eq_true_eq]; split <;> (try split) <;> omega
              have j0 : (clsF f (a % full) == 0) = false := by simp [xz]
              have j1 : (clsF f (b % full) == 0) = false := by simp [yz]
              unfold lexU at l1
              rcases Int.lt_trichotomy (uE f (a % full)) (uE f (b % full)) with t | t | t
              · exact order9_lt f _ _ _ _ _ _ _ _ _ _ _ _ _ _ _ _ _ true false (Lib.hid hX) (Lib.hid hY) (Lib.hid hA) (Lib.hid hB) (Lib.hid hP) (Lib.hid hQ) (Lib.hid hK) G j0 j1 (by rw [k0]; simp; omega) (by rw [k1]; simp; omega) (by simp [t]) rfl (by simp; omega) rfl w ft
              · rw [← t] at hY
                have sa := uS_range (f := f) f0 a0
                have sb := uS_range (f := f) f0 b0
                have hZ := cmpB (uS f (a % full)) (uS f (b % full))
                rw [Int.emod_eq_of_lt sa.1 sa.2, Int.emod_eq_of_lt sb.1 sb.2] at hZ
                have z0 : decide (cmpI (uS f (a % full)) (uS f (b % full)) < 0) = decide (uS f (a % full) < uS f (b % full)) := by unfold cmpI; rw [decide_eq_decide]; split <;> (try split) <;> omega
                by_cases s : uS f (a % full) = uS f (b % full)
                · rw [← s] at hY hZ
                  exact order9_same f _ _ _ _ _ _ _ _ _ _ _ _ _ _ _ false true (Lib.hid hX) (Lib.hid hY) (Lib.hid hA) (Lib.hid hB) (Lib.hid hP) (Lib.hid hQ) (Lib.hid hK) (Lib.hid hZ) G j0 j1 (by rw [k0]; simp; omega) (by rw [k1]; simp; omega) (by simp) (by unfold cmpI; simp) rfl w ft
                · have i := hl_inj sa.1 sa.2 sb.1 sb.2
                  have ne : decide (hiOf (uS f (a % full)) = hiOf (uS f (b % full)) ∧ loOf (uS f (a % full)) = loOf (uS f (b % full))) = false := by
                    rw [decide_eq_false_iff_not]; rintro ⟨y1, y2⟩; exact s (i.1 ⟨y2, y1⟩)
                  exact order9_eq f _ _ _ _ _ _ _ _ _ _ _ _ _ _ _ _ _ (decide (uS f (a % full) < uS f (b % full))) false (Lib.hid hX) (Lib.hid hY) (Lib.hid hA) (Lib.hid hB) (Lib.hid hP) (Lib.hid hQ) (Lib.hid hK) (Lib.hid hZ) G j0 j1 (by rw [k0, decide_eq_decide]; omega) (by rw [k1]; simp; omega) (by simp) z0 ne rfl w ft
              · exact order9_gt f _ _ _ _ _ _ _ _ _ _ _ _ _ _ _ _ _ false false (Lib.hid hX) (Lib.hid hY) (Lib.hid hA) (Lib.hid hB) (Lib.hid hP) (Lib.hid hQ) (Lib.hid hK) G j0 j1 (by rw [k0]; simp; omega) (by rw [k1]; simp; omega) (by simp; omega) rfl (by simp; omega) rfl w ft
    · have fb' : finF f (b % full) = false := by simpa using fb
      rw [fb'] at hB
      exact order9_e1 f _ _ _ _ _ _ _ _ _ _ _ _ _ _ (Lib.hid hX) (Lib.hid hY) (Lib.hid hA) (Lib.hid hB) G w ft
  · have fa' : finF f (a % full) = false := by simpa using fa
    rw [fa'] at hA
    exact order9_e0 f _ _ _ _ _ _ _ _ _ _ _ _ _ _ (Lib.hid hX) (Lib.hid hY) (Lib.hid hA) G w ft
theorem order9_law (C : FldOK) (K : FormOK) (D : ClassOK) (f ah al bh bl : Int) (uf : 0 ≤ f ∧ f ≤ 255) (uah : U64 ah) (ual : U64 al) (ubh : U64 bh) (ubl : U64 bl) (w : World) (ft : FTab w) : Calls Tryd.prog 6 #[.int .u8 f, .agg #[.int .u64 ah, .int .u64 al], .agg #[.int .u64 bh, .int .u64 bl]] w fun e w' => e = .returned (.bool true) ∧ Below w.heap.size w w' := by
  have h := order9_law_n C K D f (val ah al) (val bh bl) uf.1 uf.2 w ft
  rw [(hl_val uah ual).1, (hl_val uah ual).2, (hl_val ubh ubl).1, (hl_val ubh ubl).2] at h
  exact h


end Go.Proofs.YtelfjbdpmiopdaaDoor
