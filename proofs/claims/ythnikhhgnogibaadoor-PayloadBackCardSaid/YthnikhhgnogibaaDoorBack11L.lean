/-
  PayloadBack over digits.
-/
import Derived.Test.YthnikhhgnogibaaDoorBack11
import Derived.Test.YthnikhhgnogibaaDoorGoes11L
set_option linter.unusedVariables false
set_option linter.unusedSimpArgs false
set_option maxRecDepth 100000
namespace Go.Proofs.YthnikhhgnogibaaDoor
open Go.RowKit
attribute [local go_sem ↓] Go.wp_at_zero Go.wp_at_succ

theorem back11_law_n (C : FormOK) (D : ClassOK) (N : NanOK) (Y : PayOK) (f t b : Int) (f0 : 0 ≤ f) (f1 : f ≤ 255) (t0 : 0 ≤ t) (t1 : t ≤ 255) (w : World) (ft : FTab w) : Calls Tryd.prog 4 #[.int .u8 f, .int .u8 t, .agg #[.int .u64 (hiOf (b)), .int .u64 (loOf (b))]] w fun e w' => e = .returned (.bool true) ∧ Below w.heap.size w w' := by
  have G := Lib.hid (goes11_any Y)
  obtain ⟨b0, bf⟩ := mod_f b
  have hm := Y.move f t b f0 f1 t0 t1
  have hN := D.nan f b f0 f1
  have hK := C.known t t0 t1
  by_cases k : moveK f t (b % full) = true
  · obtain ⟨e1, e2, t4, hn⟩ := move_yes k
    obtain ⟨m1, m2, m3, m4, m5, m6, m7⟩ := move_fields (f := f) (b := b % full) t0 t4
    rw [k, e1, e2] at hm
    have ml : moveB f t (b % full) % full = moveB f t (b % full) := Int.emod_eq_of_lt m6 m7
    have hO := D.of t (moveB f t (b % full)) t0 t1
    rw [ml, m4, m1] at hO
    have hF := C.fits t (moveB f t (b % full)) t0 t1
    rw [ml, m5, beq_self_eq_true, Bool.and_true, show decide (t < 4) = true by simp [t4]] at hF
    have hS := D.sig f b f0 f1
    obtain ⟨n1, n2⟩ := move_nan (f := f) (b := b % full) t0 t4
    have h4 := nan_known hn
    by_cases hlt : t < f
    · by_cases s : sigF f (b % full) = true
      · rw [s] at hS hm
        exact back11_less1 f t _ _ _ _ _ _ (Lib.hid hm) (Lib.hid hO) (Lib.hid (D.of f b f0 f1)) (Lib.hid hF) (Lib.hid hS) G (by simp [hlt]) w ft
      · rw [Bool.eq_false_iff.2 s] at hS hm
        exact back11_less0 f t _ _ _ _ _ _ (Lib.hid hm) (Lib.hid hO) (Lib.hid (D.of f b f0 f1)) (Lib.hid hF) (Lib.hid hS) G (by simp [hlt]) w ft
    · have hm2 := Y.move t f (moveB f t (b % full)) t0 t1 f0 f1
      have k2 : moveK t f (moveB f t (b % full)) = true := by unfold moveK; simp [h4, n1]
      obtain ⟨g1, g2, _, _⟩ := move_yes k2
      rw [ml, k2, g1, g2, n2, move_back f0 b0 (by omega) t4 hn] at hm2
      have hQ := N.quiet f b f0 f1
      by_cases s : sigF f (b % full) = true
      · rw [s] at hS hm
        exact back11_more1 f t _ _ _ _ _ _ _ _ (Lib.hid hm) (Lib.hid hO) (Lib.hid (D.of f b f0 f1)) (Lib.hid hF) (Lib.hid hS) (Lib.hid hm2) (Lib.hid hQ) G (by simp; omega) w ft
      · rw [Bool.eq_false_iff.2 s] at hS hm
        exact back11_more0 f t _ _ _ _ _ _ _ _ (Lib.hid hm) (Lib.hid hO) (Lib.hid (D.of f b f0 f1)) (Lib.hid hF) (Lib.hid hS) (Lib.hid hm2) (Lib.hid hQ) G (by simp; omega) w ft
  · have k' := Bool.eq_false_iff.2 k
    obtain ⟨e1, e2⟩ := move_no k'
    rw [k', e1, e2, hl_zero.1, hl_zero.2] at hm
    by_cases hn : nanF f (b % full) = true
    · rw [hn] at hN
      have t4 : ¬ t < 4 := fun h => by unfold moveK at k'; simp [hn] at k'; omega
      rw [show decide (t < 4) = false by simp [t4]] at hK
      exact back11_to f t _ _ (Lib.hid hm) (Lib.hid hN) (Lib.hid hK) G w ft
    · rw [Bool.eq_false_iff.2 hn] at hN
      exact back11_none f t _ _ (Lib.hid hm) (Lib.hid hN) G w ft
theorem back11_law (C : FormOK) (D : ClassOK) (N : NanOK) (Y : PayOK) (f t bh bl : Int) (uf : 0 ≤ f ∧ f ≤ 255) (ut : 0 ≤ t ∧ t ≤ 255) (ubh : U64 bh) (ubl : U64 bl) (w : World) (ft : FTab w) : Calls Tryd.prog 4 #[.int .u8 f, .int .u8 t, .agg #[.int .u64 bh, .int .u64 bl]] w fun e w' => e = .returned (.bool true) ∧ Below w.heap.size w w' := by
  have h := back11_law_n C D N Y f t (val bh bl) uf.1 uf.2 ut.1 ut.2 w ft
  rw [(hl_val ubh ubl).1, (hl_val ubh ubl).2] at h
  exact h


end Go.Proofs.YthnikhhgnogibaaDoor
