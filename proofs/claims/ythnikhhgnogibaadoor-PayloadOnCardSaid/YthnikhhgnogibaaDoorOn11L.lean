/-
  PayloadOn over digits.
-/
import Derived.Test.YthnikhhgnogibaaDoorOn11
import Derived.Test.YthnikhhgnogibaaDoorGoes11L
set_option linter.unusedVariables false
set_option linter.unusedSimpArgs false
set_option maxRecDepth 100000
namespace Go.Proofs.YthnikhhgnogibaaDoor
open Go.RowKit
attribute [local go_sem ↓] Go.wp_at_zero Go.wp_at_succ

theorem on11_law_n (C : FormOK) (D : ClassOK) (Y : PayOK) (b f y t : Int) (f0 : 0 ≤ f) (f1 : f ≤ 255) (y0 : 0 ≤ y) (y1 : y ≤ 255) (t0 : 0 ≤ t) (t1 : t ≤ 255) (w : World) (ft : FTab w) : Calls Tryd.prog 5 #[.agg #[.int .u64 (hiOf (b)), .int .u64 (loOf (b))], .int .u8 f, .int .u8 y, .int .u8 t] w fun e w' => e = .returned (.bool true) ∧ Below w.heap.size w w' := by
  have G := Lib.hid (goes11_any Y)
  have hf := C.known f f0 f1; have hy := C.known y y0 y1; have ht := C.known t t0 t1
  have hN := D.nan f b f0 f1
  by_cases f4 : f < 4
  · rw [show decide (f < 4) = true by simp [f4]] at hf
    by_cases y4 : y < 4
    · rw [show decide (y < 4) = true by simp [y4]] at hy
      by_cases t4 : t < 4
      · rw [show decide (t < 4) = true by simp [t4]] at ht
        by_cases hn : nanF f (b % full) = true
        · rw [hn] at hN
          have right : ((f ≤ y ∧ y ≤ t) ∨ (y ≤ f ∧ t ≤ y)) → ∃ rh rl sh sl fl : Int, (∀ w, FTab w → Calls Tryd.prog 8 #[.int .u8 f, .int .u8 y, .agg #[.int .u64 (hiOf (b)), .int .u64 (loOf (b))]] w fun e w' => e = .returned (.tuple #[.agg #[.int .u64 rh, .int .u64 rl, .int .u8 fl], .bool true]) ∧ Below w.heap.size w w') ∧ (∀ w, FTab w → Calls Tryd.prog 8 #[.int .u8 y, .int .u8 t, .agg #[.int .u64 rh, .int .u64 rl]] w fun e w' => e = .returned (.tuple #[.agg #[.int .u64 sh, .int .u64 sl, .int .u8 0], .bool true]) ∧ Below w.heap.size w w') ∧ (∀ w, FTab w → Calls Tryd.prog 8 #[.int .u8 f, .int .u8 t, .agg #[.int .u64 (hiOf (b)), .int .u64 (loOf (b))]] w fun e w' => e = .returned (.tuple #[.agg #[.int .u64 sh, .int .u64 sl, .int .u8 fl], .bool true]) ∧ Below w.heap.size w w') := by
            intro hor
            have h1 := Y.move f y b f0 f1 y0 y1
            have k1 : moveK f y (b % full) = true := by unfold moveK; simp [y4, hn]
            obtain ⟨e1, e2, _, _⟩ := move_yes k1
            rw [k1, e1, e2] at h1
            obtain ⟨m1, m2, m3, m4, m5, m6, m7⟩ := move_fields (f := f) (b := b % full) y0 y4
            obtain ⟨n1, n2⟩ := move_nan (f := f) (b := b % full) y0 y4
            have h2 := Y.move y t (moveB f y (b % full)) y0 y1 t0 t1
            have k2 : moveK y t (moveB f y (b % full)) = true := by unfold moveK; simp [t4, n1]
            obtain ⟨g1, g2, _, _⟩ := move_yes k2
            rw [Int.emod_eq_of_lt m6 m7, k2, g1, g2, n2, move_on f0 f4 y0 y4 t0 t4 hor] at h2
            have h3 := Y.move f t b f0 f1 t0 t1
            have k3 : moveK f t (b % full) = true := by unfold moveK; simp [t4, hn]
            obtain ⟨d1, d2, _, _⟩ := move_yes k3
            rw [k3, d1, d2] at h3
            exact ⟨_, _, _, _, _, h1, h2, h3⟩
          by_cases p1 : f ≤ y
          · by_cases p2 : y ≤ t
            · obtain ⟨_, _, _, _, _, h1, h2, h3⟩ := right (Or.inl ⟨p1, p2⟩)
              exact on11_r1 _ _ f y t _ _ _ _ _ (Lib.hid hf) (Lib.hid hy) (Lib.hid ht) (Lib.hid hN) (Lib.hid h1) (Lib.hid h2) (Lib.hid h3) G (by simp [p1]) (by simp [p2]) w ft
            · by_cases p3 : y ≤ f
              · obtain ⟨_, _, _, _, _, h1, h2, h3⟩ := right (Or.inr ⟨p3, by omega⟩)
                exact on11_r2 _ _ f y t _ _ _ _ _ (Lib.hid hf) (Lib.hid hy) (Lib.hid ht) (Lib.hid hN) (Lib.hid h1) (Lib.hid h2) (Lib.hid h3) G (by simp [p1]) (by simp [p2]) (by simp [p3]) (by simp; omega) w ft
              · exact on11_w1 _ _ f y t (Lib.hid hf) (Lib.hid hy) (Lib.hid ht) (Lib.hid hN) G (by simp [p1]) (by simp [p2]) (by simp [p3]) w ft
          · by_cases p4 : t ≤ y
            · obtain ⟨_, _, _, _, _, h1, h2, h3⟩ := right (Or.inr ⟨by omega, p4⟩)
              exact on11_r3 _ _ f y t _ _ _ _ _ (Lib.hid hf) (Lib.hid hy) (Lib.hid ht) (Lib.hid hN) (Lib.hid h1) (Lib.hid h2) (Lib.hid h3) G (by simp [p1]) (by simp; omega) (by simp [p4]) w ft
            · exact on11_w2 _ _ f y t (Lib.hid hf) (Lib.hid hy) (Lib.hid ht) (Lib.hid hN) G (by simp [p1]) (by simp; omega) (by simp [p4]) w ft
        · rw [Bool.eq_false_iff.2 hn] at hN
          exact on11_k4 _ _ f y t (Lib.hid hf) (Lib.hid hy) (Lib.hid ht) (Lib.hid hN) G w ft
      · rw [show decide (t < 4) = false by simp [t4]] at ht
        exact on11_k3 _ _ f y t (Lib.hid hf) (Lib.hid hy) (Lib.hid ht) G w ft
    · rw [show decide (y < 4) = false by simp [y4]] at hy
      exact on11_k2 _ _ f y t (Lib.hid hf) (Lib.hid hy) G w ft
  · rw [show decide (f < 4) = false by simp [f4]] at hf
    exact on11_k1 _ _ f y t (Lib.hid hf) G w ft
theorem on11_law (C : FormOK) (D : ClassOK) (Y : PayOK) (bh bl f y t : Int) (ubh : U64 bh) (ubl : U64 bl) (uf : 0 ≤ f ∧ f ≤ 255) (uy : 0 ≤ y ∧ y ≤ 255) (ut : 0 ≤ t ∧ t ≤ 255) (w : World) (ft : FTab w) : Calls Tryd.prog 5 #[.agg #[.int .u64 bh, .int .u64 bl], .int .u8 f, .int .u8 y, .int .u8 t] w fun e w' => e = .returned (.bool true) ∧ Below w.heap.size w w' := by
  have h := on11_law_n C D Y (val bh bl) f y t uf.1 uf.2 uy.1 uy.2 ut.1 ut.2 w ft
  rw [(hl_val ubh ubl).1, (hl_val ubh ubl).2] at h
  exact h


end Go.Proofs.YthnikhhgnogibaaDoor
