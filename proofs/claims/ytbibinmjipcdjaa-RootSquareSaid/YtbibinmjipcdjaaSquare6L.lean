/-
  RootSquare over digits.
-/
import Derived.Test.YtbibinmjipcdjaaSquare6
import Derived.Test.YtbibinmjipcdjaaMath6
set_option linter.unusedVariables false
set_option linter.unusedSimpArgs false
set_option maxRecDepth 100000
namespace Go.Proofs.Ytbibinmjipcdjaa
open Go.RowKit
attribute [local go_sem ↓] Go.wp_at_zero Go.wp_at_succ

theorem square6_walk (C : RootOK) (A : Int) (w : World) :
    Calls Try.prog 5 #[.agg #[.int .u64 (hiOf (A)), .int .u64 (loOf (A))]] w fun e w' => e = .returned (.bool true) ∧ Below w.heap.size w w' := by
  obtain ⟨r0, r1⟩ := mod_f A
  obtain ⟨s0, s1, s2⟩ := sq_lt_w r0 r1
  have hm := mulW A A
  have hr := C.root (A % full * (A % full))
  rw [Int.emod_eq_of_lt s0 s1, root_sq r0 s1, (hl_mod A).1, (hl_mod A).2, show exactN (A % full * (A % full)) = true by unfold exactN; rw [root_sq r0 s1]; simp] at hr
  have CN := Lib.hid (goes6_any C)
  have hv := val_hiLo_mod A
  have uh := hiOf_u A; have ul := loOf_u A
  by_cases h2 : A % full < 2
  · have e1 : hiOf A = 0 := by unfold val U64 at *; omega
    have e2 : loOf A < 2 := by unfold val U64 at *; omega
    rw [e1] at hm hr ⊢
    exact square6_small _ _ _ _ _ (Lib.hid hm) (Lib.hid hr) CN (by simp [e2]) w
  · have big : (full - 1) * (full - 1) + 1 < wfull := by decide +kernel
    have ge : A % full * 2 ≤ A % full * (A % full) := Int.mul_le_mul_of_nonneg_left (by omega) r0
    have h3 := addW (A % full * (A % full)) 1
    obtain ⟨o0, o1, o2, o3⟩ := one_dig6
    rw [o0, o1, o2, o3] at h3
    have h4 := subW (A % full * (A % full)) 1
    rw [o0, o1, o2, o3] at h4
    have p1 : RootAt (A % full * (A % full) + 1) (A % full) 0 := ⟨r0, by omega, by rw [Int.pow_zero, Int.mul_add, Int.add_mul]; omega⟩
    have p2 : RootAt (A % full * (A % full) - 1) (A % full - 1) 0 := ⟨by omega, by rw [Int.sub_mul, Int.mul_sub]; omega, by rw [Int.pow_zero, show A % full - 1 + 1 = A % full by omega]; omega⟩
    have q1 := rootN_of (by omega) (by omega) p1
    have q2 := rootN_of (by omega) (by omega) p2
    have h5 := C.root (A % full * (A % full) + 1)
    rw [Int.emod_eq_of_lt (a := A % full * (A % full) + 1) (b := wfull) (by omega) (by omega), show exactN (A % full * (A % full) + 1) = false by unfold exactN; rw [q1]; simp; omega, q1, (hl_mod A).1, (hl_mod A).2] at h5
    have h6 := C.root (A % full * (A % full) - 1)
    rw [Int.emod_eq_of_lt (a := A % full * (A % full) - 1) (b := wfull) (by omega) (by omega), show exactN (A % full * (A % full) - 1) = false by unfold exactN; rw [q2]; simp; rw [Int.sub_mul, Int.mul_sub]; omega, q2] at h6
    have h7 := sub_any (hiOf A) (loOf A) 0 1 uh ul u0 u1
    rw [hv, show val 0 1 = 1 from rfl] at h7
    by_cases e : hiOf A = 0
    · have e2 : ¬ loOf A < 2 := by unfold val at hv; rw [e] at hv; omega
      exact square6_lo _ _ _ _ _ _ _ _ _ _ _ _ _ _ _ _ _ _ _ (Lib.hid hm) (Lib.hid hr) (Lib.hid h3) (Lib.hid h4) (Lib.hid h5) (Lib.hid h6) (Lib.hid h7) CN (by simp [e]) (by simp; omega) w
    · exact square6_hi _ _ _ _ _ _ _ _ _ _ _ _ _ _ _ _ _ _ _ (Lib.hid hm) (Lib.hid hr) (Lib.hid h3) (Lib.hid h4) (Lib.hid h5) (Lib.hid h6) (Lib.hid h7) CN (by simp [e]) w
theorem square6_law (C : RootOK) (ah al : Int) (uah : U64 ah) (ual : U64 al) (w : World) :
    Calls Try.prog 5 #[.agg #[.int .u64 ah, .int .u64 al]] w fun e w' => e = .returned (.bool true) ∧ Below w.heap.size w w' := by
  have h := square6_walk C (val ah al) w
  rw [(hl_val uah ual).1, (hl_val uah ual).2] at h
  exact h


end Go.Proofs.Ytbibinmjipcdjaa
