/-
  MagScale.
-/
import Derived.Test.YtamigjdankkmjaaScale17
import Derived.Test.YtamigjdankkmjaaGoes17L
set_option linter.unusedVariables false
set_option linter.unusedSimpArgs false
set_option maxRecDepth 100000
namespace Go.Proofs.Ytamigjdankkmjaa
open Go.RowKit
attribute [local go_sem ↓] Go.wp_at_zero Go.wp_at_succ

theorem clip30 (e a0 a1 : Int) (h0 : (if (1073741824 : Int) < e then 1073741824 else e) = a0) (h1 : (if -1073741824 < a0 then a0 else -1073741824) = a1) : -1073741824 ≤ a1 ∧ a1 ≤ 1073741824 := by
  by_cases c : (1073741824 : Int) < e
  · rw [if_pos c] at h0; subst h0; rw [if_pos (by decide)] at h1; omega
  · rw [if_neg c] at h0; subst h0
    by_cases d : -1073741824 < e
    · rw [if_pos d] at h1; omega
    · rw [if_neg d] at h1; omega
theorem scale17_law_n (O : MagOK) (e x g y s : Int) (x0 : 0 ≤ x) (x1 : x < wfull) (y0 : 0 ≤ y) (y1 : y < wfull) (ue : -9223372036854775808 ≤ e ∧ e ≤ 9223372036854775807) (ug : -9223372036854775808 ≤ g ∧ g ≤ 9223372036854775807) (us : -32768 ≤ s ∧ s ≤ 32767) (w : World) : Calls Try.prog 7 #[.agg #[.int .i64 e, .int .u64 (wd0 (x)), .int .u64 (wd1 (x)), .int .u64 (wd2 (x)), .int .u64 (wd3 (x))], .agg #[.int .i64 g, .int .u64 (wd0 (y)), .int .u64 (wd1 (y)), .int .u64 (wd2 (y)), .int .u64 (wd3 (y))], .int .i16 s] w fun e w' => e = .returned (.bool true) ∧ Below w.heap.size w w' := by
  have G := Lib.hid (goes17_any O)
  obtain ⟨a0, ha0⟩ : ∃ a0, (if (1073741824 : Int) < e then 1073741824 else e) = a0 := ⟨_, rfl⟩
  obtain ⟨a1, ha1⟩ : ∃ a1, (if -1073741824 < a0 then a0 else -1073741824) = a1 := ⟨_, rfl⟩
  obtain ⟨b0, hb0⟩ : ∃ b0, (if (1073741824 : Int) < g then 1073741824 else g) = b0 := ⟨_, rfl⟩
  obtain ⟨b1, hb1⟩ : ∃ b1, (if -1073741824 < b0 then b0 else -1073741824) = b1 := ⟨_, rfl⟩
  obtain ⟨r1, r2⟩ := clip30 e a0 a1 ha0 ha1
  obtain ⟨t1, t2⟩ := clip30 g b0 b1 hb0 hb1
  have lr := lev_range a1 x b1 y
  obtain ⟨l, c, su, di⟩ := scale_all (e := a1) (g := b1) (by_ := s) (by rw [clT_id (by omega) (by omega), clT_id (by omega) (by omega)]) (by rw [clT_id (by omega) (by omega), clT_id (by omega) (by omega)]) x y
  have S1 := O.sum a1 x b1 y (by omega) (by omega) x0 x1 (by omega) (by omega) y0 y1
  have S2 := O.sum (a1 + s) x (b1 + s) y (by omega) (by omega) x0 x1 (by omega) (by omega) y0 y1
  have D1 := O.diff a1 x b1 y (by omega) (by omega) x0 x1 (by omega) (by omega) y0 y1
  have D2 := O.diff (a1 + s) x (b1 + s) y (by omega) (by omega) x0 x1 (by omega) (by omega) y0 y1
  have C1 := O.cmp a1 x b1 y (by omega) (by omega) x0 x1 (by omega) (by omega) y0 y1
  have C2 := O.cmp (a1 + s) x (b1 + s) y (by omega) (by omega) x0 x1 (by omega) (by omega) y0 y1
  rw [l, su, show levT a1 x b1 y + s + 1 = levT a1 x b1 y + 1 + s by omega] at S2
  rw [l, di, c] at D2
  rw [c] at C2
  have WS : Hid (IntKind.i64.wrap s = s ∧ IntKind.i64.wrap (a1 + s) = a1 + s ∧ IntKind.i64.wrap (b1 + s) = b1 + s ∧ IntKind.i64.wrap (levT a1 x b1 y + 1 + s) = levT a1 x b1 y + 1 + s ∧ IntKind.i64.wrap (levT a1 x b1 y + s) = levT a1 x b1 y + s) :=
    Lib.hid ⟨IntWalk.i64_in _ (by omega), IntWalk.i64_in _ (by omega), IntWalk.i64_in _ (by omega), IntWalk.i64_in _ (by omega), IntWalk.i64_in _ (by omega)⟩
  have WT : Hid (wrap64 (a1 + s) = a1 + s ∧ wrap64 (b1 + s) = b1 + s ∧ wrap64 (levT a1 x b1 y + 1 + s) = levT a1 x b1 y + 1 + s ∧ wrap64 (levT a1 x b1 y + s) = levT a1 x b1 y + s) :=
    Lib.hid ⟨by unfold wrap64; omega, by unfold wrap64; omega, by unfold wrap64; omega, by unfold wrap64; omega⟩
  exact scale17_core e g s a0 a1 b0 b1 _ _ _ _ _ _ _ _ _ _ _ _ _ _ _ _ _ _ _ _ _ _ _ _ (Lib.hid S1) (Lib.hid S2) (Lib.hid D1) (Lib.hid D2) (Lib.hid C1) (Lib.hid C2) G ha0 ha0 ha1 ha1 hb0 hb0 hb1 hb1 WS.out.1 WS.out.2.1 WT.out.1 WS.out.2.2.1 WT.out.2.1 WS.out.2.2.2.1 WT.out.2.2.1 WS.out.2.2.2.2 WT.out.2.2.2 w
theorem scale17_law (O : MagOK) (e x0 x1 x2 x3 g y0 y1 y2 y3 s : Int) (ue : -9223372036854775808 ≤ e ∧ e ≤ 9223372036854775807) (ux0 : U64 x0) (ux1 : U64 x1) (ux2 : U64 x2) (ux3 : U64 x3) (ug : -9223372036854775808 ≤ g ∧ g ≤ 9223372036854775807) (uy0 : U64 y0) (uy1 : U64 y1) (uy2 : U64 y2) (uy3 : U64 y3) (us : -32768 ≤ s ∧ s ≤ 32767) (w : World) : Calls Try.prog 7 #[.agg #[.int .i64 e, .int .u64 x0, .int .u64 x1, .int .u64 x2, .int .u64 x3], .agg #[.int .i64 g, .int .u64 y0, .int .u64 y1, .int .u64 y2, .int .u64 y3], .int .i16 s] w fun e w' => e = .returned (.bool true) ∧ Below w.heap.size w w' := by
  obtain ⟨hx0, hx1⟩ := wval_range ux0 ux1 ux2 ux3
  obtain ⟨ex0, ex1, ex2, ex3⟩ := wd_wval ux0 ux1 ux2 ux3
  obtain ⟨hy0, hy1⟩ := wval_range uy0 uy1 uy2 uy3
  obtain ⟨ey0, ey1, ey2, ey3⟩ := wd_wval uy0 uy1 uy2 uy3
  have h := scale17_law_n O e (wval x0 x1 x2 x3) g (wval y0 y1 y2 y3) s hx0 hx1 hy0 hy1 ue ug us w
  rw [ex0, ex1, ex2, ex3, ey0, ey1, ey2, ey3] at h
  exact h


end Go.Proofs.Ytamigjdankkmjaa
