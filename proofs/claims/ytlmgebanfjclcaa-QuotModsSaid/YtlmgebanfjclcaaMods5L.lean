/-
  QuotMods over digits.
-/
import Derived.Test.YtlmgebanfjclcaaMods5
import Derived.Test.YtlmgebanfjclcaaGoes5L
import Derived.Test.YtlmgebanfjclcaaRef5N
set_option linter.unusedVariables false
set_option linter.unusedSimpArgs false
set_option maxRecDepth 100000
namespace Go.Proofs.Ytlmgebanfjclcaa
open Go.RowKit
attribute [local go_sem ↓] Go.wp_at_zero Go.wp_at_succ

theorem mods5_walk (r d k : Int) (w : World) :
    Calls Try.prog 4 #[.agg #[.int .u64 (hiOf (r)), .int .u64 (loOf (r))], .int .i64 k, .agg #[.int .u64 (hiOf (d)), .int .u64 (loOf (d))]] w fun e w' => e = .returned (.bool true) ∧ Below w.heap.size w w' := by
  have G := Lib.hid goes5_any
  have c5 : decide (0 ≤ cmpI (r % full) (d % full)) = decide (d % full ≤ r % full) := by
    unfold cmpI; rw [decide_eq_decide]; split <;> (try split) <;> omega
  by_cases g1 : 700 < k
  · by_cases g2 : k ≤ 40000
    · exact mods5_far _ _ _ _ k (by simp [g1]) (by simp [g2]) w
    · refine mods5_over _ _ _ _ _ _ k _ _ (Lib.hid (modQ_no r d k (.inr (.inr (by omega))))) (Lib.hid (mod5_go r d k _ ?_ rfl)) G (by simp [g1]) (by simp; omega) w
      rw [c5]
      by_cases h : d % full ≤ r % full
      · exact .inl (by simp [h])
      · exact .inr (.inr ⟨by simp; omega, by simp; omega, by simp; omega⟩)
  · by_cases hb : d % full ≤ r % full ∨ k < 0
    · refine mods5_near _ _ _ _ _ _ k _ _ (Lib.hid (modQ_no r d k (by omega))) (Lib.hid (mod5_go r d k _ ?_ rfl)) G (by simp; omega) w
      rw [c5]
      by_cases h : d % full ≤ r % full
      · exact .inl (by simp [h])
      · exact .inr (.inl ⟨by simp; omega, by simp; omega⟩)
    · obtain ⟨K, rfl⟩ := Int.eq_ofNat_of_zero_le (show 0 ≤ k by omega)
      exact mods5_near _ _ _ _ _ _ K _ _ (Lib.hid (modQ r d K (by omega) (by omega))) (Lib.hid (ref5_mod r d K (by omega) (by omega))) G (by simp; omega) w
theorem mods5_law (rh rl k dh dl : Int) (urh : U64 rh) (url : U64 rl) (ik : -9223372036854775808 ≤ k ∧ k ≤ 9223372036854775807) (udh : U64 dh) (udl : U64 dl) (w : World) :
    Calls Try.prog 4 #[.agg #[.int .u64 rh, .int .u64 rl], .int .i64 k, .agg #[.int .u64 dh, .int .u64 dl]] w fun e w' => e = .returned (.bool true) ∧ Below w.heap.size w w' := by
  have h := mods5_walk (val rh rl) (val dh dl) k w
  rw [(hl_val urh url).1, (hl_val urh url).2, (hl_val udh udl).1, (hl_val udh udl).2] at h
  exact h


end Go.Proofs.Ytlmgebanfjclcaa
