/-
  ModeRounds.
-/
import Derived.Test.YtjinnbfffalmkaaRounds13
import Derived.Test.YtjinnbfffalmkaaRounds13R
import Derived.Test.YtjinnbfffalmkaaGoes13L
set_option linter.unusedVariables false
set_option linter.unusedSimpArgs false
set_option maxRecDepth 100000
namespace Go.Proofs.Ytjinnbfffalmkaa
open Go.RowKit
attribute [local go_sem ↓] Go.wp_at_zero Go.wp_at_succ

theorem rounds13_law (M : ModeOK) (n : Int) (ng : Bool) (un : 0 ≤ n ∧ n ≤ 4294967295) (w : World) : Calls Try.prog 4 #[.int .u32 n, .bool ng] w fun e w' => e = .returned (.bool true) ∧ Below w.heap.size w w' := by
  have e1 : n.tmod 1073741824 = n % 1073741824 := Int.tmod_eq_emod_of_nonneg un.1
  obtain ⟨N, hN⟩ : ∃ N, n % 1073741824 = N := ⟨_, rfl⟩
  rw [hN] at e1
  have N0 : 0 ≤ N := by omega
  have N1 : N < 1073741824 := by omega
  have e2 : N.tdiv 8 = N / 8 := Int.tdiv_eq_ediv_of_nonneg N0
  have e2w : IntKind.u32.wrap (N.tdiv 8) = N / 8 := by rw [e2, IntKind.wrap_u32]; omega
  have e3 : N.tmod 8 = N % 8 := Int.tmod_eq_emod_of_nonneg N0
  have G := Lib.hid (goes13_any M)
  have R := fun k (k0 : (0 : Int) ≤ k) (k1 : k ≤ 255) => rounded13 M k ng N k0 k1 N0 N1
  have r0 := R 0 (by decide) (by decide); have r1 := R 1 (by decide) (by decide); have r2 := R 2 (by decide) (by decide); have r3 := R 3 (by decide) (by decide); have r4 := R 4 (by decide) (by decide)
  rw [rnd_up] at r2
  rw [rnd_down] at r3
  rw [rnd_zero] at r4
  have na := rnd_near ng N; have aw := rnd_away ng N
  have fa := far13 (rndM 0 ng N) N (by split at na <;> (try split at na) <;> omega) (by split at na <;> (try split at na) <;> omega) N0 N1
  have fb := far13 (rndM 1 ng N) N (by split at aw <;> omega) (by split at aw <;> omega) N0 N1
  obtain ⟨a, ha⟩ : ∃ a, rndM 0 ng N = a := ⟨_, rfl⟩
  obtain ⟨b, hb⟩ : ∃ b, rndM 1 ng N = b := ⟨_, rfl⟩
  rw [ha] at na fa r0
  rw [hb] at aw fb r1
  clear ha hb R
  have m0 := Int.emod_nonneg N (show (8 : Int) ≠ 0 by decide); have m8 := Int.emod_lt_of_pos N (show (0 : Int) < 8 by decide)
  have dv := Int.mul_ediv_add_emod N 8
  have qq : N / 8 % 2 = 0 ∨ N / 8 % 2 = 1 := by omega
  have ffa : farI a N ≤ 4 := by unfold farI; split at na <;> (try split at na) <;> split <;> omega
  have ffb : farI b N ≤ 4 := by unfold farI; split at aw <;> split <;> omega
  have a0 : 0 ≤ a := by split at na <;> (try split at na) <;> omega
  by_cases hr : N % 8 = 0
  · rw [if_pos (Or.inl hr)] at r2 r3
    have ea : a = N / 8 := by rw [if_pos (by omega)] at na; exact na
    have eb : b = N / 8 := by rw [if_pos (by omega)] at aw; exact aw
    subst ea; subst eb
    cases ng
    · exact rounds13_000 n N (N / 8) (N % 8) (N / 8) (N / 8) _ _ (Lib.hid r0) (Lib.hid r1) (Lib.hid fa) (Lib.hid fb) (Lib.hid r2) (Lib.hid r3) (Lib.hid r4) G e1 e2 e2w e3 (by omega) (by simp; omega) (by simp; omega) (by simp; omega) (by simp; omega) (by simp) (by simp) (by simp) (by simp) w
    · exact rounds13_001 n N (N / 8) (N % 8) (N / 8) (N / 8) _ _ (Lib.hid r0) (Lib.hid r1) (Lib.hid fa) (Lib.hid fb) (Lib.hid r2) (Lib.hid r3) (Lib.hid r4) G e1 e2 e2w e3 (by omega) (by simp; omega) (by simp; omega) (by simp; omega) (by simp; omega) (by simp) (by simp) (by simp) (by simp) w
  · have eu : IntKind.u32.wrap (N / 8 + 1) = N / 8 + 1 := by rw [IntKind.wrap_u32]; omega
    have qa : N / 8 ≤ a ∧ a ≤ N / 8 + 1 := by split at na <;> (try split at na) <;> omega
    have qb : N / 8 ≤ b ∧ b ≤ N / 8 + 1 := by split at aw <;> omega
    by_cases h4 : N % 8 = 4
    · have ea2 : a % 2 = 0 := by rw [if_neg (by omega), if_pos h4] at na; omega
      have ea : a.tmod 2 = 0 := by rw [Int.tmod_eq_emod_of_nonneg a0]; exact ea2
      have eb : b = N / 8 + 1 := by rw [if_neg (by omega)] at aw; exact aw
      cases ng
      · rw [if_neg (by simp [hr])] at r2; rw [if_pos (Or.inr rfl)] at r3
        exact rounds13_110 n N (N / 8) (N % 8) (N / 8 + 1) a b _ _ 0 (Lib.hid r0) (Lib.hid r1) (Lib.hid fa) (Lib.hid fb) (Lib.hid r2) (Lib.hid r3) (Lib.hid r4) G e1 e2 e2w e3 (by omega) (by simp; omega) eu (by omega) (by simp; omega) (by simp; omega) (by simp [h4]) ea (by omega) rfl (by simp [eb]) (by simp; omega) (by simp; omega) (by simp; omega) (by simp; omega) w
      · rw [if_pos (Or.inr rfl)] at r2; rw [if_neg (by simp [hr])] at r3
        exact rounds13_111 n N (N / 8) (N % 8) (N / 8 + 1) a b _ _ 0 (Lib.hid r0) (Lib.hid r1) (Lib.hid fa) (Lib.hid fb) (Lib.hid r2) (Lib.hid r3) (Lib.hid r4) G e1 e2 e2w e3 (by omega) (by simp; omega) eu (by omega) (by simp; omega) (by simp; omega) (by simp [h4]) ea (by omega) rfl (by simp [eb]) (by simp; omega) (by simp; omega) (by simp; omega) (by simp; omega) w
    · cases ng
      · rw [if_neg (by simp [hr])] at r2; rw [if_pos (Or.inr rfl)] at r3
        exact rounds13_100 n N (N / 8) (N % 8) (N / 8 + 1) a b _ _ (Lib.hid r0) (Lib.hid r1) (Lib.hid fa) (Lib.hid fb) (Lib.hid r2) (Lib.hid r3) (Lib.hid r4) G e1 e2 e2w e3 (by omega) (by simp; omega) eu (by omega) (by simp; omega) (by simp; omega) (by simp [h4]) (by simp; omega) (by simp; omega) (by simp; omega) (by simp; omega) w
      · rw [if_pos (Or.inr rfl)] at r2; rw [if_neg (by simp [hr])] at r3
        exact rounds13_101 n N (N / 8) (N % 8) (N / 8 + 1) a b _ _ (Lib.hid r0) (Lib.hid r1) (Lib.hid fa) (Lib.hid fb) (Lib.hid r2) (Lib.hid r3) (Lib.hid r4) G e1 e2 e2w e3 (by omega) (by simp; omega) eu (by omega) (by simp; omega) (by simp; omega) (by simp [h4]) (by simp; omega) (by simp; omega) (by simp; omega) (by simp; omega) w


end Go.Proofs.Ytjinnbfffalmkaa
