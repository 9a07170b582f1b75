/-
  ModeOrder.
-/
import Derived.Test.YtjinnbfffalmkaaOrder13
import Derived.Test.YtjinnbfffalmkaaGoes13L
import Derived.Test.YtjinnbfffalmkaaGaA
set_option linter.unusedVariables false
set_option linter.unusedSimpArgs false
set_option maxRecDepth 100000
namespace Go.Proofs.Ytjinnbfffalmkaa
open Go.RowKit
attribute [local go_sem ↓] Go.wp_at_zero Go.wp_at_succ

theorem next_ud (ng od : Bool) {r : Int} (h0 : 0 < r) (h : r < 4) : nextM 2 ng od r = (!ng) ∧ nextM 3 ng od r = ng := by
  have e : ∀ m, nextM m ng od r = (if m = 0 then (decide (r = 3) || (decide (r = 2) && od)) else if m = 1 then decide (r ≠ 1) else if m = 2 then !ng else if m = 3 then ng else false) := fun m => by unfold nextM; rw [if_neg (by omega)]
  rw [e, e]
  exact ⟨rfl, rfl⟩
theorem order13_law (M : ModeOK) (m : Int) (ng od : Bool) (r : Int) (um : 0 ≤ m ∧ m ≤ 255) (ur : 0 ≤ r ∧ r ≤ 255) (w : World) : Calls Try.prog 6 #[.int .u8 m, .bool ng, .bool od, .int .u8 r] w fun e w' => e = .returned (.bool true) ∧ Below w.heap.size w w' := by
  have e : r.tmod 4 = r % 4 := Int.tmod_eq_emod_of_nonneg ur.1
  have s0 := Int.emod_nonneg r (show (4 : Int) ≠ 0 by decide); have s4 := Int.emod_lt_of_pos r (show (0 : Int) < 4 by decide)
  have G := Lib.hid (goes13_any M)
  have hu := M.next 2 ng od (r % 4) (by decide) (by decide) s0 (by omega)
  have hd := M.next 3 ng od (r % 4) (by decide) (by decide) s0 (by omega)
  have hz := M.next 4 ng od (r % 4) (by decide) (by decide) s0 (by omega)
  rw [next_zero] at hz
  have hn := M.next m ng od 0 um.1 um.2 (by decide) (by decide)
  rw [next_none] at hn
  have ho := M.next m ng od (r % 4) um.1 um.2 s0 (by omega)
  by_cases h0 : r % 4 = 0
  · rw [h0] at hu hd ho hz e
    rw [next_none] at hu hd ho
    exact order13_no00 m r _ ng od (Lib.hid ho) (Lib.hid hu) (Lib.hid hd) (Lib.hid hz) (Lib.hid hn) G e rfl (by decide) w
  · have z : (r % 4 != 0) = true := by simp [h0]
    obtain ⟨u1, u2⟩ := next_ud ng od (show 0 < r % 4 by omega) s4
    rw [u1] at hu; rw [u2] at hd
    by_cases h3 : r % 4 < 3
    · by_cases x : nextM m ng od (r % 4) = true
      · rw [x] at ho
        have hp := M.next m ng od (r % 4 + 1) um.1 um.2 (by omega) (by omega)
        rw [next_more m ng od s0 h3 x] at hp
        cases ng
        · exact order13_yes1 m r _ _ false od (Lib.hid ho) (Lib.hid hp) (Lib.hid hu) (Lib.hid hd) (Lib.hid hz) (Lib.hid hn) G e z (by simp [h3]) (by rw [IntKind.wrap_u8]; omega) w
        · exact order13_yes0 m r _ _ true od (Lib.hid ho) (Lib.hid hp) (Lib.hid hu) (Lib.hid hd) (Lib.hid hz) (Lib.hid hn) G e z (by simp [h3]) (by rw [IntKind.wrap_u8]; omega) w
      · rw [Bool.eq_false_iff.2 x] at ho
        cases ng
        · exact order13_no11 m r _ false od (Lib.hid ho) (Lib.hid hu) (Lib.hid hd) (Lib.hid hz) (Lib.hid hn) G e z (by simp [h3]) w
        · exact order13_no10 m r _ true od (Lib.hid ho) (Lib.hid hu) (Lib.hid hd) (Lib.hid hz) (Lib.hid hn) G e z (by simp [h3]) w
    · cases ng
      · exact order13_three1 m r _ false od (Lib.hid hu) (Lib.hid hd) (Lib.hid hz) (Lib.hid hn) G e z (by simp [h3]) w
      · exact order13_three0 m r _ true od (Lib.hid hu) (Lib.hid hd) (Lib.hid hz) (Lib.hid hn) G e z (by simp [h3]) w


end Go.Proofs.Ytjinnbfffalmkaa
