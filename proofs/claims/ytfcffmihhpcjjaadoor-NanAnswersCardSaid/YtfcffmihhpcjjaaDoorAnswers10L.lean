/-
  NanAnswers over slices.
-/
import Derived.Test.YtfcffmihhpcjjaaDoorAnswers10
import Derived.Test.YtfcffmihhpcjjaaDoorGoes10L
import Derived.Test.YtfcffmihhpcjjaaDoorAny8L
set_option linter.unusedVariables false
set_option linter.unusedSimpArgs false
set_option maxRecDepth 100000
namespace Go.Proofs.YtfcffmihhpcjjaaDoor
open Go.RowKit
attribute [local go_sem ↓] Go.wp_at_zero Go.wp_at_succ

set_option maxRecDepth 100000 in
set_option maxHeartbeats 1000000 in
theorem answers10_long (f : Int) (inv : Bool) (ao : Option Addr) (n cap : Nat) (w : World) (hn : 50 < n) (hm : n ≤ 9223372036854775807) : Calls Tryd.prog 5 #[.int .u8 f, .bool inv, .slice ao n cap] w fun e w' => e = .returned (.bool true) ∧ Below w.heap.size w w' := by
  have g : decide ((50 : Int) < (n : Int)) = true := by simp; omega
  go_enter Tryd.func5, Tryd.ntmps5
  go_wp2_with fail
  go_ret
  exact ⟨rfl, Below.refl _ _⟩
theorem answers10_law (C : FormOK) (D : ClassOK) (E : AnyOK) (N : NanOK) (f : Int) (inv : Bool) (ao : Option Addr) (n cap : Nat) (xs : List Int) (fb : 0 ≤ f ∧ f ≤ 255) (w : World) (ft : FTab w) (x : Bs w ao n cap xs) : Calls Tryd.prog 5 #[.int .u8 f, .bool inv, .slice ao n cap] w fun e w' => e = .returned (.bool true) ∧ Below w.heap.size w w' := by
  obtain ⟨f0, f1⟩ := fb
  by_cases hn : n ≤ 50
  · have gn : decide ((50 : Int) < (n : Int)) = false := by simp; omega
    have G := Lib.hid (goes10_any N)
    have hp := N.pick f inv ao n cap xs f0 f1
    have K := C.known f f0 f1
    by_cases h4 : f < 4
    · rw [show decide (f < 4) = true by simp [h4]] at K
      obtain ⟨c4, cc⟩ := first_cls f0 h4 xs
      have fl := first_low f0 xs
      have hO := D.of f (firstV f xs) f0 f1
      have hF := C.fits f (firstV f xs) f0 f1
      rw [fl, c4] at hO
      rw [fl, cc, show decide (f < 4) = true by simp [h4], beq_self_eq_true, Bool.true_and] at hF
      cases inv with
      | true =>
        obtain ⟨e1, e2, e3⟩ := pick_inv h4 xs
        rw [e1, e2, e3] at hp
        exact answers10_inv ao n cap xs f _ _ _ (Lib.hid hp) (Lib.hid K) (Lib.hid hO) (Lib.hid hF) G gn w ft x
      | false =>
        have A := E.nan f ao n cap xs f0 f1
        have B := E.sig f ao n cap xs f0 f1
        by_cases hN : anyN f xs = true
        · obtain ⟨e1, e2, e3⟩ := pick_nan h4 xs hN
          rw [e1, e2, e3] at hp
          rw [show (xs.any fun b => nanF f (b % full)) = true from hN] at A
          by_cases hS : anyS f xs = true
          · rw [if_pos hS] at hp
            rw [show (xs.any fun b => sigF f (b % full)) = true from hS] at B
            exact answers10_sig ao n cap xs f _ _ _ (Lib.hid hp) (Lib.hid K) (Lib.hid A) (Lib.hid hO) (Lib.hid hF) (Lib.hid B) G gn w ft x
          · rw [if_neg hS] at hp
            rw [show (xs.any fun b => sigF f (b % full)) = false from Bool.eq_false_iff.2 hS] at B
            exact answers10_quiet ao n cap xs f _ _ _ (Lib.hid hp) (Lib.hid K) (Lib.hid A) (Lib.hid hO) (Lib.hid hF) (Lib.hid B) G gn w ft x
        · have hN' : anyN f xs = false := by simpa using hN
          obtain ⟨e1, e2, e3⟩ := pick_none xs hN'
          rw [e1, e2, e3, hl_zero.1, hl_zero.2] at hp
          rw [show (xs.any fun b => nanF f (b % full)) = false from hN'] at A
          exact answers10_none ao n cap xs f (Lib.hid hp) (Lib.hid K) (Lib.hid A) G gn w ft x
    · rw [show decide (f < 4) = false by simp [h4]] at K
      obtain ⟨e1, e2, e3⟩ := pick_no h4 inv xs
      rw [e1, e2, e3, hl_zero.1, hl_zero.2] at hp
      exact answers10_unknown ao n cap xs f inv (Lib.hid hp) (Lib.hid K) G gn w ft x
  · exact answers10_long f inv ao n cap w (by omega) x.2.2.1.1


end Go.Proofs.YtfcffmihhpcjjaaDoor
