/-
  PackKnown.
-/
import Derived.Test.YtbcjboaihahemaaDoorKnown16
import Derived.Test.YtbcjboaihahemaaDoorGoes16L
set_option linter.unusedVariables false
set_option linter.unusedSimpArgs false
set_option maxRecDepth 100000
namespace Go.Proofs.YtbcjboaihahemaaDoor
open Go.RowKit
attribute [local go_sem ↓] Go.wp_at_zero Go.wp_at_succ

/-- Far below the least number. -/
theorem far16 (t : Bool) : pkB 3 2 false (-4611686018427387904) 1 = 1 ∧ pkFl 3 2 t false (-4611686018427387904) 1 = 24 := by
  have hE : pkE (-4611686018427387904) 1 = -1099511628031 := by decide +kernel
  have hS : pkS 1 = 2 ^ 255 := by decide +kernel
  have hA : pkA 3 2 false (-1099511628031) (2 ^ 255) = -1099511628031 := by decide +kernel
  have hL : pkL 3 (-1099511628031) = -16382 := by decide +kernel
  obtain ⟨r1, r2⟩ := rest_far (s := 2 ^ 255) (n := 1099511611792) (by decide) (by decide) (by decide)
  have hn : (256 - (fP 3 : Int) + (pkL 3 (-1099511628031) - -1099511628031)) = 1099511611792 := by decide +kernel
  have hR : pkR 3 (-1099511628031) (2 ^ 255) = 1 := by unfold pkR; rw [hn]; exact r1
  have hN : pkN 3 2 false (-1099511628031) (2 ^ 255) = 1 := by unfold pkN cutQ; rw [hn, r1, r2]; rfl
  have hF : (fE 3 : Int) = 16383 := by decide +kernel
  rw [(pk_num (f := 3) (m := 2) (by decide) (by decide) (by decide)).1, (pk_num (f := 3) (m := 2) (by decide) (by decide) (by decide)).2, hE, hS]
  unfold numB numFl
  rw [hA, hF, if_neg (by decide), if_neg (by decide), hN, hL, hR, if_neg (by decide)]
  refine ⟨by decide +kernel, ?_⟩
  cases t <;> rfl
theorem known16_law (O : PackOK) (w : World) (ft : FTab w) : Calls Tryd.prog 8 #[] w fun e w' => e = .returned (.bool true) ∧ Below w.heap.size w w' := by
  refine known16_core (Lib.hid fun w ft => ?h0) (Lib.hid fun w ft => ?h1) (Lib.hid fun w => ?h2) (Lib.hid fun w ft => ?h3) (Lib.hid fun w ft => ?h5) (Lib.hid fun w => ?h6) (Lib.hid fun w ft => ?h7) (Lib.hid fun w ft => ?h8) (Lib.hid fun w ft => ?h9) (Lib.hid fun w ft => ?h10) (Lib.hid fun w ft => ?h11) (Lib.hid fun w ft => ?h12) (Lib.hid fun w ft => ?h13) (Lib.hid fun w ft => ?h15) (Lib.hid (goes16_any O)) w ft
  case h0 =>
    have h := O.round 0 0 false false (-15) 115792089237316195423570985008687907853269984665640564039457584007913129639935 (by decide) (by decide) (by decide) (by decide) (by decide) (by decide) (by decide) (by decide +kernel) w ft
    rw [show wd0 115792089237316195423570985008687907853269984665640564039457584007913129639935 = 18446744073709551615 from by decide +kernel, show wd1 115792089237316195423570985008687907853269984665640564039457584007913129639935 = 18446744073709551615 from by decide +kernel, show wd2 115792089237316195423570985008687907853269984665640564039457584007913129639935 = 18446744073709551615 from by decide +kernel, show wd3 115792089237316195423570985008687907853269984665640564039457584007913129639935 = 18446744073709551615 from by decide +kernel, show pkB 0 0 false (-15) 115792089237316195423570985008687907853269984665640564039457584007913129639935 = 1024 from by decide +kernel, show pkFl 0 0 false false (-15) 115792089237316195423570985008687907853269984665640564039457584007913129639935 = 24 from by decide +kernel, show hiOf 1024 = 0 from by decide +kernel, show loOf 1024 = 1024 from by decide +kernel] at h
    exact h
  case h1 =>
    have h := O.round 0 0 true false (-15) 115792089237316195423570985008687907853269984665640564039457584007913129639935 (by decide) (by decide) (by decide) (by decide) (by decide) (by decide) (by decide) (by decide +kernel) w ft
    rw [show wd0 115792089237316195423570985008687907853269984665640564039457584007913129639935 = 18446744073709551615 from by decide +kernel, show wd1 115792089237316195423570985008687907853269984665640564039457584007913129639935 = 18446744073709551615 from by decide +kernel, show wd2 115792089237316195423570985008687907853269984665640564039457584007913129639935 = 18446744073709551615 from by decide +kernel, show wd3 115792089237316195423570985008687907853269984665640564039457584007913129639935 = 18446744073709551615 from by decide +kernel, show pkB 0 0 false (-15) 115792089237316195423570985008687907853269984665640564039457584007913129639935 = 1024 from by decide +kernel, show pkFl 0 0 true false (-15) 115792089237316195423570985008687907853269984665640564039457584007913129639935 = 16 from by decide +kernel, show hiOf 1024 = 0 from by decide +kernel, show loOf 1024 = 1024 from by decide +kernel] at h
    exact h
  case h2 => exact top16 _ _ _ _ _ (by decide +kernel) w
  case h3 =>
    have h := O.round 0 0 false true (-26) 57896044618658097711785492504343953926634992332820282019728792003956564819968 (by decide) (by decide) (by decide) (by decide) (by decide) (by decide) (by decide) (by decide +kernel) w ft
    rw [show wd0 57896044618658097711785492504343953926634992332820282019728792003956564819968 = 0 from by decide +kernel, show wd1 57896044618658097711785492504343953926634992332820282019728792003956564819968 = 0 from by decide +kernel, show wd2 57896044618658097711785492504343953926634992332820282019728792003956564819968 = 0 from by decide +kernel, show wd3 57896044618658097711785492504343953926634992332820282019728792003956564819968 = 9223372036854775808 from by decide +kernel, show pkB 0 0 true (-26) 57896044618658097711785492504343953926634992332820282019728792003956564819968 = 32768 from by decide +kernel, show pkFl 0 0 false true (-26) 57896044618658097711785492504343953926634992332820282019728792003956564819968 = 24 from by decide +kernel, show hiOf 32768 = 0 from by decide +kernel, show loOf 32768 = 32768 from by decide +kernel] at h
    exact h
  case h5 =>
    have h := O.round 0 0 false false (-25) 57896044618658097711785492504343953926634992332820282019728792003956564819968 (by decide) (by decide) (by decide) (by decide) (by decide) (by decide) (by decide) (by decide +kernel) w ft
    rw [show wd0 57896044618658097711785492504343953926634992332820282019728792003956564819968 = 0 from by decide +kernel, show wd1 57896044618658097711785492504343953926634992332820282019728792003956564819968 = 0 from by decide +kernel, show wd2 57896044618658097711785492504343953926634992332820282019728792003956564819968 = 0 from by decide +kernel, show wd3 57896044618658097711785492504343953926634992332820282019728792003956564819968 = 9223372036854775808 from by decide +kernel, show pkB 0 0 false (-25) 57896044618658097711785492504343953926634992332820282019728792003956564819968 = 0 from by decide +kernel, show pkFl 0 0 false false (-25) 57896044618658097711785492504343953926634992332820282019728792003956564819968 = 24 from by decide +kernel, show hiOf 0 = 0 from by decide +kernel, show loOf 0 = 0 from by decide +kernel] at h
    exact h
  case h6 => exact top16 _ _ _ _ _ (by decide +kernel) w
  case h7 =>
    have h := O.round 0 0 false false (-25) 57896044618658097711785492504343953926634992332820282019728792003956564819969 (by decide) (by decide) (by decide) (by decide) (by decide) (by decide) (by decide) (by decide +kernel) w ft
    rw [show wd0 57896044618658097711785492504343953926634992332820282019728792003956564819969 = 1 from by decide +kernel, show wd1 57896044618658097711785492504343953926634992332820282019728792003956564819969 = 0 from by decide +kernel, show wd2 57896044618658097711785492504343953926634992332820282019728792003956564819969 = 0 from by decide +kernel, show wd3 57896044618658097711785492504343953926634992332820282019728792003956564819969 = 9223372036854775808 from by decide +kernel, show pkB 0 0 false (-25) 57896044618658097711785492504343953926634992332820282019728792003956564819969 = 1 from by decide +kernel, show pkFl 0 0 false false (-25) 57896044618658097711785492504343953926634992332820282019728792003956564819969 = 24 from by decide +kernel, show hiOf 1 = 0 from by decide +kernel, show loOf 1 = 1 from by decide +kernel] at h
    exact h
  case h8 =>
    have h := O.round 3 2 false false (-4611686018427387904) 1 (by decide) (by decide) (by decide) (by decide) (by decide) (by decide) (by decide) (by decide +kernel) w ft
    rw [show wd0 1 = 1 from by decide +kernel, show wd1 1 = 0 from by decide +kernel, show wd2 1 = 0 from by decide +kernel, show wd3 1 = 0 from by decide +kernel, (far16 false).1, (far16 false).2, show hiOf 1 = 0 from by decide +kernel, show loOf 1 = 1 from by decide +kernel] at h
    exact h
  case h9 =>
    have h := O.round 2 3 false true 4611686018427387904 1 (by decide) (by decide) (by decide) (by decide) (by decide) (by decide) (by decide) (by decide +kernel) w ft
    rw [show wd0 1 = 1 from by decide +kernel, show wd1 1 = 0 from by decide +kernel, show wd2 1 = 0 from by decide +kernel, show wd3 1 = 0 from by decide +kernel, show pkB 2 3 true 4611686018427387904 1 = 18442240474082181120 from by decide +kernel, show pkFl 2 3 false true 4611686018427387904 1 = 20 from by decide +kernel, show hiOf 18442240474082181120 = 0 from by decide +kernel, show loOf 18442240474082181120 = 18442240474082181120 from by decide +kernel] at h
    exact h
  case h10 =>
    have h := O.round 4 0 false false 0 115792089237316195423570985008687907853269984665640564039457584007913129639935 (by decide) (by decide) (by decide) (by decide) (by decide) (by decide) (by decide) (by decide +kernel) w ft
    rw [show wd0 115792089237316195423570985008687907853269984665640564039457584007913129639935 = 18446744073709551615 from by decide +kernel, show wd1 115792089237316195423570985008687907853269984665640564039457584007913129639935 = 18446744073709551615 from by decide +kernel, show wd2 115792089237316195423570985008687907853269984665640564039457584007913129639935 = 18446744073709551615 from by decide +kernel, show wd3 115792089237316195423570985008687907853269984665640564039457584007913129639935 = 18446744073709551615 from by decide +kernel, show pkB 4 0 false 0 115792089237316195423570985008687907853269984665640564039457584007913129639935 = 0 from by decide +kernel, show pkFl 4 0 false false 0 115792089237316195423570985008687907853269984665640564039457584007913129639935 = 0 from by decide +kernel, show hiOf 0 = 0 from by decide +kernel, show loOf 0 = 0 from by decide +kernel] at h
    exact h
  case h11 =>
    have h := O.round 0 5 false false 0 115792089237316195423570985008687907853269984665640564039457584007913129639935 (by decide) (by decide) (by decide) (by decide) (by decide) (by decide) (by decide) (by decide +kernel) w ft
    rw [show wd0 115792089237316195423570985008687907853269984665640564039457584007913129639935 = 18446744073709551615 from by decide +kernel, show wd1 115792089237316195423570985008687907853269984665640564039457584007913129639935 = 18446744073709551615 from by decide +kernel, show wd2 115792089237316195423570985008687907853269984665640564039457584007913129639935 = 18446744073709551615 from by decide +kernel, show wd3 115792089237316195423570985008687907853269984665640564039457584007913129639935 = 18446744073709551615 from by decide +kernel, show pkB 0 5 false 0 115792089237316195423570985008687907853269984665640564039457584007913129639935 = 0 from by decide +kernel, show pkFl 0 5 false false 0 115792089237316195423570985008687907853269984665640564039457584007913129639935 = 0 from by decide +kernel, show hiOf 0 = 0 from by decide +kernel, show loOf 0 = 0 from by decide +kernel] at h
    exact h
  case h12 =>
    have h := O.round 1 0 false true 0 0 (by decide) (by decide) (by decide) (by decide) (by decide) (by decide) (by decide) (by decide +kernel) w ft
    rw [show wd0 0 = 0 from by decide +kernel, show wd1 0 = 0 from by decide +kernel, show wd2 0 = 0 from by decide +kernel, show wd3 0 = 0 from by decide +kernel, show pkB 1 0 true 0 0 = 2147483648 from by decide +kernel, show pkFl 1 0 false true 0 0 = 0 from by decide +kernel, show hiOf 2147483648 = 0 from by decide +kernel, show loOf 2147483648 = 2147483648 from by decide +kernel] at h
    exact h
  case h13 =>
    have h := O.exact_ 0 true 255 3 (by decide) (by decide) (by decide) (by decide) (by decide) (by decide +kernel) w ft
    rw [show wd0 3 = 3 from by decide +kernel, show wd1 3 = 0 from by decide +kernel, show wd2 3 = 0 from by decide +kernel, show wd3 3 = 0 from by decide +kernel, show (if pkX 0 true 255 3 then pkB 0 4 true 255 3 else 0 : Int) = 49664 from by decide +kernel, show pkX 0 true 255 3 = true from by decide +kernel, show hiOf 49664 = 0 from by decide +kernel, show loOf 49664 = 49664 from by decide +kernel] at h
    exact h
  case h15 =>
    have h := O.exact_ 0 false 0 57896044618658097711785492504343953926634992332820282019728792003956564819969 (by decide) (by decide) (by decide) (by decide) (by decide) (by decide +kernel) w ft
    rw [show wd0 57896044618658097711785492504343953926634992332820282019728792003956564819969 = 1 from by decide +kernel, show wd1 57896044618658097711785492504343953926634992332820282019728792003956564819969 = 0 from by decide +kernel, show wd2 57896044618658097711785492504343953926634992332820282019728792003956564819969 = 0 from by decide +kernel, show wd3 57896044618658097711785492504343953926634992332820282019728792003956564819969 = 9223372036854775808 from by decide +kernel, show (if pkX 0 false 0 57896044618658097711785492504343953926634992332820282019728792003956564819969 then pkB 0 4 false 0 57896044618658097711785492504343953926634992332820282019728792003956564819969 else 0 : Int) = 0 from by decide +kernel, show pkX 0 false 0 57896044618658097711785492504343953926634992332820282019728792003956564819969 = false from by decide +kernel, show hiOf 0 = 0 from by decide +kernel, show loOf 0 = 0 from by decide +kernel] at h
    exact h


end Go.Proofs.YtbcjboaihahemaaDoor
