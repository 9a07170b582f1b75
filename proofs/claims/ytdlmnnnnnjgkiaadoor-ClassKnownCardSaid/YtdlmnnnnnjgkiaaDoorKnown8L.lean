/-
  ClassKnown.
-/
import Derived.Test.YtdlmnnnnnjgkiaaDoorKnown8
import Derived.Test.YtdlmnnnnnjgkiaaDoorGoes8L
import Derived.Test.YtdlmnnnnnjgkiaaDoorAny8L
import Derived.Test.YtdlmnnnnnjgkiaaDoorGsB
set_option linter.unusedVariables false
set_option linter.unusedSimpArgs false
set_option maxRecDepth 100000
namespace Go.Proofs.YtdlmnnnnnjgkiaaDoor
open Go.RowKit
attribute [local go_sem ↓] Go.wp_at_zero Go.wp_at_succ

theorem of_as (D : ClassOK) {f X c : Int} {s : Bool} (h0 : 0 ≤ f) (h4 : f < 4) (h : clsF f (X % full) = c ∧ negF f (X % full) = s) (w : World) (ft : FTab w) :
    Calls Tryd.prog 9 #[.int .u8 f, .agg #[.int .u64 (hiOf X), .int .u64 (loOf X)]] w fun e w' => e = .returned (.tuple #[.int .u8 c, .bool s]) ∧ Below w.heap.size w w' := by
  have k := D.of f X h0 (by omega) w ft
  rw [h.1, h.2] at k
  exact k
theorem round8 (C : FormOK) (D : ClassOK) (f : Int) (h0 : 0 ≤ f) (h4 : f < 4) : Round8 f := by
  obtain ⟨p0, p1, p2, p3, p4, p5, p6, p7, p8⟩ := f_nums h0 h4
  have h1 : f ≤ 255 := by omega
  have hc := f_cases h0 h4
  have m2 := C.make f true 1 1 h0 h1 (by decide) (by decide)
  have m5 := C.make f false (2 * fE f + 1) 1 h0 h1 (by omega) (by omega)
  have sh := leftB 1 ((fP f : Int) - 2) (by omega) (by omega)
  have m6 := C.make f true (2 * fE f + 1) (1 * 2 ^ ((fP f : Int) - 2).toNat) h0 h1 (by omega) (by omega)
  have o0 := of_as D (X := makeF f true 0 0) (c := 0) (s := true) h0 h4 (by rcases hc with rfl | rfl | rfl | rfl <;> decide +kernel)
  have o1 := of_as D (X := 1) (c := 1) (s := false) h0 h4 (by rcases hc with rfl | rfl | rfl | rfl <;> decide +kernel)
  have o2 := of_as D (X := makeF f true 1 (1 % full)) (c := 2) (s := true) h0 h4 (by rcases hc with rfl | rfl | rfl | rfl <;> decide +kernel)
  have o3 := of_as D (X := maxF f false) (c := 2) (s := false) h0 h4 (by rcases hc with rfl | rfl | rfl | rfl <;> decide +kernel)
  have o4 := of_as D (X := infF f true) (c := 3) (s := true) h0 h4 (by rcases hc with rfl | rfl | rfl | rfl <;> decide +kernel)
  have o5 := of_as D (X := makeF f false (2 * fE f + 1) (1 % full)) (c := 5) (s := false) h0 h4 (by rcases hc with rfl | rfl | rfl | rfl <;> decide +kernel)
  have o6 := of_as D (X := makeF f true (2 * fE f + 1) (1 * 2 ^ ((fP f : Int) - 2).toNat % full)) (c := 4) (s := true) h0 h4 (by rcases hc with rfl | rfl | rfl | rfl <;> decide +kernel)
  rw [show hiOf 1 = 0 from rfl, show loOf 1 = 1 from rfl] at m2 m5 sh o1
  refine ⟨fE f, fP f, 2 * fE f, 2 * fE f + 1, (fP f : Int) - 2, hiOf (makeF f true 0 0), loOf (makeF f true 0 0), _, _, hiOf (maxF f false), loOf (maxF f false), hiOf (infF f true), loOf (infF f true), _, _, _, _, _, _,
    IntWalk.i64_in _ (by omega), IntWalk.i64_in _ (by omega), by unfold wrap64; omega, IntWalk.i64_in _ (by omega), C.emax f h0 h1, C.prec f h0 h1, C.nought f true h0 h1, m2, C.max f false h0 h1, C.inf f true h0 h1, m5, sh, m6, o0, o1, o2, o3, o4, o5, o6⟩

theorem known8_law (C : FormOK) (D : ClassOK) (HA : ∀ w, FTab w → Calls Tryd.prog 17 #[.int .u8 0, .func (.func 11) #[] #[], .slice none 0 0] w fun e w' => e = .returned (.bool false) ∧ Below w.heap.size w w') (w : World) (ft : FTab w) : Calls Tryd.prog 8 #[] w fun e w' => e = .returned (.bool true) ∧ Below w.heap.size w w' := by
  refine known8_core (Lib.hid fun f h0 h4 => round8 C D f h0 h4) (Lib.hid fun w ft => ?h0) (Lib.hid fun w ft => ?h1) (Lib.hid fun w ft => ?h2) (Lib.hid HA) (Lib.hid (goes8_any D)) w ft
  case h0 =>
    have h := D.of 4 5 (by decide) (by decide) w ft
    rw [show clsF 4 (5 % full) = 0 from by decide +kernel, show negF 4 (5 % full) = false from by decide +kernel] at h
    exact h
  case h1 =>
    have h := D.nan 4 0 (by decide) (by decide) w ft
    rw [show nanF 4 (0 % full) = false from by decide +kernel] at h
    exact h
  case h2 =>
    have h := D.fin 4 0 (by decide) (by decide) w ft
    rw [show finF 4 (0 % full) = false from by decide +kernel] at h
    exact h
theorem known8_law2 (C : FormOK) (D : ClassOK) (A : AnyOK) (w : World) (ft : FTab w) : Calls Tryd.prog 8 #[] w fun e w' => e = .returned (.bool true) ∧ Below w.heap.size w w' :=
  known8_law C D (fun w ft => A.nan 0 none 0 0 [] (by decide) (by decide) w ft ⟨rfl, Nat.le_refl _, ⟨by decide, fun _ => ⟨rfl, rfl⟩⟩, fun k hk => absurd hk (Nat.not_lt_zero _)⟩) w ft

end Go.Proofs.YtdlmnnnnnjgkiaaDoor
