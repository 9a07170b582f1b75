import Derived.Test.YtdcdbcccchadfaaGreatDoorSum20
import Derived.Test.YtdcdbcccchadfaaGreatDoorGuA
import Derived.Test.YtdcdbcccchadfaaGreatDoorFma20L
import Derived.Test.YtdcdbcccchadfaaGreatDoorRest0
set_option linter.unusedVariables false
set_option linter.unusedSimpArgs false
set_option maxRecDepth 100000
namespace Go.Proofs.YtdcdbcccchadfaaGreatDoor
open Go.RowKit
attribute [local go_sem ↓] Go.wp_at_zero Go.wp_at_succ
theorem sum20_law_n (C : FormOK) (S : AddOK) (A : FmaOK) (f m : Int) (t : Bool) (a c : Int) (a0 : 0 ≤ a) (a1 : a < full) (c0 : 0 ≤ c) (c1 : c < full) (uf : 0 ≤ f ∧ f ≤ 255) (um : 0 ≤ m ∧ m ≤ 255) (w : World) (ft : FTab w) : Calls Tryz.prog 5 #[.int .u8 f, .agg #[.int .u8 m, .bool t], .agg #[.int .u64 (hiOf (a)), .int .u64 (loOf (a))], .agg #[.int .u64 (hiOf (c)), .int .u64 (loOf (c))]] w fun e w' => e = .returned (.bool true) ∧ Below w.heap.size w w' := by
  have G := lH (goes20_any A)
  have K := C.known f uf.1 uf.2
  by_cases hf : f < 4
  · rw [decide_eq_true hf] at K
    obtain ⟨p0, p1, p2, p3, p4, p5, p6, p7, p8⟩ := f_nums uf.1 hf
    have EM := C.emax f uf.1 uf.2
    have MP := C.make f false (fE f) 0 uf.1 uf.2 (by omega) (by omega)
    rw [show (0 : Int) % full = 0 by decide, show hiOf 0 = 0 by decide, show loOf 0 = 0 by decide] at MP
    obtain ⟨o0, o1, oB, oF⟩ := fm_one (m := m) uf.1 hf a0 a1 c0 c1 _ rfl
    have X := A.fma f m t a (makeF f false (fE f) 0) c uf.1 uf.2 um.1 um.2 a0 a1 o0 o1 c0 c1
    rw [oB, oF] at X
    exact sum20_main f m _ _ _ _ _ _ _ _ _ _ t (lH K) (lH EM) (lH MP) (lH X) (lH (S.add f m t a c uf.1 uf.2 um.1 um.2 a0 a1 c0 c1)) G w ft
  · rw [decide_eq_false hf] at K
    have X := A.fma f m t a a c uf.1 uf.2 um.1 um.2 a0 a1 a0 a1 c0 c1
    rw [show fmB f m a a c = 0 by unfold fmB; rw [if_neg (fun k => hf k.1)], show fmFl f m t a a c = 0 by unfold fmFl; rw [if_neg (fun k => hf k.1)]] at X
    exact sum20_no f m _ _ _ _ t (lH K) (lH X) G w ft
theorem sum20_law (C : FormOK) (S : AddOK) (A : FmaOK) (f m : Int) (t : Bool) (ah al ch cl : Int) (uf : 0 ≤ f ∧ f ≤ 255) (um : 0 ≤ m ∧ m ≤ 255) (uah : U64 ah) (ual : U64 al) (uch : U64 ch) (ucl : U64 cl) (w : World) (ft : FTab w) : Calls Tryz.prog 5 #[.int .u8 f, .agg #[.int .u8 m, .bool t], .agg #[.int .u64 ah, .int .u64 al], .agg #[.int .u64 ch, .int .u64 cl]] w fun e w' => e = .returned (.bool true) ∧ Below w.heap.size w w' := by
  have hva := val_range uah ual
  have hvc := val_range uch ucl
  have h := sum20_law_n C S A f m t (val ah al) (val ch cl) hva.1 hva.2 hvc.1 hvc.2 uf um w ft
  rw [(hl_val uah ual).1, (hl_val uah ual).2, (hl_val uch ucl).1, (hl_val uch ucl).2] at h
  exact h
end Go.Proofs.YtdcdbcccchadfaaGreatDoor
