import Derived.Test.YtdcdbcccchadfaaGreatDoorAll20
import Derived.Test.YtdcdbcccchadfaaGreatDoorGuA
import Derived.Test.YtdcdbcccchadfaaGreatDoorRef20
set_option linter.unusedVariables false
set_option linter.unusedSimpArgs false
set_option maxRecDepth 100000
namespace Go.Proofs.YtdcdbcccchadfaaGreatDoor
open Go.RowKit
attribute [local go_sem ↓] Go.wp_at_zero Go.wp_at_succ
theorem all20_law_n (A : FmaOK) (f m : Int) (t : Bool) (a b c : Int) (a0 : 0 ≤ a) (a1 : a < full) (b0 : 0 ≤ b) (b1 : b < full) (c0 : 0 ≤ c) (c1 : c < full) (uf : 0 ≤ f ∧ f ≤ 255) (um : 0 ≤ m ∧ m ≤ 255) (w : World) (ft : FTab w) : Calls Tryz.prog 3 #[.int .u8 f, .agg #[.int .u8 m, .bool t], .agg #[.int .u64 (hiOf (a)), .int .u64 (loOf (a))], .agg #[.int .u64 (hiOf (b)), .int .u64 (loOf (b))], .agg #[.int .u64 (hiOf (c)), .int .u64 (loOf (c))]] w fun e w' => e = .returned (.bool true) ∧ Below w.heap.size w w' :=
  all20_core f m _ _ _ _ _ _ _ _ _ t (lH (A.fma f m t a b c uf.1 uf.2 um.1 um.2 a0 a1 b0 b1 c0 c1)) (lH fun w => ref20_fmaN f m t a b c uf.1 uf.2 um.1 um.2 a0 a1 b0 b1 c0 c1 w) (lH (goes20_any A)) w ft
theorem all20_law (A : FmaOK) (f m : Int) (t : Bool) (ah al bh bl ch cl : Int) (uf : 0 ≤ f ∧ f ≤ 255) (um : 0 ≤ m ∧ m ≤ 255) (uah : U64 ah) (ual : U64 al) (ubh : U64 bh) (ubl : U64 bl) (uch : U64 ch) (ucl : U64 cl) (w : World) (ft : FTab w) : Calls Tryz.prog 3 #[.int .u8 f, .agg #[.int .u8 m, .bool t], .agg #[.int .u64 ah, .int .u64 al], .agg #[.int .u64 bh, .int .u64 bl], .agg #[.int .u64 ch, .int .u64 cl]] w fun e w' => e = .returned (.bool true) ∧ Below w.heap.size w w' := by
  have hva := val_range uah ual
  have hvb := val_range ubh ubl
  have hvc := val_range uch ucl
  have h := all20_law_n A f m t (val ah al) (val bh bl) (val ch cl) hva.1 hva.2 hvb.1 hvb.2 hvc.1 hvc.2 uf um w ft
  rw [(hl_val uah ual).1, (hl_val uah ual).2, (hl_val ubh ubl).1, (hl_val ubh ubl).2, (hl_val uch ucl).1, (hl_val uch ucl).2] at h
  exact h
end Go.Proofs.YtdcdbcccchadfaaGreatDoor
