import Derived.Test.YtbighggnfkdncaaGreatDoorAll22
import Derived.Test.YtbighggnfkdncaaGreatDoorGxC
import Derived.Test.YtbighggnfkdncaaGreatDoorRef22
set_option linter.unusedVariables false
set_option linter.unusedSimpArgs false
set_option maxRecDepth 100000
namespace Go.Proofs.YtbighggnfkdncaaGreatDoor
open Go.RowKit
attribute [local go_sem ↓] Go.wp_at_zero Go.wp_at_succ
theorem all22_law_n (A : SqrtOK) (f m : Int) (t : Bool) (a : Int) (a0 : 0 ≤ a) (a1 : a < full) (uf : 0 ≤ f ∧ f ≤ 255) (um : 0 ≤ m ∧ m ≤ 255) (w : World) (ft : FTab w) : Calls Tryz.prog 3 #[.int .u8 f, .agg #[.int .u8 m, .bool t], .agg #[.int .u64 (hiOf (a)), .int .u64 (loOf (a))]] w fun e w' => e = .returned (.bool true) ∧ Below w.heap.size w w' :=
  all22_core f m _ _ _ _ _ t (lH (A.sqrt f m t a uf.1 uf.2 um.1 um.2 a0 a1)) (lH fun w => ref22_sqrtN f m t a uf.1 uf.2 um.1 um.2 a0 a1 w) (lH (goes22_any A)) w ft
theorem all22_law (A : SqrtOK) (f m : Int) (t : Bool) (ah al : Int) (uf : 0 ≤ f ∧ f ≤ 255) (um : 0 ≤ m ∧ m ≤ 255) (uah : U64 ah) (ual : U64 al) (w : World) (ft : FTab w) : Calls Tryz.prog 3 #[.int .u8 f, .agg #[.int .u8 m, .bool t], .agg #[.int .u64 ah, .int .u64 al]] w fun e w' => e = .returned (.bool true) ∧ Below w.heap.size w w' := by
  have hva := val_range uah ual
  have h := all22_law_n A f m t (val ah al) hva.1 hva.2 uf um w ft
  rw [(hl_val uah ual).1, (hl_val uah ual).2] at h
  exact h
end Go.Proofs.YtbighggnfkdncaaGreatDoor
