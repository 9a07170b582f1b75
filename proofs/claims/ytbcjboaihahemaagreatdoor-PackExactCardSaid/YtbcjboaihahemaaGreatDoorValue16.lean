/-
  The document's number of a number.
-/
import Derived.Test.YtbcjboaihahemaaGreatDoorPack16M
import Derived.Test.YtbcjboaihahemaaGreatDoorGnB
import Derived.Test.YtbcjboaihahemaaGreatDoorGdA
import Derived.Test.YtbcjboaihahemaaGreatDoorGaA
set_option linter.unusedVariables false
set_option linter.unusedSimpArgs false
set_option maxRecDepth 100000
namespace Go.Proofs.YtbcjboaihahemaaGreatDoor
open Go.RowKit
attribute [local go_sem ↓] Go.wp_at_zero Go.wp_at_succ

set_option maxHeartbeats 1000000 in
theorem value16_core (ex e0 e1 E X x0 x1 x2 x3 : Int) (ng : Bool) (WN : Hid (∀ w, Calls Tryz.prog 28 #[.agg #[.int .u64 x0, .int .u64 x1, .int .u64 x2, .int .u64 x3]] w (RetNum w X))) (q1 : (if 1099511627776 < ex then 1099511627776 else ex) = e0) (q1' : (if ex > 1099511627776 then 1099511627776 else ex) = e0) (q2 : (if e0 > (-1099511627776) then e0 else (-1099511627776)) = e1) (q2' : (if (-1099511627776) < e0 then e0 else (-1099511627776)) = e1) (w1_ : IntKind.i64.wrap (e1 - 255) = E) (w : World) :
    Calls Tryz.prog 8 #[.bool ng, .int .i64 ex, .agg #[.int .u64 x0, .int .u64 x1, .int .u64 x2, .int .u64 x3]] w fun e w' => ∃ v, e = .returned (.agg #[.bool ng, v, .int .i64 E, .bool false]) ∧ IsNum w' v X ∧ Below w.heap.size w w' := by
  go_enter Tryz.func8, Tryz.ntmps8
  go_wp2_with fail
  (with_reducible refine (WN.out _).mono ?_); rintro e W1 ⟨v, rfl, nv, hb⟩
  have kk := bC (bA (bA (Below.refl _ w) _) _) hb
  have hv : HB W1 (w.heap.size + 1) 39 #[.bool false, .slice none 0 0, .int .i64 0, .bool false] := (HB.newAt (by simp) _ _).later hb
  clear hb
  obtain ⟨ao, kl, cap, es, rfl, hd, hn, hnorm⟩ := id nv
  clear hd hn hnorm
  have nv2 := (((nv.setHB hv (fun d h => by simp at h) 0 (.bool ng)).setHB (hv.set 0 _) (fun d h => by simp at h) 1 (.slice ao kl cap)).setHB ((hv.set 0 _).set 1 _) (fun d h => by simp at h) 2 (.int .i64 E)).setHB (((hv.set 0 _).set 1 _).set 2 _) (fun d h => by simp at h) 3 (.bool false)
  have KEY : Hid (HB ((((W1.setCell ⟨w.heap.size + 1, 0, none⟩ (.bool ng)).setCell ⟨w.heap.size + 1, 1, none⟩ (.slice ao kl cap)).setCell ⟨w.heap.size + 1, 2, none⟩ (.int .i64 E)).setCell ⟨w.heap.size + 1, 3, none⟩ (.bool false)) (w.heap.size + 1) 39 #[.bool ng, .slice ao kl cap, .int .i64 E, .bool false] ∧ IsNum ((((W1.setCell ⟨w.heap.size + 1, 0, none⟩ (.bool ng)).setCell ⟨w.heap.size + 1, 1, none⟩ (.slice ao kl cap)).setCell ⟨w.heap.size + 1, 2, none⟩ (.int .i64 E)).setCell ⟨w.heap.size + 1, 3, none⟩ (.bool false)) (.slice ao kl cap) X ∧ Below w.heap.size w ((((W1.setCell ⟨w.heap.size + 1, 0, none⟩ (.bool ng)).setCell ⟨w.heap.size + 1, 1, none⟩ (.slice ao kl cap)).setCell ⟨w.heap.size + 1, 2, none⟩ (.int .i64 E)).setCell ⟨w.heap.size + 1, 3, none⟩ (.bool false))) :=
    Lib.hid ⟨((((hv.set 0 _).set 1 _).set 2 _).set 3 _), nv2, ((((kk.setCell (p := ⟨w.heap.size + 1, 0, none⟩) (by simp) _).setCell (p := ⟨w.heap.size + 1, 1, none⟩) (by simp) _).setCell (p := ⟨w.heap.size + 1, 2, none⟩) (by simp) _).setCell (p := ⟨w.heap.size + 1, 3, none⟩) (by simp) _)⟩
  clear nv nv2
  have z0 := hv.cell 0; have z1 := hv.cell 1; have z2 := hv.cell 2; have z3 := hv.cell 3; have y0 := hv.frozen 0; have y1 := hv.frozen 1; have y2 := hv.frozen 2; have y3 := hv.frozen 3; have yl := hv.lt; dsimp at z0 z1 z2 z3
  go_wp2_with fail
  obtain ⟨hE, nE, kb⟩ := KEY.out
  have c0 := hE.cell 0; have c1 := hE.cell 1; have c2 := hE.cell 2; have c3 := hE.cell 3; dsimp at c0 c1 c2 c3
  refine bodyPost_ret (v := .agg #[.bool ng, .slice ao kl cap, .int .i64 E, .bool false]) ?_ rfl ⟨_, rfl, nE, kb⟩
  clear KEY hE nE kb hv kk z0 z1 z2 z3 y0 y1 y2 y3
  simp [results, Tryz.results8, go_sem, c0, c1, c2, c3]


end Go.Proofs.YtbcjboaihahemaaGreatDoor
