import Derived.Test.YtdcdbcccchadfaaGreatDoorGwA
import Derived.Test.YtdcdbcccchadfaaGreatDoorGnB
import Derived.Test.YtdcdbcccchadfaaGreatDoorGhA
import Derived.Test.YtdcdbcccchadfaaGreatDoorGjC
import Derived.Test.YtdcdbcccchadfaaGreatDoorGaA
import Derived.Test.YtdcdbcccchadfaaGreatDoorGaB
set_option maxHeartbeats 4000000
set_option linter.unusedVariables false
set_option linter.unusedSimpArgs false
set_option maxRecDepth 100000
namespace Go.Proofs.YtdcdbcccchadfaaGreatDoor
open Go.RowKit
attribute [local go_sem ↓] Go.wp_at_zero Go.wp_at_succ
theorem ref19_product (sx sy : Option Addr × Nat × Nat) (xa xb em M N Q : Int) (sa sb : Bool)
     (w1 : IntKind.i64.wrap (xa + xb) = em) (w1x : wrap64 (xa + xb) = em) (ML : Hid (∀ w u v, IsNum w u M → IsNum w v N → Calls Tryz.prog 92 #[u, v] w fun e' w' => ∃ q : Option Addr × Nat × Nat, e' = .returned (.slice q.1 q.2.1 q.2.2) ∧ IsNum w' (.slice q.1 q.2.1 q.2.2) Q ∧ Below w.heap.size w w')) (w : World) (nsx : IsNum w (.slice sx.1 sx.2.1 sx.2.2) (M)) (nsy : IsNum w (.slice sy.1 sy.2.1 sy.2.2) (N)) :
    Calls Tryz.prog 44 #[.agg #[.bool sa, .slice sx.1 sx.2.1 sx.2.2, .int .i64 xa], .agg #[.bool sb, .slice sy.1 sy.2.1 sy.2.2, .int .i64 xb]] w fun e' w' => ∃ q : Option Addr × Nat × Nat, e' = .returned (.agg #[.bool ((!(sa == sb))), .slice q.1 q.2.1 q.2.2, .int .i64 em]) ∧ IsNum w' (.slice q.1 q.2.1 q.2.2) Q ∧ Below w.heap.size w w' := by
  go_enter Tryz.func44, Tryz.ntmps44
  go_wp2_with fail
  have gX2 : w.heap.size ≤ w.heap.size + 1 + 1 := by omega
  refine vF3 fun w1 b1 X0 X1 X2 => ?_
  refine vR [w.heap.size + 1 + 1] fun w2 b2 S2 => ?_
  refine vT 0 S2 ?_
  refine vT 1 S2 ?_ (hy := by intro wq hb; have q := (hb.hb X0 (by simp <;> omega)).o; go_simp; try (with_reducible rfl))
  refine vT 2 S2 ?_
  refine vT 3 S2 ?_ (hy := by intro wq hb; have q := (hb.hb X1 (by simp <;> omega)).o; go_simp; try (with_reducible rfl))
  refine vT 4 S2 ?_
  refine vT 5 S2 ?_
  refine vT 6 S2 ?_ (hy := by intro wq hb; have q := (hb.hb X0 (by simp <;> omega)).o; go_simp; try (with_reducible rfl))
  refine vT 7 S2 ?_
  refine vT 8 S2 ?_ (hy := by intro wq hb; have q := (hb.hb X1 (by simp <;> omega)).o; go_simp; try (with_reducible rfl))
  refine vT 10 S2 ?_
  refine vT 11 S2 ?_ (hy := by intro wq hb; have q := (hb.hb X0 (by simp <;> omega)).o; go_simp; try (with_reducible rfl))
  refine vT 12 S2 ?_
  refine vT 13 S2 ?_ (hy := by intro wq hb; have q := (hb.hb X1 (by simp <;> omega)).o; go_simp; try (with_reducible rfl))
  refine vT 14 S2 ?_
  replace nsx := nsx.later (bC b1 b2)
  replace nsy := nsy.later (bC b1 b2)
  refine vY1 (vCE 9 S2 (ML.out _ _ _ nsx nsy) (fun _ _ => Off.later) fun q w3 nq b3 S3 => ?_)
  clear nsx
  clear nsy
  refine vT 15 S3 ?_
  refine vY1 (vO 16 fun K hK => ?_)
  replace X2 := X2.later (bC b2 b3)
  have oX2 := X2.o
  go_simp
  refine hK.out _ _ (Off.set (by simp) (Off.set (by simp) (Off.set (by simp) S3))) fun S4 => ?_
  clear hK K
  refine vP ?_
  refine vD ?_
  go_wp2_with fail
  refine bodyPost_ret (v := .agg #[.bool ((!(sa == sb))), .slice q.1 q.2.1 q.2.2, .int .i64 em]) ?_ rfl ⟨_, rfl, (((nq.setHB X2 (by simp) 0 _).setHB (X2.set 0 _) (by simp) 1 _).setHB ((X2.set 0 _).set 1 _) (by simp) 2 _), ((((bC (bC b1 b2) b3).setCell (p := ⟨w.heap.size + 1 + 1, 0, none⟩) gX2 _).setCell (p := ⟨w.heap.size + 1 + 1, 1, none⟩) gX2 _).setCell (p := ⟨w.heap.size + 1 + 1, 2, none⟩) gX2 _)⟩
  simp [results, Tryz.results44, go_sem, oX2]
end Go.Proofs.YtdcdbcccchadfaaGreatDoor
