import Derived.Test.YtdcdbcccchadfaaGreatDoorAdd18M
import Derived.Test.YtdcdbcccchadfaaGreatDoorGwA
import Derived.Test.YtdcdbcccchadfaaGreatDoorGnB
import Derived.Test.YtdcdbcccchadfaaGreatDoorGhA
import Derived.Test.YtdcdbcccchadfaaGreatDoorGrA
import Derived.Test.YtdcdbcccchadfaaGreatDoorGaA
import Derived.Test.YtdcdbcccchadfaaGreatDoorGaB
set_option maxHeartbeats 4000000
set_option linter.unusedVariables false
set_option linter.unusedSimpArgs false
set_option maxRecDepth 100000
namespace Go.Proofs.YtdcdbcccchadfaaGreatDoor
open Go.RowKit
attribute [local go_sem ↓] Go.wp_at_zero Go.wp_at_succ
theorem tri18 {w w' : World} {n : Int} {e : Ending} (h : RetNum w n e w') : ∃ s : Option Addr × Nat × Nat, e = .returned (.slice s.1 s.2.1 s.2.2) ∧ IsNum w' (.slice s.1 s.2.1 s.2.2) n ∧ Below w.heap.size w w' := by
  obtain ⟨v, he, nv, hb⟩ := h
  obtain ⟨ao, k, cap, ds, rfl, _⟩ := id nv
  exact ⟨(ao, k, cap), he, nv, hb⟩
theorem ref18_sum_same (sx sy : Option Addr × Nat × Nat) (xa xb em ka kb M N X Y Q : Int) (sa sb : Bool)
     (q1 : (if xb < xa then xb else xa) = em) (q1' : (if xa > xb then xb else xa) = em) (w1 : IntKind.i64.wrap (xa - em) = ka) (w1x : wrap64 (xa - em) = ka) (w2 : IntKind.i64.wrap (xb - em) = kb) (w2x : wrap64 (xb - em) = kb) (S1 : Hid (∀ w v, IsNum w v M → Calls Tryz.prog 140 #[v, .int .i64 ka] w (RetNum w X))) (S2 : Hid (∀ w v, IsNum w v N → Calls Tryz.prog 140 #[v, .int .i64 kb] w (RetNum w Y))) (g1 : (sa == sb) = true) (AD : Hid (∀ w u v, IsNum w u X → IsNum w v Y → Calls Tryz.prog 93 #[u, v] w fun e' w' => ∃ q : Option Addr × Nat × Nat, e' = .returned (.slice q.1 q.2.1 q.2.2) ∧ IsNum w' (.slice q.1 q.2.1 q.2.2) Q ∧ Below w.heap.size w w')) (w : World) (nsx : IsNum w (.slice sx.1 sx.2.1 sx.2.2) (M)) (nsy : IsNum w (.slice sy.1 sy.2.1 sy.2.2) (N)) :
    Calls Tryz.prog 94 #[.agg #[.bool sa, .slice sx.1 sx.2.1 sx.2.2, .int .i64 xa], .agg #[.bool sb, .slice sy.1 sy.2.1 sy.2.2, .int .i64 xb]] w fun e' w' => ∃ q : Option Addr × Nat × Nat, e' = .returned (.agg #[.bool sa, .slice q.1 q.2.1 q.2.2, .int .i64 em]) ∧ IsNum w' (.slice q.1 q.2.1 q.2.2) Q ∧ Below w.heap.size w w' := by
  go_enter Tryz.func94, Tryz.ntmps94
  go_wp2_with fail
  refine vE (S1.out _ _ (nsx.later (bA (bA (bA bR _) _) _))) fun u1 w1 nu1 b1 => ?_
  have gX2 : w.heap.size ≤ w.heap.size + 1 + 1 := by omega
  have X0 := (((HB.newAt (b := w.heap.size) (by simp) _ _).alloc _).alloc _).later b1
  have X1 := ((HB.newAt (b := w.heap.size + 1) (by simp) _ _).alloc _).later b1
  have X2 := (HB.newAt (b := w.heap.size + 1 + 1) (by simp) _ _).later b1
  clear nsx
  have oX1 := X1.o
  replace nsy := nsy.later (bC (bA (bA (bA bR _) _) _) b1)
  go_wp2_with fail
  refine vE (S2.out _ _ nsy) fun u2 w2 nu2 b2 => ?_
  clear oX1
  clear nsy
  replace X0 := X0.later b2
  have oX0 := X0.o
  replace X1 := X1.later b2
  have oX1 := X1.o
  go_wp2_with fail
  replace X2 := X2.later b2
  refine vR [w.heap.size + 1 + 1] fun w3 b3 S3 => ?_
  refine vT 0 S3 ?_
  refine vT 1 S3 ?_ (hy := by intro wq hb; have q := (hb.hb X0 (by simp <;> omega)).o; go_simp; try (with_reducible rfl))
  refine vT 2 S3 ?_
  refine vT 3 S3 ?_
  refine vT 5 S3 ?_
  replace nu1 := nu1.later (bC b2 b3)
  replace nu2 := nu2.later b3
  refine vY1 (vCE 4 S3 (AD.out _ _ _ nu1 nu2) (fun _ _ => Off.later) fun q w4 nq b4 S4 => ?_)
  clear nu1
  clear nu2
  refine vT 6 S4 ?_
  refine vY1 (vO 7 fun K hK => ?_)
  replace X2 := X2.later (bC b3 b4)
  have oX2 := X2.o
  have mX0_X2 : ¬ (w.heap.size = w.heap.size + 1 + 1) := by omega
  have mX2_X0 : ¬ (w.heap.size + 1 + 1 = w.heap.size) := by omega
  have mX1_X2 : ¬ (w.heap.size + 1 = w.heap.size + 1 + 1) := by omega
  have mX2_X1 : ¬ (w.heap.size + 1 + 1 = w.heap.size + 1) := by omega
  go_simp
  refine hK.out _ _ (Off.set (by simp) (Off.set (by simp) (Off.set (by simp) S4))) fun S5 => ?_
  clear hK K
  refine vP ?_
  refine vD ?_
  go_wp2_with fail
  refine bodyPost_ret (v := .agg #[.bool sa, .slice q.1 q.2.1 q.2.2, .int .i64 em]) ?_ rfl ⟨_, rfl, (((nq.setHB X2 (by simp) 0 _).setHB (X2.set 0 _) (by simp) 1 _).setHB ((X2.set 0 _).set 1 _) (by simp) 2 _), ((((bC (bC (bC (bC (bA (bA (bA bR _) _) _) b1) b2) b3) b4).setCell (p := ⟨w.heap.size + 1 + 1, 0, none⟩) gX2 _).setCell (p := ⟨w.heap.size + 1 + 1, 1, none⟩) gX2 _).setCell (p := ⟨w.heap.size + 1 + 1, 2, none⟩) gX2 _)⟩
  simp [results, Tryz.results94, go_sem, oX2, mX0_X2, mX2_X0, mX1_X2, mX2_X1]
theorem ref18_sum_lt (sx sy : Option Addr × Nat × Nat) (xa xb em ka kb M N X Y Q r : Int) (sa sb : Bool)
     (q1 : (if xb < xa then xb else xa) = em) (q1' : (if xa > xb then xb else xa) = em) (w1 : IntKind.i64.wrap (xa - em) = ka) (w1x : wrap64 (xa - em) = ka) (w2 : IntKind.i64.wrap (xb - em) = kb) (w2x : wrap64 (xb - em) = kb) (S1 : Hid (∀ w v, IsNum w v M → Calls Tryz.prog 140 #[v, .int .i64 ka] w (RetNum w X))) (S2 : Hid (∀ w v, IsNum w v N → Calls Tryz.prog 140 #[v, .int .i64 kb] w (RetNum w Y))) (g1 : (sa == sb) = false) (CM : Hid (∀ w u v, IsNum w u X → IsNum w v Y → Ca 84 #[u, v] w (.int .i64 r))) (g2 : decide (r < 0) = true) (SB : Hid (∀ w u v, IsNum w u Y → IsNum w v X → Calls Tryz.prog 144 #[u, v] w fun e' w' => ∃ q : Option Addr × Nat × Nat, e' = .returned (.slice q.1 q.2.1 q.2.2) ∧ IsNum w' (.slice q.1 q.2.1 q.2.2) Q ∧ Below w.heap.size w w')) (w : World) (nsx : IsNum w (.slice sx.1 sx.2.1 sx.2.2) (M)) (nsy : IsNum w (.slice sy.1 sy.2.1 sy.2.2) (N)) :
    Calls Tryz.prog 94 #[.agg #[.bool sa, .slice sx.1 sx.2.1 sx.2.2, .int .i64 xa], .agg #[.bool sb, .slice sy.1 sy.2.1 sy.2.2, .int .i64 xb]] w fun e' w' => ∃ q : Option Addr × Nat × Nat, e' = .returned (.agg #[.bool sb, .slice q.1 q.2.1 q.2.2, .int .i64 em]) ∧ IsNum w' (.slice q.1 q.2.1 q.2.2) Q ∧ Below w.heap.size w w' := by
  simp only [Ca] at *
  go_enter Tryz.func94, Tryz.ntmps94
  go_wp2_with fail
  refine vE (S1.out _ _ (nsx.later (bA (bA (bA bR _) _) _))) fun u1 w1 nu1 b1 => ?_
  have gX2 : w.heap.size ≤ w.heap.size + 1 + 1 := by omega
  have X0 := (((HB.newAt (b := w.heap.size) (by simp) _ _).alloc _).alloc _).later b1
  have X1 := ((HB.newAt (b := w.heap.size + 1) (by simp) _ _).alloc _).later b1
  have X2 := (HB.newAt (b := w.heap.size + 1 + 1) (by simp) _ _).later b1
  clear nsx
  have oX1 := X1.o
  replace nsy := nsy.later (bC (bA (bA (bA bR _) _) _) b1)
  go_wp2_with fail
  refine vE (S2.out _ _ nsy) fun u2 w2 nu2 b2 => ?_
  clear oX1
  clear nsy
  replace X0 := X0.later b2
  have oX0 := X0.o
  replace X1 := X1.later b2
  have oX1 := X1.o
  replace nu1 := nu1.later b2
  go_wp2_with fail
  refine vM (CM.out _ _ _ nu1 nu2) fun w3 b3 => ?_
  clear oX0 oX1
  go_wp2_with fail
  replace X1 := X1.later b3
  replace X2 := X2.later (bC b2 b3)
  refine vR [w.heap.size + 1 + 1] fun w4 b4 S4 => ?_
  refine vT 0 S4 ?_
  refine vT 1 S4 ?_ (hy := by intro wq hb; have q := (hb.hb X1 (by simp <;> omega)).o; go_simp; try (with_reducible rfl))
  refine vT 2 S4 ?_
  refine vT 3 S4 ?_
  refine vT 5 S4 ?_
  replace nu1 := nu1.later (bC b3 b4)
  replace nu2 := nu2.later (bC b3 b4)
  refine vY1 (vCE 4 S4 (SB.out _ _ _ nu2 nu1) (fun _ _ => Off.later) fun q w5 nq b5 S5 => ?_)
  clear nu1
  clear nu2
  refine vT 6 S5 ?_
  refine vY1 (vO 7 fun K hK => ?_)
  replace X2 := X2.later (bC b4 b5)
  have oX2 := X2.o
  go_simp
  refine hK.out _ _ (Off.set (by simp) (Off.set (by simp) (Off.set (by simp) S5))) fun S6 => ?_
  clear hK K
  refine vP ?_
  refine vD ?_
  go_wp2_with fail
  refine bodyPost_ret (v := .agg #[.bool sb, .slice q.1 q.2.1 q.2.2, .int .i64 em]) ?_ rfl ⟨_, rfl, (((nq.setHB X2 (by simp) 0 _).setHB (X2.set 0 _) (by simp) 1 _).setHB ((X2.set 0 _).set 1 _) (by simp) 2 _), ((((bC (bC (bC (bC (bC (bA (bA (bA bR _) _) _) b1) b2) b3) b4) b5).setCell (p := ⟨w.heap.size + 1 + 1, 0, none⟩) gX2 _).setCell (p := ⟨w.heap.size + 1 + 1, 1, none⟩) gX2 _).setCell (p := ⟨w.heap.size + 1 + 1, 2, none⟩) gX2 _)⟩
  simp [results, Tryz.results94, go_sem, oX2]
theorem ref18_sum_ge (sx sy : Option Addr × Nat × Nat) (xa xb em ka kb M N X Y Q r : Int) (sa sb : Bool)
     (q1 : (if xb < xa then xb else xa) = em) (q1' : (if xa > xb then xb else xa) = em) (w1 : IntKind.i64.wrap (xa - em) = ka) (w1x : wrap64 (xa - em) = ka) (w2 : IntKind.i64.wrap (xb - em) = kb) (w2x : wrap64 (xb - em) = kb) (S1 : Hid (∀ w v, IsNum w v M → Calls Tryz.prog 140 #[v, .int .i64 ka] w (RetNum w X))) (S2 : Hid (∀ w v, IsNum w v N → Calls Tryz.prog 140 #[v, .int .i64 kb] w (RetNum w Y))) (g1 : (sa == sb) = false) (CM : Hid (∀ w u v, IsNum w u X → IsNum w v Y → Ca 84 #[u, v] w (.int .i64 r))) (g2 : decide (r < 0) = false) (SB : Hid (∀ w u v, IsNum w u X → IsNum w v Y → Calls Tryz.prog 144 #[u, v] w fun e' w' => ∃ q : Option Addr × Nat × Nat, e' = .returned (.slice q.1 q.2.1 q.2.2) ∧ IsNum w' (.slice q.1 q.2.1 q.2.2) Q ∧ Below w.heap.size w w')) (w : World) (nsx : IsNum w (.slice sx.1 sx.2.1 sx.2.2) (M)) (nsy : IsNum w (.slice sy.1 sy.2.1 sy.2.2) (N)) :
    Calls Tryz.prog 94 #[.agg #[.bool sa, .slice sx.1 sx.2.1 sx.2.2, .int .i64 xa], .agg #[.bool sb, .slice sy.1 sy.2.1 sy.2.2, .int .i64 xb]] w fun e' w' => ∃ q : Option Addr × Nat × Nat, e' = .returned (.agg #[.bool sa, .slice q.1 q.2.1 q.2.2, .int .i64 em]) ∧ IsNum w' (.slice q.1 q.2.1 q.2.2) Q ∧ Below w.heap.size w w' := by
  simp only [Ca] at *
  go_enter Tryz.func94, Tryz.ntmps94
  go_wp2_with fail
  refine vE (S1.out _ _ (nsx.later (bA (bA (bA bR _) _) _))) fun u1 w1 nu1 b1 => ?_
  have gX2 : w.heap.size ≤ w.heap.size + 1 + 1 := by omega
  have X0 := (((HB.newAt (b := w.heap.size) (by simp) _ _).alloc _).alloc _).later b1
  have X1 := ((HB.newAt (b := w.heap.size + 1) (by simp) _ _).alloc _).later b1
  have X2 := (HB.newAt (b := w.heap.size + 1 + 1) (by simp) _ _).later b1
  clear nsx
  have oX1 := X1.o
  replace nsy := nsy.later (bC (bA (bA (bA bR _) _) _) b1)
  go_wp2_with fail
  refine vE (S2.out _ _ nsy) fun u2 w2 nu2 b2 => ?_
  clear oX1
  clear nsy
  replace X0 := X0.later b2
  have oX0 := X0.o
  replace X1 := X1.later b2
  have oX1 := X1.o
  replace nu1 := nu1.later b2
  go_wp2_with fail
  refine vM (CM.out _ _ _ nu1 nu2) fun w3 b3 => ?_
  clear oX0 oX1
  go_wp2_with fail
  replace X0 := X0.later b3
  replace X2 := X2.later (bC b2 b3)
  refine vR [w.heap.size + 1 + 1] fun w4 b4 S4 => ?_
  refine vT 0 S4 ?_
  refine vT 1 S4 ?_ (hy := by intro wq hb; have q := (hb.hb X0 (by simp <;> omega)).o; go_simp; try (with_reducible rfl))
  refine vT 2 S4 ?_
  refine vT 3 S4 ?_
  refine vT 5 S4 ?_
  replace nu1 := nu1.later (bC b3 b4)
  replace nu2 := nu2.later (bC b3 b4)
  refine vY1 (vCE 4 S4 (SB.out _ _ _ nu1 nu2) (fun _ _ => Off.later) fun q w5 nq b5 S5 => ?_)
  clear nu1
  clear nu2
  refine vT 6 S5 ?_
  refine vY1 (vO 7 fun K hK => ?_)
  replace X2 := X2.later (bC b4 b5)
  have oX2 := X2.o
  go_simp
  refine hK.out _ _ (Off.set (by simp) (Off.set (by simp) (Off.set (by simp) S5))) fun S6 => ?_
  clear hK K
  refine vP ?_
  refine vD ?_
  go_wp2_with fail
  refine bodyPost_ret (v := .agg #[.bool sa, .slice q.1 q.2.1 q.2.2, .int .i64 em]) ?_ rfl ⟨_, rfl, (((nq.setHB X2 (by simp) 0 _).setHB (X2.set 0 _) (by simp) 1 _).setHB ((X2.set 0 _).set 1 _) (by simp) 2 _), ((((bC (bC (bC (bC (bC (bA (bA (bA bR _) _) _) b1) b2) b3) b4) b5).setCell (p := ⟨w.heap.size + 1 + 1, 0, none⟩) gX2 _).setCell (p := ⟨w.heap.size + 1 + 1, 1, none⟩) gX2 _).setCell (p := ⟨w.heap.size + 1 + 1, 2, none⟩) gX2 _)⟩
  simp [results, Tryz.results94, go_sem, oX2]
theorem ref18_signed_nz (sx sy : Option Addr × Nat × Nat) (f m xa xb em M N Q rh rl fl : Int) (t sa sb n1 : Bool)
     (SU : Hid (∀ w, IsNum w (.slice sx.1 sx.2.1 sx.2.2) M → IsNum w (.slice sy.1 sy.2.1 sy.2.2) N → Calls Tryz.prog 94 #[.agg #[.bool sa, .slice sx.1 sx.2.1 sx.2.2, .int .i64 xa], .agg #[.bool sb, .slice sy.1 sy.2.1 sy.2.2, .int .i64 xb]] w fun e' w' => ∃ q : Option Addr × Nat × Nat, e' = .returned (.agg #[.bool n1, .slice q.1 q.2.1 q.2.2, .int .i64 em]) ∧ IsNum w' (.slice q.1 q.2.1 q.2.2) Q ∧ Below w.heap.size w w')) (RD : Hid (∀ w (q : Option Addr × Nat × Nat), IsNum w (.slice q.1 q.2.1 q.2.2) Q → Ca 95 #[.int .u8 f, .agg #[.int .u8 m, .bool t], .agg #[.bool n1, .slice q.1 q.2.1 q.2.2, .int .i64 em, .bool false]] w (.agg #[.int .u64 rh, .int .u64 rl, .int .u8 fl]))) (zf : (Q == 0) = false) (w : World) (nsx : IsNum w (.slice sx.1 sx.2.1 sx.2.2) (M)) (nsy : IsNum w (.slice sy.1 sy.2.1 sy.2.2) (N)) :
    Ca 46 #[.int .u8 f, .agg #[.int .u8 m, .bool t], .agg #[.bool sa, .slice sx.1 sx.2.1 sx.2.2, .int .i64 xa], .agg #[.bool sb, .slice sy.1 sy.2.1 sy.2.2, .int .i64 xb]] w (.agg #[.int .u64 rh, .int .u64 rl, .int .u8 fl]) := by
  simp only [Ca] at *
  go_enter Tryz.func46, Tryz.ntmps46
  go_wp2_with fail
  refine vE (SU.out _ (nsx.later (bA (bA (bA (bA bR _) _) _) _)) (nsy.later (bA (bA (bA (bA bR _) _) _) _))) fun q w1 nq b1 => ?_
  have gX3 : w.heap.size ≤ w.heap.size + 1 + 1 + 1 := by omega
  have X0 := ((((HB.newAt (b := w.heap.size) (by simp) _ _).alloc _).alloc _).alloc _).later b1
  have X3 := (HB.newAt (b := w.heap.size + 1 + 1 + 1) (by simp) _ _).later b1
  have hq := (len_zero15 nq).trans zf
  clear nsx
  clear nsy
  have oX0 := X0.o
  go_wp2_with fail
  refine vM (RD.out _ _ (nq.later (bA bR _))) fun w2 b2 => ?_
  clear oX0
  clear nq
  replace X3 := X3.later (bC (bA bR _) b2)
  have oX3 := X3.o
  go_wp2_with fail
  refine bodyPost_ret (v := .agg #[.int .u64 rh, .int .u64 rl, .int .u8 fl]) ?_ rfl ⟨rfl, ((((bC (bC (bA (bA (bA (bA bR _) _) _) _) b1) (bC (bA bR _) b2)).setCell (p := ⟨w.heap.size + 1 + 1 + 1, 0, none⟩) gX3 _).setCell (p := ⟨w.heap.size + 1 + 1 + 1, 1, none⟩) gX3 _).setCell (p := ⟨w.heap.size + 1 + 1 + 1, 2, none⟩) gX3 _)⟩
  simp [results, Tryz.results46, go_sem, oX3]
theorem ref18_signed_z (sx sy : Option Addr × Nat × Nat) (f m xa xb em M N Q rh rl fl : Int) (t sa sb n1 : Bool)
     (SU : Hid (∀ w, IsNum w (.slice sx.1 sx.2.1 sx.2.2) M → IsNum w (.slice sy.1 sy.2.1 sy.2.2) N → Calls Tryz.prog 94 #[.agg #[.bool sa, .slice sx.1 sx.2.1 sx.2.2, .int .i64 xa], .agg #[.bool sb, .slice sy.1 sy.2.1 sy.2.2, .int .i64 xb]] w fun e' w' => ∃ q : Option Addr × Nat × Nat, e' = .returned (.agg #[.bool n1, .slice q.1 q.2.1 q.2.2, .int .i64 em]) ∧ IsNum w' (.slice q.1 q.2.1 q.2.2) Q ∧ Below w.heap.size w w')) (RD : Hid (∀ w (q : Option Addr × Nat × Nat), IsNum w (.slice q.1 q.2.1 q.2.2) Q → Ca 95 #[.int .u8 f, .agg #[.int .u8 m, .bool t], .agg #[.bool ((noM m sa sb)), .slice q.1 q.2.1 q.2.2, .int .i64 em, .bool false]] w (.agg #[.int .u64 rh, .int .u64 rl, .int .u8 fl]))) (zf : (Q == 0) = true) (w : World) (nsx : IsNum w (.slice sx.1 sx.2.1 sx.2.2) (M)) (nsy : IsNum w (.slice sy.1 sy.2.1 sy.2.2) (N)) :
    Ca 46 #[.int .u8 f, .agg #[.int .u8 m, .bool t], .agg #[.bool sa, .slice sx.1 sx.2.1 sx.2.2, .int .i64 xa], .agg #[.bool sb, .slice sy.1 sy.2.1 sy.2.2, .int .i64 xb]] w (.agg #[.int .u64 rh, .int .u64 rl, .int .u8 fl]) := by
  simp only [Ca] at *
  cases sa <;> cases sb
  all_goals
    go_enter Tryz.func46, Tryz.ntmps46
    go_wp2_with fail
    refine vE (SU.out _ (nsx.later (bA (bA (bA (bA bR _) _) _) _)) (nsy.later (bA (bA (bA (bA bR _) _) _) _))) fun q w1 nq b1 => ?_
    have gX3 : w.heap.size ≤ w.heap.size + 1 + 1 + 1 := by omega
    have X0 := ((((HB.newAt (b := w.heap.size) (by simp) _ _).alloc _).alloc _).alloc _).later b1
    have X1 := (((HB.newAt (b := w.heap.size + 1) (by simp) _ _).alloc _).alloc _).later b1
    have X2 := ((HB.newAt (b := w.heap.size + 1 + 1) (by simp) _ _).alloc _).later b1
    have X3 := (HB.newAt (b := w.heap.size + 1 + 1 + 1) (by simp) _ _).later b1
    have hq := (len_zero15 nq).trans zf
    clear nsx
    clear nsy
    have oX1 := X1.o
    have oX2 := X2.o
    have oX0 := X0.o
    go_wp2_with fail
    refine vM (RD.out _ _ (nq.later (bA bR _))) fun w2 b2 => ?_
    clear oX1 oX2 oX0
    clear nq
    replace X3 := X3.later (bC (bA bR _) b2)
    have oX3 := X3.o
    go_wp2_with fail
    refine bodyPost_ret (v := .agg #[.int .u64 rh, .int .u64 rl, .int .u8 fl]) ?_ rfl ⟨rfl, ((((bC (bC (bA (bA (bA (bA bR _) _) _) _) b1) (bC (bA bR _) b2)).setCell (p := ⟨w.heap.size + 1 + 1 + 1, 0, none⟩) gX3 _).setCell (p := ⟨w.heap.size + 1 + 1 + 1, 1, none⟩) gX3 _).setCell (p := ⟨w.heap.size + 1 + 1 + 1, 2, none⟩) gX3 _)⟩
    simp [results, Tryz.results46, go_sem, oX3]
end Go.Proofs.YtdcdbcccchadfaaGreatDoor
