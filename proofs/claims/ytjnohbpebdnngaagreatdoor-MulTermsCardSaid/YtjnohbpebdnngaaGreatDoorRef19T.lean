/-
  The document's answers of stage 19: terms.
-/
import Derived.Test.YtjnohbpebdnngaaGreatDoorRef19B
import Derived.Test.YtjnohbpebdnngaaGreatDoorW2
import Derived.Test.YtjnohbpebdnngaaGreatDoorGnB
import Derived.Test.YtjnohbpebdnngaaGreatDoorGhA
import Derived.Test.YtjnohbpebdnngaaGreatDoorGaA
import Derived.Test.YtjnohbpebdnngaaGreatDoorGaB
set_option linter.unusedVariables false
set_option linter.unusedSimpArgs false
set_option maxRecDepth 100000
namespace Go.Proofs.YtjnohbpebdnngaaGreatDoor
open Go.RowKit
attribute [local go_sem ↓] Go.wp_at_zero Go.wp_at_succ

set_option maxHeartbeats 4000000 in
theorem ref19_term_na (ca cb ea eb xh xl yh yl : Int) (sa sb : Bool)
     (g1 : (ca != 1) = true) (g2 : (ca != 2) = true) (w : World) :
    Ca 15 #[.agg #[.bool sa, .int .u8 ca, .int .i64 ea, .int .u64 xh, .int .u64 xl], .agg #[.bool sb, .int .u8 cb, .int .i64 eb, .int .u64 yh, .int .u64 yl]] w (.tuple #[.int .i64 0, U4 0 0 0 0]) := by
  simp only [Ca, U4] at *
  go_enter Tryz.func15, Tryz.ntmps15
  go_wp2_with fail
  refine bodyPost_ret (v := .tuple #[.int .i64 0, .agg #[.int .u64 0, .int .u64 0, .int .u64 0, .int .u64 0]]) ?_ rfl ⟨rfl, (bA (bA (bA (Below.refl _ _) _) _) _)⟩
  simp [results, Tryz.results15, go_sem]

set_option maxHeartbeats 4000000 in
theorem ref19_term_n1 (cb ea eb xh xl yh yl : Int) (sa sb : Bool)
     (g3 : (cb != 1) = true) (g4 : (cb != 2) = true) (w : World) :
    Ca 15 #[.agg #[.bool sa, .int .u8 1, .int .i64 ea, .int .u64 xh, .int .u64 xl], .agg #[.bool sb, .int .u8 cb, .int .i64 eb, .int .u64 yh, .int .u64 yl]] w (.tuple #[.int .i64 0, U4 0 0 0 0]) := by
  simp only [Ca, U4] at *
  go_enter Tryz.func15, Tryz.ntmps15
  go_wp2_with fail
  refine bodyPost_ret (v := .tuple #[.int .i64 0, .agg #[.int .u64 0, .int .u64 0, .int .u64 0, .int .u64 0]]) ?_ rfl ⟨rfl, (bA (bA (bA (Below.refl _ _) _) _) _)⟩
  simp [results, Tryz.results15, go_sem]

set_option maxHeartbeats 4000000 in
theorem ref19_term_n2 (cb ea eb xh xl yh yl : Int) (sa sb : Bool)
     (g3 : (cb != 1) = true) (g4 : (cb != 2) = true) (w : World) :
    Ca 15 #[.agg #[.bool sa, .int .u8 2, .int .i64 ea, .int .u64 xh, .int .u64 xl], .agg #[.bool sb, .int .u8 cb, .int .i64 eb, .int .u64 yh, .int .u64 yl]] w (.tuple #[.int .i64 0, U4 0 0 0 0]) := by
  simp only [Ca, U4] at *
  go_enter Tryz.func15, Tryz.ntmps15
  go_wp2_with fail
  refine bodyPost_ret (v := .tuple #[.int .i64 0, .agg #[.int .u64 0, .int .u64 0, .int .u64 0, .int .u64 0]]) ?_ rfl ⟨rfl, (bA (bA (bA (Below.refl _ _) _) _) _)⟩
  simp [results, Tryz.results15, go_sem]

set_option maxHeartbeats 4000000 in
theorem ref19_term_11 (ea eb xh xl yh yl s1 e M N Q z0 z1 z2 z3 : Int) (sa sb : Bool)
     (B1 : Hid (∀ w, Calls Tryz.prog 49 #[U2 xh xl] w (RetNum w M))) (B2 : Hid (∀ w, Calls Tryz.prog 49 #[U2 yh yl] w (RetNum w N))) (ML : Hid (∀ w u v, IsNum w u M → IsNum w v N → Calls Tryz.prog 48 #[u, v] w (RetNum w Q))) (LW : Hid (∀ w v, IsNum w v Q → Ca 47 #[v] w (U4 z0 z1 z2 z3))) (w1 : IntKind.i64.wrap (ea + eb) = s1) (w1x : wrap64 (ea + eb) = s1) (w2 : IntKind.i64.wrap (s1 + 1) = e) (w2x : wrap64 (s1 + 1) = e) (w : World) :
    Ca 15 #[.agg #[.bool sa, .int .u8 1, .int .i64 ea, .int .u64 xh, .int .u64 xl], .agg #[.bool sb, .int .u8 1, .int .i64 eb, .int .u64 yh, .int .u64 yl]] w (.tuple #[.int .i64 e, U4 z0 z1 z2 z3]) := by
  simp only [Ca, U2, U4] at *
  go_enter Tryz.func15, Tryz.ntmps15
  go_wp2_with fail
  have gX2 : w.heap.size ≤ w.heap.size + 1 + 1 := by omega
  refine vF3 fun w1 b1 X0 X1 X2 => ?_
  refine vR [w.heap.size + 1 + 1] fun w2 b2 S2 => ?_
  refine vT 0 S2 ?_
  refine vT 1 S2 ?_ (hy := by intro wq hb; have q := (hb.hb X0 (by simp <;> omega)).o; go_simp; try (with_reducible rfl))
  refine vT 2 S2 ?_
  refine vT 3 S2 ?_ (hy := by intro wq hb; have q := (hb.hb X1 (by simp <;> omega)).o; go_simp; try (with_reducible rfl))
  refine vT 4 S2 ?_
  refine vT 5 S2 ?_
  refine vT 6 S2 ?_
  refine vT 7 S2 ?_ (hy := by intro wq hb; have q := (hb.hb X0 (by simp <;> omega)).o; go_simp; try (with_reducible rfl))
  refine vT 9 S2 ?_
  refine vT 10 S2 ?_ (hy := by intro wq hb; have q := (hb.hb X1 (by simp <;> omega)).o; go_simp; try (with_reducible rfl))
  refine vY1 (vCE 8 S2 (B1.out _) (fun _ _ => Off.later) fun u1 w3 nu1 b3 S3 => ?_)
  refine vY1 (vCE 11 S3 (B2.out _) (fun _ _ => Off.later) fun u2 w4 nu2 b4 S4 => ?_)
  replace nu1 := nu1.later b4
  refine vY1 (vCE 12 S4 (ML.out _ _ _ nu1 nu2) (fun _ _ => Off.later) fun u3 w5 nu3 b5 S5 => ?_)
  clear nu1
  clear nu2
  refine vY1 (vC 13 S5 (LW.out _ _ nu3) (fun _ _ => Off.later) fun w6 b6 S6 => ?_)
  clear nu3
  refine vT 14 S6 ?_
  refine vY1 (vO 15 fun K hK => ?_)
  replace X2 := X2.later (bC (bC (bC (bC b2 b3) b4) b5) b6)
  have oX2 := X2.o
  go_simp
  refine hK.out _ _ (Off.set (by simp) (Off.set (by simp) (Off.set (by simp) (Off.set (by simp) S6)))) fun S7 => ?_
  clear hK K
  refine vP ?_
  refine vD ?_
  go_wp2_with fail
  refine bodyPost_ret (v := .tuple #[.int .i64 e, .agg #[.int .u64 z0, .int .u64 z1, .int .u64 z2, .int .u64 z3]]) ?_ rfl ⟨rfl, (((((bC (bC (bC (bC (bC b1 b2) b3) b4) b5) b6).setCell (p := ⟨w.heap.size + 1 + 1, 0, none⟩) gX2 _).setCell (p := ⟨w.heap.size + 1 + 1, 1, none⟩) gX2 _).setCell (p := ⟨w.heap.size + 1 + 1, 2, none⟩) gX2 _).setCell (p := ⟨w.heap.size + 1 + 1, 3, none⟩) gX2 _)⟩
  simp [results, Tryz.results15, go_sem, oX2]

set_option maxHeartbeats 4000000 in
theorem ref19_term_12 (ea eb xh xl yh yl s1 e M N Q z0 z1 z2 z3 : Int) (sa sb : Bool)
     (B1 : Hid (∀ w, Calls Tryz.prog 49 #[U2 xh xl] w (RetNum w M))) (B2 : Hid (∀ w, Calls Tryz.prog 49 #[U2 yh yl] w (RetNum w N))) (ML : Hid (∀ w u v, IsNum w u M → IsNum w v N → Calls Tryz.prog 48 #[u, v] w (RetNum w Q))) (LW : Hid (∀ w v, IsNum w v Q → Ca 47 #[v] w (U4 z0 z1 z2 z3))) (w1 : IntKind.i64.wrap (ea + eb) = s1) (w1x : wrap64 (ea + eb) = s1) (w2 : IntKind.i64.wrap (s1 + 1) = e) (w2x : wrap64 (s1 + 1) = e) (w : World) :
    Ca 15 #[.agg #[.bool sa, .int .u8 1, .int .i64 ea, .int .u64 xh, .int .u64 xl], .agg #[.bool sb, .int .u8 2, .int .i64 eb, .int .u64 yh, .int .u64 yl]] w (.tuple #[.int .i64 e, U4 z0 z1 z2 z3]) := by
  simp only [Ca, U2, U4] at *
  go_enter Tryz.func15, Tryz.ntmps15
  go_wp2_with fail
  have gX2 : w.heap.size ≤ w.heap.size + 1 + 1 := by omega
  refine vF3 fun w1 b1 X0 X1 X2 => ?_
  refine vR [w.heap.size + 1 + 1] fun w2 b2 S2 => ?_
  refine vT 0 S2 ?_
  refine vT 1 S2 ?_ (hy := by intro wq hb; have q := (hb.hb X0 (by simp <;> omega)).o; go_simp; try (with_reducible rfl))
  refine vT 2 S2 ?_
  refine vT 3 S2 ?_ (hy := by intro wq hb; have q := (hb.hb X1 (by simp <;> omega)).o; go_simp; try (with_reducible rfl))
  refine vT 4 S2 ?_
  refine vT 5 S2 ?_
  refine vT 6 S2 ?_
  refine vT 7 S2 ?_ (hy := by intro wq hb; have q := (hb.hb X0 (by simp <;> omega)).o; go_simp; try (with_reducible rfl))
  refine vT 9 S2 ?_
  refine vT 10 S2 ?_ (hy := by intro wq hb; have q := (hb.hb X1 (by simp <;> omega)).o; go_simp; try (with_reducible rfl))
  refine vY1 (vCE 8 S2 (B1.out _) (fun _ _ => Off.later) fun u1 w3 nu1 b3 S3 => ?_)
  refine vY1 (vCE 11 S3 (B2.out _) (fun _ _ => Off.later) fun u2 w4 nu2 b4 S4 => ?_)
  replace nu1 := nu1.later b4
  refine vY1 (vCE 12 S4 (ML.out _ _ _ nu1 nu2) (fun _ _ => Off.later) fun u3 w5 nu3 b5 S5 => ?_)
  clear nu1
  clear nu2
  refine vY1 (vC 13 S5 (LW.out _ _ nu3) (fun _ _ => Off.later) fun w6 b6 S6 => ?_)
  clear nu3
  refine vT 14 S6 ?_
  refine vY1 (vO 15 fun K hK => ?_)
  replace X2 := X2.later (bC (bC (bC (bC b2 b3) b4) b5) b6)
  have oX2 := X2.o
  go_simp
  refine hK.out _ _ (Off.set (by simp) (Off.set (by simp) (Off.set (by simp) (Off.set (by simp) S6)))) fun S7 => ?_
  clear hK K
  refine vP ?_
  refine vD ?_
  go_wp2_with fail
  refine bodyPost_ret (v := .tuple #[.int .i64 e, .agg #[.int .u64 z0, .int .u64 z1, .int .u64 z2, .int .u64 z3]]) ?_ rfl ⟨rfl, (((((bC (bC (bC (bC (bC b1 b2) b3) b4) b5) b6).setCell (p := ⟨w.heap.size + 1 + 1, 0, none⟩) gX2 _).setCell (p := ⟨w.heap.size + 1 + 1, 1, none⟩) gX2 _).setCell (p := ⟨w.heap.size + 1 + 1, 2, none⟩) gX2 _).setCell (p := ⟨w.heap.size + 1 + 1, 3, none⟩) gX2 _)⟩
  simp [results, Tryz.results15, go_sem, oX2]

set_option maxHeartbeats 4000000 in
theorem ref19_term_21 (ea eb xh xl yh yl s1 e M N Q z0 z1 z2 z3 : Int) (sa sb : Bool)
     (B1 : Hid (∀ w, Calls Tryz.prog 49 #[U2 xh xl] w (RetNum w M))) (B2 : Hid (∀ w, Calls Tryz.prog 49 #[U2 yh yl] w (RetNum w N))) (ML : Hid (∀ w u v, IsNum w u M → IsNum w v N → Calls Tryz.prog 48 #[u, v] w (RetNum w Q))) (LW : Hid (∀ w v, IsNum w v Q → Ca 47 #[v] w (U4 z0 z1 z2 z3))) (w1 : IntKind.i64.wrap (ea + eb) = s1) (w1x : wrap64 (ea + eb) = s1) (w2 : IntKind.i64.wrap (s1 + 1) = e) (w2x : wrap64 (s1 + 1) = e) (w : World) :
    Ca 15 #[.agg #[.bool sa, .int .u8 2, .int .i64 ea, .int .u64 xh, .int .u64 xl], .agg #[.bool sb, .int .u8 1, .int .i64 eb, .int .u64 yh, .int .u64 yl]] w (.tuple #[.int .i64 e, U4 z0 z1 z2 z3]) := by
  simp only [Ca, U2, U4] at *
  go_enter Tryz.func15, Tryz.ntmps15
  go_wp2_with fail
  have gX2 : w.heap.size ≤ w.heap.size + 1 + 1 := by omega
  refine vF3 fun w1 b1 X0 X1 X2 => ?_
  refine vR [w.heap.size + 1 + 1] fun w2 b2 S2 => ?_
  refine vT 0 S2 ?_
  refine vT 1 S2 ?_ (hy := by intro wq hb; have q := (hb.hb X0 (by simp <;> omega)).o; go_simp; try (with_reducible rfl))
  refine vT 2 S2 ?_
  refine vT 3 S2 ?_ (hy := by intro wq hb; have q := (hb.hb X1 (by simp <;> omega)).o; go_simp; try (with_reducible rfl))
  refine vT 4 S2 ?_
  refine vT 5 S2 ?_
  refine vT 6 S2 ?_
  refine vT 7 S2 ?_ (hy := by intro wq hb; have q := (hb.hb X0 (by simp <;> omega)).o; go_simp; try (with_reducible rfl))
  refine vT 9 S2 ?_
  refine vT 10 S2 ?_ (hy := by intro wq hb; have q := (hb.hb X1 (by simp <;> omega)).o; go_simp; try (with_reducible rfl))
  refine vY1 (vCE 8 S2 (B1.out _) (fun _ _ => Off.later) fun u1 w3 nu1 b3 S3 => ?_)
  refine vY1 (vCE 11 S3 (B2.out _) (fun _ _ => Off.later) fun u2 w4 nu2 b4 S4 => ?_)
  replace nu1 := nu1.later b4
  refine vY1 (vCE 12 S4 (ML.out _ _ _ nu1 nu2) (fun _ _ => Off.later) fun u3 w5 nu3 b5 S5 => ?_)
  clear nu1
  clear nu2
  refine vY1 (vC 13 S5 (LW.out _ _ nu3) (fun _ _ => Off.later) fun w6 b6 S6 => ?_)
  clear nu3
  refine vT 14 S6 ?_
  refine vY1 (vO 15 fun K hK => ?_)
  replace X2 := X2.later (bC (bC (bC (bC b2 b3) b4) b5) b6)
  have oX2 := X2.o
  go_simp
  refine hK.out _ _ (Off.set (by simp) (Off.set (by simp) (Off.set (by simp) (Off.set (by simp) S6)))) fun S7 => ?_
  clear hK K
  refine vP ?_
  refine vD ?_
  go_wp2_with fail
  refine bodyPost_ret (v := .tuple #[.int .i64 e, .agg #[.int .u64 z0, .int .u64 z1, .int .u64 z2, .int .u64 z3]]) ?_ rfl ⟨rfl, (((((bC (bC (bC (bC (bC b1 b2) b3) b4) b5) b6).setCell (p := ⟨w.heap.size + 1 + 1, 0, none⟩) gX2 _).setCell (p := ⟨w.heap.size + 1 + 1, 1, none⟩) gX2 _).setCell (p := ⟨w.heap.size + 1 + 1, 2, none⟩) gX2 _).setCell (p := ⟨w.heap.size + 1 + 1, 3, none⟩) gX2 _)⟩
  simp [results, Tryz.results15, go_sem, oX2]

set_option maxHeartbeats 4000000 in
theorem ref19_term_22 (ea eb xh xl yh yl s1 e M N Q z0 z1 z2 z3 : Int) (sa sb : Bool)
     (B1 : Hid (∀ w, Calls Tryz.prog 49 #[U2 xh xl] w (RetNum w M))) (B2 : Hid (∀ w, Calls Tryz.prog 49 #[U2 yh yl] w (RetNum w N))) (ML : Hid (∀ w u v, IsNum w u M → IsNum w v N → Calls Tryz.prog 48 #[u, v] w (RetNum w Q))) (LW : Hid (∀ w v, IsNum w v Q → Ca 47 #[v] w (U4 z0 z1 z2 z3))) (w1 : IntKind.i64.wrap (ea + eb) = s1) (w1x : wrap64 (ea + eb) = s1) (w2 : IntKind.i64.wrap (s1 + 1) = e) (w2x : wrap64 (s1 + 1) = e) (w : World) :
    Ca 15 #[.agg #[.bool sa, .int .u8 2, .int .i64 ea, .int .u64 xh, .int .u64 xl], .agg #[.bool sb, .int .u8 2, .int .i64 eb, .int .u64 yh, .int .u64 yl]] w (.tuple #[.int .i64 e, U4 z0 z1 z2 z3]) := by
  simp only [Ca, U2, U4] at *
  go_enter Tryz.func15, Tryz.ntmps15
  go_wp2_with fail
  have gX2 : w.heap.size ≤ w.heap.size + 1 + 1 := by omega
  refine vF3 fun w1 b1 X0 X1 X2 => ?_
  refine vR [w.heap.size + 1 + 1] fun w2 b2 S2 => ?_
  refine vT 0 S2 ?_
  refine vT 1 S2 ?_ (hy := by intro wq hb; have q := (hb.hb X0 (by simp <;> omega)).o; go_simp; try (with_reducible rfl))
  refine vT 2 S2 ?_
  refine vT 3 S2 ?_ (hy := by intro wq hb; have q := (hb.hb X1 (by simp <;> omega)).o; go_simp; try (with_reducible rfl))
  refine vT 4 S2 ?_
  refine vT 5 S2 ?_
  refine vT 6 S2 ?_
  refine vT 7 S2 ?_ (hy := by intro wq hb; have q := (hb.hb X0 (by simp <;> omega)).o; go_simp; try (with_reducible rfl))
  refine vT 9 S2 ?_
  refine vT 10 S2 ?_ (hy := by intro wq hb; have q := (hb.hb X1 (by simp <;> omega)).o; go_simp; try (with_reducible rfl))
  refine vY1 (vCE 8 S2 (B1.out _) (fun _ _ => Off.later) fun u1 w3 nu1 b3 S3 => ?_)
  refine vY1 (vCE 11 S3 (B2.out _) (fun _ _ => Off.later) fun u2 w4 nu2 b4 S4 => ?_)
  replace nu1 := nu1.later b4
  refine vY1 (vCE 12 S4 (ML.out _ _ _ nu1 nu2) (fun _ _ => Off.later) fun u3 w5 nu3 b5 S5 => ?_)
  clear nu1
  clear nu2
  refine vY1 (vC 13 S5 (LW.out _ _ nu3) (fun _ _ => Off.later) fun w6 b6 S6 => ?_)
  clear nu3
  refine vT 14 S6 ?_
  refine vY1 (vO 15 fun K hK => ?_)
  replace X2 := X2.later (bC (bC (bC (bC b2 b3) b4) b5) b6)
  have oX2 := X2.o
  go_simp
  refine hK.out _ _ (Off.set (by simp) (Off.set (by simp) (Off.set (by simp) (Off.set (by simp) S6)))) fun S7 => ?_
  clear hK K
  refine vP ?_
  refine vD ?_
  go_wp2_with fail
  refine bodyPost_ret (v := .tuple #[.int .i64 e, .agg #[.int .u64 z0, .int .u64 z1, .int .u64 z2, .int .u64 z3]]) ?_ rfl ⟨rfl, (((((bC (bC (bC (bC (bC b1 b2) b3) b4) b5) b6).setCell (p := ⟨w.heap.size + 1 + 1, 0, none⟩) gX2 _).setCell (p := ⟨w.heap.size + 1 + 1, 1, none⟩) gX2 _).setCell (p := ⟨w.heap.size + 1 + 1, 2, none⟩) gX2 _).setCell (p := ⟨w.heap.size + 1 + 1, 3, none⟩) gX2 _)⟩
  simp [results, Tryz.results15, go_sem, oX2]

set_option maxHeartbeats 1000000 in
theorem ref19_termN (g h : Bool) (c d x y s z : Int) (s0 : 0 ≤ s) (s1 : s < full) (z0 : 0 ≤ z) (z1 : z < full) (w : World) : Calls Tryz.prog 15 #[.agg #[.bool g, .int .u8 c, .int .i64 x, .int .u64 (hiOf s), .int .u64 (loOf s)], .agg #[.bool h, .int .u8 d, .int .i64 y, .int .u64 (hiOf z), .int .u64 (loOf z)]] w fun e w' => e = .returned (.tuple #[.int .i64 (tmE c d x y), .agg #[.int .u64 (wd0 ((tmS c d s z))), .int .u64 (wd1 ((tmS c d s z))), .int .u64 (wd2 ((tmS c d s z))), .int .u64 (wd3 ((tmS c d s z)))]]) ∧ Below w.heap.size w w' := by
  have W : ∀ n : Int, Hid (IntKind.i64.wrap n = IntKind.i64.wrap n ∧ wrap64 n = IntKind.i64.wrap n) := fun n => Lib.hid ⟨rfl, by rw [IntKind.wrap_i64]; unfold wrap64; omega⟩
  have W1 := W (x + y)
  have W2 := W (IntKind.i64.wrap (x + y) + 1)
  have B1 := bigN s
  have B2 := bigN z
  rw [Int.emod_eq_of_lt s0 s1] at B1
  rw [Int.emod_eq_of_lt z0 z1] at B2
  have ML := Lib.hid fun w u v (hu : IsNum w u s) (hv : IsNum w v z) => mul_num hu hv (small_full (Int.le_of_lt s1)) (small_full (Int.le_of_lt z1))
  have LW := Lib.hid fun w v (h : IsNum w v (s * z)) => low_num h
  have no : ¬ ((c = 1 ∨ c = 2) ∧ (d = 1 ∨ d = 2)) → tmE c d x y = 0 ∧ tmS c d s z = 0 := fun k => by unfold tmE tmS numC; rw [decide_eq_false k]; exact ⟨rfl, rfl⟩
  have ye : ((c = 1 ∨ c = 2) ∧ (d = 1 ∨ d = 2)) → tmE c d x y = IntKind.i64.wrap (IntKind.i64.wrap (x + y) + 1) ∧ tmS c d s z = s * z := fun k => by unfold tmE tmS numC; rw [decide_eq_true k]; exact ⟨rfl, rfl⟩
  by_cases hc : c = 1 ∨ c = 2
  · by_cases hd : d = 1 ∨ d = 2
    · rw [(ye ⟨hc, hd⟩).1, (ye ⟨hc, hd⟩).2]
      rcases hc with rfl | rfl <;> rcases hd with rfl | rfl
      · exact ref19_term_11 x y _ _ _ _ _ _ s z (s * z) _ _ _ _ g h (Lib.hid B1) (Lib.hid B2) ML LW W1.out.1 W1.out.2 W2.out.1 W2.out.2 w
      · exact ref19_term_12 x y _ _ _ _ _ _ s z (s * z) _ _ _ _ g h (Lib.hid B1) (Lib.hid B2) ML LW W1.out.1 W1.out.2 W2.out.1 W2.out.2 w
      · exact ref19_term_21 x y _ _ _ _ _ _ s z (s * z) _ _ _ _ g h (Lib.hid B1) (Lib.hid B2) ML LW W1.out.1 W1.out.2 W2.out.1 W2.out.2 w
      · exact ref19_term_22 x y _ _ _ _ _ _ s z (s * z) _ _ _ _ g h (Lib.hid B1) (Lib.hid B2) ML LW W1.out.1 W1.out.2 W2.out.1 W2.out.2 w
    · rw [(no (fun k => hd k.2)).1, (no (fun k => hd k.2)).2]
      have d1 : (d != 1) = true := bne_iff_ne.2 (by omega)
      have d2 : (d != 2) = true := bne_iff_ne.2 (by omega)
      rcases hc with rfl | rfl
      · exact ref19_term_n1 d x y _ _ _ _ g h d1 d2 w
      · exact ref19_term_n2 d x y _ _ _ _ g h d1 d2 w
  · rw [(no (fun k => hc k.1)).1, (no (fun k => hc k.1)).2]
    exact ref19_term_na c d x y _ _ _ _ g h (bne_iff_ne.2 (by omega)) (bne_iff_ne.2 (by omega)) w


end Go.Proofs.YtjnohbpebdnngaaGreatDoor
