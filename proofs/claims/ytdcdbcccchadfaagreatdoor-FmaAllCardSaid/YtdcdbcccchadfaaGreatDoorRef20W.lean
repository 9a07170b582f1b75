import Derived.Test.YtdcdbcccchadfaaGreatDoorGwA
import Derived.Test.YtdcdbcccchadfaaGreatDoorGnB
import Derived.Test.YtdcdbcccchadfaaGreatDoorGhA
import Derived.Test.YtdcdbcccchadfaaGreatDoorGjC
import Derived.Test.YtdcdbcccchadfaaGreatDoorGaA
import Derived.Test.YtdcdbcccchadfaaGreatDoorGaB
set_option maxHeartbeats 4000000
set_option linter.unusedVariables false
set_option linter.unusedSimpArgs false
set_option maxRecDepth 100000
namespace Go.Proofs.YtdcdbcccchadfaaGreatDoor
open Go.RowKit
attribute [local go_sem ↓] Go.wp_at_zero Go.wp_at_succ
theorem ref20_fma_no1 (f m ah al bh bl ch cl : Int) (t : Bool)
     (g1 : decide (3 < f) = true) (w : World) :
    Ca 11 #[.int .u8 f, .agg #[.int .u8 m, .bool t], U2 ah al, U2 bh bl, U2 ch cl] w (.agg #[.int .u64 0, .int .u64 0, .int .u8 0]) := by
  simp only [Ca, U2] at *
  go_enter Tryz.func11, Tryz.ntmps11
  go_wp2_with fail
  refine bodyPost_ret (v := .agg #[.int .u64 0, .int .u64 0, .int .u8 0]) ?_ rfl ⟨rfl, (bA (bA (bA (bA (bA bR _) _) _) _) _)⟩
  simp [results, Tryz.results11, go_sem]
theorem ref20_fma_no2 (f m ah al bh bl ch cl : Int) (t : Bool)
     (g1 : decide (3 < f) = false) (g2 : decide (4 < m) = true) (w : World) :
    Ca 11 #[.int .u8 f, .agg #[.int .u8 m, .bool t], U2 ah al, U2 bh bl, U2 ch cl] w (.agg #[.int .u64 0, .int .u64 0, .int .u8 0]) := by
  simp only [Ca, U2] at *
  go_enter Tryz.func11, Tryz.ntmps11
  go_wp2_with fail
  refine bodyPost_ret (v := .agg #[.int .u64 0, .int .u64 0, .int .u8 0]) ?_ rfl ⟨rfl, (bA (bA (bA (bA (bA bR _) _) _) _) _)⟩
  simp [results, Tryz.results11, go_sem]
theorem ref20_fma_yes (f m ah al bh bl ch cl ca cb cc ph pl pf rh rl fl xa xb xc em M N Q K : Int) (t sa sb sc i pk va vb vc n1 : Bool)
    (h0 : Hid (∀ w, Ca 40 #[.int .u8 f, U2 ah al] w (.tuple #[.int .u8 ca, .bool sa])))
    (h1 : Hid (∀ w, Ca 40 #[.int .u8 f, U2 bh bl] w (.tuple #[.int .u8 cb, .bool sb])))
    (h2 : Hid (∀ w, Ca 40 #[.int .u8 f, U2 ch cl] w (.tuple #[.int .u8 cc, .bool sc])))
    (h3 : Hid (∀ w, Ca 42 #[.int .u8 ca, .int .u8 cb] w (.bool i))) (f3 : decide (3 < f) = false) (m4 : decide (4 < m) = false) (PK : Hid (∀ w, ∀ p T, HB w p T #[.int .u64 ah, .int .u64 al, .int .u64 bh, .int .u64 bl, .int .u64 ch, .int .u64 cl] → Ca 41 #[.int .u8 f, .bool i, .slice (some ⟨p, 0, none⟩) 3 3] w (.tuple #[.agg #[.int .u64 ph, .int .u64 pl, .int .u8 pf], .bool pk])))
    (HH : ((pk = true)) ∨ ((pk = false) ∧ ((ca == 3) = true) ∧ ((cc == 3) = true) ∧ ((!(sc == (!(sa == sb)))) = true) ∧ Hid (∀ w, ∀ p T, HB w p T #[.int .u64 ah, .int .u64 al, .int .u64 bh, .int .u64 bl, .int .u64 ch, .int .u64 cl] → Ca 41 #[.int .u8 f, .bool true, .slice (some ⟨p, 0, none⟩) 3 3] w (.tuple #[.agg #[.int .u64 rh, .int .u64 rl, .int .u8 fl], .bool true]))) ∨ ((pk = false) ∧ ((ca == 3) = true) ∧ ((cc == 3) = true) ∧ ((!(sc == (!(sa == sb)))) = false) ∧ (fl = 0) ∧ Hid (∀ w, Ca 43 #[.int .u8 f, .bool ((!(sa == sb)))] w (U2 rh rl))) ∨ ((pk = false) ∧ ((ca == 3) = true) ∧ ((cc == 3) = false) ∧ (fl = 0) ∧ Hid (∀ w, Ca 43 #[.int .u8 f, .bool ((!(sa == sb)))] w (U2 rh rl))) ∨ ((pk = false) ∧ ((ca == 3) = false) ∧ ((cb == 3) = true) ∧ ((cc == 3) = true) ∧ ((!(sc == (!(sa == sb)))) = true) ∧ Hid (∀ w, ∀ p T, HB w p T #[.int .u64 ah, .int .u64 al, .int .u64 bh, .int .u64 bl, .int .u64 ch, .int .u64 cl] → Ca 41 #[.int .u8 f, .bool true, .slice (some ⟨p, 0, none⟩) 3 3] w (.tuple #[.agg #[.int .u64 rh, .int .u64 rl, .int .u8 fl], .bool true]))) ∨ ((pk = false) ∧ ((ca == 3) = false) ∧ ((cb == 3) = true) ∧ ((cc == 3) = true) ∧ ((!(sc == (!(sa == sb)))) = false) ∧ (fl = 0) ∧ Hid (∀ w, Ca 43 #[.int .u8 f, .bool ((!(sa == sb)))] w (U2 rh rl))) ∨ ((pk = false) ∧ ((ca == 3) = false) ∧ ((cb == 3) = true) ∧ ((cc == 3) = false) ∧ (fl = 0) ∧ Hid (∀ w, Ca 43 #[.int .u8 f, .bool ((!(sa == sb)))] w (U2 rh rl))) ∨ ((pk = false) ∧ ((ca == 3) = false) ∧ ((cb == 3) = false) ∧ ((cc == 3) = true) ∧ (fl = 0) ∧ Hid (∀ w, Ca 43 #[.int .u8 f, .bool sc] w (U2 rh rl))) ∨ ((pk = false) ∧ ((ca == 3) = false) ∧ ((cb == 3) = false) ∧ ((cc == 3) = false) ∧ Hid (∀ w, Calls Tryz.prog 45 #[.int .u8 f, U2 ah al] w fun e' w' => ∃ s : Option Addr × Nat × Nat, e' = .returned (.agg #[.bool va, .slice s.1 s.2.1 s.2.2, .int .i64 xa]) ∧ IsNum w' (.slice s.1 s.2.1 s.2.2) M ∧ Below w.heap.size w w') ∧ Hid (∀ w, Calls Tryz.prog 45 #[.int .u8 f, U2 bh bl] w fun e' w' => ∃ s : Option Addr × Nat × Nat, e' = .returned (.agg #[.bool vb, .slice s.1 s.2.1 s.2.2, .int .i64 xb]) ∧ IsNum w' (.slice s.1 s.2.1 s.2.2) N ∧ Below w.heap.size w w') ∧ Hid (∀ w (sx sy : Option Addr × Nat × Nat), IsNum w (.slice sx.1 sx.2.1 sx.2.2) M → IsNum w (.slice sy.1 sy.2.1 sy.2.2) N → Calls Tryz.prog 44 #[.agg #[.bool va, .slice sx.1 sx.2.1 sx.2.2, .int .i64 xa], .agg #[.bool vb, .slice sy.1 sy.2.1 sy.2.2, .int .i64 xb]] w fun e' w' => ∃ q : Option Addr × Nat × Nat, e' = .returned (.agg #[.bool n1, .slice q.1 q.2.1 q.2.2, .int .i64 em]) ∧ IsNum w' (.slice q.1 q.2.1 q.2.2) Q ∧ Below w.heap.size w w') ∧ Hid (∀ w, Calls Tryz.prog 45 #[.int .u8 f, U2 ch cl] w fun e' w' => ∃ s : Option Addr × Nat × Nat, e' = .returned (.agg #[.bool vc, .slice s.1 s.2.1 s.2.2, .int .i64 xc]) ∧ IsNum w' (.slice s.1 s.2.1 s.2.2) K ∧ Below w.heap.size w w') ∧ Hid (∀ w (sx sy : Option Addr × Nat × Nat), IsNum w (.slice sx.1 sx.2.1 sx.2.2) Q → IsNum w (.slice sy.1 sy.2.1 sy.2.2) K → Ca 46 #[.int .u8 f, .agg #[.int .u8 m, .bool t], .agg #[.bool n1, .slice sx.1 sx.2.1 sx.2.2, .int .i64 em], .agg #[.bool vc, .slice sy.1 sy.2.1 sy.2.2, .int .i64 xc]] w (.agg #[.int .u64 rh, .int .u64 rl, .int .u8 fl])))) (w : World) :
    Ca 11 #[.int .u8 f, .agg #[.int .u8 m, .bool t], U2 ah al, U2 bh bl, U2 ch cl] w (.agg #[.int .u64 (if pk then ph else rh), .int .u64 (if pk then pl else rl), .int .u8 (if pk then pf else fl)]) := by
  simp only [Ca, U2] at *
  go_enter Tryz.func11, Tryz.ntmps11
  go_wp2_with fail
  refine vM (h0.out _) fun w1 b1 => ?_
  have gX4 : w.heap.size ≤ w.heap.size + 1 + 1 + 1 + 1 := by omega
  have X0 := (((((HB.newAt (b := w.heap.size) (by simp) _ _).alloc _).alloc _).alloc _).alloc _).later b1
  have X1 := ((((HB.newAt (b := w.heap.size + 1) (by simp) _ _).alloc _).alloc _).alloc _).later b1
  have X2 := (((HB.newAt (b := w.heap.size + 1 + 1) (by simp) _ _).alloc _).alloc _).later b1
  have X3 := ((HB.newAt (b := w.heap.size + 1 + 1 + 1) (by simp) _ _).alloc _).later b1
  have X4 := (HB.newAt (b := w.heap.size + 1 + 1 + 1 + 1) (by simp) _ _).later b1
  have oX2 := X2.o
  go_wp2_with fail
  refine vM (h1.out _) fun w2 b2 => ?_
  clear oX2
  replace X3 := X3.later b2
  have oX3 := X3.o
  go_wp2_with fail
  refine vM (h2.out _) fun w3 b3 => ?_
  clear oX3
  replace X1 := X1.later (bC b2 b3)
  have oX1 := X1.o
  replace X2 := X2.later (bC b2 b3)
  have oX2 := X2.o
  replace X3 := X3.later b3
  have oX3 := X3.o
  go_wp2_with fail
  refine vM (h3.out _) fun w4 b4 => ?_
  replace X4 := X4.later (bC b2 b3)
  have nX4_X5 : w.heap.size + 1 + 1 + 1 + 1 < w3.heap.size := by have := X4.lt; omega
  have X5 := (HB.newAt (b := w3.heap.size) (by simp) _ _).later b4
  clear oX1 oX2 oX3
  go_wp2_with fail
  refine vM (PK.out _ _ _ X5) fun w5 b5 => ?_
  rcases HH with rfl | ⟨rfl, ga, gc, go_, P2⟩ | ⟨rfl, ga, gc, go_, rfl, h5⟩ | ⟨rfl, ga, gc, rfl, h5⟩ | ⟨rfl, ga, gb, gc, go_, P2⟩ | ⟨rfl, ga, gb, gc, go_, rfl, h5⟩ | ⟨rfl, ga, gb, gc, rfl, h5⟩ | ⟨rfl, ga, gb, gc, rfl, h5⟩ | ⟨rfl, ga, gb, gc, VA, VB, PR, VC, SG⟩
  · replace X4 := X4.later (bC (bC (bA bR _) b4) b5)
    have oX4 := X4.o
    replace X0 := X0.later (bC (bC (bC b2 b3) (bC (bA bR _) b4)) b5)
    replace X1 := X1.later (bC (bC (bA bR _) b4) b5)
    replace X2 := X2.later (bC (bC (bA bR _) b4) b5)
    replace X3 := X3.later (bC (bC (bA bR _) b4) b5)
    replace X5 := X5.later b5
    go_wp2_with fail
    refine bodyPost_ret (v := .agg #[.int .u64 ph, .int .u64 pl, .int .u8 pf]) ?_ rfl ⟨rfl, (bA ((((bC (bC (bC (bC (bC (bA (bA (bA (bA (bA bR _) _) _) _) _) b1) b2) b3) (bC (bA bR _) b4)) b5).setCell (p := ⟨w.heap.size + 1 + 1 + 1 + 1, 0, none⟩) gX4 _).setCell (p := ⟨w.heap.size + 1 + 1 + 1 + 1, 1, none⟩) gX4 _).setCell (p := ⟨w.heap.size + 1 + 1 + 1 + 1, 2, none⟩) gX4 _) _)⟩
    simp [results, Tryz.results11, go_sem, oX4]
  · go_wp2_with fail
    replace X5 := X5.later b5
    refine vM (P2.out _ _ _ (X5.alloc _)) fun w6 b6 => ?_
    have gX6 : w.heap.size ≤ w5.heap.size := by have := (bC (bC (bC (bC (bC (bA (bA (bA (bA (bA bR _) _) _) _) _) b1) b2) b3) (bC (bA bR _) b4)) b5).size; omega
    replace X4 := X4.later (bC (bC (bA bR _) b4) b5)
    have nX4_X6 : w.heap.size + 1 + 1 + 1 + 1 < w5.heap.size := by have := X4.lt; omega
    have X6 := (HB.newAt (b := w5.heap.size) (by simp) _ _).later b6
    have oX6 := X6.o
    replace X4 := X4.later (bC (bA bR _) b6)
    have oX4 := X4.o
    have mX4_X6 : ¬ (w.heap.size + 1 + 1 + 1 + 1 = w5.heap.size) := by omega
    have mX6_X4 : ¬ (w5.heap.size = w.heap.size + 1 + 1 + 1 + 1) := by omega
    go_wp2_with fail
    refine bodyPost_ret (v := .agg #[.int .u64 rh, .int .u64 rl, .int .u8 fl]) ?_ rfl ⟨rfl, (((((((bC (bC (bC (bC (bC (bC (bA (bA (bA (bA (bA bR _) _) _) _) _) b1) b2) b3) (bC (bA bR _) b4)) b5) (bC (bA bR _) b6)).setCell (p := ⟨w5.heap.size, 0, none⟩) gX6 _).setCell (p := ⟨w5.heap.size, 1, none⟩) gX6 _).setCell (p := ⟨w5.heap.size, 2, none⟩) gX6 _).setCell (p := ⟨w.heap.size + 1 + 1 + 1 + 1, 0, none⟩) gX4 _).setCell (p := ⟨w.heap.size + 1 + 1 + 1 + 1, 1, none⟩) gX4 _).setCell (p := ⟨w.heap.size + 1 + 1 + 1 + 1, 2, none⟩) gX4 _)⟩
    simp [results, Tryz.results11, go_sem, oX4, mX4_X6, mX6_X4]
  · go_wp2_with fail
    refine vM (h5.out _) fun w6 b6 => ?_
    have gX6 : w.heap.size ≤ w5.heap.size := by have := (bC (bC (bC (bC (bC (bA (bA (bA (bA (bA bR _) _) _) _) _) b1) b2) b3) (bC (bA bR _) b4)) b5).size; omega
    replace X4 := X4.later (bC (bC (bA bR _) b4) b5)
    have nX4_X6 : w.heap.size + 1 + 1 + 1 + 1 < w5.heap.size := by have := X4.lt; omega
    have X6 := (HB.newAt (b := w5.heap.size) (by simp) _ _).later b6
    replace X4 := X4.later (bC (bA bR _) b6)
    have oX4 := X4.o
    go_wp2_with fail
    refine bodyPost_ret (v := .agg #[.int .u64 rh, .int .u64 rl, .int .u8 0]) ?_ rfl ⟨rfl, ((((bC (bC (bC (bC (bC (bC (bA (bA (bA (bA (bA bR _) _) _) _) _) b1) b2) b3) (bC (bA bR _) b4)) b5) (bC (bA bR _) b6)).setCell (p := ⟨w.heap.size + 1 + 1 + 1 + 1, 0, none⟩) gX4 _).setCell (p := ⟨w.heap.size + 1 + 1 + 1 + 1, 1, none⟩) gX4 _).setCell (p := ⟨w.heap.size + 1 + 1 + 1 + 1, 2, none⟩) gX4 _)⟩
    simp [results, Tryz.results11, go_sem, oX4]
  · go_wp2_with fail
    refine vM (h5.out _) fun w6 b6 => ?_
    have gX6 : w.heap.size ≤ w5.heap.size := by have := (bC (bC (bC (bC (bC (bA (bA (bA (bA (bA bR _) _) _) _) _) b1) b2) b3) (bC (bA bR _) b4)) b5).size; omega
    replace X4 := X4.later (bC (bC (bA bR _) b4) b5)
    have nX4_X6 : w.heap.size + 1 + 1 + 1 + 1 < w5.heap.size := by have := X4.lt; omega
    have X6 := (HB.newAt (b := w5.heap.size) (by simp) _ _).later b6
    replace X4 := X4.later (bC (bA bR _) b6)
    have oX4 := X4.o
    go_wp2_with fail
    refine bodyPost_ret (v := .agg #[.int .u64 rh, .int .u64 rl, .int .u8 0]) ?_ rfl ⟨rfl, ((((bC (bC (bC (bC (bC (bC (bA (bA (bA (bA (bA bR _) _) _) _) _) b1) b2) b3) (bC (bA bR _) b4)) b5) (bC (bA bR _) b6)).setCell (p := ⟨w.heap.size + 1 + 1 + 1 + 1, 0, none⟩) gX4 _).setCell (p := ⟨w.heap.size + 1 + 1 + 1 + 1, 1, none⟩) gX4 _).setCell (p := ⟨w.heap.size + 1 + 1 + 1 + 1, 2, none⟩) gX4 _)⟩
    simp [results, Tryz.results11, go_sem, oX4]
  · go_wp2_with fail
    replace X5 := X5.later b5
    refine vM (P2.out _ _ _ (X5.alloc _)) fun w6 b6 => ?_
    have gX6 : w.heap.size ≤ w5.heap.size := by have := (bC (bC (bC (bC (bC (bA (bA (bA (bA (bA bR _) _) _) _) _) b1) b2) b3) (bC (bA bR _) b4)) b5).size; omega
    replace X4 := X4.later (bC (bC (bA bR _) b4) b5)
    have nX4_X6 : w.heap.size + 1 + 1 + 1 + 1 < w5.heap.size := by have := X4.lt; omega
    have X6 := (HB.newAt (b := w5.heap.size) (by simp) _ _).later b6
    have oX6 := X6.o
    replace X4 := X4.later (bC (bA bR _) b6)
    have oX4 := X4.o
    have mX4_X6 : ¬ (w.heap.size + 1 + 1 + 1 + 1 = w5.heap.size) := by omega
    have mX6_X4 : ¬ (w5.heap.size = w.heap.size + 1 + 1 + 1 + 1) := by omega
    go_wp2_with fail
    refine bodyPost_ret (v := .agg #[.int .u64 rh, .int .u64 rl, .int .u8 fl]) ?_ rfl ⟨rfl, (((((((bC (bC (bC (bC (bC (bC (bA (bA (bA (bA (bA bR _) _) _) _) _) b1) b2) b3) (bC (bA bR _) b4)) b5) (bC (bA bR _) b6)).setCell (p := ⟨w5.heap.size, 0, none⟩) gX6 _).setCell (p := ⟨w5.heap.size, 1, none⟩) gX6 _).setCell (p := ⟨w5.heap.size, 2, none⟩) gX6 _).setCell (p := ⟨w.heap.size + 1 + 1 + 1 + 1, 0, none⟩) gX4 _).setCell (p := ⟨w.heap.size + 1 + 1 + 1 + 1, 1, none⟩) gX4 _).setCell (p := ⟨w.heap.size + 1 + 1 + 1 + 1, 2, none⟩) gX4 _)⟩
    simp [results, Tryz.results11, go_sem, oX4, mX4_X6, mX6_X4]
  · go_wp2_with fail
    refine vM (h5.out _) fun w6 b6 => ?_
    have gX6 : w.heap.size ≤ w5.heap.size := by have := (bC (bC (bC (bC (bC (bA (bA (bA (bA (bA bR _) _) _) _) _) b1) b2) b3) (bC (bA bR _) b4)) b5).size; omega
    replace X4 := X4.later (bC (bC (bA bR _) b4) b5)
    have nX4_X6 : w.heap.size + 1 + 1 + 1 + 1 < w5.heap.size := by have := X4.lt; omega
    have X6 := (HB.newAt (b := w5.heap.size) (by simp) _ _).later b6
    replace X4 := X4.later (bC (bA bR _) b6)
    have oX4 := X4.o
    go_wp2_with fail
    refine bodyPost_ret (v := .agg #[.int .u64 rh, .int .u64 rl, .int .u8 0]) ?_ rfl ⟨rfl, ((((bC (bC (bC (bC (bC (bC (bA (bA (bA (bA (bA bR _) _) _) _) _) b1) b2) b3) (bC (bA bR _) b4)) b5) (bC (bA bR _) b6)).setCell (p := ⟨w.heap.size + 1 + 1 + 1 + 1, 0, none⟩) gX4 _).setCell (p := ⟨w.heap.size + 1 + 1 + 1 + 1, 1, none⟩) gX4 _).setCell (p := ⟨w.heap.size + 1 + 1 + 1 + 1, 2, none⟩) gX4 _)⟩
    simp [results, Tryz.results11, go_sem, oX4]
  · go_wp2_with fail
    refine vM (h5.out _) fun w6 b6 => ?_
    have gX6 : w.heap.size ≤ w5.heap.size := by have := (bC (bC (bC (bC (bC (bA (bA (bA (bA (bA bR _) _) _) _) _) b1) b2) b3) (bC (bA bR _) b4)) b5).size; omega
    replace X4 := X4.later (bC (bC (bA bR _) b4) b5)
    have nX4_X6 : w.heap.size + 1 + 1 + 1 + 1 < w5.heap.size := by have := X4.lt; omega
    have X6 := (HB.newAt (b := w5.heap.size) (by simp) _ _).later b6
    replace X4 := X4.later (bC (bA bR _) b6)
    have oX4 := X4.o
    go_wp2_with fail
    refine bodyPost_ret (v := .agg #[.int .u64 rh, .int .u64 rl, .int .u8 0]) ?_ rfl ⟨rfl, ((((bC (bC (bC (bC (bC (bC (bA (bA (bA (bA (bA bR _) _) _) _) _) b1) b2) b3) (bC (bA bR _) b4)) b5) (bC (bA bR _) b6)).setCell (p := ⟨w.heap.size + 1 + 1 + 1 + 1, 0, none⟩) gX4 _).setCell (p := ⟨w.heap.size + 1 + 1 + 1 + 1, 1, none⟩) gX4 _).setCell (p := ⟨w.heap.size + 1 + 1 + 1 + 1, 2, none⟩) gX4 _)⟩
    simp [results, Tryz.results11, go_sem, oX4]
  · go_wp2_with fail
    refine vM (h5.out _) fun w6 b6 => ?_
    have gX6 : w.heap.size ≤ w5.heap.size := by have := (bC (bC (bC (bC (bC (bA (bA (bA (bA (bA bR _) _) _) _) _) b1) b2) b3) (bC (bA bR _) b4)) b5).size; omega
    replace X4 := X4.later (bC (bC (bA bR _) b4) b5)
    have nX4_X6 : w.heap.size + 1 + 1 + 1 + 1 < w5.heap.size := by have := X4.lt; omega
    replace X5 := X5.later b5
    have nX5_X6 : w3.heap.size < w5.heap.size := by have := X5.lt; omega
    have X6 := (HB.newAt (b := w5.heap.size) (by simp) _ _).later b6
    replace X4 := X4.later (bC (bA bR _) b6)
    have oX4 := X4.o
    replace X5 := X5.later (bC (bA bR _) b6)
    go_wp2_with fail
    refine bodyPost_ret (v := .agg #[.int .u64 rh, .int .u64 rl, .int .u8 0]) ?_ rfl ⟨rfl, ((((bC (bC (bC (bC (bC (bC (bA (bA (bA (bA (bA bR _) _) _) _) _) b1) b2) b3) (bC (bA bR _) b4)) b5) (bC (bA bR _) b6)).setCell (p := ⟨w.heap.size + 1 + 1 + 1 + 1, 0, none⟩) gX4 _).setCell (p := ⟨w.heap.size + 1 + 1 + 1 + 1, 1, none⟩) gX4 _).setCell (p := ⟨w.heap.size + 1 + 1 + 1 + 1, 2, none⟩) gX4 _)⟩
    simp [results, Tryz.results11, go_sem, oX4]
  · go_wp2_with fail
    have gX6 : w.heap.size ≤ w5.heap.size := by have := (bC (bC (bC (bC (bC (bA (bA (bA (bA (bA bR _) _) _) _) _) b1) b2) b3) (bC (bA bR _) b4)) b5).size; omega
    replace X0 := X0.later (bC (bC (bC b2 b3) (bC (bA bR _) b4)) b5)
    have nX0_X6 : w.heap.size < w5.heap.size := by have := X0.lt; omega
    replace X1 := X1.later (bC (bC (bA bR _) b4) b5)
    have nX1_X6 : w.heap.size + 1 < w5.heap.size := by have := X1.lt; omega
    replace X2 := X2.later (bC (bC (bA bR _) b4) b5)
    have nX2_X6 : w.heap.size + 1 + 1 < w5.heap.size := by have := X2.lt; omega
    replace X3 := X3.later (bC (bC (bA bR _) b4) b5)
    have nX3_X6 : w.heap.size + 1 + 1 + 1 < w5.heap.size := by have := X3.lt; omega
    replace X4 := X4.later (bC (bC (bA bR _) b4) b5)
    have nX4_X6 : w.heap.size + 1 + 1 + 1 + 1 < w5.heap.size := by have := X4.lt; omega
    replace X5 := X5.later b5
    have nX5_X6 : w3.heap.size < w5.heap.size := by have := X5.lt; omega
    refine vF1 fun w6 b6 X6 => ?_
    replace X1 := X1.later b6
    replace X2 := X2.later b6
    refine vR [] fun w7 kz7 S => ?_
    refine vT 0 S ?_
    refine vT 1 S ?_ (hy := by intro wq hb; have q := (hb.hb X1 (by simp)).o; go_simp; try (with_reducible rfl))
    refine vT 3 S ?_
    refine vT 4 S ?_ (hy := by intro wq hb; have q := (hb.hb X2 (by simp)).o; go_simp; try (with_reducible rfl))
    refine vY2 (cE 2 S (VA.out _) fun v1 w8 nv1 b8 => ?_) (cA 7 S fun w9 pp6_0 h X7 b9 => ?_)
    replace kz7 := bC kz7 b8
    clear S b8 w7
    revert kz7; revert nv1; revert v1; revert w8
    refine ?s7i_0; rotate_left
    have jX7 := (lZ kz7.size h); replace kz7 := bC kz7 b9
    clear S b9 h w7
    revert kz7; revert jX7; revert X7; revert pp6_0; revert w9
    refine ?s7i_1; rotate_left
    intro w10 v1 nv1 kz7
    have S := Off.ofB kz7
    refine vY2 (cE 5 S (VB.out _) fun v2 w11 nv2 b11 => ?_) (cA 7 S fun w12 pp6_0 h X7 b12 => ?_)
    replace nv1 := (nv1.later b11); replace kz7 := bC kz7 b11
    clear S b11 w10
    revert kz7; revert nv2; revert nv1; revert v2; revert v1; revert w11
    refine ?s7i_2; rotate_left
    have jX7 := (lZ kz7.size h); replace nv1 := (nv1.later b12); replace kz7 := bC kz7 b12
    clear S b12 h w10
    revert kz7; revert jX7; revert nv1; revert X7; revert v1; revert pp6_0; revert w12
    refine ?s7i_3; rotate_left
    intro w13 pp6_0 X7 jX7 kz7
    have S := Off.ofB kz7
    refine vY1 (cE 2 S (VA.out _) fun v1 w14 nv1 b14 => ?s7i_3 w14 pp6_0 v1 (X7.later b14) nv1 jX7 (bC kz7 b14))
    intro w15 v1 v2 nv1 nv2 kz7
    have S := Off.ofB kz7
    refine vY2 (cE 6 S (PR.out _ _ _ nv1 nv2) fun sq w16 nsq b16 => ?_) (cA 7 S fun w17 pp6_0 h X7 b17 => ?_)
    replace kz7 := bC kz7 b16
    clear nv1 nv2 S b16 w15
    revert kz7; revert nsq; revert sq; revert v2; revert v1; revert w16
    refine ?s7i_4; rotate_left
    have jX7 := (lZ kz7.size h); replace nv1 := (nv1.later b17); replace nv2 := (nv2.later b17); replace kz7 := bC kz7 b17
    clear S b17 h w15
    revert kz7; revert jX7; revert nv2; revert nv1; revert X7; revert v2; revert v1; revert pp6_0; revert w17
    refine ?s7i_5; rotate_left
    intro w18 pp6_0 v1 X7 nv1 jX7 kz7
    have S := Off.ofB kz7
    refine vY1 (cE 5 S (VB.out _) fun v2 w19 nv2 b19 => ?s7i_5 w19 pp6_0 v1 v2 (X7.later b19) (nv1.later b19) nv2 jX7 (bC kz7 b19))
    intro w20 v1 v2 sq nsq kz7
    have S := Off.ofB kz7
    refine vY1 (cA 7 S fun w21 pp6_0 h X7 b21 => ?_)
    have jX7 := (lZ kz7.size h); replace nsq := (nsq.later b21); replace kz7 := bC kz7 b21
    clear S b21 h w20
    revert kz7; revert jX7; revert nsq; revert X7; revert sq; revert v2; revert v1; revert pp6_0; revert w21
    refine ?s7i_6; rotate_left
    intro w22 pp6_0 v1 v2 X7 nv1 nv2 jX7 kz7
    have S := Off.ofB kz7
    refine vY1 (cE 6 S (PR.out _ _ _ nv1 nv2) fun sq w23 nsq b23 => ?s7i_6 w23 pp6_0 v1 v2 sq (X7.later b23) nsq jX7 (bC kz7 b23))
    intro w24 pp6_0 v1 v2 sq X7 nsq jX7 kz7
    have S := Off.ofB kz7
    refine vY1 (vO 8 fun K hK => ?_)
    have q := X7.o
    go_simp
    refine vW (fun W => HB W pp6_0 82 #[.bool n1, .slice sq.1 sq.2.1 sq.2.2, .int .i64 em] ∧ IsNum W (.slice sq.1 sq.2.1 sq.2.2) Q ∧ Below w6.heap.size w6 W) ⟨(((X7.set 0 _).set 1 _).set 2 _), (((nsq.setHB X7 (by simp) 0 _).setHB (X7.set 0 _) (by simp) 1 _).setHB ((X7.set 0 _).set 1 _) (by simp) 2 _), (((kz7.setCell (p := ⟨pp6_0, 0, none⟩) jX7 _).setCell (p := ⟨pp6_0, 1, none⟩) jX7 _).setCell (p := ⟨pp6_0, 2, none⟩) jX7 _)⟩ fun w26 hz => ?_
    clear q X7 nsq S kz7 w24; obtain ⟨X7, nsq, kz7⟩ := hz
    refine hK.out _ _ (Off.ofB kz7) fun S => ?_; clear hK K S; refine vP ?_
    revert kz7; revert jX7; revert nsq; revert X7; revert sq; revert v2; revert v1; revert pp6_0; revert w26
    refine ?s7i_7; rotate_left
    intro w27 pp6_0 v1 v2 sq X7 nsq jX7 kz7
    refine vD ?_
    replace X0 := X0.later b6
    have nX0_X7 : w.heap.size < pp6_0 := by have := X0.lt; omega
    replace X3 := X3.later b6
    have nX3_X7 : w.heap.size + 1 + 1 + 1 < pp6_0 := by have := X3.lt; omega
    replace X4 := X4.later b6
    have nX4_X7 : w.heap.size + 1 + 1 + 1 + 1 < pp6_0 := by have := X4.lt; omega
    replace X5 := X5.later b6
    have nX5_X7 : w3.heap.size < pp6_0 := by have := X5.lt; omega
    have nX6_X7 : w5.heap.size < pp6_0 := by have := X6.lt; omega
    have gX7 : w.heap.size ≤ pp6_0 := by have := (bC (bC (bC (bC (bC (bC (bA (bA (bA (bA (bA bR _) _) _) _) _) b1) b2) b3) (bC (bA bR _) b4)) b5) b6).size; omega
    go_wp2_with fail
    replace X0 := X0.later kz7
    replace X3 := X3.later kz7
    replace X4 := X4.later kz7
    refine vR [w.heap.size + 1 + 1 + 1 + 1] fun w28 b28 S28 => ?_
    refine vT 0 S28 ?_
    refine vT 1 S28 ?_ (hy := by intro wq hb; have q := (hb.hb X0 (by simp <;> omega)).o; go_simp; try (with_reducible rfl))
    refine vT 2 S28 ?_ (hy := by intro wq hb; have q := (hb.hb X7 (by simp <;> omega)).o; go_simp; try (with_reducible rfl))
    refine vT 3 S28 ?_
    refine vT 4 S28 ?_ (hy := by intro wq hb; have q := (hb.hb X3 (by simp <;> omega)).o; go_simp; try (with_reducible rfl))
    refine vY1 (vCE 5 S28 (VC.out _) (fun _ _ => Off.later) fun v3 w29 nv3 b29 S29 => ?_)
    replace nsq := nsq.later (bC b28 b29)
    refine vY1 (vC 6 S29 (SG.out _ _ _ nsq nv3) (fun _ _ => Off.later) fun w30 b30 S30 => ?_)
    clear nsq
    clear nv3
    refine vY1 (vO 7 fun K hK => ?_)
    replace X4 := X4.later (bC (bC b28 b29) b30)
    replace X5 := X5.later (bC (bC (bC kz7 b28) b29) b30)
    replace X6 := X6.later (bC (bC (bC kz7 b28) b29) b30)
    have oX4 := X4.o
    go_simp
    refine hK.out _ _ (Off.set (by simp) (Off.set (by simp) (Off.set (by simp) S30))) fun S31 => ?_
    clear hK K
    refine vP ?_
    refine vD ?_
    go_wp2_with fail
    refine bodyPost_ret (v := .agg #[.int .u64 rh, .int .u64 rl, .int .u8 fl]) ?_ rfl ⟨rfl, ((((bC (bC (bC (bC (bC (bC (bC (bC (bC (bC (bA (bA (bA (bA (bA bR _) _) _) _) _) b1) b2) b3) (bC (bA bR _) b4)) b5) b6) kz7) b28) b29) b30).setCell (p := ⟨w.heap.size + 1 + 1 + 1 + 1, 0, none⟩) gX4 _).setCell (p := ⟨w.heap.size + 1 + 1 + 1 + 1, 1, none⟩) gX4 _).setCell (p := ⟨w.heap.size + 1 + 1 + 1 + 1, 2, none⟩) gX4 _)⟩
    simp [results, Tryz.results11, go_sem, oX4]
end Go.Proofs.YtdcdbcccchadfaaGreatDoor
