import Derived.Laws.EntriesVeiled
import Derived.Test.YtbighggnfkdncaaGreatDoorGdA
set_option maxHeartbeats 4000000
set_option linter.unusedVariables false
set_option linter.unusedSimpArgs false
set_option maxRecDepth 100000
namespace Go.Proofs.YtbighggnfkdncaaGreatDoor
open Go.RowKit
attribute [local go_sem ↓] Go.wp_at_zero Go.wp_at_succ
theorem ref22_sqrt_no1 (f m ah al : Int) (t : Bool)
     (g1 : decide (3 < f) = true) (w : World) :
    Ca 11 #[.int .u8 f, .agg #[.int .u8 m, .bool t], U2 ah al] w (.agg #[.int .u64 0, .int .u64 0, .int .u8 0]) := by
  simp only [Ca, U2] at *
  go_enter Tryz.func11, Tryz.ntmps11
  go_wp2_with fail
  refine bodyPost_ret (v := .agg #[.int .u64 0, .int .u64 0, .int .u8 0]) ?_ rfl ⟨rfl, (bA (bA (bA bR _) _) _)⟩
  simp [results, Tryz.results11, go_sem]
theorem ref22_sqrt_no2 (f m ah al : Int) (t : Bool)
     (g1 : decide (3 < f) = false) (g2 : decide (4 < m) = true) (w : World) :
    Ca 11 #[.int .u8 f, .agg #[.int .u8 m, .bool t], U2 ah al] w (.agg #[.int .u64 0, .int .u64 0, .int .u8 0]) := by
  simp only [Ca, U2] at *
  go_enter Tryz.func11, Tryz.ntmps11
  go_wp2_with fail
  refine bodyPost_ret (v := .agg #[.int .u64 0, .int .u64 0, .int .u8 0]) ?_ rfl ⟨rfl, (bA (bA (bA bR _) _) _)⟩
  simp [results, Tryz.results11, go_sem]
theorem ref22_sqrt_yes (f m ah al ca ph pl pf rh rl fl xa e0 rm e1 e2 k M P Rt Mu : Int) (t sa va pk mo : Bool)
    (h0 : Hid (∀ w, Ca 35 #[.int .u8 f, U2 ah al] w (.tuple #[.int .u8 ca, .bool sa]))) (f3 : decide (3 < f) = false) (m4 : decide (4 < m) = false) (lm : decide (k < 0) = mo) (wp1 : IntKind.i64.wrap (xa - 300) = e0) (wp1x : wrap64 (xa - 300) = e0) (q1 : e0.tmod 2 = rm) (q2 : IntKind.i64.wrap rm = rm) (q3 : wrap64 rm = rm) (q4 : e1.tdiv 2 = e2) (q5 : IntKind.i64.wrap e2 = e2) (q6 : wrap64 e2 = e2) (q7 : IntKind.i64.wrap (300 + 1) = 301) (q8 : wrap64 (300 + 1) = 301)
    (HH : ((sa = false) ∧ (pk = true) ∧ Hid (∀ w, ∀ p T, HB w p T #[.int .u64 ah, .int .u64 al] → Ca 36 #[.int .u8 f, .bool false, .slice (some ⟨p, 0, none⟩) 1 1] w (.tuple #[.agg #[.int .u64 ph, .int .u64 pl, .int .u8 pf], .bool pk]))) ∨ ((sa = true) ∧ (pk = true) ∧ ((ca != 0) = true) ∧ (decide (ca < 4) = true) ∧ Hid (∀ w, ∀ p T, HB w p T #[.int .u64 ah, .int .u64 al] → Ca 36 #[.int .u8 f, .bool true, .slice (some ⟨p, 0, none⟩) 1 1] w (.tuple #[.agg #[.int .u64 ph, .int .u64 pl, .int .u8 pf], .bool pk]))) ∨ ((sa = true) ∧ (pk = true) ∧ ((ca != 0) = true) ∧ (decide (ca < 4) = false) ∧ Hid (∀ w, ∀ p T, HB w p T #[.int .u64 ah, .int .u64 al] → Ca 36 #[.int .u8 f, .bool false, .slice (some ⟨p, 0, none⟩) 1 1] w (.tuple #[.agg #[.int .u64 ph, .int .u64 pl, .int .u8 pf], .bool pk]))) ∨ ((sa = false) ∧ (pk = false) ∧ (fl = 0) ∧ ((ca == 0) = true) ∧ Hid (∀ w, ∀ p T, HB w p T #[.int .u64 ah, .int .u64 al] → Ca 36 #[.int .u8 f, .bool false, .slice (some ⟨p, 0, none⟩) 1 1] w (.tuple #[.agg #[.int .u64 ph, .int .u64 pl, .int .u8 pf], .bool pk])) ∧ Hid (∀ w, Ca 37 #[.int .u8 f, .bool false, .int .i64 0, .slice none 0 0] w (U2 rh rl))) ∨ ((sa = true) ∧ (pk = false) ∧ (fl = 0) ∧ ((ca != 0) = false) ∧ ((ca == 0) = true) ∧ Hid (∀ w, ∀ p T, HB w p T #[.int .u64 ah, .int .u64 al] → Ca 36 #[.int .u8 f, .bool false, .slice (some ⟨p, 0, none⟩) 1 1] w (.tuple #[.agg #[.int .u64 ph, .int .u64 pl, .int .u8 pf], .bool pk])) ∧ Hid (∀ w, Ca 37 #[.int .u8 f, .bool true, .int .i64 0, .slice none 0 0] w (U2 rh rl))) ∨ ((sa = false) ∧ (pk = false) ∧ (fl = 0) ∧ ((ca == 0) = false) ∧ ((ca == 3) = true) ∧ Hid (∀ w, ∀ p T, HB w p T #[.int .u64 ah, .int .u64 al] → Ca 36 #[.int .u8 f, .bool false, .slice (some ⟨p, 0, none⟩) 1 1] w (.tuple #[.agg #[.int .u64 ph, .int .u64 pl, .int .u8 pf], .bool pk])) ∧ Hid (∀ w, Ca 38 #[.int .u8 f, .bool false] w (U2 rh rl))) ∨ ((sa = false) ∧ (pk = false) ∧ ((ca == 0) = false) ∧ ((ca == 3) = false) ∧ ((rm != 0) = false) ∧ (e1 = e0) ∧ Hid (∀ w, ∀ p T, HB w p T #[.int .u64 ah, .int .u64 al] → Ca 36 #[.int .u8 f, .bool false, .slice (some ⟨p, 0, none⟩) 1 1] w (.tuple #[.agg #[.int .u64 ph, .int .u64 pl, .int .u8 pf], .bool pk])) ∧ Hid (∀ w, Calls Tryz.prog 39 #[.int .u8 f, U2 ah al] w fun e' w' => ∃ s : Option Addr × Nat × Nat, e' = .returned (.agg #[.bool va, .slice s.1 s.2.1 s.2.2, .int .i64 xa]) ∧ IsNum w' (.slice s.1 s.2.1 s.2.2) M ∧ Below w.heap.size w w') ∧ Hid (∀ w (sx : Option Addr × Nat × Nat), IsNum w (.slice sx.1 sx.2.1 sx.2.2) M → Calls Tryz.prog 40 #[.slice sx.1 sx.2.1 sx.2.2, .int .i64 300] w fun e' w' => ∃ s : Option Addr × Nat × Nat, e' = .returned (.slice s.1 s.2.1 s.2.2) ∧ IsNum w' (.slice s.1 s.2.1 s.2.2) P ∧ Below w.heap.size w w') ∧ Hid (∀ w (sx : Option Addr × Nat × Nat), IsNum w (.slice sx.1 sx.2.1 sx.2.2) P → Calls Tryz.prog 41 #[.slice sx.1 sx.2.1 sx.2.2] w fun e' w' => ∃ s : Option Addr × Nat × Nat, e' = .returned (.slice s.1 s.2.1 s.2.2) ∧ IsNum w' (.slice s.1 s.2.1 s.2.2) Rt ∧ Below w.heap.size w w') ∧ Hid (∀ w (sx : Option Addr × Nat × Nat), IsNum w (.slice sx.1 sx.2.1 sx.2.2) Rt → Calls Tryz.prog 44 #[.slice sx.1 sx.2.1 sx.2.2, .slice sx.1 sx.2.1 sx.2.2] w fun e' w' => ∃ s : Option Addr × Nat × Nat, e' = .returned (.slice s.1 s.2.1 s.2.2) ∧ IsNum w' (.slice s.1 s.2.1 s.2.2) Mu ∧ Below w.heap.size w w') ∧ Hid (∀ w (sx sy : Option Addr × Nat × Nat), IsNum w (.slice sx.1 sx.2.1 sx.2.2) Mu → IsNum w (.slice sy.1 sy.2.1 sy.2.2) P → Ca 43 #[.slice sx.1 sx.2.1 sx.2.2, .slice sy.1 sy.2.1 sy.2.2] w (.int .i64 k)) ∧ Hid (∀ w (sx : Option Addr × Nat × Nat), IsNum w (.slice sx.1 sx.2.1 sx.2.2) Rt → Ca 42 #[.int .u8 f, .agg #[.int .u8 m, .bool t], .agg #[.bool false, .slice sx.1 sx.2.1 sx.2.2, .int .i64 e2, .bool mo]] w (.agg #[.int .u64 rh, .int .u64 rl, .int .u8 fl]))) ∨ ((sa = false) ∧ (pk = false) ∧ ((ca == 0) = false) ∧ ((ca == 3) = false) ∧ ((rm != 0) = true) ∧ (IntKind.i64.wrap (xa - 301) = e1) ∧ (wrap64 (xa - 301) = e1) ∧ Hid (∀ w, ∀ p T, HB w p T #[.int .u64 ah, .int .u64 al] → Ca 36 #[.int .u8 f, .bool false, .slice (some ⟨p, 0, none⟩) 1 1] w (.tuple #[.agg #[.int .u64 ph, .int .u64 pl, .int .u8 pf], .bool pk])) ∧ Hid (∀ w, Calls Tryz.prog 39 #[.int .u8 f, U2 ah al] w fun e' w' => ∃ s : Option Addr × Nat × Nat, e' = .returned (.agg #[.bool va, .slice s.1 s.2.1 s.2.2, .int .i64 xa]) ∧ IsNum w' (.slice s.1 s.2.1 s.2.2) M ∧ Below w.heap.size w w') ∧ Hid (∀ w (sx : Option Addr × Nat × Nat), IsNum w (.slice sx.1 sx.2.1 sx.2.2) M → Calls Tryz.prog 40 #[.slice sx.1 sx.2.1 sx.2.2, .int .i64 301] w fun e' w' => ∃ s : Option Addr × Nat × Nat, e' = .returned (.slice s.1 s.2.1 s.2.2) ∧ IsNum w' (.slice s.1 s.2.1 s.2.2) P ∧ Below w.heap.size w w') ∧ Hid (∀ w (sx : Option Addr × Nat × Nat), IsNum w (.slice sx.1 sx.2.1 sx.2.2) P → Calls Tryz.prog 41 #[.slice sx.1 sx.2.1 sx.2.2] w fun e' w' => ∃ s : Option Addr × Nat × Nat, e' = .returned (.slice s.1 s.2.1 s.2.2) ∧ IsNum w' (.slice s.1 s.2.1 s.2.2) Rt ∧ Below w.heap.size w w') ∧ Hid (∀ w (sx : Option Addr × Nat × Nat), IsNum w (.slice sx.1 sx.2.1 sx.2.2) Rt → Calls Tryz.prog 44 #[.slice sx.1 sx.2.1 sx.2.2, .slice sx.1 sx.2.1 sx.2.2] w fun e' w' => ∃ s : Option Addr × Nat × Nat, e' = .returned (.slice s.1 s.2.1 s.2.2) ∧ IsNum w' (.slice s.1 s.2.1 s.2.2) Mu ∧ Below w.heap.size w w') ∧ Hid (∀ w (sx sy : Option Addr × Nat × Nat), IsNum w (.slice sx.1 sx.2.1 sx.2.2) Mu → IsNum w (.slice sy.1 sy.2.1 sy.2.2) P → Ca 43 #[.slice sx.1 sx.2.1 sx.2.2, .slice sy.1 sy.2.1 sy.2.2] w (.int .i64 k)) ∧ Hid (∀ w (sx : Option Addr × Nat × Nat), IsNum w (.slice sx.1 sx.2.1 sx.2.2) Rt → Ca 42 #[.int .u8 f, .agg #[.int .u8 m, .bool t], .agg #[.bool false, .slice sx.1 sx.2.1 sx.2.2, .int .i64 e2, .bool mo]] w (.agg #[.int .u64 rh, .int .u64 rl, .int .u8 fl])))) (w : World) :
    Ca 11 #[.int .u8 f, .agg #[.int .u8 m, .bool t], U2 ah al] w (.agg #[.int .u64 (if pk then ph else rh), .int .u64 (if pk then pl else rl), .int .u8 (if pk then pf else fl)]) := by
  simp only [Ca, U2] at *
  go_enter Tryz.func11, Tryz.ntmps11
  go_wp2_with fail
  refine vM (h0.out _) fun w1 b1 => ?_
  have gX2 : w.heap.size ≤ w.heap.size + 1 + 1 := by omega
  have X0 := (((HB.newAt (b := w.heap.size) (by simp) _ _).alloc _).alloc _).later b1
  have X1 := ((HB.newAt (b := w.heap.size + 1) (by simp) _ _).alloc _).later b1
  have X2 := (HB.newAt (b := w.heap.size + 1 + 1) (by simp) _ _).later b1
  have oX1 := X1.o
  rcases HH with ⟨rfl, rfl, PK⟩ | ⟨rfl, rfl, g0, g1, PK⟩ | ⟨rfl, rfl, g0, g1, PK⟩ | ⟨rfl, rfl, rfl, g2, PK, h2⟩ | ⟨rfl, rfl, rfl, g0, g2, PK, h2⟩ | ⟨rfl, rfl, rfl, g2, g3, PK, h2⟩ | ⟨rfl, rfl, g2, g3, g4, rfl, PK, VA, SH, RT, MU, CM, RD⟩ | ⟨rfl, rfl, g2, g3, g4, wp2, wp2x, PK, VA, SH, RT, MU, CM, RD⟩
  · go_wp2_with fail
    refine vM (PK.out _ _ _ (HB.newAt (b := w1.heap.size) (by simp) _ _)) fun w2 b2 => ?_
    clear oX1
    replace X2 := X2.later (bC (bA bR _) b2)
    have oX2 := X2.o
    replace X0 := X0.later (bC (bA bR _) b2)
    replace X1 := X1.later (bC (bA bR _) b2)
    go_wp2_with fail
    refine bodyPost_ret (v := .agg #[.int .u64 ph, .int .u64 pl, .int .u8 pf]) ?_ rfl ⟨rfl, (bA ((((bC (bC (bA (bA (bA bR _) _) _) b1) (bC (bA bR _) b2)).setCell (p := ⟨w.heap.size + 1 + 1, 0, none⟩) gX2 _).setCell (p := ⟨w.heap.size + 1 + 1, 1, none⟩) gX2 _).setCell (p := ⟨w.heap.size + 1 + 1, 2, none⟩) gX2 _) _)⟩
    simp [results, Tryz.results11, go_sem, oX2]
  · go_wp2_with fail
    refine vM (PK.out _ _ _ (HB.newAt (b := w1.heap.size) (by simp) _ _)) fun w2 b2 => ?_
    clear oX1
    replace X2 := X2.later (bC (bA bR _) b2)
    have oX2 := X2.o
    replace X0 := X0.later (bC (bA bR _) b2)
    replace X1 := X1.later (bC (bA bR _) b2)
    go_wp2_with fail
    refine bodyPost_ret (v := .agg #[.int .u64 ph, .int .u64 pl, .int .u8 pf]) ?_ rfl ⟨rfl, (bA ((((bC (bC (bA (bA (bA bR _) _) _) b1) (bC (bA bR _) b2)).setCell (p := ⟨w.heap.size + 1 + 1, 0, none⟩) gX2 _).setCell (p := ⟨w.heap.size + 1 + 1, 1, none⟩) gX2 _).setCell (p := ⟨w.heap.size + 1 + 1, 2, none⟩) gX2 _) _)⟩
    simp [results, Tryz.results11, go_sem, oX2]
  · go_wp2_with fail
    refine vM (PK.out _ _ _ (HB.newAt (b := w1.heap.size) (by simp) _ _)) fun w2 b2 => ?_
    clear oX1
    replace X2 := X2.later (bC (bA bR _) b2)
    have oX2 := X2.o
    replace X0 := X0.later (bC (bA bR _) b2)
    replace X1 := X1.later (bC (bA bR _) b2)
    go_wp2_with fail
    refine bodyPost_ret (v := .agg #[.int .u64 ph, .int .u64 pl, .int .u8 pf]) ?_ rfl ⟨rfl, (bA ((((bC (bC (bA (bA (bA bR _) _) _) b1) (bC (bA bR _) b2)).setCell (p := ⟨w.heap.size + 1 + 1, 0, none⟩) gX2 _).setCell (p := ⟨w.heap.size + 1 + 1, 1, none⟩) gX2 _).setCell (p := ⟨w.heap.size + 1 + 1, 2, none⟩) gX2 _) _)⟩
    simp [results, Tryz.results11, go_sem, oX2]
  · go_wp2_with fail
    refine vM (PK.out _ _ _ (HB.newAt (b := w1.heap.size) (by simp) _ _)) fun w2 b2 => ?_
    clear oX1
    go_wp2_with fail
    refine vM (h2.out _) fun w3 b3 => ?_
    replace X2 := X2.later (bC (bC (bA bR _) b2) (bC (bA bR _) b3))
    have oX2 := X2.o
    replace X0 := X0.later (bC (bC (bA bR _) b2) (bC (bA bR _) b3))
    go_wp2_with fail
    refine bodyPost_ret (v := .agg #[.int .u64 rh, .int .u64 rl, .int .u8 0]) ?_ rfl ⟨rfl, ((((bC (bC (bC (bA (bA (bA bR _) _) _) b1) (bC (bA bR _) b2)) (bC (bA bR _) b3)).setCell (p := ⟨w.heap.size + 1 + 1, 0, none⟩) gX2 _).setCell (p := ⟨w.heap.size + 1 + 1, 1, none⟩) gX2 _).setCell (p := ⟨w.heap.size + 1 + 1, 2, none⟩) gX2 _)⟩
    simp [results, Tryz.results11, go_sem, oX2]
  · go_wp2_with fail
    refine vM (PK.out _ _ _ (HB.newAt (b := w1.heap.size) (by simp) _ _)) fun w2 b2 => ?_
    clear oX1
    go_wp2_with fail
    refine vM (h2.out _) fun w3 b3 => ?_
    replace X2 := X2.later (bC (bC (bA bR _) b2) (bC (bA bR _) b3))
    have oX2 := X2.o
    replace X0 := X0.later (bC (bC (bA bR _) b2) (bC (bA bR _) b3))
    go_wp2_with fail
    refine bodyPost_ret (v := .agg #[.int .u64 rh, .int .u64 rl, .int .u8 0]) ?_ rfl ⟨rfl, ((((bC (bC (bC (bA (bA (bA bR _) _) _) b1) (bC (bA bR _) b2)) (bC (bA bR _) b3)).setCell (p := ⟨w.heap.size + 1 + 1, 0, none⟩) gX2 _).setCell (p := ⟨w.heap.size + 1 + 1, 1, none⟩) gX2 _).setCell (p := ⟨w.heap.size + 1 + 1, 2, none⟩) gX2 _)⟩
    simp [results, Tryz.results11, go_sem, oX2]
  · go_wp2_with fail
    refine vM (PK.out _ _ _ (HB.newAt (b := w1.heap.size) (by simp) _ _)) fun w2 b2 => ?_
    clear oX1
    go_wp2_with fail
    refine vM (h2.out _) fun w3 b3 => ?_
    replace X2 := X2.later (bC (bC (bA bR _) b2) (bC (bA bR _) b3))
    have oX2 := X2.o
    replace X0 := X0.later (bC (bC (bA bR _) b2) (bC (bA bR _) b3))
    go_wp2_with fail
    refine bodyPost_ret (v := .agg #[.int .u64 rh, .int .u64 rl, .int .u8 0]) ?_ rfl ⟨rfl, ((((bC (bC (bC (bA (bA (bA bR _) _) _) b1) (bC (bA bR _) b2)) (bC (bA bR _) b3)).setCell (p := ⟨w.heap.size + 1 + 1, 0, none⟩) gX2 _).setCell (p := ⟨w.heap.size + 1 + 1, 1, none⟩) gX2 _).setCell (p := ⟨w.heap.size + 1 + 1, 2, none⟩) gX2 _)⟩
    simp [results, Tryz.results11, go_sem, oX2]
  · go_wp2_with fail
    refine vM (PK.out _ _ _ (HB.newAt (b := w1.heap.size) (by simp) _ _)) fun w2 b2 => ?_
    clear oX1
    replace X1 := X1.later (bC (bA bR _) b2)
    have oX1 := X1.o
    go_wp2_with fail
    refine vE (VA.out _) fun v1 w3 nv1 b3 => ?_
    clear oX1
    go_wp2_with fail
    refine vE (SH.out _ _ (nv1.later (bA bR _))) fun sh w4 nsh b4 => ?_
    replace X2 := X2.later (bC (bC (bA bR _) b2) (bC (bA bR _) b3))
    have nX2_X5 : w.heap.size + 1 + 1 < w3.heap.size := by have := X2.lt; omega
    have X5 := (HB.newAt (b := w3.heap.size) (by simp) _ _).later b4
    clear nv1
    go_wp2_with fail
    refine vE (RT.out _ _ nsh) fun rt w5 nrt b5 => ?_
    go_wp2_with fail
    replace X0 := X0.later (bC (bC (bC (bC (bA bR _) b2) (bC (bA bR _) b3)) (bC (bA bR _) b4)) b5)
    replace X2 := X2.later (bC (bC (bA bR _) b4) b5)
    replace X5 := X5.later b5
    refine vR [w.heap.size + 1 + 1] fun w6 b6 S6 => ?_
    refine vT 0 S6 ?_
    refine vT 1 S6 ?_ (hy := by intro wq hb; have q := (hb.hb X0 (by simp <;> omega)).o; go_simp; try (with_reducible rfl))
    refine vT 2 S6 ?_
    refine vT 3 S6 ?_
    refine vT 4 S6 ?_ (hy := by intro wq hb; have q := (hb.hb X5 (by simp <;> omega)).o; go_simp; try (with_reducible rfl))
    refine vT 5 S6 ?_
    refine vT 6 S6 ?_
    refine vT 7 S6 ?_
    refine vT 8 S6 ?_
    refine vT 9 S6 ?_
    refine vT 11 S6 ?_
    replace nrt := nrt.later b6
    refine vY1 (vCE 10 S6 (MU.out _ _ nrt) (fun _ _ => Off.later) fun mu w7 nmu b7 S7 => ?_)
    replace nsh := nsh.later (bC (bC b5 b6) b7)
    refine vY1 (vC 12 S7 (CM.out _ _ _ nmu nsh) (fun _ _ => Off.later) fun w8 b8 S8 => ?_)
    clear nmu
    clear nsh
    refine vT 13 S8 ?_
    refine vT 14 S8 ?_
    replace nrt := nrt.later (bC b7 b8)
    refine vY1 (vC 15 S8 (RD.out _ _ nrt) (fun _ _ => Off.later) fun w9 b9 S9 => ?_)
    clear nrt
    refine vY1 (vO 16 fun K hK => ?_)
    replace X0 := X0.later (bC (bC (bC b6 b7) b8) b9)
    replace X2 := X2.later (bC (bC (bC b6 b7) b8) b9)
    replace X5 := X5.later (bC (bC (bC b6 b7) b8) b9)
    have oX2 := X2.o
    go_simp
    refine hK.out _ _ (Off.set (by simp) (Off.set (by simp) (Off.set (by simp) S9))) fun S10 => ?_
    clear hK K
    refine vP ?_
    refine vD ?_
    go_wp2_with fail
    refine bodyPost_ret (v := .agg #[.int .u64 rh, .int .u64 rl, .int .u8 fl]) ?_ rfl ⟨rfl, ((((bC (bC (bC (bC (bC (bC (bC (bC (bC (bA (bA (bA bR _) _) _) b1) (bC (bA bR _) b2)) (bC (bA bR _) b3)) (bC (bA bR _) b4)) b5) b6) b7) b8) b9).setCell (p := ⟨w.heap.size + 1 + 1, 0, none⟩) gX2 _).setCell (p := ⟨w.heap.size + 1 + 1, 1, none⟩) gX2 _).setCell (p := ⟨w.heap.size + 1 + 1, 2, none⟩) gX2 _)⟩
    simp [results, Tryz.results11, go_sem, oX2]
  · go_wp2_with fail
    refine vM (PK.out _ _ _ (HB.newAt (b := w1.heap.size) (by simp) _ _)) fun w2 b2 => ?_
    clear oX1
    replace X1 := X1.later (bC (bA bR _) b2)
    have oX1 := X1.o
    go_wp2_with fail
    refine vE (VA.out _) fun v1 w3 nv1 b3 => ?_
    clear oX1
    go_wp2_with fail
    refine vE (SH.out _ _ (nv1.later (bA bR _))) fun sh w4 nsh b4 => ?_
    replace X2 := X2.later (bC (bC (bA bR _) b2) (bC (bA bR _) b3))
    have nX2_X5 : w.heap.size + 1 + 1 < w3.heap.size := by have := X2.lt; omega
    have X5 := (HB.newAt (b := w3.heap.size) (by simp) _ _).later b4
    clear nv1
    go_wp2_with fail
    refine vE (RT.out _ _ nsh) fun rt w5 nrt b5 => ?_
    go_wp2_with fail
    replace X0 := X0.later (bC (bC (bC (bC (bA bR _) b2) (bC (bA bR _) b3)) (bC (bA bR _) b4)) b5)
    replace X2 := X2.later (bC (bC (bA bR _) b4) b5)
    replace X5 := X5.later b5
    refine vR [w.heap.size + 1 + 1] fun w6 b6 S6 => ?_
    refine vT 0 S6 ?_
    refine vT 1 S6 ?_ (hy := by intro wq hb; have q := (hb.hb X0 (by simp <;> omega)).o; go_simp; try (with_reducible rfl))
    refine vT 2 S6 ?_
    refine vT 3 S6 ?_
    refine vT 4 S6 ?_ (hy := by intro wq hb; have q := (hb.hb X5 (by simp <;> omega)).o; go_simp; try (with_reducible rfl))
    refine vT 5 S6 ?_
    refine vT 6 S6 ?_
    refine vT 7 S6 ?_
    refine vT 8 S6 ?_
    refine vT 9 S6 ?_
    refine vT 11 S6 ?_
    replace nrt := nrt.later b6
    refine vY1 (vCE 10 S6 (MU.out _ _ nrt) (fun _ _ => Off.later) fun mu w7 nmu b7 S7 => ?_)
    replace nsh := nsh.later (bC (bC b5 b6) b7)
    refine vY1 (vC 12 S7 (CM.out _ _ _ nmu nsh) (fun _ _ => Off.later) fun w8 b8 S8 => ?_)
    clear nmu
    clear nsh
    refine vT 13 S8 ?_
    refine vT 14 S8 ?_
    replace nrt := nrt.later (bC b7 b8)
    refine vY1 (vC 15 S8 (RD.out _ _ nrt) (fun _ _ => Off.later) fun w9 b9 S9 => ?_)
    clear nrt
    refine vY1 (vO 16 fun K hK => ?_)
    replace X2 := X2.later (bC (bC (bC b6 b7) b8) b9)
    have oX2 := X2.o
    go_simp
    refine hK.out _ _ (Off.set (by simp) (Off.set (by simp) (Off.set (by simp) S9))) fun S10 => ?_
    clear hK K
    refine vP ?_
    refine vD ?_
    go_wp2_with fail
    refine bodyPost_ret (v := .agg #[.int .u64 rh, .int .u64 rl, .int .u8 fl]) ?_ rfl ⟨rfl, ((((bC (bC (bC (bC (bC (bC (bC (bC (bC (bA (bA (bA bR _) _) _) b1) (bC (bA bR _) b2)) (bC (bA bR _) b3)) (bC (bA bR _) b4)) b5) b6) b7) b8) b9).setCell (p := ⟨w.heap.size + 1 + 1, 0, none⟩) gX2 _).setCell (p := ⟨w.heap.size + 1 + 1, 1, none⟩) gX2 _).setCell (p := ⟨w.heap.size + 1 + 1, 2, none⟩) gX2 _)⟩
    simp [results, Tryz.results11, go_sem, oX2]
end Go.Proofs.YtbighggnfkdncaaGreatDoor
