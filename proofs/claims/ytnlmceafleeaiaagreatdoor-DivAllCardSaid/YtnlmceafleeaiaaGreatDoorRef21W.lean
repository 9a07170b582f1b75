import Derived.Test.YtnlmceafleeaiaaGreatDoorGwA
import Derived.Test.YtnlmceafleeaiaaGreatDoorGnB
import Derived.Test.YtnlmceafleeaiaaGreatDoorGhA
import Derived.Test.YtnlmceafleeaiaaGreatDoorGjC
import Derived.Test.YtnlmceafleeaiaaGreatDoorGaA
import Derived.Test.YtnlmceafleeaiaaGreatDoorGaB
import Derived.Test.YtnlmceafleeaiaaGreatDoorRest0
set_option maxHeartbeats 4000000
set_option linter.unusedVariables false
set_option linter.unusedSimpArgs false
set_option maxRecDepth 100000
namespace Go.Proofs.YtnlmceafleeaiaaGreatDoor
open Go.RowKit
attribute [local go_sem ↓] Go.wp_at_zero Go.wp_at_succ
theorem ref21_div_no1 (f m ah al bh bl : Int) (t : Bool)
     (g1 : decide (3 < f) = true) (w : World) :
    Ca 11 #[.int .u8 f, .agg #[.int .u8 m, .bool t], U2 ah al, U2 bh bl] w (.agg #[.int .u64 0, .int .u64 0, .int .u8 0]) := by
  simp only [Ca, U2] at *
  go_enter Tryz.func11, Tryz.ntmps11
  go_wp2_with fail
  refine bodyPost_ret (v := .agg #[.int .u64 0, .int .u64 0, .int .u8 0]) ?_ rfl ⟨rfl, (bA (bA (bA (bA bR _) _) _) _)⟩
  simp [results, Tryz.results11, go_sem]
theorem ref21_div_no2 (f m ah al bh bl : Int) (t : Bool)
     (g1 : decide (3 < f) = false) (g2 : decide (4 < m) = true) (w : World) :
    Ca 11 #[.int .u8 f, .agg #[.int .u8 m, .bool t], U2 ah al, U2 bh bl] w (.agg #[.int .u64 0, .int .u64 0, .int .u8 0]) := by
  simp only [Ca, U2] at *
  go_enter Tryz.func11, Tryz.ntmps11
  go_wp2_with fail
  refine bodyPost_ret (v := .agg #[.int .u64 0, .int .u64 0, .int .u8 0]) ?_ rfl ⟨rfl, (bA (bA (bA (bA bR _) _) _) _)⟩
  simp [results, Tryz.results11, go_sem]
theorem ref21_div_yes (f m ah al bh bl ca cb ph pl pf rh rl fl xa xb e1 e2 M Dn P Q : Int) (t sa sb va vb pk mo : Bool)
    (h0 : Hid (∀ w, Ca 33 #[.int .u8 f, U2 ah al] w (.tuple #[.int .u8 ca, .bool sa])))
    (h1 : Hid (∀ w, Ca 33 #[.int .u8 f, U2 bh bl] w (.tuple #[.int .u8 cb, .bool sb]))) (f3 : decide (3 < f) = false) (m4 : decide (4 < m) = false) (LR : Nat) (lm : decide (0 < LR) = mo) (w1 : IntKind.i64.wrap (xa - xb) = e1) (w1x : wrap64 (xa - xb) = e1) (w2 : IntKind.i64.wrap (e1 - 400) = e2) (w2x : wrap64 (e1 - 400) = e2)
    (HH : (Hid (∀ w, ∀ p T, HB w p T #[.int .u64 ah, .int .u64 al, .int .u64 bh, .int .u64 bl] → Ca 34 #[.int .u8 f, .bool true, .slice (some ⟨p, 0, none⟩) 2 2] w (.tuple #[.agg #[.int .u64 ph, .int .u64 pl, .int .u8 pf], .bool pk])) ∧ (pk = true) ∧ ((ca == 0) = true) ∧ ((cb == 0) = true)) ∨ (Hid (∀ w, ∀ p T, HB w p T #[.int .u64 ah, .int .u64 al, .int .u64 bh, .int .u64 bl] → Ca 34 #[.int .u8 f, .bool false, .slice (some ⟨p, 0, none⟩) 2 2] w (.tuple #[.agg #[.int .u64 ph, .int .u64 pl, .int .u8 pf], .bool pk])) ∧ (pk = true) ∧ ((ca == 0) = true) ∧ ((cb == 0) = false) ∧ ((ca == 3) = false)) ∨ (Hid (∀ w, ∀ p T, HB w p T #[.int .u64 ah, .int .u64 al, .int .u64 bh, .int .u64 bl] → Ca 34 #[.int .u8 f, .bool true, .slice (some ⟨p, 0, none⟩) 2 2] w (.tuple #[.agg #[.int .u64 ph, .int .u64 pl, .int .u8 pf], .bool pk])) ∧ (pk = true) ∧ ((ca == 0) = false) ∧ ((ca == 3) = true) ∧ ((cb == 3) = true)) ∨ (Hid (∀ w, ∀ p T, HB w p T #[.int .u64 ah, .int .u64 al, .int .u64 bh, .int .u64 bl] → Ca 34 #[.int .u8 f, .bool false, .slice (some ⟨p, 0, none⟩) 2 2] w (.tuple #[.agg #[.int .u64 ph, .int .u64 pl, .int .u8 pf], .bool pk])) ∧ (pk = true) ∧ ((ca == 0) = false) ∧ ((ca == 3) = true) ∧ ((cb == 3) = false)) ∨ (Hid (∀ w, ∀ p T, HB w p T #[.int .u64 ah, .int .u64 al, .int .u64 bh, .int .u64 bl] → Ca 34 #[.int .u8 f, .bool false, .slice (some ⟨p, 0, none⟩) 2 2] w (.tuple #[.agg #[.int .u64 ph, .int .u64 pl, .int .u8 pf], .bool pk])) ∧ (pk = true) ∧ ((ca == 0) = false) ∧ ((ca == 3) = false)) ∨ (Hid (∀ w, ∀ p T, HB w p T #[.int .u64 ah, .int .u64 al, .int .u64 bh, .int .u64 bl] → Ca 34 #[.int .u8 f, .bool false, .slice (some ⟨p, 0, none⟩) 2 2] w (.tuple #[.agg #[.int .u64 ph, .int .u64 pl, .int .u8 pf], .bool pk])) ∧ (pk = false) ∧ (fl = 0) ∧ ((ca == 0) = false) ∧ ((ca == 3) = true) ∧ ((cb == 3) = false) ∧ Hid (∀ w, Ca 35 #[.int .u8 f, .bool ((!(sa == sb)))] w (U2 rh rl))) ∨ (Hid (∀ w, ∀ p T, HB w p T #[.int .u64 ah, .int .u64 al, .int .u64 bh, .int .u64 bl] → Ca 34 #[.int .u8 f, .bool false, .slice (some ⟨p, 0, none⟩) 2 2] w (.tuple #[.agg #[.int .u64 ph, .int .u64 pl, .int .u8 pf], .bool pk])) ∧ (pk = false) ∧ (fl = 0) ∧ ((ca == 0) = true) ∧ ((cb == 0) = false) ∧ ((ca == 3) = false) ∧ ((cb == 3) = true) ∧ Hid (∀ w, Ca 36 #[.int .u8 f, .bool ((!(sa == sb))), .int .i64 0, .slice none 0 0] w (U2 rh rl))) ∨ (Hid (∀ w, ∀ p T, HB w p T #[.int .u64 ah, .int .u64 al, .int .u64 bh, .int .u64 bl] → Ca 34 #[.int .u8 f, .bool false, .slice (some ⟨p, 0, none⟩) 2 2] w (.tuple #[.agg #[.int .u64 ph, .int .u64 pl, .int .u8 pf], .bool pk])) ∧ (pk = false) ∧ (fl = 0) ∧ ((ca == 0) = true) ∧ ((cb == 0) = false) ∧ ((ca == 3) = false) ∧ ((cb == 3) = false) ∧ Hid (∀ w, Ca 36 #[.int .u8 f, .bool ((!(sa == sb))), .int .i64 0, .slice none 0 0] w (U2 rh rl))) ∨ (Hid (∀ w, ∀ p T, HB w p T #[.int .u64 ah, .int .u64 al, .int .u64 bh, .int .u64 bl] → Ca 34 #[.int .u8 f, .bool false, .slice (some ⟨p, 0, none⟩) 2 2] w (.tuple #[.agg #[.int .u64 ph, .int .u64 pl, .int .u8 pf], .bool pk])) ∧ (pk = false) ∧ (fl = 0) ∧ ((ca == 0) = false) ∧ ((ca == 3) = false) ∧ ((cb == 3) = true) ∧ Hid (∀ w, Ca 36 #[.int .u8 f, .bool ((!(sa == sb))), .int .i64 0, .slice none 0 0] w (U2 rh rl))) ∨ (Hid (∀ w, ∀ p T, HB w p T #[.int .u64 ah, .int .u64 al, .int .u64 bh, .int .u64 bl] → Ca 34 #[.int .u8 f, .bool false, .slice (some ⟨p, 0, none⟩) 2 2] w (.tuple #[.agg #[.int .u64 ph, .int .u64 pl, .int .u8 pf], .bool pk])) ∧ (pk = false) ∧ (fl = 2) ∧ ((ca == 0) = false) ∧ ((ca == 3) = false) ∧ ((cb == 3) = false) ∧ ((cb == 0) = true) ∧ Hid (∀ w, Ca 35 #[.int .u8 f, .bool ((!(sa == sb)))] w (U2 rh rl))) ∨ (Hid (∀ w, ∀ p T, HB w p T #[.int .u64 ah, .int .u64 al, .int .u64 bh, .int .u64 bl] → Ca 34 #[.int .u8 f, .bool false, .slice (some ⟨p, 0, none⟩) 2 2] w (.tuple #[.agg #[.int .u64 ph, .int .u64 pl, .int .u8 pf], .bool pk])) ∧ (pk = false) ∧ ((ca == 0) = false) ∧ ((ca == 3) = false) ∧ ((cb == 3) = false) ∧ ((cb == 0) = false) ∧ Hid (∀ w, Calls Tryz.prog 37 #[.int .u8 f, U2 ah al] w fun e' w' => ∃ s : Option Addr × Nat × Nat, e' = .returned (.agg #[.bool va, .slice s.1 s.2.1 s.2.2, .int .i64 xa]) ∧ IsNum w' (.slice s.1 s.2.1 s.2.2) M ∧ Below w.heap.size w w') ∧ Hid (∀ w, Calls Tryz.prog 37 #[.int .u8 f, U2 bh bl] w fun e' w' => ∃ s : Option Addr × Nat × Nat, e' = .returned (.agg #[.bool vb, .slice s.1 s.2.1 s.2.2, .int .i64 xb]) ∧ IsNum w' (.slice s.1 s.2.1 s.2.2) Dn ∧ Below w.heap.size w w') ∧ Hid (∀ w (sx : Option Addr × Nat × Nat), IsNum w (.slice sx.1 sx.2.1 sx.2.2) M → Calls Tryz.prog 39 #[.slice sx.1 sx.2.1 sx.2.2, .int .i64 400] w fun e' w' => ∃ s : Option Addr × Nat × Nat, e' = .returned (.slice s.1 s.2.1 s.2.2) ∧ IsNum w' (.slice s.1 s.2.1 s.2.2) P ∧ Below w.heap.size w w') ∧ Hid (∀ w (sx sy : Option Addr × Nat × Nat), IsNum w (.slice sx.1 sx.2.1 sx.2.2) P → IsNum w (.slice sy.1 sy.2.1 sy.2.2) Dn → Calls Tryz.prog 38 #[.slice sx.1 sx.2.1 sx.2.2, .slice sy.1 sy.2.1 sy.2.2] w fun e' w' => ∃ v : (Option Addr × Nat × Nat) × (Option Addr × Nat), e' = .returned (.tuple #[.slice v.1.1 v.1.2.1 v.1.2.2, .slice v.2.1 LR v.2.2]) ∧ IsNum w' (.slice v.1.1 v.1.2.1 v.1.2.2) Q ∧ Below w.heap.size w w') ∧ Hid (∀ w (sx : Option Addr × Nat × Nat), IsNum w (.slice sx.1 sx.2.1 sx.2.2) Q → Ca 40 #[.int .u8 f, .agg #[.int .u8 m, .bool t], .agg #[.bool ((!(sa == sb))), .slice sx.1 sx.2.1 sx.2.2, .int .i64 e2, .bool mo]] w (.agg #[.int .u64 rh, .int .u64 rl, .int .u8 fl])))) (w : World) :
    Ca 11 #[.int .u8 f, .agg #[.int .u8 m, .bool t], U2 ah al, U2 bh bl] w (.agg #[.int .u64 (if pk then ph else rh), .int .u64 (if pk then pl else rl), .int .u8 (if pk then pf else fl)]) := by
  simp only [Ca, U2] at *
  go_enter Tryz.func11, Tryz.ntmps11
  go_wp2_with fail
  refine vM (h0.out _) fun w1 b1 => ?_
  have gX3 : w.heap.size ≤ w.heap.size + 1 + 1 + 1 := by omega
  have X0 := ((((HB.newAt (b := w.heap.size) (by simp) _ _).alloc _).alloc _).alloc _).later b1
  have X1 := (((HB.newAt (b := w.heap.size + 1) (by simp) _ _).alloc _).alloc _).later b1
  have X2 := ((HB.newAt (b := w.heap.size + 1 + 1) (by simp) _ _).alloc _).later b1
  have X3 := (HB.newAt (b := w.heap.size + 1 + 1 + 1) (by simp) _ _).later b1
  have oX2 := X2.o
  go_wp2_with fail
  refine vM (h1.out _) fun w2 b2 => ?_
  clear oX2
  replace X1 := X1.later b2
  have oX1 := X1.o
  replace X2 := X2.later b2
  have oX2 := X2.o
  rcases HH with ⟨PK, rfl, g0, g1⟩ | ⟨PK, rfl, g0, g1, g2⟩ | ⟨PK, rfl, g0, g2, g3⟩ | ⟨PK, rfl, g0, g2, g3⟩ | ⟨PK, rfl, g0, g2⟩ | ⟨PK, rfl, rfl, g0, g2, g3, h3⟩ | ⟨PK, rfl, rfl, g0, g1, g2, g3, h3⟩ | ⟨PK, rfl, rfl, g0, g1, g2, g3, h3⟩ | ⟨PK, rfl, rfl, g0, g2, g3, h3⟩ | ⟨PK, rfl, rfl, g0, g2, g3, g4, h3⟩ | ⟨PK, rfl, g0, g2, g3, g4, VA, VB, SH, DVI, RD⟩
  · go_wp2_with fail
    refine vM (PK.out _ _ _ (HB.newAt (b := w2.heap.size) (by simp) _ _)) fun w3 b3 => ?_
    clear oX1 oX2
    replace X3 := X3.later (bC b2 (bC (bA bR _) b3))
    have oX3 := X3.o
    replace X0 := X0.later (bC b2 (bC (bA bR _) b3))
    replace X1 := X1.later (bC (bA bR _) b3)
    replace X2 := X2.later (bC (bA bR _) b3)
    go_wp2_with fail
    refine bodyPost_ret (v := .agg #[.int .u64 ph, .int .u64 pl, .int .u8 pf]) ?_ rfl ⟨rfl, (bA ((((bC (bC (bC (bA (bA (bA (bA bR _) _) _) _) b1) b2) (bC (bA bR _) b3)).setCell (p := ⟨w.heap.size + 1 + 1 + 1, 0, none⟩) gX3 _).setCell (p := ⟨w.heap.size + 1 + 1 + 1, 1, none⟩) gX3 _).setCell (p := ⟨w.heap.size + 1 + 1 + 1, 2, none⟩) gX3 _) _)⟩
    simp [results, Tryz.results11, go_sem, oX3]
  · go_wp2_with fail
    refine vM (PK.out _ _ _ (HB.newAt (b := w2.heap.size) (by simp) _ _)) fun w3 b3 => ?_
    clear oX1 oX2
    replace X3 := X3.later (bC b2 (bC (bA bR _) b3))
    have oX3 := X3.o
    replace X0 := X0.later (bC b2 (bC (bA bR _) b3))
    replace X1 := X1.later (bC (bA bR _) b3)
    replace X2 := X2.later (bC (bA bR _) b3)
    go_wp2_with fail
    refine bodyPost_ret (v := .agg #[.int .u64 ph, .int .u64 pl, .int .u8 pf]) ?_ rfl ⟨rfl, (bA ((((bC (bC (bC (bA (bA (bA (bA bR _) _) _) _) b1) b2) (bC (bA bR _) b3)).setCell (p := ⟨w.heap.size + 1 + 1 + 1, 0, none⟩) gX3 _).setCell (p := ⟨w.heap.size + 1 + 1 + 1, 1, none⟩) gX3 _).setCell (p := ⟨w.heap.size + 1 + 1 + 1, 2, none⟩) gX3 _) _)⟩
    simp [results, Tryz.results11, go_sem, oX3]
  · go_wp2_with fail
    refine vM (PK.out _ _ _ (HB.newAt (b := w2.heap.size) (by simp) _ _)) fun w3 b3 => ?_
    clear oX1 oX2
    replace X3 := X3.later (bC b2 (bC (bA bR _) b3))
    have oX3 := X3.o
    replace X0 := X0.later (bC b2 (bC (bA bR _) b3))
    replace X1 := X1.later (bC (bA bR _) b3)
    replace X2 := X2.later (bC (bA bR _) b3)
    go_wp2_with fail
    refine bodyPost_ret (v := .agg #[.int .u64 ph, .int .u64 pl, .int .u8 pf]) ?_ rfl ⟨rfl, (bA ((((bC (bC (bC (bA (bA (bA (bA bR _) _) _) _) b1) b2) (bC (bA bR _) b3)).setCell (p := ⟨w.heap.size + 1 + 1 + 1, 0, none⟩) gX3 _).setCell (p := ⟨w.heap.size + 1 + 1 + 1, 1, none⟩) gX3 _).setCell (p := ⟨w.heap.size + 1 + 1 + 1, 2, none⟩) gX3 _) _)⟩
    simp [results, Tryz.results11, go_sem, oX3]
  · go_wp2_with fail
    refine vM (PK.out _ _ _ (HB.newAt (b := w2.heap.size) (by simp) _ _)) fun w3 b3 => ?_
    clear oX1 oX2
    replace X3 := X3.later (bC b2 (bC (bA bR _) b3))
    have oX3 := X3.o
    replace X0 := X0.later (bC b2 (bC (bA bR _) b3))
    replace X1 := X1.later (bC (bA bR _) b3)
    replace X2 := X2.later (bC (bA bR _) b3)
    go_wp2_with fail
    refine bodyPost_ret (v := .agg #[.int .u64 ph, .int .u64 pl, .int .u8 pf]) ?_ rfl ⟨rfl, (bA ((((bC (bC (bC (bA (bA (bA (bA bR _) _) _) _) b1) b2) (bC (bA bR _) b3)).setCell (p := ⟨w.heap.size + 1 + 1 + 1, 0, none⟩) gX3 _).setCell (p := ⟨w.heap.size + 1 + 1 + 1, 1, none⟩) gX3 _).setCell (p := ⟨w.heap.size + 1 + 1 + 1, 2, none⟩) gX3 _) _)⟩
    simp [results, Tryz.results11, go_sem, oX3]
  · go_wp2_with fail
    refine vM (PK.out _ _ _ (HB.newAt (b := w2.heap.size) (by simp) _ _)) fun w3 b3 => ?_
    clear oX1 oX2
    replace X3 := X3.later (bC b2 (bC (bA bR _) b3))
    have oX3 := X3.o
    replace X0 := X0.later (bC b2 (bC (bA bR _) b3))
    replace X1 := X1.later (bC (bA bR _) b3)
    replace X2 := X2.later (bC (bA bR _) b3)
    go_wp2_with fail
    refine bodyPost_ret (v := .agg #[.int .u64 ph, .int .u64 pl, .int .u8 pf]) ?_ rfl ⟨rfl, (bA ((((bC (bC (bC (bA (bA (bA (bA bR _) _) _) _) b1) b2) (bC (bA bR _) b3)).setCell (p := ⟨w.heap.size + 1 + 1 + 1, 0, none⟩) gX3 _).setCell (p := ⟨w.heap.size + 1 + 1 + 1, 1, none⟩) gX3 _).setCell (p := ⟨w.heap.size + 1 + 1 + 1, 2, none⟩) gX3 _) _)⟩
    simp [results, Tryz.results11, go_sem, oX3]
  · go_wp2_with fail
    refine vM (PK.out _ _ _ (HB.newAt (b := w2.heap.size) (by simp) _ _)) fun w3 b3 => ?_
    clear oX1 oX2
    go_wp2_with fail
    refine vM (h3.out _) fun w4 b4 => ?_
    replace X3 := X3.later (bC (bC b2 (bC (bA bR _) b3)) (bC (bA bR _) b4))
    have oX3 := X3.o
    replace X0 := X0.later (bC (bC b2 (bC (bA bR _) b3)) (bC (bA bR _) b4))
    replace X1 := X1.later (bC (bC (bA bR _) b3) (bC (bA bR _) b4))
    replace X2 := X2.later (bC (bC (bA bR _) b3) (bC (bA bR _) b4))
    go_wp2_with fail
    refine bodyPost_ret (v := .agg #[.int .u64 rh, .int .u64 rl, .int .u8 0]) ?_ rfl ⟨rfl, ((((bC (bC (bC (bC (bA (bA (bA (bA bR _) _) _) _) b1) b2) (bC (bA bR _) b3)) (bC (bA bR _) b4)).setCell (p := ⟨w.heap.size + 1 + 1 + 1, 0, none⟩) gX3 _).setCell (p := ⟨w.heap.size + 1 + 1 + 1, 1, none⟩) gX3 _).setCell (p := ⟨w.heap.size + 1 + 1 + 1, 2, none⟩) gX3 _)⟩
    simp [results, Tryz.results11, go_sem, oX3]
  · go_wp2_with fail
    refine vM (PK.out _ _ _ (HB.newAt (b := w2.heap.size) (by simp) _ _)) fun w3 b3 => ?_
    clear oX1 oX2
    go_wp2_with fail
    refine vM (h3.out _) fun w4 b4 => ?_
    replace X3 := X3.later (bC (bC b2 (bC (bA bR _) b3)) (bC (bA bR _) b4))
    have oX3 := X3.o
    replace X0 := X0.later (bC (bC b2 (bC (bA bR _) b3)) (bC (bA bR _) b4))
    go_wp2_with fail
    refine bodyPost_ret (v := .agg #[.int .u64 rh, .int .u64 rl, .int .u8 0]) ?_ rfl ⟨rfl, ((((bC (bC (bC (bC (bA (bA (bA (bA bR _) _) _) _) b1) b2) (bC (bA bR _) b3)) (bC (bA bR _) b4)).setCell (p := ⟨w.heap.size + 1 + 1 + 1, 0, none⟩) gX3 _).setCell (p := ⟨w.heap.size + 1 + 1 + 1, 1, none⟩) gX3 _).setCell (p := ⟨w.heap.size + 1 + 1 + 1, 2, none⟩) gX3 _)⟩
    simp [results, Tryz.results11, go_sem, oX3]
  · go_wp2_with fail
    refine vM (PK.out _ _ _ (HB.newAt (b := w2.heap.size) (by simp) _ _)) fun w3 b3 => ?_
    clear oX1 oX2
    go_wp2_with fail
    refine vM (h3.out _) fun w4 b4 => ?_
    replace X3 := X3.later (bC (bC b2 (bC (bA bR _) b3)) (bC (bA bR _) b4))
    have oX3 := X3.o
    replace X0 := X0.later (bC (bC b2 (bC (bA bR _) b3)) (bC (bA bR _) b4))
    go_wp2_with fail
    refine bodyPost_ret (v := .agg #[.int .u64 rh, .int .u64 rl, .int .u8 0]) ?_ rfl ⟨rfl, ((((bC (bC (bC (bC (bA (bA (bA (bA bR _) _) _) _) b1) b2) (bC (bA bR _) b3)) (bC (bA bR _) b4)).setCell (p := ⟨w.heap.size + 1 + 1 + 1, 0, none⟩) gX3 _).setCell (p := ⟨w.heap.size + 1 + 1 + 1, 1, none⟩) gX3 _).setCell (p := ⟨w.heap.size + 1 + 1 + 1, 2, none⟩) gX3 _)⟩
    simp [results, Tryz.results11, go_sem, oX3]
  · go_wp2_with fail
    refine vM (PK.out _ _ _ (HB.newAt (b := w2.heap.size) (by simp) _ _)) fun w3 b3 => ?_
    clear oX1 oX2
    go_wp2_with fail
    refine vM (h3.out _) fun w4 b4 => ?_
    replace X3 := X3.later (bC (bC b2 (bC (bA bR _) b3)) (bC (bA bR _) b4))
    have oX3 := X3.o
    replace X0 := X0.later (bC (bC b2 (bC (bA bR _) b3)) (bC (bA bR _) b4))
    go_wp2_with fail
    refine bodyPost_ret (v := .agg #[.int .u64 rh, .int .u64 rl, .int .u8 0]) ?_ rfl ⟨rfl, ((((bC (bC (bC (bC (bA (bA (bA (bA bR _) _) _) _) b1) b2) (bC (bA bR _) b3)) (bC (bA bR _) b4)).setCell (p := ⟨w.heap.size + 1 + 1 + 1, 0, none⟩) gX3 _).setCell (p := ⟨w.heap.size + 1 + 1 + 1, 1, none⟩) gX3 _).setCell (p := ⟨w.heap.size + 1 + 1 + 1, 2, none⟩) gX3 _)⟩
    simp [results, Tryz.results11, go_sem, oX3]
  · go_wp2_with fail
    refine vM (PK.out _ _ _ (HB.newAt (b := w2.heap.size) (by simp) _ _)) fun w3 b3 => ?_
    clear oX1 oX2
    go_wp2_with fail
    refine vM (h3.out _) fun w4 b4 => ?_
    replace X3 := X3.later (bC (bC b2 (bC (bA bR _) b3)) (bC (bA bR _) b4))
    have oX3 := X3.o
    go_wp2_with fail
    refine bodyPost_ret (v := .agg #[.int .u64 rh, .int .u64 rl, .int .u8 2]) ?_ rfl ⟨rfl, ((((bC (bC (bC (bC (bA (bA (bA (bA bR _) _) _) _) b1) b2) (bC (bA bR _) b3)) (bC (bA bR _) b4)).setCell (p := ⟨w.heap.size + 1 + 1 + 1, 0, none⟩) gX3 _).setCell (p := ⟨w.heap.size + 1 + 1 + 1, 1, none⟩) gX3 _).setCell (p := ⟨w.heap.size + 1 + 1 + 1, 2, none⟩) gX3 _)⟩
    simp [results, Tryz.results11, go_sem, oX3]
  · go_wp2_with fail
    refine vM (PK.out _ _ _ (HB.newAt (b := w2.heap.size) (by simp) _ _)) fun w3 b3 => ?_
    clear oX1 oX2
    go_wp2_with fail
    refine vF1 fun w4 b4 _ => ?_
    replace X1 := X1.later (bC (bC (bA bR _) b3) b4)
    replace X2 := X2.later (bC (bC (bA bR _) b3) b4)
    refine' (have s5k_12 : Hid (_ : Prop) := ?ns5k_12; ?ms5k_12)
    case' ms5k_12 => skip
    refine' (have s5k_11 : Hid (_ : Prop) := ?ns5k_11; ?ms5k_11)
    case' ms5k_11 => skip
    refine' (have s5k_10 : Hid (_ : Prop) := ?ns5k_10; ?ms5k_10)
    case' ms5k_10 => skip
    refine' (have s5k_9 : Hid (_ : Prop) := ?ns5k_9; ?ms5k_9)
    case' ms5k_9 => skip
    refine' (have s5k_8 : Hid (_ : Prop) := ?ns5k_8; ?ms5k_8)
    case' ms5k_8 => skip
    refine' (have s5k_7 : Hid (_ : Prop) := ?ns5k_7; ?ms5k_7)
    case' ms5k_7 => skip
    refine' (have s5k_6 : Hid (_ : Prop) := ?ns5k_6; ?ms5k_6)
    case' ms5k_6 => skip
    refine' (have s5k_5 : Hid (_ : Prop) := ?ns5k_5; ?ms5k_5)
    case' ms5k_5 => skip
    refine' (have s5k_4 : Hid (_ : Prop) := ?ns5k_4; ?ms5k_4)
    case' ms5k_4 => skip
    refine' (have s5k_3 : Hid (_ : Prop) := ?ns5k_3; ?ms5k_3)
    case' ms5k_3 => skip
    refine' (have s5k_2 : Hid (_ : Prop) := ?ns5k_2; ?ms5k_2)
    case' ms5k_2 => skip
    refine' (have s5k_1 : Hid (_ : Prop) := ?ns5k_1; ?ms5k_1)
    case' ms5k_1 => skip
    refine' (have s5k_0 : Hid (_ : Prop) := ?ns5k_0; ?ms5k_0)
    case' ms5k_0 => skip
    refine vR [] fun w5 kz5 S => ?_
    refine vT 0 S ?_
    refine vT 1 S ?_ (hy := by intro wq hb; have q := (hb.hb X1 (by simp)).o; go_simp; try (with_reducible rfl))
    refine vT 3 S ?_
    refine vT 4 S ?_ (hy := by intro wq hb; have q := (hb.hb X2 (by simp)).o; go_simp; try (with_reducible rfl))
    refine vY3 (cE 2 S (VA.out _) fun v1 w6 nv1 b6 => ?_) (cA 6 S fun w7 pp4_0 h X6 b7 => ?_) (cA 7 S fun w8 pp4_1 h X7 b8 => ?_)
    replace kz5 := bC kz5 b6
    clear S b6 w5
    revert kz5; revert nv1; revert v1; revert w6
    exact s5k_0.out
    have jX6 := (lZ kz5.size h); replace kz5 := bC kz5 b7
    clear S b7 h w5
    revert kz5; revert jX6; revert X6; revert pp4_0; revert w7
    exact s5k_1.out
    have jX7 := (lZ kz5.size h); replace kz5 := bC kz5 b8
    clear S b8 h w5
    revert kz5; revert jX7; revert X7; revert pp4_1; revert w8
    exact s5k_2.out
    case' ns5k_0 => refine lH ?_
    intro w9 v1 nv1 kz5
    have S := Off.ofB kz5
    refine vY3 (cE 5 S (VB.out _) fun v2 w10 nv2 b10 => ?_) (cA 6 S fun w11 pp4_0 h X6 b11 => ?_) (cA 7 S fun w12 pp4_1 h X7 b12 => ?_)
    replace nv1 := (nv1.later b10); replace kz5 := bC kz5 b10
    clear S b10 w9
    revert kz5; revert nv2; revert nv1; revert v2; revert v1; revert w10
    exact s5k_3.out
    have jX6 := (lZ kz5.size h); replace nv1 := (nv1.later b11); replace kz5 := bC kz5 b11
    clear S b11 h w9
    revert kz5; revert jX6; revert nv1; revert X6; revert v1; revert pp4_0; revert w11
    exact s5k_4.out
    have jX7 := (lZ kz5.size h); replace nv1 := (nv1.later b12); replace kz5 := bC kz5 b12
    clear S b12 h w9
    revert kz5; revert jX7; revert nv1; revert X7; revert v1; revert pp4_1; revert w12
    exact s5k_5.out
    case' ns5k_1 => refine lH ?_
    intro w13 pp4_0 X6 jX6 kz5
    have S := Off.ofB kz5
    refine vY2 (cE 2 S (VA.out _) fun v1 w14 nv1 b14 => s5k_4.out w14 pp4_0 v1 (X6.later b14) nv1 jX6 (bC kz5 b14)) (cA 7 S fun w15 pp4_1 h X7 b15 => ?_)
    have ndX6_X7 : ¬ (pp4_0 = pp4_1) := (Nat.ne_of_lt (lY X6.lt h)); have jX7 := (lZ kz5.size h); replace X6 := (X6.later b15); replace kz5 := bC kz5 b15
    clear S b15 h w13
    revert kz5; revert ndX6_X7; revert jX7; revert jX6; revert X7; revert X6; revert pp4_1; revert pp4_0; revert w15
    exact s5k_6.out
    case' ns5k_2 => refine lH ?_
    intro w16 pp4_1 X7 jX7 kz5
    have S := Off.ofB kz5
    refine vY2 (cE 2 S (VA.out _) fun v1 w17 nv1 b17 => s5k_5.out w17 pp4_1 v1 (X7.later b17) nv1 jX7 (bC kz5 b17)) (cA 6 S fun w18 pp4_0 h X6 b18 => s5k_6.out w18 pp4_0 pp4_1 X6 (X7.later b18) (lZ kz5.size h) jX7 (Nat.ne_of_gt (lY X7.lt h)) (bC kz5 b18))
    case' ns5k_3 => refine lH ?_
    intro w19 v1 v2 nv1 nv2 kz5
    have S := Off.ofB kz5
    refine vY2 (cA 6 S fun w20 pp4_0 h X6 b20 => ?_) (cA 7 S fun w21 pp4_1 h X7 b21 => ?_)
    have jX6 := (lZ kz5.size h); replace nv1 := (nv1.later b20); replace nv2 := (nv2.later b20); replace kz5 := bC kz5 b20
    clear S b20 h w19
    revert kz5; revert jX6; revert nv2; revert nv1; revert X6; revert v2; revert v1; revert pp4_0; revert w20
    exact s5k_7.out
    have jX7 := (lZ kz5.size h); replace nv1 := (nv1.later b21); replace nv2 := (nv2.later b21); replace kz5 := bC kz5 b21
    clear S b21 h w19
    revert kz5; revert jX7; revert nv2; revert nv1; revert X7; revert v2; revert v1; revert pp4_1; revert w21
    exact s5k_8.out
    case' ns5k_4 => refine lH ?_
    intro w22 pp4_0 v1 X6 nv1 jX6 kz5
    have S := Off.ofB kz5
    refine vY2 (cE 5 S (VB.out _) fun v2 w23 nv2 b23 => s5k_7.out w23 pp4_0 v1 v2 (X6.later b23) (nv1.later b23) nv2 jX6 (bC kz5 b23)) (cA 7 S fun w24 pp4_1 h X7 b24 => ?_)
    have ndX6_X7 : ¬ (pp4_0 = pp4_1) := (Nat.ne_of_lt (lY X6.lt h)); have jX7 := (lZ kz5.size h); replace X6 := (X6.later b24); replace nv1 := (nv1.later b24); replace kz5 := bC kz5 b24
    clear S b24 h w22
    revert kz5; revert ndX6_X7; revert jX7; revert jX6; revert nv1; revert X7; revert X6; revert v1; revert pp4_1; revert pp4_0; revert w24
    exact s5k_9.out
    case' ns5k_5 => refine lH ?_
    intro w25 pp4_1 v1 X7 nv1 jX7 kz5
    have S := Off.ofB kz5
    refine vY2 (cE 5 S (VB.out _) fun v2 w26 nv2 b26 => s5k_8.out w26 pp4_1 v1 v2 (X7.later b26) (nv1.later b26) nv2 jX7 (bC kz5 b26)) (cA 6 S fun w27 pp4_0 h X6 b27 => s5k_9.out w27 pp4_0 pp4_1 v1 X6 (X7.later b27) (nv1.later b27) (lZ kz5.size h) jX7 (Nat.ne_of_gt (lY X7.lt h)) (bC kz5 b27))
    case' ns5k_6 => refine lH ?_
    intro w28 pp4_0 pp4_1 X6 X7 jX6 jX7 ndX6_X7 kz5
    have S := Off.ofB kz5
    refine vY1 (cE 2 S (VA.out _) fun v1 w29 nv1 b29 => s5k_9.out w29 pp4_0 pp4_1 v1 (X6.later b29) (X7.later b29) nv1 jX6 jX7 ndX6_X7 (bC kz5 b29))
    case' ns5k_7 => refine lH ?_
    intro w30 pp4_0 v1 v2 X6 nv1 nv2 jX6 kz5
    have S := Off.ofB kz5
    refine vY1 (cA 7 S fun w31 pp4_1 h X7 b31 => ?_)
    have ndX6_X7 : ¬ (pp4_0 = pp4_1) := (Nat.ne_of_lt (lY X6.lt h)); have jX7 := (lZ kz5.size h); replace X6 := (X6.later b31); replace nv1 := (nv1.later b31); replace nv2 := (nv2.later b31); replace kz5 := bC kz5 b31
    clear S b31 h w30
    revert kz5; revert ndX6_X7; revert jX7; revert jX6; revert nv2; revert nv1; revert X7; revert X6; revert v2; revert v1; revert pp4_1; revert pp4_0; revert w31
    exact s5k_10.out
    case' ns5k_8 => refine lH ?_
    intro w32 pp4_1 v1 v2 X7 nv1 nv2 jX7 kz5
    have S := Off.ofB kz5
    refine vY1 (cA 6 S fun w33 pp4_0 h X6 b33 => s5k_10.out w33 pp4_0 pp4_1 v1 v2 X6 (X7.later b33) (nv1.later b33) (nv2.later b33) (lZ kz5.size h) jX7 (Nat.ne_of_gt (lY X7.lt h)) (bC kz5 b33))
    case' ns5k_9 => refine lH ?_
    intro w34 pp4_0 pp4_1 v1 X6 X7 nv1 jX6 jX7 ndX6_X7 kz5
    have S := Off.ofB kz5
    refine vY1 (cE 5 S (VB.out _) fun v2 w35 nv2 b35 => s5k_10.out w35 pp4_0 pp4_1 v1 v2 (X6.later b35) (X7.later b35) (nv1.later b35) nv2 jX6 jX7 ndX6_X7 (bC kz5 b35))
    case' ns5k_10 => refine lH ?_
    intro w36 pp4_0 pp4_1 v1 v2 X6 X7 nv1 nv2 jX6 jX7 ndX6_X7 kz5
    have S := Off.ofB kz5
    refine vY1 (vO 8 fun K hK => ?_)
    have q := X6.o; have mX7 : ¬ (pp4_1 = pp4_0) := (by omega)
    go_simp
    refine vW (fun W => HB W pp4_0 73 #[.bool va, .slice v1.1 v1.2.1 v1.2.2, .int .i64 xa] ∧ HB W pp4_1 73 #[.bool false, .slice none 0 0, .int .i64 0] ∧ IsNum W (.slice v1.1 v1.2.1 v1.2.2) M ∧ IsNum W (.slice v2.1 v2.2.1 v2.2.2) Dn ∧ Below w4.heap.size w4 W) ⟨(((X6.set 0 _).set 1 _).set 2 _), (((X7.other mX7 0 _).other mX7 1 _).other mX7 2 _), (((nv1.setHB X6 (by simp) 0 _).setHB (X6.set 0 _) (by simp) 1 _).setHB ((X6.set 0 _).set 1 _) (by simp) 2 _), (((nv2.setHB X6 (by simp) 0 _).setHB (X6.set 0 _) (by simp) 1 _).setHB ((X6.set 0 _).set 1 _) (by simp) 2 _), (((kz5.setCell (p := ⟨pp4_0, 0, none⟩) jX6 _).setCell (p := ⟨pp4_0, 1, none⟩) jX6 _).setCell (p := ⟨pp4_0, 2, none⟩) jX6 _)⟩ fun w38 hz => ?_
    clear q mX7 X6 X7 nv1 nv2 S kz5 w36; obtain ⟨X6, X7, nv1, nv2, kz5⟩ := hz
    refine hK.out _ _ (Off.ofB kz5) fun S => ?_; clear hK K S; refine vP ?_
    revert kz5; revert ndX6_X7; revert jX7; revert jX6; revert nv2; revert nv1; revert X7; revert X6; revert v2; revert v1; revert pp4_1; revert pp4_0; revert w38
    exact s5k_11.out
    case' ns5k_11 => refine lH ?_
    intro w39 pp4_0 pp4_1 v1 v2 X6 X7 nv1 nv2 jX6 jX7 ndX6_X7 kz5
    have S := Off.ofB kz5
    refine vY1 (vO 9 fun K hK => ?_)
    have q := X7.o; have mX6 : ¬ (pp4_0 = pp4_1) := (by omega)
    go_simp
    refine vW (fun W => HB W pp4_0 73 #[.bool va, .slice v1.1 v1.2.1 v1.2.2, .int .i64 xa] ∧ HB W pp4_1 73 #[.bool vb, .slice v2.1 v2.2.1 v2.2.2, .int .i64 xb] ∧ IsNum W (.slice v1.1 v1.2.1 v1.2.2) M ∧ IsNum W (.slice v2.1 v2.2.1 v2.2.2) Dn ∧ Below w4.heap.size w4 W) ⟨(((X6.other mX6 0 _).other mX6 1 _).other mX6 2 _), (((X7.set 0 _).set 1 _).set 2 _), (((nv1.setHB X7 (by simp) 0 _).setHB (X7.set 0 _) (by simp) 1 _).setHB ((X7.set 0 _).set 1 _) (by simp) 2 _), (((nv2.setHB X7 (by simp) 0 _).setHB (X7.set 0 _) (by simp) 1 _).setHB ((X7.set 0 _).set 1 _) (by simp) 2 _), (((kz5.setCell (p := ⟨pp4_1, 0, none⟩) jX7 _).setCell (p := ⟨pp4_1, 1, none⟩) jX7 _).setCell (p := ⟨pp4_1, 2, none⟩) jX7 _)⟩ fun w41 hz => ?_
    clear q mX6 X6 X7 nv1 nv2 S kz5 w39; obtain ⟨X6, X7, nv1, nv2, kz5⟩ := hz
    refine hK.out _ _ (Off.ofB kz5) fun S => ?_; clear hK K S; refine vP ?_
    revert kz5; revert ndX6_X7; revert jX7; revert jX6; revert nv2; revert nv1; revert X7; revert X6; revert v2; revert v1; revert pp4_1; revert pp4_0; revert w41
    exact s5k_12.out
    case' ns5k_12 => refine lH ?_
    intro w42 pp4_0 pp4_1 v1 v2 X6 X7 nv1 nv2 jX6 jX7 ndX6_X7 kz5
    refine vD ?_
    replace X0 := X0.later (bC (bC b2 (bC (bA bR _) b3)) b4)
    have nX0_X6 : w.heap.size < pp4_0 := by have := X0.lt; omega
    have nX0_X7 : w.heap.size < pp4_1 := by have := X0.lt; omega
    replace X3 := X3.later (bC (bC b2 (bC (bA bR _) b3)) b4)
    have nX3_X6 : w.heap.size + 1 + 1 + 1 < pp4_0 := by have := X3.lt; omega
    have nX3_X7 : w.heap.size + 1 + 1 + 1 < pp4_1 := by have := X3.lt; omega
    have gX6 : w.heap.size ≤ pp4_0 := by have := (bC (bC (bC (bC (bA (bA (bA (bA bR _) _) _) _) b1) b2) (bC (bA bR _) b3)) b4).size; omega
    have gX7 : w.heap.size ≤ pp4_1 := by have := (bC (bC (bC (bC (bA (bA (bA (bA bR _) _) _) _) b1) b2) (bC (bA bR _) b3)) b4).size; omega
    go_wp2_with fail
    refine vR [] fun w43 b43 S43 => ?_
    refine vT 0 S43 ?_
    refine vT 1 S43 ?_ (hy := by intro wq hb; have q := (hb.hb X6 (by simp)).o; go_simp; try (with_reducible rfl))
    refine vT 2 S43 ?_
    refine vT 4 S43 ?_
    refine vT 5 S43 ?_ (hy := by intro wq hb; have q := (hb.hb X7 (by simp)).o; go_simp; try (with_reducible rfl))
    replace nv1 := nv1.later b43
    refine vY1 (vCE 3 S43 (SH.out _ _ nv1) (fun _ _ => Off.later) fun sh w44 nsh b44 S44 => ?_)
    clear nv1
    replace nv2 := nv2.later (bC b43 b44)
    refine vY1 (vCE 6 S44 (DVI.out _ _ _ nsh nv2) (fun _ _ => Off.later) fun vq w45 nvq b45 S45 => ?_)
    clear nsh
    clear nv2
    refine vT 7 S45 ?_
    refine vT 8 S45 ?_
    refine vT 9 S45 ?_
    refine vT 10 S45 ?_
    refine vT 11 S45 ?_
    refine vD ?_
    replace X0 := X0.later (bC (bC (bC kz5 b43) b44) b45)
    have oX0 := X0.o
    replace X6 := X6.later (bC (bC b43 b44) b45)
    have oX6 := X6.o
    replace X7 := X7.later (bC (bC b43 b44) b45)
    have oX7 := X7.o
    go_wp2_with fail
    refine vM (RD.out _ _ nvq) fun w46 b46 => ?_
    clear oX0 oX6 oX7
    clear nvq
    replace X3 := X3.later (bC (bC (bC (bC kz5 b43) b44) b45) b46)
    have oX3 := X3.o
    go_wp2_with fail
    refine bodyPost_ret (v := .agg #[.int .u64 rh, .int .u64 rl, .int .u8 fl]) ?_ rfl ⟨rfl, ((((bC (bC (bC (bC (bC (bC (bC (bC (bC (bA (bA (bA (bA bR _) _) _) _) b1) b2) (bC (bA bR _) b3)) b4) kz5) b43) b44) b45) b46).setCell (p := ⟨w.heap.size + 1 + 1 + 1, 0, none⟩) gX3 _).setCell (p := ⟨w.heap.size + 1 + 1 + 1, 1, none⟩) gX3 _).setCell (p := ⟨w.heap.size + 1 + 1 + 1, 2, none⟩) gX3 _)⟩
    simp [results, Tryz.results11, go_sem, oX3]
end Go.Proofs.YtnlmceafleeaiaaGreatDoor
