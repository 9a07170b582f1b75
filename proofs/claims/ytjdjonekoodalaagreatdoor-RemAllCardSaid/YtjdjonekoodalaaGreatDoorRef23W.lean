import Derived.Test.YtjdjonekoodalaaGreatDoorRest0
set_option maxHeartbeats 40000000
set_option linter.unusedVariables false
set_option linter.unusedSimpArgs false
set_option maxRecDepth 100000
namespace Go.Proofs.YtjdjonekoodalaaGreatDoor
open Go.RowKit
attribute [local go_sem ↓] Go.wp_at_zero Go.wp_at_succ
structure IsTwo (w : World) (v v' : Value) (n m : Int) : Prop where
  fst : IsNum w v n
  snd : IsNum w v' m
theorem IsTwo.later {W w1 : World} {v v' : Value} {n m : Int} (x : IsTwo W v v' n m) (hb : Below W.heap.size W w1) : IsTwo w1 v v' n m := ⟨x.fst.later hb, x.snd.later hb⟩
theorem ref23_no (f ah al bh bl : Int)
     (g1 : decide (3 < f) = true) (w : World) :
    Ca 13 #[.int .u8 f, U2 ah al, U2 bh bl] w (.agg #[.int .u64 0, .int .u64 0, .int .u8 0]) := by
  simp only [Ca, U2] at *
  go_enter Tryz.func13, Tryz.ntmps13
  go_wp2_with fail
  refine bodyPost_ret (v := .agg #[.int .u64 0, .int .u64 0, .int .u8 0]) ?_ rfl ⟨rfl, (bA (bA (bA bR _) _) _)⟩
  simp [results, Tryz.results13, go_sem]
theorem ref23_yes (f ah al bh bl ca cb ph pl pf rh rl fl xa xb em ma mb ya k M Dn P Nn Qt Rs R2 R3 : Int) (sa sb pk va vb : Bool)
    (h0 : Hid (∀ w, Ca 36 #[.int .u8 f, U2 ah al] w (.tuple #[.int .u8 ca, .bool sa])))
    (h1 : Hid (∀ w, Ca 36 #[.int .u8 f, U2 bh bl] w (.tuple #[.int .u8 cb, .bool sb]))) (f3 : decide (3 < f) = false) (w1 : IntKind.i64.wrap (xa - em) = ma) (w1x : wrap64 (xa - em) = ma) (w2 : IntKind.i64.wrap (xb - em) = mb) (w2x : wrap64 (xb - em) = mb) (q1 : (if xb < xa then xb else xa) = em) (q1' : (if xa > xb then xb else xa) = em)
    (HH : ((decide (4 ≤ ca) = true) ∧ (pk = true) ∧ Hid (∀ w, ∀ p T, HB w p T #[.int .u64 ah, .int .u64 al, .int .u64 bh, .int .u64 bl] → Ca 37 #[.int .u8 f, .bool false, .slice (some ⟨p, 0, none⟩) 2 2] w (.tuple #[.agg #[.int .u64 ph, .int .u64 pl, .int .u8 pf], .bool pk]))) ∨ ((decide (4 ≤ ca) = false) ∧ (decide (4 ≤ cb) = true) ∧ (pk = true) ∧ Hid (∀ w, ∀ p T, HB w p T #[.int .u64 ah, .int .u64 al, .int .u64 bh, .int .u64 bl] → Ca 37 #[.int .u8 f, .bool false, .slice (some ⟨p, 0, none⟩) 2 2] w (.tuple #[.agg #[.int .u64 ph, .int .u64 pl, .int .u8 pf], .bool pk]))) ∨ ((decide (4 ≤ ca) = false) ∧ (decide (4 ≤ cb) = false) ∧ ((ca == 3) = true) ∧ (pk = true) ∧ Hid (∀ w, ∀ p T, HB w p T #[.int .u64 ah, .int .u64 al, .int .u64 bh, .int .u64 bl] → Ca 37 #[.int .u8 f, .bool true, .slice (some ⟨p, 0, none⟩) 2 2] w (.tuple #[.agg #[.int .u64 ph, .int .u64 pl, .int .u8 pf], .bool pk]))) ∨ ((decide (4 ≤ ca) = false) ∧ (decide (4 ≤ cb) = false) ∧ ((ca == 3) = false) ∧ ((cb == 0) = true) ∧ (pk = true) ∧ Hid (∀ w, ∀ p T, HB w p T #[.int .u64 ah, .int .u64 al, .int .u64 bh, .int .u64 bl] → Ca 37 #[.int .u8 f, .bool true, .slice (some ⟨p, 0, none⟩) 2 2] w (.tuple #[.agg #[.int .u64 ph, .int .u64 pl, .int .u8 pf], .bool pk]))) ∨ ((decide (4 ≤ ca) = false) ∧ (decide (4 ≤ cb) = false) ∧ ((ca == 3) = false) ∧ ((cb == 0) = false) ∧ (pk = false) ∧ ((cb == 3) = true) ∧ Hid (∀ w, ∀ p T, HB w p T #[.int .u64 ah, .int .u64 al, .int .u64 bh, .int .u64 bl] → Ca 37 #[.int .u8 f, .bool false, .slice (some ⟨p, 0, none⟩) 2 2] w (.tuple #[.agg #[.int .u64 ph, .int .u64 pl, .int .u8 pf], .bool pk])) ∧ Hid (∀ w, Calls Tryz.prog 39 #[.int .u8 f, U2 ah al] w fun e' w' => ∃ s : Option Addr × Nat × Nat, e' = .returned (.agg #[.bool va, .slice s.1 s.2.1 s.2.2, .int .i64 xa, .bool false]) ∧ IsNum w' (.slice s.1 s.2.1 s.2.2) M ∧ Below w.heap.size w w') ∧ Hid (∀ w (sx : Option Addr × Nat × Nat), IsNum w (.slice sx.1 sx.2.1 sx.2.2) M → Ca 38 #[.int .u8 f, .agg #[.int .u8 0, .bool false], .agg #[.bool va, .slice sx.1 sx.2.1 sx.2.2, .int .i64 xa, .bool false]] w (.agg #[.int .u64 rh, .int .u64 rl, .int .u8 fl]))) ∨ ((decide (4 ≤ ca) = false) ∧ (decide (4 ≤ cb) = false) ∧ ((ca == 3) = false) ∧ ((cb == 0) = false) ∧ (pk = false) ∧ ((cb == 3) = false) ∧ Hid (∀ w, ∀ p T, HB w p T #[.int .u64 ah, .int .u64 al, .int .u64 bh, .int .u64 bl] → Ca 37 #[.int .u8 f, .bool false, .slice (some ⟨p, 0, none⟩) 2 2] w (.tuple #[.agg #[.int .u64 ph, .int .u64 pl, .int .u8 pf], .bool pk])) ∧ Hid (∀ w, Calls Tryz.prog 30 #[.int .u8 f, U2 ah al] w fun e' w' => ∃ s : Option Addr × Nat × Nat, e' = .returned (.agg #[.bool va, .slice s.1 s.2.1 s.2.2, .int .i64 xa]) ∧ IsNum w' (.slice s.1 s.2.1 s.2.2) M ∧ Below w.heap.size w w') ∧ Hid (∀ w, Calls Tryz.prog 30 #[.int .u8 f, U2 bh bl] w fun e' w' => ∃ s : Option Addr × Nat × Nat, e' = .returned (.agg #[.bool vb, .slice s.1 s.2.1 s.2.2, .int .i64 xb]) ∧ IsNum w' (.slice s.1 s.2.1 s.2.2) Dn ∧ Below w.heap.size w w') ∧ Hid (∀ w (sx : Option Addr × Nat × Nat), IsNum w (.slice sx.1 sx.2.1 sx.2.2) M → Calls Tryz.prog 40 #[.slice sx.1 sx.2.1 sx.2.2, .int .i64 ma] w fun e' w' => ∃ s : Option Addr × Nat × Nat, e' = .returned (.slice s.1 s.2.1 s.2.2) ∧ IsNum w' (.slice s.1 s.2.1 s.2.2) P ∧ Below w.heap.size w w') ∧ Hid (∀ w (sx : Option Addr × Nat × Nat), IsNum w (.slice sx.1 sx.2.1 sx.2.2) Dn → Calls Tryz.prog 40 #[.slice sx.1 sx.2.1 sx.2.2, .int .i64 mb] w fun e' w' => ∃ s : Option Addr × Nat × Nat, e' = .returned (.slice s.1 s.2.1 s.2.2) ∧ IsNum w' (.slice s.1 s.2.1 s.2.2) Nn ∧ Below w.heap.size w w') ∧ Hid (∀ w (sx sy : Option Addr × Nat × Nat), IsNum w (.slice sx.1 sx.2.1 sx.2.2) P → IsNum w (.slice sy.1 sy.2.1 sy.2.2) Nn → Calls Tryz.prog 41 #[.slice sx.1 sx.2.1 sx.2.2, .slice sy.1 sy.2.1 sy.2.2] w fun e' w' => ∃ v : (Option Addr × Nat × Nat) × (Option Addr × Nat × Nat), e' = .returned (.tuple #[.slice v.1.1 v.1.2.1 v.1.2.2, .slice v.2.1 v.2.2.1 v.2.2.2]) ∧ IsTwo w' (.slice v.1.1 v.1.2.1 v.1.2.2) (.slice v.2.1 v.2.2.1 v.2.2.2) Qt Rs ∧ Below w.heap.size w w') ∧ Hid (∀ w (sx : Option Addr × Nat × Nat), IsNum w (.slice sx.1 sx.2.1 sx.2.2) Rs → Calls Tryz.prog 40 #[.slice sx.1 sx.2.1 sx.2.2, .int .i64 1] w fun e' w' => ∃ s : Option Addr × Nat × Nat, e' = .returned (.slice s.1 s.2.1 s.2.2) ∧ IsNum w' (.slice s.1 s.2.1 s.2.2) R2 ∧ Below w.heap.size w w') ∧ Hid (∀ w (sx sy : Option Addr × Nat × Nat), IsNum w (.slice sx.1 sx.2.1 sx.2.2) R2 → IsNum w (.slice sy.1 sy.2.1 sy.2.2) Nn → Ca 42 #[.slice sx.1 sx.2.1 sx.2.2, .slice sy.1 sy.2.1 sy.2.2] w (.int .i64 k)) ∧ (((decide (0 < k) = true) ∧ Hid (∀ w (sx sy : Option Addr × Nat × Nat), IsNum w (.slice sx.1 sx.2.1 sx.2.2) Nn → IsNum w (.slice sy.1 sy.2.1 sy.2.2) Rs → Calls Tryz.prog 44 #[.slice sx.1 sx.2.1 sx.2.2, .slice sy.1 sy.2.1 sy.2.2] w fun e' w' => ∃ s : Option Addr × Nat × Nat, e' = .returned (.slice s.1 s.2.1 s.2.2) ∧ IsNum w' (.slice s.1 s.2.1 s.2.2) R3 ∧ Below w.heap.size w w') ∧ Hid (∀ w (sx : Option Addr × Nat × Nat), IsNum w (.slice sx.1 sx.2.1 sx.2.2) R3 → Ca 38 #[.int .u8 f, .agg #[.int .u8 0, .bool false], .agg #[.bool ((!sa)), .slice sx.1 sx.2.1 sx.2.2, .int .i64 em, .bool false]] w (.agg #[.int .u64 rh, .int .u64 rl, .int .u8 fl]))) ∨ ((decide (0 < k) = false) ∧ ((k == 0) = true) ∧ Hid (∀ w (sx : Option Addr × Nat × Nat), IsNum w (.slice sx.1 sx.2.1 sx.2.2) Qt → Ca 43 #[.slice sx.1 sx.2.1 sx.2.2, .int .i64 0] w (.bool true)) ∧ Hid (∀ w (sx sy : Option Addr × Nat × Nat), IsNum w (.slice sx.1 sx.2.1 sx.2.2) Nn → IsNum w (.slice sy.1 sy.2.1 sy.2.2) Rs → Calls Tryz.prog 44 #[.slice sx.1 sx.2.1 sx.2.2, .slice sy.1 sy.2.1 sy.2.2] w fun e' w' => ∃ s : Option Addr × Nat × Nat, e' = .returned (.slice s.1 s.2.1 s.2.2) ∧ IsNum w' (.slice s.1 s.2.1 s.2.2) R3 ∧ Below w.heap.size w w') ∧ Hid (∀ w (sx : Option Addr × Nat × Nat), IsNum w (.slice sx.1 sx.2.1 sx.2.2) R3 → Ca 38 #[.int .u8 f, .agg #[.int .u8 0, .bool false], .agg #[.bool ((!sa)), .slice sx.1 sx.2.1 sx.2.2, .int .i64 em, .bool false]] w (.agg #[.int .u64 rh, .int .u64 rl, .int .u8 fl]))) ∨ ((decide (0 < k) = false) ∧ ((k == 0) = true) ∧ Hid (∀ w (sx : Option Addr × Nat × Nat), IsNum w (.slice sx.1 sx.2.1 sx.2.2) Qt → Ca 43 #[.slice sx.1 sx.2.1 sx.2.2, .int .i64 0] w (.bool false)) ∧ Hid (∀ w (sx : Option Addr × Nat × Nat), IsNum w (.slice sx.1 sx.2.1 sx.2.2) Rs → Ca 38 #[.int .u8 f, .agg #[.int .u8 0, .bool false], .agg #[.bool sa, .slice sx.1 sx.2.1 sx.2.2, .int .i64 em, .bool false]] w (.agg #[.int .u64 rh, .int .u64 rl, .int .u8 fl]))) ∨ ((decide (0 < k) = false) ∧ ((k == 0) = false) ∧ Hid (∀ w (sx : Option Addr × Nat × Nat), IsNum w (.slice sx.1 sx.2.1 sx.2.2) Rs → Ca 38 #[.int .u8 f, .agg #[.int .u8 0, .bool false], .agg #[.bool sa, .slice sx.1 sx.2.1 sx.2.2, .int .i64 em, .bool false]] w (.agg #[.int .u64 rh, .int .u64 rl, .int .u8 fl])))))) (w : World) :
    Ca 13 #[.int .u8 f, U2 ah al, U2 bh bl] w (.agg #[.int .u64 (if pk then ph else rh), .int .u64 (if pk then pl else rl), .int .u8 (if pk then pf else fl)]) := by
  simp only [Ca, U2] at *
  go_enter Tryz.func13, Tryz.ntmps13
  go_wp2_with fail
  refine vM (h0.out _) fun w1 b1 => ?_
  have gX2 : w.heap.size ≤ w.heap.size + 1 + 1 := by omega
  have X0 := (((HB.newAt (b := w.heap.size) (by simp) _ _).alloc _).alloc _).later b1
  have X1 := ((HB.newAt (b := w.heap.size + 1) (by simp) _ _).alloc _).later b1
  have X2 := (HB.newAt (b := w.heap.size + 1 + 1) (by simp) _ _).later b1
  have oX1 := X1.o
  go_wp2_with fail
  refine vM (h1.out _) fun w2 b2 => ?_
  clear oX1
  replace X0 := X0.later b2
  have oX0 := X0.o
  replace X1 := X1.later b2
  have oX1 := X1.o
  rcases HH with ⟨g4, rfl, PK⟩ | ⟨g4, g5, rfl, PK⟩ | ⟨g4, g5, g6, rfl, PK⟩ | ⟨g4, g5, g6, g7, rfl, PK⟩ | ⟨g4, g5, g6, g7, rfl, g8, PK, VV, RV⟩ | ⟨g4, g5, g6, g7, rfl, g8, PK, VA, VB, SM, SN, DVI, S2, CM, HH2⟩
  · go_wp2_with fail
    refine vM (PK.out _ _ _ (HB.newAt (b := w2.heap.size) (by simp) _ _)) fun w3 b3 => ?_
    clear oX0 oX1
    replace X2 := X2.later (bC b2 (bC (bA bR _) b3))
    have oX2 := X2.o
    replace X0 := X0.later (bC (bA bR _) b3)
    replace X1 := X1.later (bC (bA bR _) b3)
    go_wp2_with fail
    refine bodyPost_ret (v := .agg #[.int .u64 ph, .int .u64 pl, .int .u8 pf]) ?_ rfl ⟨rfl, (bA ((((bC (bC (bC (bA (bA (bA bR _) _) _) b1) b2) (bC (bA bR _) b3)).setCell (p := ⟨w.heap.size + 1 + 1, 0, none⟩) gX2 _).setCell (p := ⟨w.heap.size + 1 + 1, 1, none⟩) gX2 _).setCell (p := ⟨w.heap.size + 1 + 1, 2, none⟩) gX2 _) _)⟩
    simp [results, Tryz.results13, go_sem, oX2]
  · go_wp2_with fail
    refine vM (PK.out _ _ _ (HB.newAt (b := w2.heap.size) (by simp) _ _)) fun w3 b3 => ?_
    clear oX0 oX1
    replace X2 := X2.later (bC b2 (bC (bA bR _) b3))
    have oX2 := X2.o
    replace X0 := X0.later (bC (bA bR _) b3)
    replace X1 := X1.later (bC (bA bR _) b3)
    go_wp2_with fail
    refine bodyPost_ret (v := .agg #[.int .u64 ph, .int .u64 pl, .int .u8 pf]) ?_ rfl ⟨rfl, (bA ((((bC (bC (bC (bA (bA (bA bR _) _) _) b1) b2) (bC (bA bR _) b3)).setCell (p := ⟨w.heap.size + 1 + 1, 0, none⟩) gX2 _).setCell (p := ⟨w.heap.size + 1 + 1, 1, none⟩) gX2 _).setCell (p := ⟨w.heap.size + 1 + 1, 2, none⟩) gX2 _) _)⟩
    simp [results, Tryz.results13, go_sem, oX2]
  · go_wp2_with fail
    refine vM (PK.out _ _ _ (HB.newAt (b := w2.heap.size) (by simp) _ _)) fun w3 b3 => ?_
    clear oX0 oX1
    replace X2 := X2.later (bC b2 (bC (bA bR _) b3))
    have oX2 := X2.o
    replace X0 := X0.later (bC (bA bR _) b3)
    replace X1 := X1.later (bC (bA bR _) b3)
    go_wp2_with fail
    refine bodyPost_ret (v := .agg #[.int .u64 ph, .int .u64 pl, .int .u8 pf]) ?_ rfl ⟨rfl, (bA ((((bC (bC (bC (bA (bA (bA bR _) _) _) b1) b2) (bC (bA bR _) b3)).setCell (p := ⟨w.heap.size + 1 + 1, 0, none⟩) gX2 _).setCell (p := ⟨w.heap.size + 1 + 1, 1, none⟩) gX2 _).setCell (p := ⟨w.heap.size + 1 + 1, 2, none⟩) gX2 _) _)⟩
    simp [results, Tryz.results13, go_sem, oX2]
  · go_wp2_with fail
    refine vM (PK.out _ _ _ (HB.newAt (b := w2.heap.size) (by simp) _ _)) fun w3 b3 => ?_
    clear oX0 oX1
    replace X2 := X2.later (bC b2 (bC (bA bR _) b3))
    have oX2 := X2.o
    replace X0 := X0.later (bC (bA bR _) b3)
    replace X1 := X1.later (bC (bA bR _) b3)
    go_wp2_with fail
    refine bodyPost_ret (v := .agg #[.int .u64 ph, .int .u64 pl, .int .u8 pf]) ?_ rfl ⟨rfl, (bA ((((bC (bC (bC (bA (bA (bA bR _) _) _) b1) b2) (bC (bA bR _) b3)).setCell (p := ⟨w.heap.size + 1 + 1, 0, none⟩) gX2 _).setCell (p := ⟨w.heap.size + 1 + 1, 1, none⟩) gX2 _).setCell (p := ⟨w.heap.size + 1 + 1, 2, none⟩) gX2 _) _)⟩
    simp [results, Tryz.results13, go_sem, oX2]
  · go_wp2_with fail
    refine vM (PK.out _ _ _ (HB.newAt (b := w2.heap.size) (by simp) _ _)) fun w3 b3 => ?_
    clear oX0 oX1
    replace X0 := X0.later (bC (bA bR _) b3)
    have oX0 := X0.o
    go_wp2_with fail
    refine vE (VV.out _) fun v1 w4 nv1 b4 => ?_
    clear oX0
    go_wp2_with fail
    refine vM (RV.out _ _ nv1) fun w5 b5 => ?_
    clear nv1
    replace X2 := X2.later (bC (bC (bC b2 (bC (bA bR _) b3)) (bC (bA bR _) b4)) b5)
    have oX2 := X2.o
    go_wp2_with fail
    refine bodyPost_ret (v := .agg #[.int .u64 rh, .int .u64 rl, .int .u8 fl]) ?_ rfl ⟨rfl, ((((bC (bC (bC (bC (bC (bA (bA (bA bR _) _) _) b1) b2) (bC (bA bR _) b3)) (bC (bA bR _) b4)) b5).setCell (p := ⟨w.heap.size + 1 + 1, 0, none⟩) gX2 _).setCell (p := ⟨w.heap.size + 1 + 1, 1, none⟩) gX2 _).setCell (p := ⟨w.heap.size + 1 + 1, 2, none⟩) gX2 _)⟩
    simp [results, Tryz.results13, go_sem, oX2]
  · go_wp2_with fail
    refine vM (PK.out _ _ _ (HB.newAt (b := w2.heap.size) (by simp) _ _)) fun w3 b3 => ?_
    clear oX0 oX1
    go_wp2_with fail
    refine vF1 fun w4 b4 _ => ?_
    replace X0 := X0.later (bC (bC (bA bR _) b3) b4)
    replace X1 := X1.later (bC (bC (bA bR _) b3) b4)
    refine' (have s5z_12 : Hid (_ : Prop) := ?ns5z_12; ?ms5z_12)
    case' ms5z_12 => skip
    refine' (have s5z_11 : Hid (_ : Prop) := ?ns5z_11; ?ms5z_11)
    case' ms5z_11 => skip
    refine' (have s5z_10 : Hid (_ : Prop) := ?ns5z_10; ?ms5z_10)
    case' ms5z_10 => skip
    refine' (have s5z_9 : Hid (_ : Prop) := ?ns5z_9; ?ms5z_9)
    case' ms5z_9 => skip
    refine' (have s5z_8 : Hid (_ : Prop) := ?ns5z_8; ?ms5z_8)
    case' ms5z_8 => skip
    refine' (have s5z_7 : Hid (_ : Prop) := ?ns5z_7; ?ms5z_7)
    case' ms5z_7 => skip
    refine' (have s5z_6 : Hid (_ : Prop) := ?ns5z_6; ?ms5z_6)
    case' ms5z_6 => skip
    refine' (have s5z_5 : Hid (_ : Prop) := ?ns5z_5; ?ms5z_5)
    case' ms5z_5 => skip
    refine' (have s5z_4 : Hid (_ : Prop) := ?ns5z_4; ?ms5z_4)
    case' ms5z_4 => skip
    refine' (have s5z_3 : Hid (_ : Prop) := ?ns5z_3; ?ms5z_3)
    case' ms5z_3 => skip
    refine' (have s5z_2 : Hid (_ : Prop) := ?ns5z_2; ?ms5z_2)
    case' ms5z_2 => skip
    refine' (have s5z_1 : Hid (_ : Prop) := ?ns5z_1; ?ms5z_1)
    case' ms5z_1 => skip
    refine' (have s5z_0 : Hid (_ : Prop) := ?ns5z_0; ?ms5z_0)
    case' ms5z_0 => skip
    refine vR [] fun w5 kz5 S => ?_
    refine vT 0 S ?_
    refine vT 1 S ?_ (hy := by intro wq hb; have q := (hb.hb X0 (by simp)).o; go_simp; try (with_reducible rfl))
    refine vT 3 S ?_
    refine vT 4 S ?_ (hy := by intro wq hb; have q := (hb.hb X1 (by simp)).o; go_simp; try (with_reducible rfl))
    refine vY3 (cE 2 S (VA.out _) fun v1 w6 nv1 b6 => ?_) (cA 6 S fun w7 pp4_0 h X5 b7 => ?_) (cA 7 S fun w8 pp4_1 h X6 b8 => ?_)
    replace kz5 := bC kz5 b6
    clear S b6 w5
    revert kz5; revert nv1; revert v1; revert w6
    exact s5z_0.out
    have jX5 := (lZ kz5.size h); replace kz5 := bC kz5 b7
    clear S b7 h w5
    revert kz5; revert jX5; revert X5; revert pp4_0; revert w7
    exact s5z_1.out
    have jX6 := (lZ kz5.size h); replace kz5 := bC kz5 b8
    clear S b8 h w5
    revert kz5; revert jX6; revert X6; revert pp4_1; revert w8
    exact s5z_2.out
    case' ns5z_0 => refine lH ?_
    intro w9 v1 nv1 kz5
    have S := Off.ofB kz5
    refine vY3 (cE 5 S (VB.out _) fun v2 w10 nv2 b10 => ?_) (cA 6 S fun w11 pp4_0 h X5 b11 => ?_) (cA 7 S fun w12 pp4_1 h X6 b12 => ?_)
    replace nv1 := (nv1.later b10); replace kz5 := bC kz5 b10
    clear S b10 w9
    revert kz5; revert nv2; revert nv1; revert v2; revert v1; revert w10
    exact s5z_3.out
    have jX5 := (lZ kz5.size h); replace nv1 := (nv1.later b11); replace kz5 := bC kz5 b11
    clear S b11 h w9
    revert kz5; revert jX5; revert nv1; revert X5; revert v1; revert pp4_0; revert w11
    exact s5z_4.out
    have jX6 := (lZ kz5.size h); replace nv1 := (nv1.later b12); replace kz5 := bC kz5 b12
    clear S b12 h w9
    revert kz5; revert jX6; revert nv1; revert X6; revert v1; revert pp4_1; revert w12
    exact s5z_5.out
    case' ns5z_1 => refine lH ?_
    intro w13 pp4_0 X5 jX5 kz5
    have S := Off.ofB kz5
    refine vY2 (cE 2 S (VA.out _) fun v1 w14 nv1 b14 => s5z_4.out w14 pp4_0 v1 (X5.later b14) nv1 jX5 (bC kz5 b14)) (cA 7 S fun w15 pp4_1 h X6 b15 => ?_)
    have ndX5_X6 : ¬ (pp4_0 = pp4_1) := (Nat.ne_of_lt (lY X5.lt h)); have jX6 := (lZ kz5.size h); replace X5 := (X5.later b15); replace kz5 := bC kz5 b15
    clear S b15 h w13
    revert kz5; revert ndX5_X6; revert jX6; revert jX5; revert X6; revert X5; revert pp4_1; revert pp4_0; revert w15
    exact s5z_6.out
    case' ns5z_2 => refine lH ?_
    intro w16 pp4_1 X6 jX6 kz5
    have S := Off.ofB kz5
    refine vY2 (cE 2 S (VA.out _) fun v1 w17 nv1 b17 => s5z_5.out w17 pp4_1 v1 (X6.later b17) nv1 jX6 (bC kz5 b17)) (cA 6 S fun w18 pp4_0 h X5 b18 => s5z_6.out w18 pp4_0 pp4_1 X5 (X6.later b18) (lZ kz5.size h) jX6 (Nat.ne_of_gt (lY X6.lt h)) (bC kz5 b18))
    case' ns5z_3 => refine lH ?_
    intro w19 v1 v2 nv1 nv2 kz5
    have S := Off.ofB kz5
    refine vY2 (cA 6 S fun w20 pp4_0 h X5 b20 => ?_) (cA 7 S fun w21 pp4_1 h X6 b21 => ?_)
    have jX5 := (lZ kz5.size h); replace nv1 := (nv1.later b20); replace nv2 := (nv2.later b20); replace kz5 := bC kz5 b20
    clear S b20 h w19
    revert kz5; revert jX5; revert nv2; revert nv1; revert X5; revert v2; revert v1; revert pp4_0; revert w20
    exact s5z_7.out
    have jX6 := (lZ kz5.size h); replace nv1 := (nv1.later b21); replace nv2 := (nv2.later b21); replace kz5 := bC kz5 b21
    clear S b21 h w19
    revert kz5; revert jX6; revert nv2; revert nv1; revert X6; revert v2; revert v1; revert pp4_1; revert w21
    exact s5z_8.out
    case' ns5z_4 => refine lH ?_
    intro w22 pp4_0 v1 X5 nv1 jX5 kz5
    have S := Off.ofB kz5
    refine vY2 (cE 5 S (VB.out _) fun v2 w23 nv2 b23 => s5z_7.out w23 pp4_0 v1 v2 (X5.later b23) (nv1.later b23) nv2 jX5 (bC kz5 b23)) (cA 7 S fun w24 pp4_1 h X6 b24 => ?_)
    have ndX5_X6 : ¬ (pp4_0 = pp4_1) := (Nat.ne_of_lt (lY X5.lt h)); have jX6 := (lZ kz5.size h); replace X5 := (X5.later b24); replace nv1 := (nv1.later b24); replace kz5 := bC kz5 b24
    clear S b24 h w22
    revert kz5; revert ndX5_X6; revert jX6; revert jX5; revert nv1; revert X6; revert X5; revert v1; revert pp4_1; revert pp4_0; revert w24
    exact s5z_9.out
    case' ns5z_5 => refine lH ?_
    intro w25 pp4_1 v1 X6 nv1 jX6 kz5
    have S := Off.ofB kz5
    refine vY2 (cE 5 S (VB.out _) fun v2 w26 nv2 b26 => s5z_8.out w26 pp4_1 v1 v2 (X6.later b26) (nv1.later b26) nv2 jX6 (bC kz5 b26)) (cA 6 S fun w27 pp4_0 h X5 b27 => s5z_9.out w27 pp4_0 pp4_1 v1 X5 (X6.later b27) (nv1.later b27) (lZ kz5.size h) jX6 (Nat.ne_of_gt (lY X6.lt h)) (bC kz5 b27))
    case' ns5z_6 => refine lH ?_
    intro w28 pp4_0 pp4_1 X5 X6 jX5 jX6 ndX5_X6 kz5
    have S := Off.ofB kz5
    refine vY1 (cE 2 S (VA.out _) fun v1 w29 nv1 b29 => s5z_9.out w29 pp4_0 pp4_1 v1 (X5.later b29) (X6.later b29) nv1 jX5 jX6 ndX5_X6 (bC kz5 b29))
    case' ns5z_7 => refine lH ?_
    intro w30 pp4_0 v1 v2 X5 nv1 nv2 jX5 kz5
    have S := Off.ofB kz5
    refine vY1 (cA 7 S fun w31 pp4_1 h X6 b31 => ?_)
    have ndX5_X6 : ¬ (pp4_0 = pp4_1) := (Nat.ne_of_lt (lY X5.lt h)); have jX6 := (lZ kz5.size h); replace X5 := (X5.later b31); replace nv1 := (nv1.later b31); replace nv2 := (nv2.later b31); replace kz5 := bC kz5 b31
    clear S b31 h w30
    revert kz5; revert ndX5_X6; revert jX6; revert jX5; revert nv2; revert nv1; revert X6; revert X5; revert v2; revert v1; revert pp4_1; revert pp4_0; revert w31
    exact s5z_10.out
    case' ns5z_8 => refine lH ?_
    intro w32 pp4_1 v1 v2 X6 nv1 nv2 jX6 kz5
    have S := Off.ofB kz5
    refine vY1 (cA 6 S fun w33 pp4_0 h X5 b33 => s5z_10.out w33 pp4_0 pp4_1 v1 v2 X5 (X6.later b33) (nv1.later b33) (nv2.later b33) (lZ kz5.size h) jX6 (Nat.ne_of_gt (lY X6.lt h)) (bC kz5 b33))
    case' ns5z_9 => refine lH ?_
    intro w34 pp4_0 pp4_1 v1 X5 X6 nv1 jX5 jX6 ndX5_X6 kz5
    have S := Off.ofB kz5
    refine vY1 (cE 5 S (VB.out _) fun v2 w35 nv2 b35 => s5z_10.out w35 pp4_0 pp4_1 v1 v2 (X5.later b35) (X6.later b35) (nv1.later b35) nv2 jX5 jX6 ndX5_X6 (bC kz5 b35))
    case' ns5z_10 => refine lH ?_
    intro w36 pp4_0 pp4_1 v1 v2 X5 X6 nv1 nv2 jX5 jX6 ndX5_X6 kz5
    have S := Off.ofB kz5
    refine vY1 (vO 8 fun K hK => ?_)
    have q := X5.o; have mX6 : ¬ (pp4_1 = pp4_0) := (by omega)
    go_simp
    refine vW (fun W => HB W pp4_0 54 #[.bool va, .slice v1.1 v1.2.1 v1.2.2, .int .i64 xa] ∧ HB W pp4_1 54 #[.bool false, .slice none 0 0, .int .i64 0] ∧ IsNum W (.slice v1.1 v1.2.1 v1.2.2) M ∧ IsNum W (.slice v2.1 v2.2.1 v2.2.2) Dn ∧ Below w4.heap.size w4 W) ⟨(((X5.set 0 _).set 1 _).set 2 _), (((X6.other mX6 0 _).other mX6 1 _).other mX6 2 _), (((nv1.setHB X5 (by simp) 0 _).setHB (X5.set 0 _) (by simp) 1 _).setHB ((X5.set 0 _).set 1 _) (by simp) 2 _), (((nv2.setHB X5 (by simp) 0 _).setHB (X5.set 0 _) (by simp) 1 _).setHB ((X5.set 0 _).set 1 _) (by simp) 2 _), (((kz5.setCell (p := ⟨pp4_0, 0, none⟩) jX5 _).setCell (p := ⟨pp4_0, 1, none⟩) jX5 _).setCell (p := ⟨pp4_0, 2, none⟩) jX5 _)⟩ fun w38 hz => ?_
    clear q mX6 X5 X6 nv1 nv2 S kz5 w36; obtain ⟨X5, X6, nv1, nv2, kz5⟩ := hz
    refine hK.out _ _ (Off.ofB kz5) fun S => ?_; clear hK K S; refine vP ?_
    revert kz5; revert ndX5_X6; revert jX6; revert jX5; revert nv2; revert nv1; revert X6; revert X5; revert v2; revert v1; revert pp4_1; revert pp4_0; revert w38
    exact s5z_11.out
    case' ns5z_11 => refine lH ?_
    intro w39 pp4_0 pp4_1 v1 v2 X5 X6 nv1 nv2 jX5 jX6 ndX5_X6 kz5
    have S := Off.ofB kz5
    refine vY1 (vO 9 fun K hK => ?_)
    have q := X6.o; have mX5 : ¬ (pp4_0 = pp4_1) := (by omega)
    go_simp
    refine vW (fun W => HB W pp4_0 54 #[.bool va, .slice v1.1 v1.2.1 v1.2.2, .int .i64 xa] ∧ HB W pp4_1 54 #[.bool vb, .slice v2.1 v2.2.1 v2.2.2, .int .i64 xb] ∧ IsNum W (.slice v1.1 v1.2.1 v1.2.2) M ∧ IsNum W (.slice v2.1 v2.2.1 v2.2.2) Dn ∧ Below w4.heap.size w4 W) ⟨(((X5.other mX5 0 _).other mX5 1 _).other mX5 2 _), (((X6.set 0 _).set 1 _).set 2 _), (((nv1.setHB X6 (by simp) 0 _).setHB (X6.set 0 _) (by simp) 1 _).setHB ((X6.set 0 _).set 1 _) (by simp) 2 _), (((nv2.setHB X6 (by simp) 0 _).setHB (X6.set 0 _) (by simp) 1 _).setHB ((X6.set 0 _).set 1 _) (by simp) 2 _), (((kz5.setCell (p := ⟨pp4_1, 0, none⟩) jX6 _).setCell (p := ⟨pp4_1, 1, none⟩) jX6 _).setCell (p := ⟨pp4_1, 2, none⟩) jX6 _)⟩ fun w41 hz => ?_
    clear q mX5 X5 X6 nv1 nv2 S kz5 w39; obtain ⟨X5, X6, nv1, nv2, kz5⟩ := hz
    refine hK.out _ _ (Off.ofB kz5) fun S => ?_; clear hK K S; refine vP ?_
    revert kz5; revert ndX5_X6; revert jX6; revert jX5; revert nv2; revert nv1; revert X6; revert X5; revert v2; revert v1; revert pp4_1; revert pp4_0; revert w41
    exact s5z_12.out
    case' ns5z_12 => refine lH ?_
    intro w42 pp4_0 pp4_1 v1 v2 X5 X6 nv1 nv2 jX5 jX6 ndX5_X6 kz5
    refine vD ?_
    have nX0_X5 : w.heap.size < pp4_0 := by have := X0.lt; omega
    have nX0_X6 : w.heap.size < pp4_1 := by have := X0.lt; omega
    replace X2 := X2.later (bC (bC b2 (bC (bA bR _) b3)) b4)
    have nX2_X5 : w.heap.size + 1 + 1 < pp4_0 := by have := X2.lt; omega
    have nX2_X6 : w.heap.size + 1 + 1 < pp4_1 := by have := X2.lt; omega
    have gX5 : w.heap.size ≤ pp4_0 := by have := (bC (bC (bC (bC (bA (bA (bA bR _) _) _) b1) b2) (bC (bA bR _) b3)) b4).size; omega
    have gX6 : w.heap.size ≤ pp4_1 := by have := (bC (bC (bC (bC (bA (bA (bA bR _) _) _) b1) b2) (bC (bA bR _) b3)) b4).size; omega
    have oX5 := X5.o
    have oX6 := X6.o
    go_wp2_with fail
    clear oX5 oX6
    refine vR [] fun w43 b43 S43 => ?_
    refine vT 0 S43 ?_
    refine vT 1 S43 ?_ (hy := by intro wq hb; have q := (hb.hb X5 (by simp)).o; go_simp; try (with_reducible rfl))
    refine vT 2 S43 ?_
    refine vT 3 S43 ?_ (hy := by intro wq hb; have q := (hb.hb X5 (by simp)).o; go_simp; try (with_reducible rfl))
    refine vT 4 S43 ?_
    refine vT 5 S43 ?_
    refine vT 7 S43 ?_
    refine vT 8 S43 ?_ (hy := by intro wq hb; have q := (hb.hb X6 (by simp)).o; go_simp; try (with_reducible rfl))
    refine vT 9 S43 ?_
    refine vT 10 S43 ?_ (hy := by intro wq hb; have q := (hb.hb X6 (by simp)).o; go_simp; try (with_reducible rfl))
    refine vT 11 S43 ?_
    refine vT 12 S43 ?_
    replace nv1 := nv1.later b43
    refine vY1 (vCE 6 S43 (SM.out _ _ nv1) (fun _ _ => Off.later) fun sm w44 nsm b44 S44 => ?_)
    clear nv1
    replace nv2 := nv2.later (bC b43 b44)
    refine vY1 (vCE 13 S44 (SN.out _ _ nv2) (fun _ _ => Off.later) fun sn w45 nsn b45 S45 => ?_)
    clear nv2
    refine vT 14 S45 ?_
    refine vT 15 S45 ?_
    refine vD ?_
    replace nsm := nsm.later b45
    go_wp2_with fail
    refine vE (DVI.out _ _ _ nsm nsn) fun vq w46 nvq b46 => ?_
    clear nsm
    go_wp2_with fail
    refine vE (S2.out _ _ nvq.snd) fun s2 w47 ns2 b47 => ?_
    replace nsn := nsn.later (bC b46 b47)
    go_wp2_with fail
    refine vM (CM.out _ _ _ ns2 nsn) fun w48 b48 => ?_
    rcases HH2 with ⟨k0, SB, RT⟩ | ⟨k0, ke, BT, SB, RT⟩ | ⟨k0, ke, BT, RN⟩ | ⟨k0, ke, RN⟩
    · clear ns2
      replace nsn := nsn.later b48
      replace nvq := nvq.later (bC b47 b48)
      go_wp2_with fail
      refine vE (SB.out _ _ _ nsn nvq.snd) fun vs w49 nvs b49 => ?_
      clear nsn
      clear nvq
      go_wp2_with fail
      refine vM (RT.out _ _ nvs) fun w50 b50 => ?_
      clear nvs
      replace X2 := X2.later (bC (bC (bC (bC (bC (bC (bC (bC kz5 b43) b44) b45) b46) b47) b48) b49) b50)
      have oX2 := X2.o
      go_wp2_with fail
      refine bodyPost_ret (v := .agg #[.int .u64 rh, .int .u64 rl, .int .u8 fl]) ?_ rfl ⟨rfl, ((((bC (bC (bC (bC (bC (bC (bC (bC (bC (bC (bC (bC (bC (bA (bA (bA bR _) _) _) b1) b2) (bC (bA bR _) b3)) b4) kz5) b43) b44) b45) b46) b47) b48) b49) b50).setCell (p := ⟨w.heap.size + 1 + 1, 0, none⟩) gX2 _).setCell (p := ⟨w.heap.size + 1 + 1, 1, none⟩) gX2 _).setCell (p := ⟨w.heap.size + 1 + 1, 2, none⟩) gX2 _)⟩
      simp [results, Tryz.results13, go_sem, oX2]
    · clear ns2
      replace nvq := nvq.later (bC b47 b48)
      go_wp2_with fail
      refine vM (BT.out _ _ nvq.fst) fun w49 b49 => ?_
      replace nsn := nsn.later (bC b48 b49)
      replace nvq := nvq.later b49
      go_wp2_with fail
      refine vE (SB.out _ _ _ nsn nvq.snd) fun vs w50 nvs b50 => ?_
      clear nsn
      clear nvq
      go_wp2_with fail
      refine vM (RT.out _ _ nvs) fun w51 b51 => ?_
      clear nvs
      replace X2 := X2.later (bC (bC (bC (bC (bC (bC (bC (bC (bC kz5 b43) b44) b45) b46) b47) b48) b49) b50) b51)
      have oX2 := X2.o
      go_wp2_with fail
      refine bodyPost_ret (v := .agg #[.int .u64 rh, .int .u64 rl, .int .u8 fl]) ?_ rfl ⟨rfl, ((((bC (bC (bC (bC (bC (bC (bC (bC (bC (bC (bC (bC (bC (bC (bA (bA (bA bR _) _) _) b1) b2) (bC (bA bR _) b3)) b4) kz5) b43) b44) b45) b46) b47) b48) b49) b50) b51).setCell (p := ⟨w.heap.size + 1 + 1, 0, none⟩) gX2 _).setCell (p := ⟨w.heap.size + 1 + 1, 1, none⟩) gX2 _).setCell (p := ⟨w.heap.size + 1 + 1, 2, none⟩) gX2 _)⟩
      simp [results, Tryz.results13, go_sem, oX2]
    · clear ns2
      replace nvq := nvq.later (bC b47 b48)
      go_wp2_with fail
      refine vM (BT.out _ _ nvq.fst) fun w49 b49 => ?_
      replace nvq := nvq.later b49
      go_wp2_with fail
      refine vM (RN.out _ _ nvq.snd) fun w50 b50 => ?_
      clear nvq
      clear nsn
      replace X2 := X2.later (bC (bC (bC (bC (bC (bC (bC (bC kz5 b43) b44) b45) b46) b47) b48) b49) b50)
      have oX2 := X2.o
      go_wp2_with fail
      refine bodyPost_ret (v := .agg #[.int .u64 rh, .int .u64 rl, .int .u8 fl]) ?_ rfl ⟨rfl, ((((bC (bC (bC (bC (bC (bC (bC (bC (bC (bC (bC (bC (bC (bA (bA (bA bR _) _) _) b1) b2) (bC (bA bR _) b3)) b4) kz5) b43) b44) b45) b46) b47) b48) b49) b50).setCell (p := ⟨w.heap.size + 1 + 1, 0, none⟩) gX2 _).setCell (p := ⟨w.heap.size + 1 + 1, 1, none⟩) gX2 _).setCell (p := ⟨w.heap.size + 1 + 1, 2, none⟩) gX2 _)⟩
      simp [results, Tryz.results13, go_sem, oX2]
    · clear ns2
      replace nvq := nvq.later (bC b47 b48)
      go_wp2_with fail
      refine vM (RN.out _ _ nvq.snd) fun w49 b49 => ?_
      clear nvq
      clear nsn
      replace X2 := X2.later (bC (bC (bC (bC (bC (bC (bC kz5 b43) b44) b45) b46) b47) b48) b49)
      have oX2 := X2.o
      go_wp2_with fail
      refine bodyPost_ret (v := .agg #[.int .u64 rh, .int .u64 rl, .int .u8 fl]) ?_ rfl ⟨rfl, ((((bC (bC (bC (bC (bC (bC (bC (bC (bC (bC (bC (bC (bA (bA (bA bR _) _) _) b1) b2) (bC (bA bR _) b3)) b4) kz5) b43) b44) b45) b46) b47) b48) b49).setCell (p := ⟨w.heap.size + 1 + 1, 0, none⟩) gX2 _).setCell (p := ⟨w.heap.size + 1 + 1, 1, none⟩) gX2 _).setCell (p := ⟨w.heap.size + 1 + 1, 2, none⟩) gX2 _)⟩
      simp [results, Tryz.results13, go_sem, oX2]
theorem far23 (f ah al bh bl xa xb e1 M Dn : Int) (va vb : Bool)
     (VA : Hid (∀ w, Calls Tryz.prog 30 #[.int .u8 f, U2 ah al] w fun e' w' => ∃ s : Option Addr × Nat × Nat, e' = .returned (.agg #[.bool va, .slice s.1 s.2.1 s.2.2, .int .i64 xa]) ∧ IsNum w' (.slice s.1 s.2.1 s.2.2) M ∧ Below w.heap.size w w')) (VB : Hid (∀ w, Calls Tryz.prog 30 #[.int .u8 f, U2 bh bl] w fun e' w' => ∃ s : Option Addr × Nat × Nat, e' = .returned (.agg #[.bool vb, .slice s.1 s.2.1 s.2.2, .int .i64 xb]) ∧ IsNum w' (.slice s.1 s.2.1 s.2.2) Dn ∧ Below w.heap.size w w')) (w1 : IntKind.i64.wrap (xa - xb) = e1) (w1x : wrap64 (xa - xb) = e1) (w : World) :
    Ca 10 #[.int .u8 f, U2 ah al, U2 bh bl] w (.bool ((decide (600 < e1)))) := by
  simp only [Ca, U2] at *
  go_enter Tryz.func10, Tryz.ntmps10
  go_wp2_with fail
  refine vF2 fun w1 b1 X0 X1 => ?_
  have hfd1 : ∀ (v1 : Option Addr × Nat × Nat) (w : World), (Instr.field 54 (.agg #[.bool va, .slice v1.1 v1.2.1 v1.2.2, .int .i64 xa]) 2).run Tryz.prog w = .ok (.int .i64 xa) w := fun _ _ => by kernel_rfl
  have hfd2 : ∀ (v2 : Option Addr × Nat × Nat) (w : World), (Instr.field 54 (.agg #[.bool vb, .slice v2.1 v2.2.1 v2.2.2, .int .i64 xb]) 2).run Tryz.prog w = .ok (.int .i64 xb) w := fun _ _ => by kernel_rfl
  refine vR [] fun w2 b2 S2 => ?_
  refine vT 0 S2 ?_
  refine vT 1 S2 ?_ (hy := by intro wq hb; have q := (hb.hb X0 (by simp)).o; go_simp; try (with_reducible rfl))
  refine vT 4 S2 ?_
  refine vT 5 S2 ?_ (hy := by intro wq hb; have q := (hb.hb X1 (by simp)).o; go_simp; try (with_reducible rfl))
  refine vY1 (vCE 2 S2 (VA.out _) (fun _ _ => Off.later) fun v1 w3 nv1 b3 S3 => ?_)
  refine vT 3 S3 ?_
  refine vY1 (vCE 6 S3 (VB.out _) (fun _ _ => Off.later) fun v2 w4 nv2 b4 S4 => ?_)
  refine vT 7 S4 ?_
  refine vT 8 S4 ?_
  refine vT 9 S4 ?_
  refine vT 10 S4 ?_
  refine vD ?_
  go_wp2_with fail
  go_ret
  exact ⟨rfl, (bC (bC (bC b1 b2) b3) b4)⟩
theorem value23 (f ah al xa M : Int) (va : Bool)
     (VA : Hid (∀ w, Calls Tryz.prog 30 #[.int .u8 f, U2 ah al] w fun e' w' => ∃ s : Option Addr × Nat × Nat, e' = .returned (.agg #[.bool va, .slice s.1 s.2.1 s.2.2, .int .i64 xa]) ∧ IsNum w' (.slice s.1 s.2.1 s.2.2) M ∧ Below w.heap.size w w')) (w : World) :
    Calls Tryz.prog 39 #[.int .u8 f, U2 ah al] w fun e' w' => ∃ s : Option Addr × Nat × Nat, e' = .returned (.agg #[.bool va, .slice s.1 s.2.1 s.2.2, .int .i64 xa, .bool false]) ∧ IsNum w' (.slice s.1 s.2.1 s.2.2) M ∧ Below w.heap.size w w' := by
  simp only [U2] at *
  go_enter Tryz.func39, Tryz.ntmps39
  go_wp2_with fail
  refine vE (VA.out _) fun v1 w1 nv1 b1 => ?_
  have gX1 : w.heap.size ≤ w.heap.size + 1 := by omega
  have X1 := (HB.newAt (b := w.heap.size + 1) (by simp) _ _).later b1
  have oX1 := X1.o
  go_wp2_with fail
  refine bodyPost_ret (v := .agg #[.bool va, .slice v1.1 v1.2.1 v1.2.2, .int .i64 xa, .bool false]) ?_ rfl ⟨_, rfl, (((((nv1.setHB X1 (by simp) 0 _).setHB (X1.set 0 _) (by simp) 1 _).setHB ((X1.set 0 _).set 1 _) (by simp) 2 _).setHB (((X1.set 0 _).set 1 _).set 2 _) (by simp) 3 _).later (bA bR _)), (bA (((((bC (bA (bA bR _) _) b1).setCell (p := ⟨w.heap.size + 1, 0, none⟩) gX1 _).setCell (p := ⟨w.heap.size + 1, 1, none⟩) gX1 _).setCell (p := ⟨w.heap.size + 1, 2, none⟩) gX1 _).setCell (p := ⟨w.heap.size + 1, 3, none⟩) gX1 _) _)⟩
  simp [results, Tryz.results39, go_sem, oX1]
end Go.Proofs.YtjdjonekoodalaaGreatDoor
