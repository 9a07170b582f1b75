/-
  The walk of the statement WordSums: every Add and Sub is the document's.
-/
import Derived.Test.YtchghjdjkdpdjaaCounts
import Derived.Test.YtchghjdjkdpdjaaNumE
set_option linter.unusedVariables false
namespace Go.Proofs.Ytchghjdjkdpdjaa
open Go.RowKit
attribute [local go_sem ↓] Go.wp_at_zero Go.wp_at_succ

theorem heldS {a W w' : World} {a1 a2 a3 a4 : Addr} {v1 v2 v3 v4 : Value} {x y : Nat} {p q r t : Int} (hb : Below W.heap.size W w') (h : W.cell? a1 = some v1 ∧ W.cell? a2 = some v2 ∧ W.cell? a3 = some v3 ∧ W.cell? a4 = some v4 ∧ Box W x p q ∧ Box W y r t ∧ Below a.heap.size a W) :
    w'.cell? a1 = some v1 ∧ w'.cell? a2 = some v2 ∧ w'.cell? a3 = some v3 ∧ w'.cell? a4 = some v4 ∧ Box w' x p q ∧ Box w' y r t ∧ Below a.heap.size a w' :=
  ⟨cell_later hb h.1, cell_later hb h.2.1, cell_later hb h.2.2.1, cell_later hb h.2.2.2.1, h.2.2.2.2.1.later hb, h.2.2.2.2.2.1.later hb, bC h.2.2.2.2.2.2 hb⟩

theorem add_as (q : Bool) (ah al bh bl : Int) (u1 : U64 ah) (u2 : U64 al) (u3 : U64 bh) (u4 : U64 bl) (h : decide (full ≤ val ah al + val bh bl) = q) (w : World) :
    Calls Try.prog 10 #[.agg #[.int .u64 ah, .int .u64 al], .agg #[.int .u64 bh, .int .u64 bl]] w fun e w' =>
      e = .returned (.tuple #[.agg #[.int .u64 (hiOf (val ah al + val bh bl)), .int .u64 (loOf (val ah al + val bh bl))], .bool q]) ∧ Below w.heap.size w w' := by
  subst h; exact add_any ah al bh bl u1 u2 u3 u4 w
theorem sub_as2 (q : Bool) (ah al bh bl : Int) (u1 : U64 ah) (u2 : U64 al) (u3 : U64 bh) (u4 : U64 bl) (h : decide (val ah al < val bh bl) = q) (w : World) :
    Calls Try.prog 11 #[.agg #[.int .u64 ah, .int .u64 al], .agg #[.int .u64 bh, .int .u64 bl]] w fun e w' =>
      e = .returned (.tuple #[.agg #[.int .u64 (hiOf (val ah al - val bh bl)), .int .u64 (loOf (val ah al - val bh bl))], .bool q]) ∧ Below w.heap.size w w' := by
  subst h; exact sub_any ah al bh bl u1 u2 u3 u4 w

theorem cmp_sign (a b : Int) : (b ≤ a → 0 ≤ cmpI a b) ∧ (a < b → cmpI a b = -1) := by
  refine ⟨fun h => ?_, fun h => ?_⟩
  · rcases Int.lt_or_eq_of_le h with h1 | h1
    · rw [(cmpI_cases a b).2.1 h1]; decide
    · rw [(cmpI_cases a b).2.2 h1.symm]; decide
  · exact (cmpI_cases a b).1 h
/-- The last statement: each part is true. -/
def Last (W0 : World) (v9 v10 v11 v12 : Value) (xh xl yh yl c D : Int) : Prop :=
  (∀ W, Below W0.heap.size W0 W → Calls Try.prog 16 #[v11] W fun e w' => e = .returned (.agg #[.int .u64 xh, .int .u64 xl]) ∧ Below W.heap.size W w') ∧
  (∀ W, Below W0.heap.size W0 W → Calls Try.prog 15 #[v11, v12] W fun e w' => e = .returned (.int .i64 c) ∧ Below W.heap.size W w') ∧
  (∀ W, Below W0.heap.size W0 W → Calls Try.prog 17 #[v9, v10] W (RetNum W D)) ∧
  (∀ W v, IsNum W v D → Calls Try.prog 16 #[v] W fun e w' => e = .returned (.agg #[.int .u64 yh, .int .u64 yl]) ∧ Below W.heap.size W w')
theorem last_of {W0 : World} {v9 v10 v11 v12 : Value} {n m s f c D : Int} (h9 : IsNum W0 v9 n) (h10 : IsNum W0 v10 m) (h11 : IsNum W0 v11 s) (h12 : IsNum W0 v12 f) (hc : cmpI s f = c) (hs : Small n) (hle : m ≤ n) (hd : hiOf (n - m) = hiOf D ∧ loOf (n - m) = loOf D) :
    Last W0 v9 v10 v11 v12 (hiOf s) (loOf s) (hiOf D) (loOf D) c (n - m) := by
  refine ⟨fun W hW => bits_num2 (h11.later hW), fun W hW => ?_, fun W hW => sub_num (h9.later hW) (h10.later hW) hs hle, fun W v hv => ?_⟩
  · rw [← hc]; exact cmp_num (h11.later hW) (h12.later hW)
  · have := bits_num2 hv
    rwa [hd.1, hd.2] at this

set_option maxHeartbeats 4000000 in
set_option maxRecDepth 100000 in
theorem sums_case (cy q : Bool) (ah al bh bl : Int) (u1 : U64 ah) (u2 : U64 al) (u3 : U64 bh) (u4 : U64 bl) (hcy : decide (full ≤ val ah al + val bh bl) = cy) (hq : decide (val ah al < val bh bl) = q) (w : World) :
    Calls Try.prog 3 #[.agg #[.int .u64 ah, .int .u64 al], .agg #[.int .u64 bh, .int .u64 bl]] w fun e w' => e = .returned (.bool true) ∧ Below w.heap.size w w' := by
  have ca := add_as cy ah al bh bl u1 u2 u3 u4 hcy
  have cs := sub_as2 q ah al bh bl u1 u2 u3 u4 hq
  have rA := val_range u1 u2
  have rB := val_range u3 u4
  have CA := Lib.hid ca; have CS := Lib.hid cs; have HCY := Lib.hid hcy; have HQ := Lib.hid hq; have RA := Lib.hid rA; have RB := Lib.hid rB
  clear ca cs hcy hq rA rB
  go_enter Try.func3, Try.ntmps3
  go_wp2_with fail
  obtain ⟨p0A, p0B, kk0⟩ := boxes2 w ah al bh bl 24
  (with_reducible refine (CA.out _).mono ?_); rintro e w1 ⟨rfl, hb1⟩
  have p1A := p0A.later hb1; have p1B := p0B.later hb1; have kk1 := bC kk0 hb1
  clear p0A p0B kk0 hb1
  obtain ⟨sA, cA0, cA1⟩ := id p1A
  obtain ⟨sB, cB0, cB1⟩ := id p1B
  have p1X := Box.new w1 (hiOf (val ah al + val bh bl)) (loOf (val ah al + val bh bl)) 24
  go_wp2_with fail
  (with_reducible refine (CS.out _).mono ?_); rintro e w2 ⟨rfl, hb2⟩
  have p2A := (p1A.alloc _).later hb2; have p2B := (p1B.alloc _).later hb2; have p2X := p1X.later hb2; have kk2 := bC (bA kk1 _) hb2
  clear p1A p1B p1X kk1 hb2 sA cA0 cA1 sB cB0 cB1
  have p2Y := Box.new w2 (hiOf (val ah al - val bh bl)) (loOf (val ah al - val bh bl)) 24
  have p3A := p2A.alloc (bx (hiOf (val ah al - val bh bl)) (loOf (val ah al - val bh bl)) 24); have p3B := p2B.alloc (bx (hiOf (val ah al - val bh bl)) (loOf (val ah al - val bh bl)) 24); have p3X := p2X.alloc (bx (hiOf (val ah al - val bh bl)) (loOf (val ah al - val bh bl)) 24); have kk3 := bA kk2 (bx (hiOf (val ah al - val bh bl)) (loOf (val ah al - val bh bl)) 24)
  go_upto_region 3 with fail
  go_cut [9, 10] (fun v9 v10 wx => IsNum wx v9 (val ah al) ∧ IsNum wx v10 (val bh bl) ∧ Box wx w1.heap.size (hiOf (val ah al + val bh bl)) (loOf (val ah al + val bh bl)) ∧ Box wx w2.heap.size (hiOf (val ah al - val bh bl)) (loOf (val ah al - val bh bl)) ∧ Below w.heap.size w wx)
  case first =>
    obtain ⟨sA, cA0, cA1⟩ := id p3A
    obtain ⟨sB, cB0, cB1⟩ := id p3B
    clear p2A p2B p2X kk2 p3A p3B
    generalize w2.alloc (bx (hiOf (val ah al - val bh bl)) (loOf (val ah al - val bh bl)) 24) = W at *
    generalize w2.heap.size = y at *
    generalize w1.heap.size = x at *
    go_region_held3 (fun w' => w'.cell? ⟨w.heap.size, 0, none⟩ = some (.int .u64 ah) ∧ w'.cell? ⟨w.heap.size, 1, none⟩ = some (.int .u64 al) ∧ w'.cell? ⟨w.heap.size + 1, 0, none⟩ = some (.int .u64 bh) ∧ w'.cell? ⟨w.heap.size + 1, 1, none⟩ = some (.int .u64 bl) ∧ Box w' x (hiOf (val ah al + val bh bl)) (loOf (val ah al + val bh bl)) ∧ Box w' y (hiOf (val ah al - val bh bl)) (loOf (val ah al - val bh bl)) ∧ Below w.heap.size w w') (first | exact ⟨cA0, cA1, cB0, cB1, p3X.drew, p2Y.drew, kk3.drew⟩ | (refine heldS hb ?_; assumption))
      (first | (go_at_call 12; (with_reducible refine (big_num _ _ ?_ ?_ _).mono ?_); assumption; assumption; rintro e w' ⟨v, rfl, hnum, hb⟩))
    all_goals
      rename_i hh
      obtain ⟨_, _, _, _, gx, gy, gk⟩ := hh
      go_wp2_with fail
      go_meet
      exact ⟨IsNum.later (by assumption) hb, hnum, gx, gy, gk⟩
  case rest =>
    obtain ⟨n9, n10, pX, pY, kk⟩ := hcut
    clear p2A p2B p2X kk2 p2Y p3A p3B p3X kk3 CA CS u1 u2 u3 u4
    generalize w2.heap.size = y at *
    generalize w1.heap.size = x at *
    clear w1 w2
    generalize val ah al = A at *
    generalize val bh bl = B at *
    have sA : Small A := small_full (by have := RA.out.2; omega)
    have sB : Small B := small_full (by have := RB.out.2; omega)
    go_wp2_with fail
    (with_reducible refine (add_num n9 n10 sA sB).mono ?_); rintro e w3 ⟨v11, rfl, n11, hb3⟩
    have m9 := n9.later hb3; have m10 := n10.later hb3; have mX := pX.later hb3; have mY := pY.later hb3; have kk3 := bC kk hb3
    clear n9 n10 pX pY kk hb3
    go_wp2_with fail
    (with_reducible refine (full_num _).mono ?_); rintro e w4 ⟨v12, rfl, n12, hb4⟩
    have n9 := m9.later hb4; have n10 := m10.later hb4; have l11 := n11.later hb4; have pX := mX.later hb4; have pY := mY.later hb4; have kk := bC kk3 hb4
    clear m9 m10 n11 mX mY kk3 hb4
    cases q with
    | true =>
      have hlt : A < B := by simpa using HQ.out
      have cc := cmp_num n9 n10
      rw [(cmpI_cases A B).1 hlt] at cc
      have CC := Lib.hid cc; have HLT := Lib.hid hlt
      clear cc hlt
      go_wp2_with fail
      (with_reducible refine CC.out.mono ?_); rintro e w5 ⟨rfl, hb5⟩
      have m9 := n9.later hb5; have m10 := n10.later hb5; have m11 := l11.later hb5; have m12 := n12.later hb5; have mX := pX.later hb5; have mY := pY.later hb5; have kk5 := bC kk hb5
      clear n9 n10 l11 n12 pX pY kk hb5 CC
      go_wp2_with fail
      (with_reducible refine (add_num m9 m12 sA (small_full (Int.le_refl _))).mono ?_); rintro e w6 ⟨v9, rfl, n9, hb6⟩
      have n10 := m10.later hb6; have n11 := m11.later hb6; have n12 := m12.later hb6; have pX := mX.later hb6; have pY := mY.later hb6; have kk := bC kk5 hb6
      clear m9 m10 m11 m12 mX mY kk5 hb6
      have last := last_of (D := A - B) n9 n10 n11 n12 rfl (small_of (k := 5) (by have h1 : bp 5 = 1461501637330902918203684832716283019655932542976 := rfl; have := RA.out.2; rw [h1]; unfold full at *; omega) (by omega)) (by have := RA.out.1; have := RB.out.2; omega) (by unfold hiOf loOf full; omega)
      obtain ⟨lb, lc, ls, ld⟩ := last
      have HBs := Lib.hid lb; have HSu := Lib.hid ls; have HB2 := Lib.hid ld
      obtain ⟨_, cX0, cX1⟩ := id pX
      obtain ⟨_, cY0, cY1⟩ := id pY
      generalize hcc : cmpI (A + B) full = c at *
      have HCm := Lib.hid lc
      have hcs := cmp_sign (A + B) full
      rw [hcc] at hcs
      have HCS := Lib.hid hcs
      have kb : Below w6.heap.size w6 w6.drew := (Below.refl _ _).drew
      clear lb lc ls ld n9 n10 n11 n12 sA sB hcs hcc
      cases cy with
      | true =>
        have hc0 : 0 ≤ c := HCS.out.1 (by simpa using HCY.out)
        clear HCS HCY
        go_upto_region 9 with fail
        go_region_held3 (fun w' => w'.cell? ⟨x, 0, none⟩ = some (.int .u64 (hiOf (A + B))) ∧ w'.cell? ⟨x, 1, none⟩ = some (.int .u64 (loOf (A + B))) ∧ w'.cell? ⟨y, 0, none⟩ = some (.int .u64 (hiOf (A - B))) ∧ w'.cell? ⟨y, 1, none⟩ = some (.int .u64 (loOf (A - B)))) (first | exact ⟨cX0, cX1, cY0, cY1⟩ | (refine held4 hb ?_; assumption))
          (first | (go_at_call 16; (with_reducible refine (HBs.out _ kb).mono ?_); rintro e w' ⟨rfl, hb⟩; have kb := bC kb hb) | (go_at_call 15; (with_reducible refine (HCm.out _ kb).mono ?_); rintro e w' ⟨rfl, hb⟩; have kb := bC kb hb) | (go_at_call 17; (with_reducible refine (HSu.out _ kb).mono ?_); rintro e w' ⟨vd, rfl, hnum, hb⟩; have kb := bC kb hb) | (go_at_call 16; (with_reducible refine (HB2.out _ _ hnum).mono ?_); rintro e w' ⟨rfl, hb⟩; have kb := bC kb hb) | (go_at_call 18; (with_reducible refine (counts_any _).mono ?_); rintro e w' ⟨rfl, hb⟩; have kb := bC kb hb))
        all_goals
          go_wp2_with fail
          go_ret
          exact ⟨rfl, bC kk kb⟩
      | false =>
        have hc0 : c = -1 := HCS.out.2 (by simpa using HCY.out)
        clear HCS HCY
        subst hc0
        go_upto_region 9 with fail
        go_region_held3 (fun w' => w'.cell? ⟨x, 0, none⟩ = some (.int .u64 (hiOf (A + B))) ∧ w'.cell? ⟨x, 1, none⟩ = some (.int .u64 (loOf (A + B))) ∧ w'.cell? ⟨y, 0, none⟩ = some (.int .u64 (hiOf (A - B))) ∧ w'.cell? ⟨y, 1, none⟩ = some (.int .u64 (loOf (A - B)))) (first | exact ⟨cX0, cX1, cY0, cY1⟩ | (refine held4 hb ?_; assumption))
          (first | (go_at_call 16; (with_reducible refine (HBs.out _ kb).mono ?_); rintro e w' ⟨rfl, hb⟩; have kb := bC kb hb) | (go_at_call 15; (with_reducible refine (HCm.out _ kb).mono ?_); rintro e w' ⟨rfl, hb⟩; have kb := bC kb hb) | (go_at_call 17; (with_reducible refine (HSu.out _ kb).mono ?_); rintro e w' ⟨vd, rfl, hnum, hb⟩; have kb := bC kb hb) | (go_at_call 16; (with_reducible refine (HB2.out _ _ hnum).mono ?_); rintro e w' ⟨rfl, hb⟩; have kb := bC kb hb) | (go_at_call 18; (with_reducible refine (counts_any _).mono ?_); rintro e w' ⟨rfl, hb⟩; have kb := bC kb hb))
        all_goals
          go_wp2_with fail
          go_ret
          exact ⟨rfl, bC kk kb⟩
    | false =>
      have hge : B ≤ A := by simpa using HQ.out
      have cc := cmp_num n9 n10
      have c0 : 0 ≤ cmpI A B := (cmp_sign A B).1 hge
      generalize cmpI A B = c1 at *
      have c1b : decide (c1 < 0) = false := by simp; omega
      have CC := Lib.hid cc; have HLT := Lib.hid hge
      clear cc hge
      go_wp2_with fail
      (with_reducible refine CC.out.mono ?_); rintro e w5 ⟨rfl, hb5⟩
      have m9 := n9.later hb5; have m10 := n10.later hb5; have n11 := l11.later hb5; have m12 := n12.later hb5; have mX := pX.later hb5; have mY := pY.later hb5; have kk5 := bC kk hb5
      clear n9 n10 l11 n12 pX pY kk hb5 CC
      have n9 := m9; have n10 := m10; have n12 := m12; have pX := mX; have pY := mY; have kk := kk5
      clear m9 m10 m12 mX mY kk5
      have last := last_of (D := A - B) n9 n10 n11 n12 rfl sA HLT.out ⟨rfl, rfl⟩
      obtain ⟨lb, lc, ls, ld⟩ := last
      have HBs := Lib.hid lb; have HSu := Lib.hid ls; have HB2 := Lib.hid ld
      obtain ⟨_, cX0, cX1⟩ := id pX
      obtain ⟨_, cY0, cY1⟩ := id pY
      generalize hcc : cmpI (A + B) full = c at *
      have HCm := Lib.hid lc
      have hcs := cmp_sign (A + B) full
      rw [hcc] at hcs
      have HCS := Lib.hid hcs
      have kb : Below w5.heap.size w5 w5.drew := (Below.refl _ _).drew
      clear lb lc ls ld n9 n10 n11 n12 sA sB hcs hcc
      cases cy with
      | true =>
        have hc0 : 0 ≤ c := HCS.out.1 (by simpa using HCY.out)
        clear HCS HCY
        go_upto_region 9 with fail
        go_region_held3 (fun w' => w'.cell? ⟨x, 0, none⟩ = some (.int .u64 (hiOf (A + B))) ∧ w'.cell? ⟨x, 1, none⟩ = some (.int .u64 (loOf (A + B))) ∧ w'.cell? ⟨y, 0, none⟩ = some (.int .u64 (hiOf (A - B))) ∧ w'.cell? ⟨y, 1, none⟩ = some (.int .u64 (loOf (A - B)))) (first | exact ⟨cX0, cX1, cY0, cY1⟩ | (refine held4 hb ?_; assumption))
          (first | (go_at_call 16; (with_reducible refine (HBs.out _ kb).mono ?_); rintro e w' ⟨rfl, hb⟩; have kb := bC kb hb) | (go_at_call 15; (with_reducible refine (HCm.out _ kb).mono ?_); rintro e w' ⟨rfl, hb⟩; have kb := bC kb hb) | (go_at_call 17; (with_reducible refine (HSu.out _ kb).mono ?_); rintro e w' ⟨vd, rfl, hnum, hb⟩; have kb := bC kb hb) | (go_at_call 16; (with_reducible refine (HB2.out _ _ hnum).mono ?_); rintro e w' ⟨rfl, hb⟩; have kb := bC kb hb) | (go_at_call 18; (with_reducible refine (counts_any _).mono ?_); rintro e w' ⟨rfl, hb⟩; have kb := bC kb hb))
        all_goals
          go_wp2_with fail
          go_ret
          exact ⟨rfl, bC kk kb⟩
      | false =>
        have hc0 : c = -1 := HCS.out.2 (by simpa using HCY.out)
        clear HCS HCY
        subst hc0
        go_upto_region 9 with fail
        go_region_held3 (fun w' => w'.cell? ⟨x, 0, none⟩ = some (.int .u64 (hiOf (A + B))) ∧ w'.cell? ⟨x, 1, none⟩ = some (.int .u64 (loOf (A + B))) ∧ w'.cell? ⟨y, 0, none⟩ = some (.int .u64 (hiOf (A - B))) ∧ w'.cell? ⟨y, 1, none⟩ = some (.int .u64 (loOf (A - B)))) (first | exact ⟨cX0, cX1, cY0, cY1⟩ | (refine held4 hb ?_; assumption))
          (first | (go_at_call 16; (with_reducible refine (HBs.out _ kb).mono ?_); rintro e w' ⟨rfl, hb⟩; have kb := bC kb hb) | (go_at_call 15; (with_reducible refine (HCm.out _ kb).mono ?_); rintro e w' ⟨rfl, hb⟩; have kb := bC kb hb) | (go_at_call 17; (with_reducible refine (HSu.out _ kb).mono ?_); rintro e w' ⟨vd, rfl, hnum, hb⟩; have kb := bC kb hb) | (go_at_call 16; (with_reducible refine (HB2.out _ _ hnum).mono ?_); rintro e w' ⟨rfl, hb⟩; have kb := bC kb hb) | (go_at_call 18; (with_reducible refine (counts_any _).mono ?_); rintro e w' ⟨rfl, hb⟩; have kb := bC kb hb))
        all_goals
          go_wp2_with fail
          go_ret
          exact ⟨rfl, bC kk kb⟩

theorem sums_walk (ah al bh bl : Int) (u1 : U64 ah) (u2 : U64 al) (u3 : U64 bh) (u4 : U64 bl) (w : World) :
    Calls Try.prog 3 #[.agg #[.int .u64 ah, .int .u64 al], .agg #[.int .u64 bh, .int .u64 bl]] w fun e w' => e = .returned (.bool true) ∧ Below w.heap.size w w' :=
  sums_case _ _ ah al bh bl u1 u2 u3 u4 rfl rfl w

end Go.Proofs.Ytchghjdjkdpdjaa
