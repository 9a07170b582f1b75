import Derived.Test.YtjdjonekoodalaaGreatDoorGzC
set_option maxHeartbeats 40000000
set_option linter.unusedVariables false
set_option linter.unusedSimpArgs false
set_option maxRecDepth 100000
namespace Go.Proofs.YtjdjonekoodalaaGreatDoor
open Go.RowKit
attribute [local go_sem ↓] Go.wp_at_zero Go.wp_at_succ
theorem mult23_no1 (f bh bl d nu : Int) (n : Bool)
    (h0 : Hid (∀ w, FTab w → Ca 14 #[.int .u8 f, U2 bh bl] w (.tuple #[.int .u8 d, .bool n])))
    (h1 : Hid (∀ w, FTab w → Ca 15 #[.int .u8 f] w (.bool false)))
    (h2 : Hid (∀ w, FTab w → Ca 11 #[] w (.bool true))) (w : World) (ft : FTab w) :
    Ca 6 #[.int .u8 f, U2 bh bl, .int .u16 nu] w (.bool true) := by
  simp only [Ca, U2] at *
  go_enter Tryz.func6, Tryz.ntmps6
  go_wp2_with fail
  refine vM (h0.out _ (ft.later (bA bR _))) fun w1 b1 => ?_
  go_wp2_with fail
  refine vM (h1.out _ (ft.later (bC (bA bR _) b1))) fun w2 b2 => ?_
  go_wp2_with fail
  refine vM (h2.out _ (ft.later (bC (bC (bA bR _) b1) b2))) fun w3 b3 => ?_
  go_wp2_with fail
  go_ret
  exact ⟨rfl, (bC (bC (bC (bA bR _) b1) b2) b3)⟩
theorem mult23_no2 (f bh bl d nu : Int) (n : Bool)
    (h0 : Hid (∀ w, FTab w → Ca 14 #[.int .u8 f, U2 bh bl] w (.tuple #[.int .u8 d, .bool n])))
    (h1 : Hid (∀ w, FTab w → Ca 15 #[.int .u8 f] w (.bool true)))
    (h2 : Hid (∀ w, FTab w → Ca 11 #[] w (.bool true))) (g1 : (d != 1) = true) (g2 : (d != 2) = true) (w : World) (ft : FTab w) :
    Ca 6 #[.int .u8 f, U2 bh bl, .int .u16 nu] w (.bool true) := by
  simp only [Ca, U2] at *
  go_enter Tryz.func6, Tryz.ntmps6
  go_wp2_with fail
  refine vM (h0.out _ (ft.later (bA bR _))) fun w1 b1 => ?_
  go_wp2_with fail
  refine vM (h1.out _ (ft.later (bC (bA bR _) b1))) fun w2 b2 => ?_
  go_wp2_with fail
  refine vM (h2.out _ (ft.later (bC (bC (bA bR _) b1) b2))) fun w3 b3 => ?_
  go_wp2_with fail
  go_ret
  exact ⟨rfl, (bC (bC (bC (bA bR _) b1) b2) b3)⟩
def Pw23 (P j i : Nat) : Prop := P = 2 ^ (j - i)
theorem mult23_sub (f bh bl d em nu r A0 : Int) (nn : Bool) (K0 : Nat) (ph pl mh ml mf : Nat → Int) (Inv : Int → Int → Prop)
    (h0 : Hid (∀ w, FTab w → Ca 14 #[.int .u8 f, .agg #[.int .u64 bh, .int .u64 bl]] w (.tuple #[.int .u8 d, .bool nn]))) (h1 : Hid (∀ w, FTab w → Ca 15 #[.int .u8 f] w (.bool true))) (h2 : Hid (∀ w, FTab w → Ca 24 #[.int .u8 f, .bool false] w (.agg #[.int .u64 (hiOf A0), .int .u64 (loOf A0)]))) (h3 : Hid (∀ w, FTab w → Ca 26 #[.int .u8 f] w (.int .i64 em))) (h4 : Hid (∀ w, FTab w → Ca 25 #[.int .u8 f, .bool false, .int .i64 em, .agg #[.int .u64 0, .int .u64 0]] w (.agg #[.int .u64 (ph 0), .int .u64 (pl 0)])))
    (AD : Hid (∀ j : Nat, j < 11 → ∃ g : Int, ∀ w, FTab w → Ca 18 #[.int .u8 f, .agg #[.int .u8 0, .bool false], .agg #[.int .u64 (ph j), .int .u64 (pl j)], .agg #[.int .u64 (ph j), .int .u64 (pl j)]] w (.agg #[.int .u64 (ph (j + 1)), .int .u64 (pl (j + 1)), .int .u8 g]))) (MU : Hid (∀ j : Nat, j < 11 → ∀ w, FTab w → Ca 27 #[.int .u8 f, .agg #[.int .u8 0, .bool false], .agg #[.int .u64 (ph j), .int .u64 (pl j)], .agg #[.int .u64 bh, .int .u64 bl]] w (.agg #[.int .u64 (mh j), .int .u64 (ml j), .int .u8 (mf j)])))
    (SU : Hid (∀ (A F : Int) (j : Nat), Inv A F → j < 11 → ∃ A' F' : Int, (∀ w, FTab w → Ca 18 #[.int .u8 f, .agg #[.int .u8 0, .bool false], .agg #[.int .u64 (hiOf A), .int .u64 (loOf A)], .agg #[.int .u64 (mh j), .int .u64 (ml j)]] w (.agg #[.int .u64 (hiOf A'), .int .u64 (loOf A'), .int .u8 F'])) ∧ Inv A' (bits .or .u8 (bits .or .u8 F (mf j)) F')))
    (LB : Hid (∀ K : Nat, 0 < K → K ≤ 2000 → ∃ (j M : Nat), j < 11 ∧ M = 2 ^ j ∧ bits .and .i64 (K : Int) (-(K : Int)) = (M : Int) ∧ M ≤ K ∧ 0 < M))
    (FI : Hid (∀ A, Inv A 0 → ∃ (c : Int) (s : Bool) (Z : Int), (∀ w, FTab w → Ca 14 #[.int .u8 f, .agg #[.int .u64 (hiOf A), .int .u64 (loOf A)]] w (.tuple #[.int .u8 c, .bool s])) ∧ (∀ w, FTab w → Ca 12 #[.int .u8 f, .agg #[.int .u64 (hiOf A), .int .u64 (loOf A)], .agg #[.int .u64 bh, .int .u64 bl]] w (.agg #[.int .u64 (hiOf Z), .int .u64 (loOf Z), .int .u8 0])) ∧ (∀ w, FTab w → Ca 24 #[.int .u8 f, .bool s] w (.agg #[.int .u64 (hiOf Z), .int .u64 (loOf Z)]))))
    (G : Hid (∀ w, FTab w → Ca 11 #[] w (.bool true))) (i0 : Hid (Inv A0 0)) (dd : (d != 1) = false)
    (c1 : IntKind.i64.wrap nu = nu) (c2 : nu.tmod 2000 = r) (c3 : IntKind.i64.wrap r = r) (c4 : wrap64 r = r) (c5 : IntKind.i64.wrap (1 + r) = (K0 : Int)) (c6 : wrap64 (1 + r) = (K0 : Int)) (kb : Hid (K0 ≤ 2000)) (w : World) (ft : FTab w) :
    Ca 6 #[.int .u8 f, .agg #[.int .u64 bh, .int .u64 bl], .int .u16 nu] w (.bool true) := by
  simp only [Ca] at *
  go_enter Tryz.func6, Tryz.ntmps6
  go_wp2_with fail
  refine vM (h0.out _ (ft.later (bA bR _))) fun w1 b1 => ?_
  have X0 := (HB.newAt (b := w.heap.size) (by simp) _ _).later b1
  go_wp2_with fail
  refine vM (h1.out _ (ft.later (bC (bA bR _) b1))) fun w2 b2 => ?_
  replace X0 := X0.later b2
  have kk := bC (bC (bA bR _) b1) b2
  clear b1 b2
  · go_wp2_with fail
    refine vM (h2.out _ (ft.later kk)) fun w3 b3 => ?_
    replace X0 := X0.later b3
    replace kk := bC kk b3
    clear b3
    have n01 : w.heap.size < w3.heap.size := X0.lt
    go_wp2_with fail
    refine vF1 fun w4 b4 X1 => ?_
    replace X0 := X0.later b4
    replace kk := bC kk b4
    clear b4
    have g1 : w.heap.size ≤ w3.heap.size := by omega
    generalize hp1 : w3.heap.size = p1 at *
    clear hp1 h0 h1 h2 c1 c2 c3 c4 c5 c6
    go_loopw [9, 11] (fun kv fv wi => ∃ (K : Nat) (A F g : Int), K ≤ 2000 ∧ kv = .int .i64 K ∧ fv = .int .u8 F ∧ Hid (Inv A F) ∧ HB wi p1 30 #[.int .u64 (hiOf A), .int .u64 (loOf A), .int .u8 g] ∧ HB wi w.heap.size 25 #[.int .u64 bh, .int .u64 bl] ∧ Below w.heap.size w wi) (fun kv _ _ => (intOf kv).toNat)
    case atStart => exact ⟨K0, A0, 0, 0, kb.out, rfl, rfl, i0, X1, X0, kk⟩
    case round =>
      clear X1 X0 kk
      obtain ⟨K, A, F, g, hK, rfl, rfl, IV, X1, X0, kl⟩ := hrel
      by_cases hlt : 0 < K
      · obtain ⟨j, M, hj, hM, hb, hle, hm⟩ := LB.out K hlt hK
        have gk : decide ((0 : Int) < (K : Int)) = true := decide_eq_true (by omega)
        have gK : decide (0 < K) = true := decide_eq_true hlt
        have wn : IntKind.i64.wrap (-(K : Int)) = -(K : Int) := IntWalk.i64_in _ (by omega)
        have wm : wrap64 (-(K : Int)) = -(K : Int) := by unfold wrap64; omega
        have ws : IntKind.i64.wrap ((K : Int) - (M : Int)) = ((K - M : Nat) : Int) := (IntWalk.i64_in _ (by omega)).trans (by omega)
        have wt : wrap64 ((K : Int) - (M : Int)) = ((K - M : Nat) : Int) := by unfold wrap64; omega
        have HJ := lH (And.intro hK (And.intro hlt (And.intro hj (And.intro hM (And.intro hle hm)))))
        clear hK hlt hj hM hle hm
        go_wp2_with fail
        refine vM (h3.out _ (ft.later kl)) fun wa ba => ?_
        go_wp2_with fail
        refine vM (h4.out _ (ft.later (bC kl ba))) fun wb bb => ?_
        replace X1 := X1.later (bC ba bb); replace X0 := X0.later (bC ba bb); replace kl := bC kl (bC ba bb)
        clear ba bb
        have n12 : p1 < wb.heap.size := X1.lt
        have n02 : w.heap.size < wb.heap.size := X0.lt
        go_wp2_with fail
        refine vF1 fun wc bc X2 => ?_
        replace X1 := X1.later bc; replace X0 := X0.later bc; replace kl := bC kl bc
        clear bc
        have g2 : w.heap.size ≤ wb.heap.size := by omega
        generalize hp2 : wb.heap.size = p2 at *
        clear hp2
        go_loopw [14] (fun iv wi => ∃ i P : Nat, i ≤ j ∧ iv = .int .i64 P ∧ Hid (Pw23 P j i) ∧ HB wi p2 25 #[.int .u64 (ph i), .int .u64 (pl i)] ∧ HB wi p1 30 #[.int .u64 (hiOf A), .int .u64 (loOf A), .int .u8 g] ∧ HB wi w.heap.size 25 #[.int .u64 bh, .int .u64 bl] ∧ Below w.heap.size w wi) (fun iv _ => (intOf iv).toNat)
        case atStart => exact ⟨0, M, Nat.zero_le _, rfl, lH (show Pw23 M j 0 from HJ.out.2.2.2.1), X2, X1, X0, kl⟩
        case round =>
          clear X2 X1 X0 kl
          obtain ⟨i, P, hi, rfl, HP, X2, X1, X0, kl⟩ := hrel
          by_cases hlt2 : i < j
          · obtain ⟨g9, AJ⟩ := AD.out i (by have := HJ.out.2.2.1; omega)
            obtain ⟨Q, hQ⟩ : ∃ Q : Nat, Q = 2 ^ (j - (i + 1)) := ⟨_, rfl⟩
            have hPQ : P = 2 * Q := by rw [show P = 2 ^ (j - i) from HP.out, hQ, show j - i = j - (i + 1) + 1 by omega, Nat.pow_succ]; omega
            have hQ0 : 0 < Q := by rw [hQ]; exact Nat.two_pow_pos _
            have hP : P ≤ 2000 := by
              have h1 := HJ.out
              have h2 : P ≤ M := by rw [show P = 2 ^ (j - i) from HP.out, h1.2.2.2.1]; exact Nat.pow_le_pow_right (by omega) (by omega)
              omega
            have gi : decide ((1 : Int) < (P : Int)) = true := decide_eq_true (by omega)
            have gI : decide (1 < P) = true := decide_eq_true (by omega)
            have q1 : (P : Int).tdiv 2 = (Q : Int) := by rw [hPQ, Int.natCast_mul]; exact Int.mul_tdiv_cancel_left _ (by decide)
            have q4 : (P : Int) / 2 = (Q : Int) := by omega
            have q5 : P / 2 = Q := by omega
            have q2 : IntKind.i64.wrap (Q : Int) = (Q : Int) := IntWalk.i64_in _ (by omega)
            have q3 : wrap64 (Q : Int) = (Q : Int) := by unfold wrap64; omega
            have HR := lH (And.intro hlt2 (And.intro hPQ (And.intro hQ0 hQ)))
            clear hlt2 hPQ hQ0 hQ hP hi
            as_aux_lemma =>
              have o2 := X2.o
              go_wp2_with fail
              clear o2
              refine vM (AJ _ (ft.later kl)) fun wd bd => ?_
              replace X2 := X2.later bd; replace X1 := X1.later bd; replace X0 := X0.later bd; replace kl := bC kl bd
              clear bd
              have o2 := X2.o
              have m1 : ¬ (p1 = p2) := by omega
              have m0 : ¬ (w.heap.size = p2) := by omega
              have hY := ((X2.set 0 (.int .u64 (ph (i + 1)))).set 1 (.int .u64 (pl (i + 1)))).alloc (.cells #[.int .u64 (ph (i + 1)), .int .u64 (pl (i + 1)), .int .u8 g9] 30)
              have hY1 := HB.alloc (HB.other (HB.other X1 m1 0 (.int .u64 (ph (i + 1)))) m1 1 (.int .u64 (pl (i + 1)))) (.cells #[.int .u64 (ph (i + 1)), .int .u64 (pl (i + 1)), .int .u8 g9] 30)
              have hY0 := HB.alloc (HB.other (HB.other X0 m0 0 (.int .u64 (ph (i + 1)))) m0 1 (.int .u64 (pl (i + 1)))) (.cells #[.int .u64 (ph (i + 1)), .int .u64 (pl (i + 1)), .int .u8 g9] 30)
              have hk := bA ((kl.setCell (p := ⟨p2, 0, none⟩) g2 (.int .u64 (ph (i + 1)))).setCell (p := ⟨p2, 1, none⟩) g2 (.int .u64 (pl (i + 1)))) (.cells #[.int .u64 (ph (i + 1)), .int .u64 (pl (i + 1)), .int .u8 g9] 30)
              have KY := lH (And.intro hY (And.intro hY1 (And.intro hY0 hk)))
              clear hY hY1 hY0 hk X1 X0 kl X2
              go_wp2_with fail
              go_roundw
              case rel => exact ⟨i + 1, Q, by have := HR.out.1; omega, rfl, lH (show Pw23 Q j (i + 1) from HR.out.2.2.2), KY.out.1, KY.out.2.1, KY.out.2.2.1, KY.out.2.2.2⟩
              case measure =>
                have h2 := HR.out.2.1
                have h3 := HR.out.2.2.1
                clear HR HP q1 q2 q3 q4 q5 gi gI
                simp [intOf]
                omega
          · have hij : i = j := by omega
            subst hij
            have hP1 : P = 1 := by rw [show P = 2 ^ (i - i) from HP.out, Nat.sub_self]
            subst hP1
            have gi : decide ((1 : Int) < ((1 : Nat) : Int)) = false := by decide
            clear hlt2 hi HP
            as_aux_lemma =>
              have o2 := X2.o
              have o0 := X0.o
              go_wp2_with fail
              clear o2 o0
              refine vM (MU.out _ HJ.out.2.2.1 _ (ft.later kl)) fun wd bd => ?_
              replace X1 := X1.later bd; replace X0 := X0.later bd; replace kl := bC kl bd
              clear bd X2
              obtain ⟨A', F', SA, SI⟩ := SU.out A F _ IV.out HJ.out.2.2.1
              have SI := lH SI
              have o1 := X1.o
              have n1d : p1 < wd.heap.size := X1.lt
              have n0d : w.heap.size < wd.heap.size := X0.lt
              go_wp2_with fail
              clear o1
              refine vM (SA _ (ft.later (bA kl _))) fun we be => ?_
              have XM := (HB.newAt (b := wd.heap.size) (by simp) _ _).later be
              replace X1 := (X1.alloc _).later be; replace X0 := (X0.alloc _).later be; replace kl := bC (bA kl _) be
              clear be
              generalize hp3 : wd.heap.size = p3 at *
              clear hp3
              have oM := XM.o
              have o1 := X1.o
              have m1 : ¬ (w.heap.size = p1) := by omega
              have m3 : ¬ (p3 = p1) := by omega
              have m4 : ¬ (p1 = p3) := by omega
              have hY1 := ((X1.set 0 (.int .u64 (hiOf A'))).set 1 (.int .u64 (loOf A'))).set 2 (.int .u8 F')
              have hY0 := HB.other (HB.other (HB.other X0 m1 0 (.int .u64 (hiOf A'))) m1 1 (.int .u64 (loOf A'))) m1 2 (.int .u8 F')
              have hk := ((kl.setCell (p := ⟨p1, 0, none⟩) g1 (.int .u64 (hiOf A'))).setCell (p := ⟨p1, 1, none⟩) g1 (.int .u64 (loOf A'))).setCell (p := ⟨p1, 2, none⟩) g1 (.int .u8 F')
              have KY := lH (And.intro hY1 (And.intro hY0 hk))
              clear hY1 hY0 hk X1 X0 kl XM
              go_wp2_with fail
              go_roundw
              case rel => exact ⟨K - M, A', _, F', by have := HJ.out; omega, rfl, rfl, SI, KY.out.1, KY.out.2.1, KY.out.2.2⟩
              case measure => have := HJ.out; simp [intOf]; omega
      · have hk0 : K = 0 := by omega
        subst hk0
        have gk : decide ((0 : Int) < ((0 : Nat) : Int)) = false := by decide
        clear hlt hK
        by_cases hF : F = 0
        · subst hF
          obtain ⟨c, s, Z, OA, RA, NA⟩ := FI.out A IV.out
          have EQ := eqr23 (hiOf Z) (loOf Z) 0
          have o1 := X1.o
          go_wp2_with fail
          clear o1
          refine vM (OA _ (ft.later kl)) fun wa ba => ?_
          replace X1 := X1.later ba; replace X0 := X0.later ba; replace kl := bC kl ba
          have o1 := X1.o
          have o0 := X0.o
          go_wp2_with fail
          clear o1 o0
          refine vM (RA _ (ft.later kl)) fun wb bb => ?_
          replace kl := bC kl bb
          go_wp2_with fail
          refine vM (NA _ (ft.later kl)) fun wc bc => ?_
          replace kl := bC kl bc
          go_wp2_with fail
          refine vM (G.out _ (ft.later kl)) fun wd bd => ?_
          replace kl := bC kl bd
          go_wp2_with fail
          go_ret
          exact ⟨rfl, kl⟩
        · have nF : (F != 0) = true := bne_iff_ne.2 hF
          clear hF
          go_wp2_with fail
          refine vM (G.out _ (ft.later kl)) fun wd bd => ?_
          replace kl := bC kl bd
          go_wp2_with fail
          go_ret
          exact ⟨rfl, kl⟩
theorem mult23_nor (f bh bl d em nu r A0 : Int) (nn : Bool) (K0 : Nat) (ph pl mh ml mf : Nat → Int) (Inv : Int → Int → Prop)
    (h0 : Hid (∀ w, FTab w → Ca 14 #[.int .u8 f, .agg #[.int .u64 bh, .int .u64 bl]] w (.tuple #[.int .u8 d, .bool nn]))) (h1 : Hid (∀ w, FTab w → Ca 15 #[.int .u8 f] w (.bool true))) (h2 : Hid (∀ w, FTab w → Ca 24 #[.int .u8 f, .bool false] w (.agg #[.int .u64 (hiOf A0), .int .u64 (loOf A0)]))) (h3 : Hid (∀ w, FTab w → Ca 26 #[.int .u8 f] w (.int .i64 em))) (h4 : Hid (∀ w, FTab w → Ca 25 #[.int .u8 f, .bool false, .int .i64 em, .agg #[.int .u64 0, .int .u64 0]] w (.agg #[.int .u64 (ph 0), .int .u64 (pl 0)])))
    (AD : Hid (∀ j : Nat, j < 11 → ∃ g : Int, ∀ w, FTab w → Ca 18 #[.int .u8 f, .agg #[.int .u8 0, .bool false], .agg #[.int .u64 (ph j), .int .u64 (pl j)], .agg #[.int .u64 (ph j), .int .u64 (pl j)]] w (.agg #[.int .u64 (ph (j + 1)), .int .u64 (pl (j + 1)), .int .u8 g]))) (MU : Hid (∀ j : Nat, j < 11 → ∀ w, FTab w → Ca 27 #[.int .u8 f, .agg #[.int .u8 0, .bool false], .agg #[.int .u64 (ph j), .int .u64 (pl j)], .agg #[.int .u64 bh, .int .u64 bl]] w (.agg #[.int .u64 (mh j), .int .u64 (ml j), .int .u8 (mf j)])))
    (SU : Hid (∀ (A F : Int) (j : Nat), Inv A F → j < 11 → ∃ A' F' : Int, (∀ w, FTab w → Ca 18 #[.int .u8 f, .agg #[.int .u8 0, .bool false], .agg #[.int .u64 (hiOf A), .int .u64 (loOf A)], .agg #[.int .u64 (mh j), .int .u64 (ml j)]] w (.agg #[.int .u64 (hiOf A'), .int .u64 (loOf A'), .int .u8 F'])) ∧ Inv A' (bits .or .u8 (bits .or .u8 F (mf j)) F')))
    (LB : Hid (∀ K : Nat, 0 < K → K ≤ 2000 → ∃ (j M : Nat), j < 11 ∧ M = 2 ^ j ∧ bits .and .i64 (K : Int) (-(K : Int)) = (M : Int) ∧ M ≤ K ∧ 0 < M))
    (FI : Hid (∀ A, Inv A 0 → ∃ (c : Int) (s : Bool) (Z : Int), (∀ w, FTab w → Ca 14 #[.int .u8 f, .agg #[.int .u64 (hiOf A), .int .u64 (loOf A)]] w (.tuple #[.int .u8 c, .bool s])) ∧ (∀ w, FTab w → Ca 12 #[.int .u8 f, .agg #[.int .u64 (hiOf A), .int .u64 (loOf A)], .agg #[.int .u64 bh, .int .u64 bl]] w (.agg #[.int .u64 (hiOf Z), .int .u64 (loOf Z), .int .u8 0])) ∧ (∀ w, FTab w → Ca 24 #[.int .u8 f, .bool s] w (.agg #[.int .u64 (hiOf Z), .int .u64 (loOf Z)]))))
    (G : Hid (∀ w, FTab w → Ca 11 #[] w (.bool true))) (i0 : Hid (Inv A0 0)) (dd : (d != 1) = true) (d2 : (d != 2) = false)
    (c1 : IntKind.i64.wrap nu = nu) (c2 : nu.tmod 2000 = r) (c3 : IntKind.i64.wrap r = r) (c4 : wrap64 r = r) (c5 : IntKind.i64.wrap (1 + r) = (K0 : Int)) (c6 : wrap64 (1 + r) = (K0 : Int)) (kb : Hid (K0 ≤ 2000)) (w : World) (ft : FTab w) :
    Ca 6 #[.int .u8 f, .agg #[.int .u64 bh, .int .u64 bl], .int .u16 nu] w (.bool true) := by
  simp only [Ca] at *
  go_enter Tryz.func6, Tryz.ntmps6
  go_wp2_with fail
  refine vM (h0.out _ (ft.later (bA bR _))) fun w1 b1 => ?_
  have X0 := (HB.newAt (b := w.heap.size) (by simp) _ _).later b1
  go_wp2_with fail
  refine vM (h1.out _ (ft.later (bC (bA bR _) b1))) fun w2 b2 => ?_
  replace X0 := X0.later b2
  have kk := bC (bC (bA bR _) b1) b2
  clear b1 b2
  · go_wp2_with fail
    refine vM (h2.out _ (ft.later kk)) fun w3 b3 => ?_
    replace X0 := X0.later b3
    replace kk := bC kk b3
    clear b3
    have n01 : w.heap.size < w3.heap.size := X0.lt
    go_wp2_with fail
    refine vF1 fun w4 b4 X1 => ?_
    replace X0 := X0.later b4
    replace kk := bC kk b4
    clear b4
    have g1 : w.heap.size ≤ w3.heap.size := by omega
    generalize hp1 : w3.heap.size = p1 at *
    clear hp1 h0 h1 h2 c1 c2 c3 c4 c5 c6
    go_loopw [9, 11] (fun kv fv wi => ∃ (K : Nat) (A F g : Int), K ≤ 2000 ∧ kv = .int .i64 K ∧ fv = .int .u8 F ∧ Hid (Inv A F) ∧ HB wi p1 30 #[.int .u64 (hiOf A), .int .u64 (loOf A), .int .u8 g] ∧ HB wi w.heap.size 25 #[.int .u64 bh, .int .u64 bl] ∧ Below w.heap.size w wi) (fun kv _ _ => (intOf kv).toNat)
    case atStart => exact ⟨K0, A0, 0, 0, kb.out, rfl, rfl, i0, X1, X0, kk⟩
    case round =>
      clear X1 X0 kk
      obtain ⟨K, A, F, g, hK, rfl, rfl, IV, X1, X0, kl⟩ := hrel
      by_cases hlt : 0 < K
      · obtain ⟨j, M, hj, hM, hb, hle, hm⟩ := LB.out K hlt hK
        have gk : decide ((0 : Int) < (K : Int)) = true := decide_eq_true (by omega)
        have gK : decide (0 < K) = true := decide_eq_true hlt
        have wn : IntKind.i64.wrap (-(K : Int)) = -(K : Int) := IntWalk.i64_in _ (by omega)
        have wm : wrap64 (-(K : Int)) = -(K : Int) := by unfold wrap64; omega
        have ws : IntKind.i64.wrap ((K : Int) - (M : Int)) = ((K - M : Nat) : Int) := (IntWalk.i64_in _ (by omega)).trans (by omega)
        have wt : wrap64 ((K : Int) - (M : Int)) = ((K - M : Nat) : Int) := by unfold wrap64; omega
        have HJ := lH (And.intro hK (And.intro hlt (And.intro hj (And.intro hM (And.intro hle hm)))))
        clear hK hlt hj hM hle hm
        go_wp2_with fail
        refine vM (h3.out _ (ft.later kl)) fun wa ba => ?_
        go_wp2_with fail
        refine vM (h4.out _ (ft.later (bC kl ba))) fun wb bb => ?_
        replace X1 := X1.later (bC ba bb); replace X0 := X0.later (bC ba bb); replace kl := bC kl (bC ba bb)
        clear ba bb
        have n12 : p1 < wb.heap.size := X1.lt
        have n02 : w.heap.size < wb.heap.size := X0.lt
        go_wp2_with fail
        refine vF1 fun wc bc X2 => ?_
        replace X1 := X1.later bc; replace X0 := X0.later bc; replace kl := bC kl bc
        clear bc
        have g2 : w.heap.size ≤ wb.heap.size := by omega
        generalize hp2 : wb.heap.size = p2 at *
        clear hp2
        go_loopw [14] (fun iv wi => ∃ i P : Nat, i ≤ j ∧ iv = .int .i64 P ∧ Hid (Pw23 P j i) ∧ HB wi p2 25 #[.int .u64 (ph i), .int .u64 (pl i)] ∧ HB wi p1 30 #[.int .u64 (hiOf A), .int .u64 (loOf A), .int .u8 g] ∧ HB wi w.heap.size 25 #[.int .u64 bh, .int .u64 bl] ∧ Below w.heap.size w wi) (fun iv _ => (intOf iv).toNat)
        case atStart => exact ⟨0, M, Nat.zero_le _, rfl, lH (show Pw23 M j 0 from HJ.out.2.2.2.1), X2, X1, X0, kl⟩
        case round =>
          clear X2 X1 X0 kl
          obtain ⟨i, P, hi, rfl, HP, X2, X1, X0, kl⟩ := hrel
          by_cases hlt2 : i < j
          · obtain ⟨g9, AJ⟩ := AD.out i (by have := HJ.out.2.2.1; omega)
            obtain ⟨Q, hQ⟩ : ∃ Q : Nat, Q = 2 ^ (j - (i + 1)) := ⟨_, rfl⟩
            have hPQ : P = 2 * Q := by rw [show P = 2 ^ (j - i) from HP.out, hQ, show j - i = j - (i + 1) + 1 by omega, Nat.pow_succ]; omega
            have hQ0 : 0 < Q := by rw [hQ]; exact Nat.two_pow_pos _
            have hP : P ≤ 2000 := by
              have h1 := HJ.out
              have h2 : P ≤ M := by rw [show P = 2 ^ (j - i) from HP.out, h1.2.2.2.1]; exact Nat.pow_le_pow_right (by omega) (by omega)
              omega
            have gi : decide ((1 : Int) < (P : Int)) = true := decide_eq_true (by omega)
            have gI : decide (1 < P) = true := decide_eq_true (by omega)
            have q1 : (P : Int).tdiv 2 = (Q : Int) := by rw [hPQ, Int.natCast_mul]; exact Int.mul_tdiv_cancel_left _ (by decide)
            have q4 : (P : Int) / 2 = (Q : Int) := by omega
            have q5 : P / 2 = Q := by omega
            have q2 : IntKind.i64.wrap (Q : Int) = (Q : Int) := IntWalk.i64_in _ (by omega)
            have q3 : wrap64 (Q : Int) = (Q : Int) := by unfold wrap64; omega
            have HR := lH (And.intro hlt2 (And.intro hPQ (And.intro hQ0 hQ)))
            clear hlt2 hPQ hQ0 hQ hP hi
            as_aux_lemma =>
              have o2 := X2.o
              go_wp2_with fail
              clear o2
              refine vM (AJ _ (ft.later kl)) fun wd bd => ?_
              replace X2 := X2.later bd; replace X1 := X1.later bd; replace X0 := X0.later bd; replace kl := bC kl bd
              clear bd
              have o2 := X2.o
              have m1 : ¬ (p1 = p2) := by omega
              have m0 : ¬ (w.heap.size = p2) := by omega
              have hY := ((X2.set 0 (.int .u64 (ph (i + 1)))).set 1 (.int .u64 (pl (i + 1)))).alloc (.cells #[.int .u64 (ph (i + 1)), .int .u64 (pl (i + 1)), .int .u8 g9] 30)
              have hY1 := HB.alloc (HB.other (HB.other X1 m1 0 (.int .u64 (ph (i + 1)))) m1 1 (.int .u64 (pl (i + 1)))) (.cells #[.int .u64 (ph (i + 1)), .int .u64 (pl (i + 1)), .int .u8 g9] 30)
              have hY0 := HB.alloc (HB.other (HB.other X0 m0 0 (.int .u64 (ph (i + 1)))) m0 1 (.int .u64 (pl (i + 1)))) (.cells #[.int .u64 (ph (i + 1)), .int .u64 (pl (i + 1)), .int .u8 g9] 30)
              have hk := bA ((kl.setCell (p := ⟨p2, 0, none⟩) g2 (.int .u64 (ph (i + 1)))).setCell (p := ⟨p2, 1, none⟩) g2 (.int .u64 (pl (i + 1)))) (.cells #[.int .u64 (ph (i + 1)), .int .u64 (pl (i + 1)), .int .u8 g9] 30)
              have KY := lH (And.intro hY (And.intro hY1 (And.intro hY0 hk)))
              clear hY hY1 hY0 hk X1 X0 kl X2
              go_wp2_with fail
              go_roundw
              case rel => exact ⟨i + 1, Q, by have := HR.out.1; omega, rfl, lH (show Pw23 Q j (i + 1) from HR.out.2.2.2), KY.out.1, KY.out.2.1, KY.out.2.2.1, KY.out.2.2.2⟩
              case measure =>
                have h2 := HR.out.2.1
                have h3 := HR.out.2.2.1
                clear HR HP q1 q2 q3 q4 q5 gi gI
                simp [intOf]
                omega
          · have hij : i = j := by omega
            subst hij
            have hP1 : P = 1 := by rw [show P = 2 ^ (i - i) from HP.out, Nat.sub_self]
            subst hP1
            have gi : decide ((1 : Int) < ((1 : Nat) : Int)) = false := by decide
            clear hlt2 hi HP
            as_aux_lemma =>
              have o2 := X2.o
              have o0 := X0.o
              go_wp2_with fail
              clear o2 o0
              refine vM (MU.out _ HJ.out.2.2.1 _ (ft.later kl)) fun wd bd => ?_
              replace X1 := X1.later bd; replace X0 := X0.later bd; replace kl := bC kl bd
              clear bd X2
              obtain ⟨A', F', SA, SI⟩ := SU.out A F _ IV.out HJ.out.2.2.1
              have SI := lH SI
              have o1 := X1.o
              have n1d : p1 < wd.heap.size := X1.lt
              have n0d : w.heap.size < wd.heap.size := X0.lt
              go_wp2_with fail
              clear o1
              refine vM (SA _ (ft.later (bA kl _))) fun we be => ?_
              have XM := (HB.newAt (b := wd.heap.size) (by simp) _ _).later be
              replace X1 := (X1.alloc _).later be; replace X0 := (X0.alloc _).later be; replace kl := bC (bA kl _) be
              clear be
              generalize hp3 : wd.heap.size = p3 at *
              clear hp3
              have oM := XM.o
              have o1 := X1.o
              have m1 : ¬ (w.heap.size = p1) := by omega
              have m3 : ¬ (p3 = p1) := by omega
              have m4 : ¬ (p1 = p3) := by omega
              have hY1 := ((X1.set 0 (.int .u64 (hiOf A'))).set 1 (.int .u64 (loOf A'))).set 2 (.int .u8 F')
              have hY0 := HB.other (HB.other (HB.other X0 m1 0 (.int .u64 (hiOf A'))) m1 1 (.int .u64 (loOf A'))) m1 2 (.int .u8 F')
              have hk := ((kl.setCell (p := ⟨p1, 0, none⟩) g1 (.int .u64 (hiOf A'))).setCell (p := ⟨p1, 1, none⟩) g1 (.int .u64 (loOf A'))).setCell (p := ⟨p1, 2, none⟩) g1 (.int .u8 F')
              have KY := lH (And.intro hY1 (And.intro hY0 hk))
              clear hY1 hY0 hk X1 X0 kl XM
              go_wp2_with fail
              go_roundw
              case rel => exact ⟨K - M, A', _, F', by have := HJ.out; omega, rfl, rfl, SI, KY.out.1, KY.out.2.1, KY.out.2.2⟩
              case measure => have := HJ.out; simp [intOf]; omega
      · have hk0 : K = 0 := by omega
        subst hk0
        have gk : decide ((0 : Int) < ((0 : Nat) : Int)) = false := by decide
        clear hlt hK
        by_cases hF : F = 0
        · subst hF
          obtain ⟨c, s, Z, OA, RA, NA⟩ := FI.out A IV.out
          have EQ := eqr23 (hiOf Z) (loOf Z) 0
          have o1 := X1.o
          go_wp2_with fail
          clear o1
          refine vM (OA _ (ft.later kl)) fun wa ba => ?_
          replace X1 := X1.later ba; replace X0 := X0.later ba; replace kl := bC kl ba
          have o1 := X1.o
          have o0 := X0.o
          go_wp2_with fail
          clear o1 o0
          refine vM (RA _ (ft.later kl)) fun wb bb => ?_
          replace kl := bC kl bb
          go_wp2_with fail
          refine vM (NA _ (ft.later kl)) fun wc bc => ?_
          replace kl := bC kl bc
          go_wp2_with fail
          refine vM (G.out _ (ft.later kl)) fun wd bd => ?_
          replace kl := bC kl bd
          go_wp2_with fail
          go_ret
          exact ⟨rfl, kl⟩
        · have nF : (F != 0) = true := bne_iff_ne.2 hF
          clear hF
          go_wp2_with fail
          refine vM (G.out _ (ft.later kl)) fun wd bd => ?_
          replace kl := bC kl bd
          go_wp2_with fail
          go_ret
          exact ⟨rfl, kl⟩
end Go.Proofs.YtjdjonekoodalaaGreatDoor
