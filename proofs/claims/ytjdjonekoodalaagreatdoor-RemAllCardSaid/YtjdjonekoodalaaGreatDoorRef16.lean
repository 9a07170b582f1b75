import Derived.Test.YtjdjonekoodalaaGreatDoorRef16Ws
import Derived.Test.YtjdjonekoodalaaGreatDoorRef16Wn
import Derived.Test.YtjdjonekoodalaaGreatDoorRef14
import Derived.Test.YtjdjonekoodalaaGreatDoorGpA
set_option maxHeartbeats 1000000
set_option linter.unusedVariables false
set_option linter.unusedSimpArgs false
set_option maxRecDepth 100000
namespace Go.Proofs.YtjdjonekoodalaaGreatDoor
open Go.RowKit
attribute [local go_sem ↓] Go.wp_at_zero Go.wp_at_succ
theorem wr16 {x y : Int} (h : x = y) (h0 : -9223372036854775808 ≤ y) (h1 : y ≤ 9223372036854775807) : IntKind.i64.wrap x = y ∧ wrap64 x = y := by
  subst h; exact ⟨IntWalk.i64_in _ (by omega), by unfold wrap64; omega⟩
theorem ref16_prec (f : Int) (f0 : 0 ≤ f) (f1 : f ≤ 255) (w : World) : Calls Tryz.prog 72 #[.int .u8 f] w fun e w' => e = .returned (.int .i64 (fP f)) ∧ Below w.heap.size w w' := (ref7_prec f f0 f1 w).mono fun e w' ⟨h, e2⟩ => ⟨h, e2 ▸ bR⟩
theorem ref16_emax (f : Int) (f0 : 0 ≤ f) (f1 : f ≤ 255) (w : World) : Calls Tryz.prog 73 #[.int .u8 f] w fun e w' => e = .returned (.int .i64 (fE f)) ∧ Below w.heap.size w w' := (ref7_emax f f0 f1 w).mono fun e w' ⟨h, e2⟩ => ⟨h, e2 ▸ bR⟩
theorem ref16_round (f m : Int) (t ng : Bool) (q E : Int) (more : Bool) (v : Value) (f0 : 0 ≤ f) (f1 : f ≤ 255) (m0 : 0 ≤ m) (m1 : m ≤ 255) (hq : 0 < q ∨ more = false) (hl : blen q ≤ 100000) (E0 : -3000000000000 ≤ E) (E1 : E ≤ 3000000000000) (w : World) (nq : IsNum w v q) : Calls Tryz.prog 38 #[.int .u8 f, .agg #[.int .u8 m, .bool t], .agg #[.bool ng, v, .int .i64 E, .bool more]] w fun e w' => e = .returned (.agg #[.int .u64 (hiOf (dcB f m ng q E more)), .int .u64 (loOf (dcB f m ng q E more)), .int .u8 (dcFl f m t ng q E more)]) ∧ Below w.heap.size w w' := by
  obtain ⟨ao, kl, cap, es, rfl, hd, hn, hnorm⟩ := id nq
  clear hd hn hnorm
  have hz := len_zero15 nq
  have q0 := nq.nonneg
  unfold dcB dcFl
  by_cases hfm : f < 4 ∧ m < 5
  · obtain ⟨hf, hm⟩ := hfm
    have G1 : decide (3 < f) = false := decide_eq_false (by omega)
    have G2 : decide (4 < m) = false := decide_eq_false (by omega)
    rw [if_pos (show f < 4 ∧ m < 5 from ⟨hf, hm⟩)]
    by_cases z : q = 0
    · have hmo : more = false := hq.resolve_left (by omega)
      subst z; subst hmo
      rw [if_pos (show (0 : Int) = 0 ∧ false = false from ⟨rfl, rfl⟩), if_neg (fun h => h.2 ⟨rfl, rfl⟩)]
      exact ref16_zero ao kl cap f m E 0 _ _ t ng (lH fun w => ref7_make f 0 0 ng _ f0 f1 (by decide) (by decide) small_0 w (nil_num w)) G1 G2 (by rw [hz]; rfl) w nq
    · have qp : 0 < q := by omega
      have NZ : ¬ (q = 0 ∧ more = false) := fun h => z h.1
      rw [if_neg NZ, if_pos (show (f < 4 ∧ m < 5) ∧ ¬ (q = 0 ∧ more = false) from ⟨⟨hf, hm⟩, NZ⟩)]
      have HZ : ((kl : Int) == 0) = false := by rw [hz]; simp [z]
      obtain ⟨p0, p1, p2, p3, p4, p5, p6, p7, p8⟩ := f_nums f0 hf
      obtain ⟨c0, c1, cA⟩ := dcA_cases f0 hf qp m ng E more
      obtain ⟨n0, n1, n2, n3⟩ := dcN_bounds f0 hf qp m ng E more
      have lb := blen_pos qp
      have eD : dcE q E = blen q - 1 + E := rfl
      have eU : dcU f q E = pkL f (dcE q E) - dcE q E + (blen q - fP f) := rfl
      have eA : dcA f m ng q E more = blen (cutQ q (blen q - fP f) more m ng) - fP f + dcE q E := rfl
      have hL := pkL_cases f (dcE q E)
      have QM : (if (1 - (fE f : Int)) > dcE q E then 1 - (fE f : Int) else dcE q E) = pkL f (dcE q E) := rfl
      have PR := lH (ref16_prec f f0 f1)
      have EM := lH (ref16_emax f f0 f1)
      have LX := lH fun w v (h : IsNum w v q) => lenN h
      have C1 := lH fun w v (h : IsNum w v q) => ref15_cut q (blen q - fP f) more m ng v hl (by omega) (by omega) w h
      have LY := lH fun w v (h : IsNum w v (cutQ q (blen q - fP f) more m ng)) => lenN h
      have C2 := lH fun w v (h : IsNum w v q) => ref15_cut q (dcU f q E) more m ng v hl (by omega) (by omega) w h
      have LZ := lH fun w v (h : IsNum w v (cutQ q (dcU f q E) more m ng)) => lenN h
      have pt1 := pt_nor (f := f) (ng := ng) (l := pkL f (dcE q E)) (n := cutQ q (dcU f q E) more m ng) f0 hf
      generalize cutQ q (blen q - fP f) more m ng = Y1 at *
      generalize restQ q (blen q - fP f) more = R1 at *
      generalize cutQ q (dcU f q E) more m ng = Y2 at *
      generalize restQ q (dcU f q E) more = R2 at *
      generalize dcA f m ng q E more = A at *
      generalize dcU f q E = U at *
      generalize dcE q E = e at *
      generalize pkL f e = L at *
      have W1 := lH (wr16 (x := 1 - (fE f : Int)) (y := 1 - (fE f : Int)) (by omega) (by omega) (by omega))
      have W2 := lH (wr16 (x := (blen q : Int) - 1) (y := (blen q : Int) - 1) (by omega) (by omega) (by omega))
      have W3 := lH (wr16 (x := (blen q : Int) - 1 + E) (y := e) (by omega) (by omega) (by omega))
      have W4 := lH (wr16 (x := (fP f : Int) - 1) (y := (fP f : Int) - 1) (by omega) (by omega) (by omega))
      have W5 := lH (wr16 (x := e - ((fP f : Int) - 1)) (y := e - ((fP f : Int) - 1)) (by omega) (by omega) (by omega))
      have W6 := lH (wr16 (x := e - ((fP f : Int) - 1) - E) (y := (blen q : Int) - fP f) (by omega) (by omega) (by omega))
      have W7 := lH (wr16 (x := (blen Y1 : Int) - 1) (y := (blen Y1 : Int) - 1) (by omega) (by omega) (by omega))
      have W8 := lH (wr16 (x := (blen Y1 : Int) - 1 + e) (y := (blen Y1 : Int) - 1 + e) (by omega) (by omega) (by omega))
      have W9 := lH (wr16 (x := (blen Y1 : Int) - 1 + e - ((fP f : Int) - 1)) (y := A) (by omega) (by omega) (by omega))
      by_cases ov : (fE f : Int) < A
      · rw [if_pos ov, if_pos ov]
        exact ref16_over ao kl cap f m E q (fP f) (fE f) (1 - (fE f : Int)) (blen q) ((blen q : Int) - 1) e ((fP f : Int) - 1) (e - ((fP f : Int) - 1)) ((blen q : Int) - fP f) Y1 R1 (blen Y1) ((blen Y1 : Int) - 1) ((blen Y1 : Int) - 1 + e) A _ _ _ t ng more PR EM (lH (ref14_over f m ng f0 f1 m0)) G1 G2 HZ W1.out.1 W1.out.2 W2.out.1 W2.out.2 W3.out.1 W3.out.2 W4.out.1 W4.out.2 W5.out.1 W5.out.2 W6.out.1 W6.out.2 W7.out.1 W7.out.2 W8.out.1 W8.out.2 W9.out.1 W9.out.2 LX C1 LY (decide_eq_true ov) w nq
      · rw [if_neg ov, if_neg ov]
        have G3 : decide ((fE f : Int) < A) = false := decide_eq_false ov
        have eE : e ≤ fE f := by rcases cA with ⟨h, _⟩ | ⟨h, _⟩ <;> omega
        have V1 := lH (wr16 (x := L - ((fP f : Int) - 1)) (y := L - ((fP f : Int) - 1)) (by omega) (by omega) (by omega))
        have V2 := lH (wr16 (x := L - ((fP f : Int) - 1) - E) (y := U) (by omega) (by omega) (by omega))
        have tp := pow_top (show 1 ≤ fP f by omega)
        have hp := two_pow_pos (fP f - 1)
        have SY : Small Y2 := small_full (by
          have := two_pow_le (show fP f ≤ 127 by omega)
          have : (2 : Int) ^ 127 < full := by decide +kernel
          omega)
        by_cases sb : Y2 < 2 ^ (fP f - 1)
        · have l2 := blen_le n0 sb
          have G4 : decide ((blen Y2 : Int) < fP f) = true := decide_eq_true (by omega)
          have eL : L = 1 - fE f := by
            rcases hL with ⟨_, h⟩ | ⟨g, h⟩
            · exact h
            · exact absurd (n3 g).1 (by omega)
          have MK := lH fun w v (h : IsNum w v Y2) => ref7_make f 0 Y2 ng v f0 f1 (by decide) (by decide) SY w h
          rw [show ptF f ng L Y2 = makeF f ng 0 Y2 from by rw [eL]; exact pt_sub f0 hf ng n0 sb]
          by_cases hr : R2 = 0
          · rw [if_pos hr]
            exact ref16_sub_exact ao kl cap f m E q (fP f) (fE f) (1 - (fE f : Int)) (blen q) ((blen q : Int) - 1) e ((fP f : Int) - 1) (e - ((fP f : Int) - 1)) ((blen q : Int) - fP f) Y1 R1 (blen Y1) ((blen Y1 : Int) - 1) ((blen Y1 : Int) - 1 + e) A L (L - ((fP f : Int) - 1)) U Y2 R2 (blen Y2) _ _ t ng more PR EM G1 G2 HZ W1.out.1 W1.out.2 W2.out.1 W2.out.2 W3.out.1 W3.out.2 W4.out.1 W4.out.2 W5.out.1 W5.out.2 W6.out.1 W6.out.2 W7.out.1 W7.out.2 W8.out.1 W8.out.2 W9.out.1 W9.out.2 QM QM V1.out.1 V1.out.2 V2.out.1 V2.out.2 LX C1 LY G3 C2 LZ G4 MK (by simp [hr]) w nq
          · rw [if_neg hr]
            have G5 : (R2 == 0) = false := by simp [hr]
            cases t with
            | false =>
              simp only [Bool.false_eq_true, if_false]
              by_cases ti : e < 1 - (fE f : Int)
              · rw [if_pos ti]
                exact ref16_sub_01 ao kl cap f m E q (fP f) (fE f) (1 - (fE f : Int)) (blen q) ((blen q : Int) - 1) e ((fP f : Int) - 1) (e - ((fP f : Int) - 1)) ((blen q : Int) - fP f) Y1 R1 (blen Y1) ((blen Y1 : Int) - 1) ((blen Y1 : Int) - 1 + e) A L (L - ((fP f : Int) - 1)) U Y2 R2 (blen Y2) _ _ ng more PR EM G1 G2 HZ W1.out.1 W1.out.2 W2.out.1 W2.out.2 W3.out.1 W3.out.2 W4.out.1 W4.out.2 W5.out.1 W5.out.2 W6.out.1 W6.out.2 W7.out.1 W7.out.2 W8.out.1 W8.out.2 W9.out.1 W9.out.2 QM QM V1.out.1 V1.out.2 V2.out.1 V2.out.2 LX C1 LY G3 C2 LZ G4 MK G5 (decide_eq_true ti) w nq
              · rw [if_neg ti]
                exact ref16_sub_00 ao kl cap f m E q (fP f) (fE f) (1 - (fE f : Int)) (blen q) ((blen q : Int) - 1) e ((fP f : Int) - 1) (e - ((fP f : Int) - 1)) ((blen q : Int) - fP f) Y1 R1 (blen Y1) ((blen Y1 : Int) - 1) ((blen Y1 : Int) - 1 + e) A L (L - ((fP f : Int) - 1)) U Y2 R2 (blen Y2) _ _ ng more PR EM G1 G2 HZ W1.out.1 W1.out.2 W2.out.1 W2.out.2 W3.out.1 W3.out.2 W4.out.1 W4.out.2 W5.out.1 W5.out.2 W6.out.1 W6.out.2 W7.out.1 W7.out.2 W8.out.1 W8.out.2 W9.out.1 W9.out.2 QM QM V1.out.1 V1.out.2 V2.out.1 V2.out.2 LX C1 LY G3 C2 LZ G4 MK G5 (decide_eq_false ti) w nq
            | true =>
              simp only [if_true]
              by_cases ti : A < 1 - (fE f : Int)
              · rw [if_pos ti]
                exact ref16_sub_11 ao kl cap f m E q (fP f) (fE f) (1 - (fE f : Int)) (blen q) ((blen q : Int) - 1) e ((fP f : Int) - 1) (e - ((fP f : Int) - 1)) ((blen q : Int) - fP f) Y1 R1 (blen Y1) ((blen Y1 : Int) - 1) ((blen Y1 : Int) - 1 + e) A L (L - ((fP f : Int) - 1)) U Y2 R2 (blen Y2) _ _ _ ng more PR EM G1 G2 HZ W1.out.1 W1.out.2 W2.out.1 W2.out.2 W3.out.1 W3.out.2 W4.out.1 W4.out.2 W5.out.1 W5.out.2 W6.out.1 W6.out.2 W7.out.1 W7.out.2 W8.out.1 W8.out.2 W9.out.1 W9.out.2 QM QM V1.out.1 V1.out.2 V2.out.1 V2.out.2 LX C1 LY G3 C2 LZ G4 MK G5 (decide_eq_true ti) rfl w nq
              · rw [if_neg ti]
                exact ref16_sub_10 ao kl cap f m E q (fP f) (fE f) (1 - (fE f : Int)) (blen q) ((blen q : Int) - 1) e ((fP f : Int) - 1) (e - ((fP f : Int) - 1)) ((blen q : Int) - fP f) Y1 R1 (blen Y1) ((blen Y1 : Int) - 1) ((blen Y1 : Int) - 1 + e) A L (L - ((fP f : Int) - 1)) U Y2 R2 (blen Y2) _ _ _ ng more PR EM G1 G2 HZ W1.out.1 W1.out.2 W2.out.1 W2.out.2 W3.out.1 W3.out.2 W4.out.1 W4.out.2 W5.out.1 W5.out.2 W6.out.1 W6.out.2 W7.out.1 W7.out.2 W8.out.1 W8.out.2 W9.out.1 W9.out.2 QM QM V1.out.1 V1.out.2 V2.out.1 V2.out.2 LX C1 LY G3 C2 LZ G4 MK G5 (decide_eq_false ti) rfl w nq
        · have sb' : 2 ^ (fP f - 1) ≤ Y2 := by omega
          have bl := blen_two (show 1 ≤ fP f by omega) sb' n1
          have l0 : 1 - fE f ≤ L ∧ L ≤ fE f := by rcases hL with ⟨_, h⟩ | ⟨_, h⟩ <;> omega
          obtain ⟨X3, hX⟩ : ∃ X3 : Int, (blen Y2 : Int) - 1 + (L - ((fP f : Int) - 1)) - (1 - (fE f : Int)) + 1 = X3 := ⟨_, rfl⟩
          have G4 : decide ((blen Y2 : Int) < fP f) = false := decide_eq_false (by omega)
          obtain ⟨k, hk⟩ : ∃ k : Nat, (blen Y2 : Int) - fP f = k := ⟨((blen Y2 : Int) - fP f).toNat, by omega⟩
          have SH := lH fun w v (h : IsNum w v Y2) => shr_num h k (by omega)
          rw [← hk] at SH
          obtain ⟨Y3, hY3⟩ : ∃ Y3, Y2 / 2 ^ k = Y3 := ⟨_, rfl⟩
          rw [hY3] at SH
          have y3 := div_back Y2 k n0
          rw [hY3] at y3
          have MK := lH fun w v (h : IsNum w v Y3) => ref7_make f X3 Y3 ng v f0 f1 (by omega) (by omega) (by unfold Small at *; omega) w h
          have pv : makeF f ng X3 Y3 = ptF f ng L Y2 := by
            rcases bl with ⟨b, h⟩ | ⟨b, h⟩
            · obtain rfl : k = 0 := by omega
              rw [Int.pow_zero, Int.ediv_one] at hY3
              subst hY3
              rw [pt_nor f0 hf ng sb' (by omega) l0.1 (by omega), show X3 = L + fE f by omega]
            · obtain rfl : k = 1 := by omega
              have : Y3 = 2 ^ (fP f - 1) := by rw [← hY3, h, tp, Int.pow_succ, Int.pow_zero, Int.one_mul, Int.mul_ediv_cancel _ (by decide)]
              rw [h, pt_top f0 hf ng l0.1 l0.2, this, show X3 = L + fE f + 1 by omega]
          rw [pv] at MK
          have U1 := lH (wr16 (x := (blen Y2 : Int) - 1) (y := (blen Y2 : Int) - 1) (by omega) (by omega) (by omega))
          have U2 := lH (wr16 (x := (blen Y2 : Int) - 1 + (L - ((fP f : Int) - 1))) (y := (blen Y2 : Int) - 1 + (L - ((fP f : Int) - 1))) (by omega) (by omega) (by omega))
          have U3 := lH (wr16 (x := (blen Y2 : Int) - fP f) (y := (blen Y2 : Int) - fP f) (by omega) (by omega) (by omega))
          have U4 := lH (wr16 (x := (blen Y2 : Int) - 1 + (L - ((fP f : Int) - 1)) - (1 - (fE f : Int))) (y := (blen Y2 : Int) - 1 + (L - ((fP f : Int) - 1)) - (1 - (fE f : Int))) (by omega) (by omega) (by omega))
          have U5 := lH (wr16 (x := (blen Y2 : Int) - 1 + (L - ((fP f : Int) - 1)) - (1 - (fE f : Int)) + 1) (y := X3) (by omega) (by omega) (by omega))
          by_cases hr : R2 = 0
          · rw [if_pos hr]
            exact ref16_nor_exact ao kl cap f m E q (fP f) (fE f) (1 - (fE f : Int)) (blen q) ((blen q : Int) - 1) e ((fP f : Int) - 1) (e - ((fP f : Int) - 1)) ((blen q : Int) - fP f) Y1 R1 (blen Y1) ((blen Y1 : Int) - 1) ((blen Y1 : Int) - 1 + e) A L (L - ((fP f : Int) - 1)) U Y2 R2 (blen Y2) ((blen Y2 : Int) - 1) ((blen Y2 : Int) - 1 + (L - ((fP f : Int) - 1))) ((blen Y2 : Int) - fP f) ((blen Y2 : Int) - 1 + (L - ((fP f : Int) - 1)) - (1 - (fE f : Int))) X3 Y3 _ _ t ng more PR EM G1 G2 HZ W1.out.1 W1.out.2 W2.out.1 W2.out.2 W3.out.1 W3.out.2 W4.out.1 W4.out.2 W5.out.1 W5.out.2 W6.out.1 W6.out.2 W7.out.1 W7.out.2 W8.out.1 W8.out.2 W9.out.1 W9.out.2 QM QM V1.out.1 V1.out.2 V2.out.1 V2.out.2 U1.out.1 U1.out.2 U2.out.1 U2.out.2 U3.out.1 U3.out.2 U4.out.1 U4.out.2 U5.out.1 U5.out.2 LX C1 LY G3 C2 LZ G4 SH MK (by simp [hr]) w nq
          · rw [if_neg hr]
            have G5 : (R2 == 0) = false := by simp [hr]
            cases t with
            | false =>
              simp only [Bool.false_eq_true, if_false]
              by_cases ti : e < 1 - (fE f : Int)
              · rw [if_pos ti]
                exact ref16_nor_01 ao kl cap f m E q (fP f) (fE f) (1 - (fE f : Int)) (blen q) ((blen q : Int) - 1) e ((fP f : Int) - 1) (e - ((fP f : Int) - 1)) ((blen q : Int) - fP f) Y1 R1 (blen Y1) ((blen Y1 : Int) - 1) ((blen Y1 : Int) - 1 + e) A L (L - ((fP f : Int) - 1)) U Y2 R2 (blen Y2) ((blen Y2 : Int) - 1) ((blen Y2 : Int) - 1 + (L - ((fP f : Int) - 1))) ((blen Y2 : Int) - fP f) ((blen Y2 : Int) - 1 + (L - ((fP f : Int) - 1)) - (1 - (fE f : Int))) X3 Y3 _ _ ng more PR EM G1 G2 HZ W1.out.1 W1.out.2 W2.out.1 W2.out.2 W3.out.1 W3.out.2 W4.out.1 W4.out.2 W5.out.1 W5.out.2 W6.out.1 W6.out.2 W7.out.1 W7.out.2 W8.out.1 W8.out.2 W9.out.1 W9.out.2 QM QM V1.out.1 V1.out.2 V2.out.1 V2.out.2 U1.out.1 U1.out.2 U2.out.1 U2.out.2 U3.out.1 U3.out.2 U4.out.1 U4.out.2 U5.out.1 U5.out.2 LX C1 LY G3 C2 LZ G4 SH MK G5 (decide_eq_true ti) w nq
              · rw [if_neg ti]
                exact ref16_nor_00 ao kl cap f m E q (fP f) (fE f) (1 - (fE f : Int)) (blen q) ((blen q : Int) - 1) e ((fP f : Int) - 1) (e - ((fP f : Int) - 1)) ((blen q : Int) - fP f) Y1 R1 (blen Y1) ((blen Y1 : Int) - 1) ((blen Y1 : Int) - 1 + e) A L (L - ((fP f : Int) - 1)) U Y2 R2 (blen Y2) ((blen Y2 : Int) - 1) ((blen Y2 : Int) - 1 + (L - ((fP f : Int) - 1))) ((blen Y2 : Int) - fP f) ((blen Y2 : Int) - 1 + (L - ((fP f : Int) - 1)) - (1 - (fE f : Int))) X3 Y3 _ _ ng more PR EM G1 G2 HZ W1.out.1 W1.out.2 W2.out.1 W2.out.2 W3.out.1 W3.out.2 W4.out.1 W4.out.2 W5.out.1 W5.out.2 W6.out.1 W6.out.2 W7.out.1 W7.out.2 W8.out.1 W8.out.2 W9.out.1 W9.out.2 QM QM V1.out.1 V1.out.2 V2.out.1 V2.out.2 U1.out.1 U1.out.2 U2.out.1 U2.out.2 U3.out.1 U3.out.2 U4.out.1 U4.out.2 U5.out.1 U5.out.2 LX C1 LY G3 C2 LZ G4 SH MK G5 (decide_eq_false ti) w nq
            | true =>
              simp only [if_true]
              by_cases ti : A < 1 - (fE f : Int)
              · rw [if_pos ti]
                exact ref16_nor_11 ao kl cap f m E q (fP f) (fE f) (1 - (fE f : Int)) (blen q) ((blen q : Int) - 1) e ((fP f : Int) - 1) (e - ((fP f : Int) - 1)) ((blen q : Int) - fP f) Y1 R1 (blen Y1) ((blen Y1 : Int) - 1) ((blen Y1 : Int) - 1 + e) A L (L - ((fP f : Int) - 1)) U Y2 R2 (blen Y2) ((blen Y2 : Int) - 1) ((blen Y2 : Int) - 1 + (L - ((fP f : Int) - 1))) ((blen Y2 : Int) - fP f) ((blen Y2 : Int) - 1 + (L - ((fP f : Int) - 1)) - (1 - (fE f : Int))) X3 Y3 _ _ _ ng more PR EM G1 G2 HZ W1.out.1 W1.out.2 W2.out.1 W2.out.2 W3.out.1 W3.out.2 W4.out.1 W4.out.2 W5.out.1 W5.out.2 W6.out.1 W6.out.2 W7.out.1 W7.out.2 W8.out.1 W8.out.2 W9.out.1 W9.out.2 QM QM V1.out.1 V1.out.2 V2.out.1 V2.out.2 U1.out.1 U1.out.2 U2.out.1 U2.out.2 U3.out.1 U3.out.2 U4.out.1 U4.out.2 U5.out.1 U5.out.2 LX C1 LY G3 C2 LZ G4 SH MK G5 (decide_eq_true ti) rfl w nq
              · rw [if_neg ti]
                exact ref16_nor_10 ao kl cap f m E q (fP f) (fE f) (1 - (fE f : Int)) (blen q) ((blen q : Int) - 1) e ((fP f : Int) - 1) (e - ((fP f : Int) - 1)) ((blen q : Int) - fP f) Y1 R1 (blen Y1) ((blen Y1 : Int) - 1) ((blen Y1 : Int) - 1 + e) A L (L - ((fP f : Int) - 1)) U Y2 R2 (blen Y2) ((blen Y2 : Int) - 1) ((blen Y2 : Int) - 1 + (L - ((fP f : Int) - 1))) ((blen Y2 : Int) - fP f) ((blen Y2 : Int) - 1 + (L - ((fP f : Int) - 1)) - (1 - (fE f : Int))) X3 Y3 _ _ _ ng more PR EM G1 G2 HZ W1.out.1 W1.out.2 W2.out.1 W2.out.2 W3.out.1 W3.out.2 W4.out.1 W4.out.2 W5.out.1 W5.out.2 W6.out.1 W6.out.2 W7.out.1 W7.out.2 W8.out.1 W8.out.2 W9.out.1 W9.out.2 QM QM V1.out.1 V1.out.2 V2.out.1 V2.out.2 U1.out.1 U1.out.2 U2.out.1 U2.out.2 U3.out.1 U3.out.2 U4.out.1 U4.out.2 U5.out.1 U5.out.2 LX C1 LY G3 C2 LZ G4 SH MK G5 (decide_eq_false ti) rfl w nq
  · have z1 : (if f < 4 ∧ m < 5 then (if q = 0 ∧ more = false then makeF f ng 0 0 else if fE f < dcA f m ng q E more then overB f m ng else ptF f ng (pkL f (dcE q E)) (cutQ q (dcU f q E) more m ng)) else 0) = 0 := if_neg hfm
    rw [z1, if_neg (fun h => hfm h.1)]
    by_cases hf : f < 4
    · exact ref16_no2 ao kl cap f m E q t ng more (decide_eq_false (by omega)) (decide_eq_true (by omega)) w nq
    · exact ref16_no1 ao kl cap f m E q t ng more (decide_eq_true (by omega)) w nq
end Go.Proofs.YtjdjonekoodalaaGreatDoor
