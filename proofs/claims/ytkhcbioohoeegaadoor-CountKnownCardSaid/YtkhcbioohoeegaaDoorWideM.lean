/-
  Plain arithmetic of numbers of 256 bits. No Go in sight.
-/
import Derived.Test.YtkhcbioohoeegaaDoorWBoxes
set_option linter.unusedVariables false
set_option maxRecDepth 100000
namespace Go.Proofs.YtkhcbioohoeegaaDoor

theorem wd_of {d0 d1 d2 d3 n c : Int} (u0 : U64 d0) (u1 : U64 d1) (u2 : U64 d2) (u3 : U64 d3) (h : n = wval d0 d1 d2 d3 + c * wfull) : wd0 n = d0 ∧ wd1 n = d1 ∧ wd2 n = d2 ∧ wd3 n = d3 := by
  unfold U64 at u0 u1 u2 u3; unfold wval wfull at h; unfold wd0 wd1 wd2 wd3
  refine ⟨?_, ?_, ?_, ?_⟩ <;> omega
theorem addLo_eq (x y c : Int) : x + y + c = addLo x y c + addC x y c * 18446744073709551616 := by unfold addLo addC; omega
theorem subLo_eq {x y c : Int} (hx : U64 x) (hy : U64 y) (h0 : 0 ≤ c) (h1 : c ≤ 1) : x - y - c = subLo x y c - subC x y c * 18446744073709551616 := by
  unfold U64 at hx hy; unfold subLo subC; split <;> omega
theorem wadd_math {a0 a1 a2 a3 b0 b1 b2 b3 : Int} (ua0 : U64 a0) (ua1 : U64 a1) (ua2 : U64 a2) (ua3 : U64 a3) (ub0 : U64 b0) (ub1 : U64 b1) (ub2 : U64 b2) (ub3 : U64 b3) :
    (addLo a0 b0 0 = wd0 (wval a0 a1 a2 a3 + wval b0 b1 b2 b3) ∧ addLo a1 b1 (addC a0 b0 0) = wd1 (wval a0 a1 a2 a3 + wval b0 b1 b2 b3) ∧ addLo a2 b2 (addC a1 b1 (addC a0 b0 0)) = wd2 (wval a0 a1 a2 a3 + wval b0 b1 b2 b3) ∧ addLo a3 b3 (addC a2 b2 (addC a1 b1 (addC a0 b0 0))) = wd3 (wval a0 a1 a2 a3 + wval b0 b1 b2 b3)) ∧
    (addC a3 b3 (addC a2 b2 (addC a1 b1 (addC a0 b0 0))) != 0) = decide (wfull ≤ wval a0 a1 a2 a3 + wval b0 b1 b2 b3) := by
  have e0 := addLo_eq a0 b0 0
  have e1 := addLo_eq a1 b1 (addC a0 b0 0)
  have e2 := addLo_eq a2 b2 (addC a1 b1 (addC a0 b0 0))
  have e3 := addLo_eq a3 b3 (addC a2 b2 (addC a1 b1 (addC a0 b0 0)))
  have l0 := addLo_u a0 b0 0
  have l1 := addLo_u a1 b1 (addC a0 b0 0)
  have l2 := addLo_u a2 b2 (addC a1 b1 (addC a0 b0 0))
  have l3 := addLo_u a3 b3 (addC a2 b2 (addC a1 b1 (addC a0 b0 0)))
  have k1 := addC_01 ua0 ub0 (c := 0) (by omega) (by omega)
  have k2 := addC_01 ua1 ub1 k1.1 k1.2
  have k3 := addC_01 ua2 ub2 k2.1 k2.2
  have k4 := addC_01 ua3 ub3 k3.1 k3.2
  generalize addC a3 b3 (addC a2 b2 (addC a1 b1 (addC a0 b0 0))) = c4 at *
  generalize addLo a3 b3 (addC a2 b2 (addC a1 b1 (addC a0 b0 0))) = d3 at *
  generalize addC a2 b2 (addC a1 b1 (addC a0 b0 0)) = c3 at *
  generalize addLo a2 b2 (addC a1 b1 (addC a0 b0 0)) = d2 at *
  generalize addC a1 b1 (addC a0 b0 0) = c2 at *
  generalize addLo a1 b1 (addC a0 b0 0) = d1 at *
  generalize addC a0 b0 0 = c1 at *
  generalize addLo a0 b0 0 = d0 at *
  have hs : wval a0 a1 a2 a3 + wval b0 b1 b2 b3 = wval d0 d1 d2 d3 + c4 * wfull := by unfold wval wfull; omega
  have hw := wd_of l0 l1 l2 l3 hs
  have hr := wval_range l0 l1 l2 l3
  refine ⟨⟨hw.1.symm, hw.2.1.symm, hw.2.2.1.symm, hw.2.2.2.symm⟩, ?_⟩
  rw [Bool.eq_iff_iff]; simp only [bne_iff_ne, ne_eq, decide_eq_true_eq]
  rw [hs]; generalize wval d0 d1 d2 d3 = m at *; unfold wfull at *; omega
theorem wsub_math {a0 a1 a2 a3 b0 b1 b2 b3 : Int} (ua0 : U64 a0) (ua1 : U64 a1) (ua2 : U64 a2) (ua3 : U64 a3) (ub0 : U64 b0) (ub1 : U64 b1) (ub2 : U64 b2) (ub3 : U64 b3) :
    (subLo a0 b0 0 = wd0 (wval a0 a1 a2 a3 - wval b0 b1 b2 b3) ∧ subLo a1 b1 (subC a0 b0 0) = wd1 (wval a0 a1 a2 a3 - wval b0 b1 b2 b3) ∧ subLo a2 b2 (subC a1 b1 (subC a0 b0 0)) = wd2 (wval a0 a1 a2 a3 - wval b0 b1 b2 b3) ∧ subLo a3 b3 (subC a2 b2 (subC a1 b1 (subC a0 b0 0))) = wd3 (wval a0 a1 a2 a3 - wval b0 b1 b2 b3)) ∧
    (subC a3 b3 (subC a2 b2 (subC a1 b1 (subC a0 b0 0))) != 0) = decide (wval a0 a1 a2 a3 < wval b0 b1 b2 b3) := by
  have k1 := subC_01 a0 b0 0
  have k2 := subC_01 a1 b1 (subC a0 b0 0)
  have k3 := subC_01 a2 b2 (subC a1 b1 (subC a0 b0 0))
  have k4 := subC_01 a3 b3 (subC a2 b2 (subC a1 b1 (subC a0 b0 0)))
  have e0 := subLo_eq ua0 ub0 (c := 0) (by omega) (by omega)
  have e1 := subLo_eq ua1 ub1 k1.1 k1.2
  have e2 := subLo_eq ua2 ub2 k2.1 k2.2
  have e3 := subLo_eq ua3 ub3 k3.1 k3.2
  have l0 := subLo_u a0 b0 0
  have l1 := subLo_u a1 b1 (subC a0 b0 0)
  have l2 := subLo_u a2 b2 (subC a1 b1 (subC a0 b0 0))
  have l3 := subLo_u a3 b3 (subC a2 b2 (subC a1 b1 (subC a0 b0 0)))
  generalize subC a3 b3 (subC a2 b2 (subC a1 b1 (subC a0 b0 0))) = c4 at *
  generalize subLo a3 b3 (subC a2 b2 (subC a1 b1 (subC a0 b0 0))) = d3 at *
  generalize subC a2 b2 (subC a1 b1 (subC a0 b0 0)) = c3 at *
  generalize subLo a2 b2 (subC a1 b1 (subC a0 b0 0)) = d2 at *
  generalize subC a1 b1 (subC a0 b0 0) = c2 at *
  generalize subLo a1 b1 (subC a0 b0 0) = d1 at *
  generalize subC a0 b0 0 = c1 at *
  generalize subLo a0 b0 0 = d0 at *
  have hs : wval a0 a1 a2 a3 - wval b0 b1 b2 b3 = wval d0 d1 d2 d3 + (-c4) * wfull := by unfold wval wfull; omega
  have hw := wd_of l0 l1 l2 l3 hs
  have hr := wval_range l0 l1 l2 l3
  refine ⟨⟨hw.1.symm, hw.2.1.symm, hw.2.2.1.symm, hw.2.2.2.symm⟩, ?_⟩
  rw [Bool.eq_iff_iff]; simp only [bne_iff_ne, ne_eq, decide_eq_true_eq]
  generalize wval d0 d1 d2 d3 = m at *
  generalize wval a0 a1 a2 a3 = x at *
  generalize wval b0 b1 b2 b3 = y at *
  unfold wfull at *; omega
theorem wval_zero {a0 a1 a2 a3 : Int} (ua0 : U64 a0) (ua1 : U64 a1) (ua2 : U64 a2) (ua3 : U64 a3) : (wval a0 a1 a2 a3 == 0) = (a0 == 0 && (a1 == 0 && (a2 == 0 && a3 == 0))) := by
  unfold U64 at ua0 ua1 ua2 ua3
  rw [Bool.eq_iff_iff]; simp only [beq_iff_eq, Bool.and_eq_true]
  unfold wval; omega
theorem wval_val {a0 a1 a2 a3 : Int} : wval a0 a1 a2 a3 = val a1 a0 + val a3 a2 * 340282366920938463463374607431768211456 := by unfold wval val; omega
theorem wcmp {a0 a1 a2 a3 b0 b1 b2 b3 : Int} (ua0 : U64 a0) (ua1 : U64 a1) (ua2 : U64 a2) (ua3 : U64 a3) (ub0 : U64 b0) (ub1 : U64 b1) (ub2 : U64 b2) (ub3 : U64 b3) :
    (cmpI (val a3 a2) (val b3 b2) ≠ 0 → cmpI (wval a0 a1 a2 a3) (wval b0 b1 b2 b3) = cmpI (val a3 a2) (val b3 b2)) ∧ (cmpI (val a3 a2) (val b3 b2) = 0 → cmpI (wval a0 a1 a2 a3) (wval b0 b1 b2 b3) = cmpI (val a1 a0) (val b1 b0)) := by
  rw [wval_val, wval_val]
  have h1 := val_range ua3 ua2; have h2 := val_range ub3 ub2; have h3 := val_range ua1 ua0; have h4 := val_range ub1 ub0
  generalize val a3 a2 = x at *; generalize val b3 b2 = y at *; generalize val a1 a0 = p at *; generalize val b1 b0 = q at *
  unfold full at *
  have c1 := cmpI_cases x y; have c2 := cmpI_cases p q; have c3 := cmpI_cases (p + x * 340282366920938463463374607431768211456) (q + y * 340282366920938463463374607431768211456)
  rcases Int.lt_trichotomy x y with h | h | h
  · rw [c1.1 h, c3.1 (by omega)]; simp
  · subst h
    rw [c1.2.2 rfl]
    refine ⟨fun h => absurd rfl h, fun _ => ?_⟩
    rcases Int.lt_trichotomy p q with g | g | g
    · rw [c2.1 g, c3.1 (by omega)]
    · rw [c2.2.2 g, c3.2.2 (by omega)]
    · rw [c2.2.1 g, c3.2.1 (by omega)]
  · rw [c1.2.1 h, c3.2.1 (by omega)]; simp
theorem mul_small {a b : Int} (ha : U64 a) (hb : U64 b) : 0 ≤ a * b ∧ a * b ≤ 340282366920938463426481119284349108225 := by
  obtain ⟨X, rfl⟩ := Int.eq_ofNat_of_zero_le ha.1
  obtain ⟨Y, rfl⟩ := Int.eq_ofNat_of_zero_le hb.1
  have hx : X ≤ 18446744073709551615 := by have := ha.2; omega
  have hy : Y ≤ 18446744073709551615 := by have := hb.2; omega
  have hp : X * Y ≤ 18446744073709551615 * 18446744073709551615 := Nat.mul_le_mul hx hy
  rw [← Int.natCast_mul]; omega
theorem val_prod (ah al bh bl : Int) : val ah al * val bh bl = al * bl + (ah * bh) * 340282366920938463463374607431768211456 + (ah * bl) * 18446744073709551616 + (al * bh) * 18446744073709551616 := by
  unfold val
  rw [Int.add_mul, Int.mul_add, Int.mul_add]
  have e1 : ah * 18446744073709551616 * (bh * 18446744073709551616) = (ah * bh) * 340282366920938463463374607431768211456 := by
    rw [show (340282366920938463463374607431768211456 : Int) = 18446744073709551616 * 18446744073709551616 from by decide +kernel]; ac_rfl
  have e2 : ah * 18446744073709551616 * bl = (ah * bl) * 18446744073709551616 := by ac_rfl
  have e3 : al * (bh * 18446744073709551616) = (al * bh) * 18446744073709551616 := by ac_rfl
  rw [e1, e2, e3]; omega
theorem hilo_of (n : Int) (h0 : 0 ≤ n) (h1 : n < full) : n = loOf n + hiOf n * 18446744073709551616 := by unfold loOf hiOf full at *; omega
theorem wprod_range {ah al bh bl : Int} (u1 : U64 ah) (u2 : U64 al) (u3 : U64 bh) (u4 : U64 bl) : 0 ≤ val ah al * val bh bl ∧ val ah al * val bh bl < wfull := by
  have h1 := mul_small u1 u3; have h2 := mul_small u2 u4; have h3 := mul_small u1 u4; have h4 := mul_small u2 u3
  rw [val_prod]; unfold wfull; omega

end Go.Proofs.YtkhcbioohoeegaaDoor
