/-
  Numbers rounded to a format: neighbours, tininess, the other sign, what is jammed, what a format has; plain arithmetic.
-/
import Derived.Test.YtbcjboaihahemaaGreatDoorPack16M
set_option linter.unusedVariables false
set_option linter.unusedSimpArgs false
set_option maxRecDepth 100000
namespace Go.Proofs.YtbcjboaihahemaaGreatDoor
open Go.RowKit

theorem pk_num {f m exp x : Int} {ng : Bool} (hf : f < 4) (hm : m < 5) (hx : x ≠ 0) : pkB f m ng exp x = numB f m ng (pkE exp x) (pkS x) ∧ ∀ t, pkFl f m t ng exp x = numFl f m t ng (pkE exp x) (pkS x) := by
  unfold pkB pkFl
  rw [if_pos ⟨hf, hm⟩, if_neg hx]
  exact ⟨rfl, fun t => if_pos ⟨⟨hf, hm⟩, hx⟩⟩
theorem pk_zero {f m exp : Int} {ng : Bool} (hf : f < 4) (hm : m < 5) : pkB f m ng exp 0 = makeF f ng 0 0 ∧ ∀ t, pkFl f m t ng exp 0 = 0 := by
  unfold pkB pkFl
  rw [if_pos ⟨hf, hm⟩, if_pos rfl]
  exact ⟨rfl, fun t => if_neg (fun h => h.2 rfl)⟩
theorem pk_none {f m : Int} (h : ¬ (f < 4 ∧ m < 5)) (exp x : Int) (ng : Bool) : pkB f m ng exp x = 0 ∧ ∀ t, pkFl f m t ng exp x = 0 := by
  unfold pkB pkFl
  rw [if_neg h]
  exact ⟨rfl, fun t => if_neg (fun z => h z.1)⟩
theorem inf_lt {f : Int} (f0 : 0 ≤ f) (hf : f < 4) : infF f false < 2 ^ (fW f - 1) := by
  obtain ⟨p0, p1, p2, p3, p4, p5, p6, p7, p8⟩ := f_nums f0 hf
  obtain ⟨q1, q2, q3, q4, q5, q6⟩ := make_parts f0 hf false (2 * fE f + 1) 0
  unfold infF makeF
  rw [if_pos hf, if_neg (by decide), Int.add_zero]; exact q4
/-- How great what is rounded may be. -/
theorem num_range {f m e s : Int} (f0 : 0 ≤ f) (hf : f < 4) (hm : m < 5) (s0 : 2 ^ 255 ≤ s) (s1 : s < 2 ^ 256) : 0 ≤ numB f m false e s ∧ numB f m false e s ≤ infF f false := by
  have mi := max_inf f0 hf false
  have m0 := (make_full f0 (f := f) false (2 * fE f) (2 ^ (fP f - 1) - 1)).1
  have m1 : 0 ≤ maxF f false := m0
  unfold numB
  split
  · rcases over_ge (m := m) f0 hf hm with h | h <;> rw [h] <;> omega
  · rename_i h
    obtain ⟨x, k, e1, x0, x1⟩ := num_make f0 hf s0 s1 h
    rw [e1]
    have := make_le_max (k := k) f0 hf x0 x1
    have := (make_full f0 (f := f) false x k).1
    omega
theorem inf_full {f : Int} (f0 : 0 ≤ f) (hf : f < 4) : infF f false < 2 ^ 127 := by
  obtain ⟨p0, p1, p2, p3, p4, p5, p6, p7, p8⟩ := f_nums f0 hf
  have := inf_lt f0 hf
  have := two_pow_le (show fW f - 1 ≤ 127 by omega)
  omega

/-! ### neighbours -/
theorem cut_down (s n : Int) : cutQ s n false 3 false = floorQ s n := by unfold cutQ nextM; rw [if_neg]; split <;> simp
theorem cut_up {s n : Int} (h : restQ s n false ≠ 0) : cutQ s n false 2 false = floorQ s n + 1 := by
  obtain ⟨r0, r1⟩ := rest_range s n false
  unfold cutQ nextM; rw [if_neg (show ¬ (restQ s n false < 1 ∨ 3 < restQ s n false) by omega)]; simp
/-- A mode that goes up, of numbers not negative, makes what overflows infinite. -/
theorem next_inf {m : Int} {od : Bool} {r : Int} (m0 : 0 ≤ m) (hm : m < 5) (h : nextM m false od r = true) : infM m false = true := by
  rcases (show m = 0 ∨ m = 1 ∨ m = 2 ∨ m = 3 ∨ m = 4 by omega) with rfl | rfl | rfl | rfl | rfl
  · rfl
  · rfl
  · rfl
  · unfold nextM at h; split at h <;> simp at h
  · rw [next_zero] at h; cases h
theorem ptF_succ (f : Int) (ng : Bool) (l n : Int) : ptF f ng l (n + 1) = ptF f ng l n + 1 := by unfold ptF; omega
theorem neigh16 {f m e s : Int} (f0 : 0 ≤ f) (hf : f < 4) (m0 : 0 ≤ m) (hm : m < 5) (s0 : 2 ^ 255 ≤ s) (s1 : s < 2 ^ 256) : ∀ u d r fu fd fr : Int,
    numB f 2 false e s = u → numB f 3 false e s = d → numB f m false e s = r → numFl f 2 false false e s = fu → numFl f 3 false false e s = fd → numFl f m false false e s = fr →
    (fu = 0 ∧ fd = 0 ∧ fr = 0 ∧ u = d ∧ r = d) ∨ (u = d + 1 ∧ ((∃ c : Int, (c = 16 ∨ c = 24 ∨ c = 20) ∧ fu = c ∧ fd = c ∧ fr = c ∧ (r = u ∨ r = d)) ∨ (fu = 20 ∧ fd = 16 ∧ ((fr = 20 ∧ r = u) ∨ (fr = 16 ∧ r = d))))) := by
  intro u d r fu fd fr hu hd hr gu gd gr
  obtain ⟨p0, p1, p2, p3, p4, p5, p6, p7, p8⟩ := f_nums f0 hf
  have t := pow_top (show 1 ≤ fP f by omega)
  have hp := two_pow_pos (fP f - 1)
  have mi := max_inf f0 hf false
  have flo := (cut_le16 (k := fP f) (n := 256 - fP f) (by omega) (by omega) s1 3 false).1
  have cd : pkA f 3 false e s = e := by unfold pkA; rw [cut_down, if_neg (by omega)]
  have fl5 : ∀ k : Int, k < 5 → overFl f k = 20 := fun k hk => by unfold overFl; rw [if_pos ⟨hf, hk⟩]
  have ou : overB f 2 false = infF f false := (over_inf (f := f) (m := 2) (ng := false) ⟨hf, by decide⟩ rfl).1
  have od : overB f 3 false = maxF f false := (over_fin (f := f) (m := 3) (ng := false) ⟨hf, by decide⟩ rfl).1
  unfold numB at hu hd hr
  unfold numFl at gu gd gr
  rw [cd, od] at hd
  rw [cd, fl5 3 (by decide)] at gd
  rw [ou] at hu
  rw [fl5 2 (by decide)] at gu
  rw [fl5 m hm] at gr
  simp only [Bool.false_eq_true, if_false] at gu gd gr
  by_cases o3 : fE f < e
  · -- beyond the end, whatever the mode
    have a2 := pkA_cases f 2 false e s; have am := pkA_cases f m false e s
    rw [if_pos (by omega)] at hu gu hr gr hd gd
    right
    refine ⟨by omega, .inl ⟨20, by omega, by omega, by omega, by omega, ?_⟩⟩
    rcases over_ge (m := m) f0 hf hm with z | z <;> omega
  · rw [if_neg o3] at hd gd
    by_cases o2 : fE f < pkA f 2 false e s
    · -- the next power of 2, beyond the end
      rw [if_pos o2] at hu gu
      have ee : e = fE f ∧ cutQ s (256 - fP f) false 2 false = 2 ^ fP f := by
        rcases pkA_cases f 2 false e s with ⟨a, c⟩ | ⟨a, c⟩
        · omega
        · exact ⟨by omega, c⟩
      have L : pkL f e = e := by rcases pkL_cases f e with ⟨z, y⟩ | ⟨z, y⟩ <;> omega
      have hn : ∀ k : Int, pkN f k false e s = cutQ s (256 - fP f) false k false := fun k => (((pkN_bounds (e := e) f0 hf s0 s1 k false).2.2.2) (by omega)).2
      have fl : floorQ s (256 - fP f) = 2 ^ fP f - 1 := by
        rcases cut_floor s (256 - fP f) false 2 false with c | c <;> omega
      have hR : pkR f e s = restQ s (256 - fP f) false := by unfold pkR; rw [L]; congr 1; omega
      have rz : restQ s (256 - fP f) false ≠ 0 := by
        intro z
        have := cut_none z 2 false
        omega
      have mx : maxF f false = ptF f false e (2 ^ fP f - 1) := by
        rw [max_val f0 hf, if_neg (by decide)]
        unfold ptF
        rw [if_neg (by decide), ee.1, show ((fE f : Int) + fE f - 1) = 2 * fE f - 1 by omega, Int.sub_mul, Int.one_mul]; omega
      rw [L, hn 3, cut_down, fl, ← mx] at hd
      rw [hR, if_neg rz, if_neg (by omega)] at gd
      right
      refine ⟨by omega, .inr ⟨by omega, by omega, ?_⟩⟩
      by_cases om : fE f < pkA f m false e s
      · rw [if_pos om] at hr gr
        left
        refine ⟨by omega, ?_⟩
        have c : cutQ s (256 - fP f) false m false = 2 ^ fP f := by
          rcases pkA_cases f m false e s with ⟨a, c⟩ | ⟨a, c⟩
          · omega
          · exact c
        have nx : nextM m false (decide (floorQ s (256 - fP f) % 2 = 1)) (restQ s (256 - fP f) false) = true := by
          unfold cutQ at c
          apply Classical.byContradiction; intro z
          rw [if_neg z] at c; omega
        rw [(over_inf ⟨hf, hm⟩ (next_inf m0 hm nx)).1] at hr
        omega
      · rw [if_neg om] at hr gr
        right
        rw [hR, if_neg rz, if_neg (by omega)] at gr
        refine ⟨by omega, ?_⟩
        have c : cutQ s (256 - fP f) false m false = 2 ^ fP f - 1 := by
          rcases pkA_cases f m false e s with ⟨a, c⟩ | ⟨a, c⟩
          · rcases cut_floor s (256 - fP f) false m false with c2 | c2 <;> omega
          · omega
        rw [L, hn m, c, ← mx] at hr
        omega
    · -- none overflows
      have om : ¬ fE f < pkA f m false e s := by
        intro z
        rcases pkA_cases f m false e s with ⟨a, c⟩ | ⟨a, c⟩
        · omega
        · have c2 : cutQ s (256 - fP f) false 2 false = 2 ^ fP f := by
            have r : restQ s (256 - fP f) false ≠ 0 := by
              intro z; have := cut_none z m false; omega
            have := cut_up r
            rcases cut_floor s (256 - fP f) false m false with c3 | c3 <;> omega
          have : pkA f 2 false e s = e + 1 := by unfold pkA; rw [if_pos c2]
          omega
      rw [if_neg o2] at hu gu
      rw [if_neg om] at hr gr
      by_cases z : pkR f e s = 0
      · left
        have cn : ∀ k : Int, pkN f k false e s = floorQ s (256 - fP f + (pkL f e - e)) := fun k => cut_none z k false
        rw [cn] at hu hd hr
        rw [if_pos z] at gu gd gr
        omega
      · right
        have un : pkN f 2 false e s = floorQ s (256 - fP f + (pkL f e - e)) + 1 := cut_up z
        have dn : pkN f 3 false e s = floorQ s (256 - fP f + (pkL f e - e)) := cut_down _ _
        rw [un, ptF_succ] at hu
        rw [dn] at hd
        rw [if_neg z] at gu gd gr
        refine ⟨by omega, .inl ?_⟩
        have hrr : r = u ∨ r = d := by
          have : pkN f m false e s = floorQ s (256 - fP f + (pkL f e - e)) ∨ pkN f m false e s = floorQ s (256 - fP f + (pkL f e - e)) + 1 := cut_floor _ _ _ _ _
          rcases this with c | c
          · rw [c] at hr; omega
          · rw [c, ptF_succ] at hr; omega
        by_cases ti : e < 1 - fE f
        · rw [if_pos ti] at gu gd gr
          exact ⟨24, by omega, by omega, by omega, by omega, hrr⟩
        · rw [if_neg ti] at gu gd gr
          exact ⟨16, by omega, by omega, by omega, by omega, hrr⟩

/-! ### tininess -/
/-- What is tiny before rounding alone is rounded to the least normal number. -/
theorem least16 {f m e s : Int} {ng : Bool} (f0 : 0 ≤ f) (hf : f < 4) (s0 : 2 ^ 255 ≤ s) (s1 : s < 2 ^ 256) (he : e = -(fE f : Int)) (c : cutQ s (256 - fP f) false m ng = 2 ^ fP f) : pkN f m ng e s = 2 ^ (fP f - 1) ∧ pkL f e = 1 - fE f := by
  obtain ⟨p0, p1, p2, p3, p4, p5, p6, p7, p8⟩ := f_nums f0 hf
  have L : pkL f e = 1 - fE f := by rcases pkL_cases f e with ⟨z, y⟩ | ⟨z, y⟩ <;> omega
  refine ⟨?_, L⟩
  obtain ⟨j, hj⟩ : ∃ j : Nat, 256 - (fP f : Int) = j := ⟨(256 - (fP f : Int)).toNat, by omega⟩
  have flo := (cut_le16 (k := fP f) (n := 256 - fP f) (by omega) (by omega) s1 m ng).1
  have fl : floorQ s (256 - fP f) = 2 ^ fP f - 1 := by rcases cut_floor s (256 - fP f) false m ng with c2 | c2 <;> omega
  have rz : restQ s (256 - fP f) false ≠ 0 := by intro z; have := cut_none z m ng; omega
  have nx : nextM m ng (decide (floorQ s (256 - fP f) % 2 = 1)) (restQ s (256 - fP f) false) = true := by
    unfold cutQ at c
    apply Classical.byContradiction; intro z
    rw [if_neg z] at c; omega
  have t1 := pow_top (show 1 ≤ fP f by omega)
  have t2 := pow_top (show 1 ≤ fP f - 1 by omega)
  have hp := two_pow_pos (fP f - 1 - 1)
  have odd : decide (floorQ s (256 - fP f) % 2 = 1) = true := decide_eq_true (by omega)
  rw [odd] at nx
  rw [hj] at fl rz nx
  have fj := floor_pos (q := s) (n := (j : Int)) (by omega)
  rw [Int.toNat_natCast] at fj
  obtain ⟨r0, r1⟩ := rest_range s (j : Int) false
  have nx3 := next_mono m ng true r0 r1 (by decide) nx
  have r3 : restQ s ((j : Int) + 1) false = 3 := by
    rw [rest_of, ← fj, fl, show decide ((2 ^ fP f - 1 : Int) % 2 = 1) = true from decide_eq_true (by omega)]
    have : s % 2 ^ j ≠ 0 := by
      intro z
      exact rz ((rest_zero (by omega)).2 (by rw [Int.toNat_natCast]; exact z))
    simp [ofM, this]
  have f3 : floorQ s ((j : Int) + 1) = 2 ^ (fP f - 1) - 1 := by
    rw [floor_pos (by omega), show ((j : Int) + 1).toNat = j + 1 by omega, ← jam_div, ← fj, fl, Int.pow_succ, Int.pow_zero]; omega
  unfold pkN
  rw [L, show (256 - (fP f : Int) + (1 - fE f - e)) = (j : Int) + 1 by omega]
  unfold cutQ
  rw [r3, f3, show decide ((2 ^ (fP f - 1) - 1 : Int) % 2 = 1) = true from decide_eq_true (by omega), nx3, if_pos rfl]
  omega
theorem tiny16 {f m e s : Int} {ng : Bool} (f0 : 0 ≤ f) (hf : f < 4) (hm : m < 5) (s0 : 2 ^ 255 ≤ s) (s1 : s < 2 ^ 256) : ∀ a b : Int, numFl f m true ng e s = a → numFl f m false ng e s = b →
    (a = b ∧ (a = 0 ∨ a = 16 ∨ a = 20 ∨ a = 24)) ∨ (a = 16 ∧ b = 24 ∧ numB f m ng e s = makeF f ng 1 0) := by
  intro a b ha hb
  obtain ⟨p0, p1, p2, p3, p4, p5, p6, p7, p8⟩ := f_nums f0 hf
  unfold numFl at ha hb
  by_cases ov : fE f < pkA f m ng e s
  · rw [if_pos ov, show overFl f m = 20 by unfold overFl; rw [if_pos ⟨hf, hm⟩]] at ha hb
    omega
  · rw [if_neg ov] at ha hb
    by_cases z : pkR f e s = 0
    · rw [if_pos z] at ha hb; omega
    · rw [if_neg z] at ha hb
      simp only [Bool.false_eq_true, if_false, if_true] at ha hb
      by_cases e1 : e < 1 - fE f
      · rw [if_pos e1] at hb
        rcases pkA_cases f m ng e s with ⟨x, c⟩ | ⟨x, c⟩
        · rw [x, if_pos e1] at ha; omega
        · by_cases e2 : e + 1 < 1 - fE f
          · rw [x, if_pos e2] at ha; omega
          · rw [x, if_neg e2] at ha
            right
            refine ⟨by omega, by omega, ?_⟩
            obtain ⟨l1, l2⟩ := least16 (e := e) f0 hf s0 s1 (by omega) c
            have t1 := pow_top (show 1 ≤ fP f by omega)
            have hp := two_pow_pos (fP f - 1)
            unfold numB
            rw [if_neg ov, l1, l2, pt_nor f0 hf ng (Int.le_refl _) (by omega) (by omega) (by omega), show (1 - (fE f : Int) + fE f) = 1 by omega]
            unfold makeF
            rw [if_pos hf, if_pos hf, Int.emod_self, Int.zero_emod]
      · rw [if_neg e1] at hb
        have : ¬ pkA f m ng e s < 1 - fE f := by rcases pkA_cases f m ng e s with ⟨x, c⟩ | ⟨x, c⟩ <;> omega
        rw [if_neg this] at ha
        omega

/-! ### the other sign -/
theorem cut_mir (s n m : Int) : cutQ s n false (mirM m) true = cutQ s n false m false := by
  have h : ∀ od r, nextM (mirM m) true od r = nextM m false od r := fun od r => by
    have := next_mirror (mirM m) od r; rw [mir_mir] at this; exact this.symm
  unfold cutQ; rw [h]
theorem make_sign {f : Int} (hf : f < 4) (e k : Int) : makeF f true e k = makeF f false e k + 2 ^ (fW f - 1) := by
  unfold makeF; rw [if_pos hf, if_pos hf, if_pos rfl, if_neg (by decide), Int.add_zero]
theorem num_mir {f m e s : Int} (f0 : 0 ≤ f) (hf : f < 4) (hm : m < 5) : numB f (mirM m) true e s = numB f m false e s + 2 ^ (fW f - 1) ∧ ∀ t, numFl f (mirM m) t true e s = numFl f m t false e s := by
  have m5 : mirM m < 5 := by have := mir_known m; rw [decide_eq_decide] at this; exact this.2 hm
  have a : pkA f (mirM m) true e s = pkA f m false e s := by unfold pkA; rw [cut_mir]
  have n : pkN f (mirM m) true e s = pkN f m false e s := by unfold pkN; rw [cut_mir]
  have im := inf_mirror (mirM m)
  rw [mir_mir] at im
  have ob : overB f (mirM m) true = overB f m false + 2 ^ (fW f - 1) := by
    unfold overB
    rw [if_pos (show f < 4 ∧ mirM m < 5 from ⟨hf, m5⟩), if_pos (show f < 4 ∧ m < 5 from ⟨hf, hm⟩), ← im]
    split
    · exact make_sign hf ..
    · exact make_sign hf ..
  have ofl : overFl f (mirM m) = overFl f m := by unfold overFl; rw [if_pos ⟨hf, m5⟩, if_pos ⟨hf, hm⟩]
  unfold numB numFl
  rw [a, n, ob]
  constructor
  · split
    · rfl
    · unfold ptF; rw [if_pos rfl, if_neg (by decide)]; omega
  · intro t; rw [ofl]
theorem pk_mir {f m exp x : Int} (f0 : 0 ≤ f) (hf : f < 4) (hm : m < 5) : pkB f (mirM m) true exp x = pkB f m false exp x + 2 ^ (fW f - 1) ∧ ∀ t, pkFl f (mirM m) t true exp x = pkFl f m t false exp x := by
  have m5 : mirM m < 5 := by have := mir_known m; rw [decide_eq_decide] at this; exact this.2 hm
  by_cases z : x = 0
  · subst z
    rw [(pk_zero hf m5).1, (pk_zero hf hm).1]
    exact ⟨make_sign hf 0 0, fun t => by rw [(pk_zero hf m5).2, (pk_zero hf hm).2]⟩
  · rw [(pk_num hf m5 z).1, (pk_num hf hm z).1]
    refine ⟨(num_mir f0 hf hm).1, fun t => ?_⟩
    rw [(pk_num hf m5 z).2, (pk_num hf hm z).2, (num_mir f0 hf hm).2]

/-! ### what is jammed -/
theorem pk_jam {f m exp x : Int} {ng : Bool} (n : Nat) (f0 : 0 ≤ f) (x0 : 2 ^ 255 ≤ x) (x1 : x < 2 ^ 256) (hn : n ≤ 140) (e0 : -1099511627776 ≤ exp) (e1 : exp + n ≤ 1099511627776) :
    pkB f m ng (exp + n) (jamN x n) = pkB f m ng exp x ∧ ∀ t, pkFl f m t ng (exp + n) (jamN x n) = pkFl f m t ng exp x := by
  by_cases hf : f < 4 ∧ m < 5
  · obtain ⟨p0, p1, p2, p3, p4, p5, p6, p7, p8⟩ := f_nums f0 hf.1
    have hp := two_pow_pos 255
    obtain ⟨j1, j2, j3, j4⟩ := jam_range (show 0 ≤ x by omega) n
    -- the jammed number's length
    have lo : 2 ^ (255 - n) ≤ x / 2 ^ n := by
      rw [Int.le_ediv_iff_mul_le (two_pow_pos _), ← Int.pow_add, show 255 - n + n = 255 by omega]; exact x0
    have hi : x / 2 ^ n < 2 ^ (256 - n) := by
      apply Int.ediv_lt_of_lt_mul (two_pow_pos _)
      rw [← Int.pow_add, show 256 - n + n = 256 by omega]; exact x1
    have hi2 : jamN x n < 2 ^ (256 - n) := by
      have e2 : (2 : Int) ^ (256 - n) = 2 ^ (255 - n) * 2 := by rw [← Int.pow_succ]; congr 1; omega
      unfold jamN; split <;> omega
    have b : blen (jamN x n) = 256 - n := by
      rw [show 256 - n = 255 - n + 1 by omega]
      exact blen_of (by omega) (by rw [show 255 - n + 1 = 256 - n by omega]; exact hi2)
    have hq := two_pow_pos (255 - n)
    have nz : jamN x n ≠ 0 := by omega
    have u : upN 256 (jamN x n) = n := by unfold upN; rw [if_neg nz, b]; omega
    obtain ⟨ux, sx⟩ := up_none x0 x1
    have E : pkE (exp + n) (jamN x n) = pkE exp x := by
      unfold pkE; rw [u, ux, clip_id (by omega) e1, clip_id e0 (by omega)]; omega
    have S : pkS (jamN x n) = jamN x n * 2 ^ n := by unfold pkS; rw [u]
    have key : ∀ N : Int, (n : Int) + 2 ≤ N → cutQ (jamN x n * 2 ^ n) N false m ng = cutQ x N false m ng ∧ restQ (jamN x n * 2 ^ n) N false = restQ x N false := fun N hN => by
      have a := scale_cut (jamN x n) n (N - n) m ng
      have a2 := scale_rest (jamN x n) n (N - n)
      rw [show N - n + n = N by omega] at a a2
      have c := jam_cut16 x n (n := N - n) (by omega) m ng
      rw [show N - n + n = N by omega] at c
      exact ⟨a.trans c.1, a2.trans c.2⟩
    have l : 0 ≤ pkL f (pkE exp x) - pkE exp x := by rcases pkL_cases f (pkE exp x) with ⟨z, y⟩ | ⟨z, y⟩ <;> omega
    have a : pkA f m ng (pkE exp x) (jamN x n * 2 ^ n) = pkA f m ng (pkE exp x) x := by unfold pkA; rw [(key _ (by omega)).1]
    have N : pkN f m ng (pkE exp x) (jamN x n * 2 ^ n) = pkN f m ng (pkE exp x) x := (key _ (by omega)).1
    have R : pkR f (pkE exp x) (jamN x n * 2 ^ n) = pkR f (pkE exp x) x := (key _ (by omega)).2
    rw [(pk_num hf.1 hf.2 nz).1, (pk_num hf.1 hf.2 (show x ≠ 0 by omega)).1, E, S, sx]
    constructor
    · unfold numB; rw [a, N]
    · intro t
      rw [(pk_num hf.1 hf.2 nz).2, (pk_num hf.1 hf.2 (show x ≠ 0 by omega)).2, E, S, sx]
      unfold numFl; rw [a, R]
  · rw [(pk_none hf _ _ _).1, (pk_none hf _ _ _).1]
    exact ⟨rfl, fun t => by rw [(pk_none hf _ _ _).2, (pk_none hf _ _ _).2]⟩

/-! ### order -/
theorem pk_mono {f m exp exp' a b : Int} (f0 : 0 ≤ f) (hm : m < 5) (a0 : 0 ≤ a) (ab : a ≤ b) (b1 : b < wfull) (he : exp ≤ exp') : pkB f m false exp a ≤ pkB f m false exp' b := by
  by_cases hf : f < 4
  · by_cases za : a = 0
    · subst za
      rw [(pk_zero hf hm).1, nought_val f0 hf, if_neg (by decide)]
      by_cases zb : b = 0
      · subst zb
        rw [(pk_zero hf hm).1, nought_val f0 hf, if_neg (by decide)]; exact Int.le_refl _
      · rw [(pk_num hf hm zb).1]
        obtain ⟨s0, s1⟩ := pkS_range (show 0 < b by omega) b1
        exact (num_range f0 hf hm s0 s1).1
    · obtain ⟨s0, s1⟩ := pkS_range (show 0 < a by omega) (by omega)
      obtain ⟨q0, q1⟩ := pkS_range (show 0 < b by omega) b1
      rw [(pk_num hf hm za).1, (pk_num hf hm (show b ≠ 0 by omega)).1]
      exact num_mono f0 hf hm s0 s1 q0 q1 (pk_lex (by omega) ab b1 (clip_mono he))
  · rw [(pk_none (fun h => hf h.1) _ _ _).1, (pk_none (fun h => hf h.1) _ _ _).1]; exact Int.le_refl _
theorem pk_full {f m exp x : Int} (f0 : 0 ≤ f) (x0 : 0 ≤ x) (x1 : x < wfull) : 0 ≤ pkB f m false exp x ∧ pkB f m false exp x < 2 ^ 127 := by
  by_cases hf : f < 4 ∧ m < 5
  · by_cases z : x = 0
    · subst z
      rw [(pk_zero hf.1 hf.2).1, nought_val f0 hf.1, if_neg (by decide)]; exact ⟨Int.le_refl _, by decide⟩
    · rw [(pk_num hf.1 hf.2 z).1]
      obtain ⟨s0, s1⟩ := pkS_range (show 0 < x by omega) x1
      have := num_range (e := pkE exp x) f0 hf.1 hf.2 s0 s1
      have := inf_full f0 hf.1
      omega
  · rw [(pk_none hf _ _ _).1]; exact ⟨Int.le_refl _, by decide⟩

end Go.Proofs.YtbcjboaihahemaaGreatDoor
