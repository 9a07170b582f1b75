import Derived.Deep.DrawnRows
import Derived.Maps.OwnSet
import Derived.Laws.OwnMore
import Derived.Laws.AppendOwnNone
import Derived.Deep.AppendLies
import Derived.Test.YtdcdbcccchadfaaGreatDoorGwA
import Derived.Test.YtdcdbcccchadfaaGreatDoorGfA
import Derived.Test.YtdcdbcccchadfaaGreatDoorGmA
import Derived.Test.YtdcdbcccchadfaaGreatDoorGdA
import Derived.Test.YtdcdbcccchadfaaGreatDoorGpA
import Derived.Test.YtdcdbcccchadfaaGreatDoorGjB
import Derived.Test.YtdcdbcccchadfaaGreatDoorMul19M
import Derived.Test.YtdcdbcccchadfaaGreatDoorAdd18M
import Derived.Test.YtdcdbcccchadfaaGreatDoorFma20M
import Derived.Test.YtdcdbcccchadfaaGreatDoorAddT
import Derived.Test.YtdcdbcccchadfaaGreatDoorGuA
set_option maxHeartbeats 4000000
set_option linter.unusedVariables false
set_option maxRecDepth 100000
namespace Go.Proofs.YtdcdbcccchadfaaGreatDoor
open Go.RowKit
section
variable {P : Program} {f : FuncId} {args : Array Value} {w : World} {Q : Ending → World → Prop}
end
section
variable {P : Program} {ops : Array Oper} {Q : Exit → Act → World → Prop} {md : Region.Mode} {S : World → Prop} {fuel : Nat} {listed : Array Bool} {a a' : Act} {w : World} {oi : Oper} {v : Value}
theorem vY3 {i j l : Nat} (h : Stp P md ops Q S fuel listed a w i) (h2 : Stp P md ops Q S fuel listed a w j) (h3 : Stp P md ops Q S fuel listed a w l) (hr : Region.ready md ops listed = [i, j, l] := by kernel_rfl) : wpAnyH P md ops Q S (fuel + 1) listed a w :=
  wpAnyH_ready hr (by simp) fun k hk => by
    rcases List.mem_cons.1 hk with rfl | hk
    · exact h
    · rcases List.mem_cons.1 hk with rfl | hk
      · exact h2
      · obtain rfl := List.mem_singleton.1 hk; exact h3
section
variable {ps : List Nat} {W1 : World}
end
end
section
variable {P : Program} {Q : Exit → Act → World → Prop} {ops : Array Oper} {a : Act} {w : World} {c : Code}
variable {t1 t2 t3 t4 t5 t6 : TypeId} {v1 v2 v3 v4 v5 v6 : Array Value}
end
end Go.Proofs.YtdcdbcccchadfaaGreatDoor
set_option linter.unusedSimpArgs false
namespace Go.Proofs.YtdcdbcccchadfaaGreatDoor
open Go.RowKit
attribute [local go_sem ↓] Go.wp_at_zero Go.wp_at_succ
theorem neg_cut {f : Int} (h0 : 0 ≤ f) (h : f < 4) (b : Int) : negF f (cutF f b) = negF f b := by
  obtain ⟨p0, p1, p2, _⟩ := f_nums h0 h
  unfold negF cutF
  have t := mod_bit b (fW f - 1)
  rw [show fW f - 1 + 1 = fW f by omega] at t
  rw [t]
theorem make_split {f b : Int} (h0 : 0 ≤ f) (h : f < 4) (hb : 0 ≤ b) : makeF f (negF f b) (expF f b) (fracF f b) = cutF f b := by
  obtain ⟨p0, p1, p2, p3, p4, p5, p6, p7, p8⟩ := f_nums h0 h
  obtain ⟨x0, x1, x2, x3⟩ := exp_range h0 h hb
  obtain ⟨r0, r1⟩ := frac_range (b := b) h0 h
  unfold makeF; rw [if_pos h, expOf_id h0 h x0 x1, Int.emod_eq_of_lt r0 r1]
  have hp := two_pow_pos (fP f - 1)
  have hw := two_pow_pos (fW f - 1)
  have e1 : expF f b * 2 ^ (fP f - 1) + fracF f b = b % 2 ^ (fW f - 1) := by
    unfold expF fracF; rw [if_pos h, if_pos h]
    have := Int.emod_add_mul_ediv (b % 2 ^ (fW f - 1)) (2 ^ (fP f - 1))
    rw [mod_mod_pow b (by omega), Int.mul_comm] at this
    omega
  rw [e1]
  have e2 := Int.emod_add_mul_ediv (b % 2 ^ (fW f - 1 + 1)) (2 ^ (fW f - 1))
  rw [mod_mod_pow b (Nat.le_succ _)] at e2
  have e3 := mod_bit b (fW f - 1)
  have e4 : 0 ≤ b % 2 ^ (fW f - 1 + 1) / 2 ^ (fW f - 1) := Int.ediv_nonneg (mod_lt_self hb _).1 (by omega)
  have e5 : b % 2 ^ (fW f - 1 + 1) / 2 ^ (fW f - 1) < 2 := Int.ediv_lt_of_lt_mul hw (by have := (mod_lt_self hb (fW f - 1 + 1)).2.2; rw [Int.pow_succ] at this; rw [Int.mul_comm]; exact this)
  have c : cutF f b = b % 2 ^ (fW f - 1 + 1) := by unfold cutF; rw [show fW f - 1 + 1 = fW f by omega]
  rw [c, ← e2]
  unfold negF
  rw [show decide (f < 4) = true by simp [h], Bool.and_true]
  generalize b % 2 ^ (fW f - 1 + 1) / 2 ^ (fW f - 1) = s at *
  generalize b / 2 ^ (fW f - 1) = t at *
  by_cases hs : t % 2 = 1
  · rw [show decide (t % 2 = 1) = true by simp [hs], if_pos rfl, show s = 1 by omega, Int.mul_one]
  · rw [show decide (t % 2 = 1) = false by simp [hs], if_neg (by decide), show s = 0 by omega, Int.mul_zero]
theorem inf_val {f : Int} (h0 : 0 ≤ f) (h : f < 4) (ng : Bool) : infF f ng = (2 * fE f + 1) * 2 ^ (fP f - 1) + (if ng then 2 ^ (fW f - 1) else 0) := by
  obtain ⟨p0, p1, p2, p3, p4, p5, p6, p7, p8⟩ := f_nums h0 h
  unfold infF makeF; rw [if_pos h, expOf_id h0 h (by omega) (by omega), Int.zero_emod, Int.add_zero]
theorem max_val {f : Int} (h0 : 0 ≤ f) (h : f < 4) (ng : Bool) : maxF f ng = 2 * fE f * 2 ^ (fP f - 1) + (2 ^ (fP f - 1) - 1) + (if ng then 2 ^ (fW f - 1) else 0) := by
  obtain ⟨p0, p1, p2, p3, p4, p5, p6, p7, p8⟩ := f_nums h0 h
  have hp := two_pow_pos (fP f - 1)
  unfold maxF makeF; rw [if_pos h, expOf_id h0 h (by omega) (by omega), Int.emod_eq_of_lt (a := 2 ^ (fP f - 1) - 1) (by omega) (by omega)]
theorem nought_val {f : Int} (h0 : 0 ≤ f) (h : f < 4) (ng : Bool) : makeF f ng 0 0 = if ng then 2 ^ (fW f - 1) else 0 := by
  obtain ⟨p0, p1, p2, p3, p4, p5, p6, p7, p8⟩ := f_nums h0 h
  unfold makeF; rw [if_pos h, expOf_id h0 h (by omega) (by omega), Int.zero_emod, Int.zero_mul]; omega
end Go.Proofs.YtdcdbcccchadfaaGreatDoor
namespace Go.Proofs.YtdcdbcccchadfaaGreatDoor
open Go.RowKit
attribute [local go_sem ↓] Go.wp_at_zero Go.wp_at_succ
theorem next_mirror (m : Int) (od : Bool) (r : Int) : nextM (mirM m) false od r = nextM m true od r := by
  unfold nextM mirM
  by_cases h2 : m = 2
  · subst h2; simp
  · by_cases h3 : m = 3
    · subst h3; simp
    · simp [h2, h3]
theorem mir_mir (m : Int) : mirM (mirM m) = m := by unfold mirM; repeat' split <;> omega
theorem mir_known (m : Int) : decide (mirM m < 5) = decide (m < 5) := by
  unfold mirM; split
  · subst_vars; rfl
  · split
    · subst_vars; rfl
    · rfl
theorem mir_range {m : Int} (h0 : 0 ≤ m) (h1 : m ≤ 255) : 0 ≤ mirM m ∧ mirM m ≤ 255 := by unfold mirM; repeat' split <;> omega
theorem inf_mirror (m : Int) : infM (mirM m) false = infM m true := by
  unfold infM mirM
  by_cases h2 : m = 2
  · subst h2; rfl
  · by_cases h3 : m = 3
    · subst h3; rfl
    · simp [h2, h3]
theorem next_none (m : Int) (ng od : Bool) : nextM m ng od 0 = false := by unfold nextM; rw [if_pos (by omega)]
end Go.Proofs.YtdcdbcccchadfaaGreatDoor
namespace Go.Proofs.YtdcdbcccchadfaaGreatDoor
open Go.RowKit
attribute [local go_sem ↓] Go.wp_at_zero Go.wp_at_succ
theorem inf_cls {f : Int} (f0 : 0 ≤ f) (h : f < 4) (g : Bool) : clsF f (infF f g) = 3 ∧ negF f (infF f g) = g := by
  obtain ⟨p0, p1, p2, p3, p4, p5, p6, p7, p8⟩ := f_nums f0 h
  obtain ⟨m1, m2, m3⟩ := make_fields f0 h g (2 * fE f + 1) 0
  rw [expOf_id f0 h (by omega) (by omega)] at m1
  rw [Int.zero_emod] at m2
  refine ⟨?_, m3⟩
  unfold clsF; rw [if_pos h]
  rw [show infF f g = makeF f g (2 * fE f + 1) 0 from rfl, m1, m2, if_neg (by omega), if_pos rfl, if_pos rfl]
theorem nought_cls {f : Int} (f0 : 0 ≤ f) (h : f < 4) (g : Bool) : clsF f (makeF f g 0 0) = 0 ∧ negF f (makeF f g 0 0) = g := by
  obtain ⟨p0, p1, p2, p3, p4, p5, p6, p7, p8⟩ := f_nums f0 h
  obtain ⟨m1, m2, m3⟩ := make_fields f0 h g 0 0
  rw [expOf_id f0 h (by omega) (by omega)] at m1
  rw [Int.zero_emod] at m2
  exact ⟨(cls_0 h).2 ⟨m1, m2⟩, m3⟩
end Go.Proofs.YtdcdbcccchadfaaGreatDoor
namespace Go.Proofs.YtdcdbcccchadfaaGreatDoor
open Go.RowKit
attribute [local go_sem ↓] Go.wp_at_zero Go.wp_at_succ
theorem cut_none {s n : Int} (h : restQ s n false = 0) (m : Int) (ng : Bool) : cutQ s n false m ng = floorQ s n := by unfold cutQ; rw [h, next_none, if_neg (by decide)]
theorem cut_ge16 {s n : Int} {k : Nat} (n0 : 0 < n) (hk : n.toNat + k ≤ 255) (s0 : 2 ^ 255 ≤ s) (m : Int) (ng : Bool) : 2 ^ k ≤ floorQ s n ∧ 2 ^ k ≤ cutQ s n false m ng := by
  have h : 2 ^ k ≤ floorQ s n := by
    rw [floor_pos n0, Int.le_ediv_iff_mul_le (two_pow_pos _), ← Int.pow_add]
    have := two_pow_le (show k + n.toNat ≤ 255 by omega)
    omega
  refine ⟨h, ?_⟩
  rcases cut_floor s n false m ng with e | e <;> rw [e] <;> omega
theorem pkN_bounds {f e s : Int} (f0 : 0 ≤ f) (hf : f < 4) (s0 : 2 ^ 255 ≤ s) (s1 : s < 2 ^ 256) (m : Int) (ng : Bool) :
    0 ≤ pkN f m ng e s ∧ pkN f m ng e s ≤ 2 ^ fP f ∧ (e < 1 - fE f → pkN f m ng e s ≤ 2 ^ (fP f - 1)) ∧ (1 - fE f ≤ e → 2 ^ (fP f - 1) ≤ pkN f m ng e s ∧ pkN f m ng e s = cutQ s (256 - fP f) false m ng) := by
  obtain ⟨p0, p1, p2, p3, p4, p5, p6, p7, p8⟩ := f_nums f0 hf
  have hp := two_pow_pos 255
  have hl := two_pow_le (show fP f - 1 ≤ fP f by omega)
  unfold pkN
  rcases pkL_cases f e with ⟨h, l⟩ | ⟨h, l⟩
  · rw [l]
    have c := (cut_le16 (k := fP f - 1) (n := 256 - fP f + (1 - fE f - e)) (by omega) (by omega) s1 m ng).2
    exact ⟨(cut_pos16 (by omega) (by omega) m ng).2, by omega, fun _ => c, fun z => by omega⟩
  · rw [l, show (256 - (fP f : Int) + (e - e)) = 256 - fP f by omega]
    have c := (cut_le16 (k := fP f) (n := 256 - fP f) (by omega) (by omega) s1 m ng).2
    exact ⟨(cut_pos16 (by omega) (by omega) m ng).2, c, fun z => by omega, fun _ => ⟨(cut_ge16 (k := fP f - 1) (by omega) (by omega) s0 m ng).2, rfl⟩⟩
theorem num_make {f m e s : Int} {ng : Bool} (f0 : 0 ≤ f) (hf : f < 4) (s0 : 2 ^ 255 ≤ s) (s1 : s < 2 ^ 256) (h : ¬ fE f < pkA f m ng e s) :
    ∃ x k, ptF f ng (pkL f e) (pkN f m ng e s) = makeF f ng x k ∧ 0 ≤ x ∧ x ≤ 2 * fE f := by
  obtain ⟨p0, p1, p2, p3, p4, p5, p6, p7, p8⟩ := f_nums f0 hf
  have t := pow_top (show 1 ≤ fP f by omega)
  have hp := two_pow_pos (fP f - 1)
  obtain ⟨b0, b1, b2, b3⟩ := pkN_bounds (e := e) f0 hf s0 s1 m ng
  rcases pkL_cases f e with ⟨h1, l⟩ | ⟨h1, l⟩
  · rw [l]
    have b2 := b2 h1
    by_cases z : pkN f m ng e s < 2 ^ (fP f - 1)
    · exact ⟨0, _, pt_sub f0 hf ng b0 z, by omega, by omega⟩
    · exact ⟨_, _, pt_nor f0 hf ng (by omega) (by omega) (by omega) (by omega), by omega, by omega⟩
  · rw [l]
    obtain ⟨b3, b4⟩ := b3 h1
    rcases pkA_cases f m ng e s with ⟨a, c⟩ | ⟨a, c⟩
    · exact ⟨_, _, pt_nor f0 hf ng b3 (by omega) (by omega) (by omega), by omega, by omega⟩
    · rw [b4, c]
      exact ⟨_, _, pt_top f0 hf ng (by omega) (by omega), by omega, by omega⟩
theorem make_le_max {f x k : Int} (f0 : 0 ≤ f) (hf : f < 4) (x0 : 0 ≤ x) (x1 : x ≤ 2 * fE f) : makeF f false x k ≤ maxF f false := by
  obtain ⟨p0, p1, p2, p3, p4, p5, p6, p7, p8⟩ := f_nums f0 hf
  obtain ⟨q1, q2, _⟩ := make_parts f0 hf false x k
  have m := mul_le_of (c := 2 ^ (fP f - 1)) (by have := two_pow_pos (fP f - 1); omega) x1
  rw [max_val f0 hf]
  unfold makeF
  rw [if_pos hf, expOf_id f0 hf x0 (by omega), if_neg (by decide)]
  omega
theorem max_inf {f : Int} (f0 : 0 ≤ f) (hf : f < 4) (ng : Bool) : infF f ng = maxF f ng + 1 := by
  rw [max_val f0 hf, inf_val f0 hf, Int.add_mul (2 * (fE f : Int)), Int.one_mul]; omega
theorem over_ge {f m : Int} (f0 : 0 ≤ f) (hf : f < 4) (hm : m < 5) : overB f m false = maxF f false ∨ overB f m false = maxF f false + 1 := by
  cases i : infM m false with
  | true => rw [(over_inf ⟨hf, hm⟩ i).1, max_inf f0 hf]; exact .inr rfl
  | false => rw [(over_fin ⟨hf, hm⟩ i).1]; exact .inl rfl
end Go.Proofs.YtdcdbcccchadfaaGreatDoor
namespace Go.Proofs.YtdcdbcccchadfaaGreatDoor
open Go.RowKit
theorem pk_num {f m exp x : Int} {ng : Bool} (hf : f < 4) (hm : m < 5) (hx : x ≠ 0) : pkB f m ng exp x = numB f m ng (pkE exp x) (pkS x) ∧ ∀ t, pkFl f m t ng exp x = numFl f m t ng (pkE exp x) (pkS x) := by
  unfold pkB pkFl
  rw [if_pos ⟨hf, hm⟩, if_neg hx]
  exact ⟨rfl, fun t => if_pos ⟨⟨hf, hm⟩, hx⟩⟩
theorem pk_zero {f m exp : Int} {ng : Bool} (hf : f < 4) (hm : m < 5) : pkB f m ng exp 0 = makeF f ng 0 0 ∧ ∀ t, pkFl f m t ng exp 0 = 0 := by
  unfold pkB pkFl
  rw [if_pos ⟨hf, hm⟩, if_pos rfl]
  exact ⟨rfl, fun t => if_neg (fun h => h.2 rfl)⟩
theorem inf_lt {f : Int} (f0 : 0 ≤ f) (hf : f < 4) : infF f false < 2 ^ (fW f - 1) := by
  obtain ⟨p0, p1, p2, p3, p4, p5, p6, p7, p8⟩ := f_nums f0 hf
  obtain ⟨q1, q2, q3, q4, q5, q6⟩ := make_parts f0 hf false (2 * fE f + 1) 0
  unfold infF makeF
  rw [if_pos hf, if_neg (by decide), Int.add_zero]; exact q4
theorem num_range {f m e s : Int} (f0 : 0 ≤ f) (hf : f < 4) (hm : m < 5) (s0 : 2 ^ 255 ≤ s) (s1 : s < 2 ^ 256) : 0 ≤ numB f m false e s ∧ numB f m false e s ≤ infF f false := by
  have mi := max_inf f0 hf false
  have m0 := (make_full f0 (f := f) false (2 * fE f) (2 ^ (fP f - 1) - 1)).1
  have m1 : 0 ≤ maxF f false := m0
  unfold numB
  split
  · rcases over_ge (m := m) f0 hf hm with h | h <;> rw [h] <;> omega
  · rename_i h
    obtain ⟨x, k, e1, x0, x1⟩ := num_make f0 hf s0 s1 h
    rw [e1]
    have := make_le_max (k := k) f0 hf x0 x1
    have := (make_full f0 (f := f) false x k).1
    omega
theorem cut_mir (s n m : Int) : cutQ s n false (mirM m) true = cutQ s n false m false := by
  have h : ∀ od r, nextM (mirM m) true od r = nextM m false od r := fun od r => by
    have := next_mirror (mirM m) od r; rw [mir_mir] at this; exact this.symm
  unfold cutQ; rw [h]
theorem make_sign {f : Int} (hf : f < 4) (e k : Int) : makeF f true e k = makeF f false e k + 2 ^ (fW f - 1) := by
  unfold makeF; rw [if_pos hf, if_pos hf, if_pos rfl, if_neg (by decide), Int.add_zero]
theorem num_mir {f m e s : Int} (f0 : 0 ≤ f) (hf : f < 4) (hm : m < 5) : numB f (mirM m) true e s = numB f m false e s + 2 ^ (fW f - 1) ∧ ∀ t, numFl f (mirM m) t true e s = numFl f m t false e s := by
  have m5 : mirM m < 5 := by have := mir_known m; rw [decide_eq_decide] at this; exact this.2 hm
  have a : pkA f (mirM m) true e s = pkA f m false e s := by unfold pkA; rw [cut_mir]
  have n : pkN f (mirM m) true e s = pkN f m false e s := by unfold pkN; rw [cut_mir]
  have im := inf_mirror (mirM m)
  rw [mir_mir] at im
  have ob : overB f (mirM m) true = overB f m false + 2 ^ (fW f - 1) := by
    unfold overB
    rw [if_pos (show f < 4 ∧ mirM m < 5 from ⟨hf, m5⟩), if_pos (show f < 4 ∧ m < 5 from ⟨hf, hm⟩), ← im]
    split
    · exact make_sign hf ..
    · exact make_sign hf ..
  have ofl : overFl f (mirM m) = overFl f m := by unfold overFl; rw [if_pos ⟨hf, m5⟩, if_pos ⟨hf, hm⟩]
  unfold numB numFl
  rw [a, n, ob]
  constructor
  · split
    · rfl
    · unfold ptF; rw [if_pos rfl, if_neg (by decide)]; omega
  · intro t; rw [ofl]
theorem pk_mir {f m exp x : Int} (f0 : 0 ≤ f) (hf : f < 4) (hm : m < 5) : pkB f (mirM m) true exp x = pkB f m false exp x + 2 ^ (fW f - 1) ∧ ∀ t, pkFl f (mirM m) t true exp x = pkFl f m t false exp x := by
  have m5 : mirM m < 5 := by have := mir_known m; rw [decide_eq_decide] at this; exact this.2 hm
  by_cases z : x = 0
  · subst z
    rw [(pk_zero hf m5).1, (pk_zero hf hm).1]
    exact ⟨make_sign hf 0 0, fun t => by rw [(pk_zero hf m5).2, (pk_zero hf hm).2]⟩
  · rw [(pk_num hf m5 z).1, (pk_num hf hm z).1]
    refine ⟨(num_mir f0 hf hm).1, fun t => ?_⟩
    rw [(pk_num hf m5 z).2, (pk_num hf hm z).2, (num_mir f0 hf hm).2]
end Go.Proofs.YtdcdbcccchadfaaGreatDoor
namespace Go.Proofs.YtdcdbcccchadfaaGreatDoor
open Go.RowKit
theorem make_fin {f y : Int} (f0 : 0 ≤ f) (hf : f < 4) (ng : Bool) (k : Int) (y0 : 0 ≤ y) (y1 : y ≤ 2 * fE f) : clsF f (makeF f ng y k) ≤ 2 := by
  obtain ⟨p0, p1, p2, p3, p4, p5, p6, p7, p8⟩ := f_nums f0 hf
  obtain ⟨a, b, _⟩ := make_fields f0 hf ng y k
  rw [expOf_id f0 hf y0 (by omega)] at a
  unfold clsF
  rw [if_pos hf, a]
  split
  · split <;> omega
  · rw [if_neg (by omega)]; omega
theorem pk_class {f m ex x : Int} {ng : Bool} (f0 : 0 ≤ f) (hf : f < 4) (hm : m < 5) (x0 : 0 ≤ x) (x1 : x < wfull) :
    0 ≤ pkB f m ng ex x ∧ pkB f m ng ex x < full ∧ cutF f (pkB f m ng ex x) = pkB f m ng ex x ∧ (clsF f (pkB f m ng ex x) ≤ 2 ∨ (clsF f (pkB f m ng ex x) = 3 ∧ ∀ t, pkFl f m t ng ex x = 20)) := by
  obtain ⟨p0, p1, p2, p3, p4, p5, p6, p7, p8⟩ := f_nums f0 hf
  have mk : ∀ y k : Int, 0 ≤ y → y ≤ 2 * fE f → 0 ≤ makeF f ng y k ∧ makeF f ng y k < full ∧ cutF f (makeF f ng y k) = makeF f ng y k ∧ (clsF f (makeF f ng y k) ≤ 2 ∨ (clsF f (makeF f ng y k) = 3 ∧ ∀ t, pkFl f m t ng ex x = 20)) := fun y k y0 y1 => by
    obtain ⟨r0, r1⟩ := make_full f0 (f := f) ng y k
    obtain ⟨_, _, _, _, q5, q6⟩ := make_parts f0 hf ng y k
    exact ⟨r0, r1, by unfold cutF; exact Int.emod_eq_of_lt q5 q6, .inl (make_fin f0 hf ng k y0 y1)⟩
  by_cases z : x = 0
  · subst z
    rw [(pk_zero hf hm).1]; exact mk 0 0 (by decide) (by omega)
  · obtain ⟨s0, s1⟩ := pkS_range (show 0 < x by omega) x1
    rw [(pk_num hf hm z).1]
    have fl := (pk_num (exp := ex) (ng := ng) hf hm z).2
    unfold numB
    by_cases ov : fE f < pkA f m ng (pkE ex x) (pkS x)
    · rw [if_pos ov]
      cases i : infM m ng with
      | true =>
        rw [(over_inf ⟨hf, hm⟩ i).1]
        obtain ⟨r0, r1⟩ := make_full f0 (f := f) ng (2 * fE f + 1) 0
        obtain ⟨_, _, _, _, q5, q6⟩ := make_parts f0 hf ng (2 * fE f + 1) 0
        refine ⟨r0, r1, by unfold cutF; exact Int.emod_eq_of_lt q5 q6, .inr ⟨(inf_cls f0 hf ng).1, fun t => ?_⟩⟩
        rw [fl]; unfold numFl; rw [if_pos ov, (over_inf (ng := ng) ⟨hf, hm⟩ i).2]
      | false =>
        rw [(over_fin ⟨hf, hm⟩ i).1]
        exact mk (2 * fE f) (2 ^ (fP f - 1) - 1) (by omega) (by omega)
    · rw [if_neg ov]
      obtain ⟨y, k, e1, y0, y1⟩ := num_make f0 hf s0 s1 ov
      rw [e1]; exact mk y k y0 y1
end Go.Proofs.YtdcdbcccchadfaaGreatDoor
namespace Go.Proofs.YtdcdbcccchadfaaGreatDoor
open Go.RowKit
theorem dc_unit {f m q E : Int} {ng : Bool} (f0 : 0 ≤ f) (hf : f < 4) (hm : m < 5) (q0 : 0 ≤ q) (k : Nat) (hk : (k : Int) = 2 - fE f - fP f - E) (hq : q % 2 ^ k = 0) : ∀ B : Int, dcB f m ng q E false = B →
    0 ≤ B ∧ B < full ∧ cutF f B = B ∧ negF f B = ng ∧ clsF f B ≤ 3 ∧ (clsF f B = 0 ↔ q = 0) ∧ (∀ t, (dcFl f m t ng q E false = 0 ∨ dcFl f m t ng q E false = 16 ∨ dcFl f m t ng q E false = 20) ∧ (clsF f B ≤ 1 → dcFl f m t ng q E false = 0)) := by
  intro B hB
  subst hB
  obtain ⟨p0, p1, p2, p3, p4, p5, p6, p7, p8⟩ := f_nums f0 hf
  have mk : ∀ y v : Int, 0 ≤ makeF f ng y v ∧ makeF f ng y v < full ∧ cutF f (makeF f ng y v) = makeF f ng y v ∧ negF f (makeF f ng y v) = ng := fun y v => by
    obtain ⟨r0, r1⟩ := make_full f0 (f := f) ng y v
    obtain ⟨_, _, _, _, q5, q6⟩ := make_parts f0 hf ng y v
    exact ⟨r0, r1, by unfold cutF; exact Int.emod_eq_of_lt q5 q6, (make_fields f0 hf ng y v).2.2⟩
  have nor : ∀ y v : Int, 1 ≤ y → y ≤ 2 * fE f → clsF f (makeF f ng y v) = 2 := fun y v y0 y1 => by
    obtain ⟨a, b, _⟩ := make_fields f0 hf ng y v
    rw [expOf_id f0 hf (by omega) (by omega)] at a
    exact (cls_2 hf).2 ⟨by omega, by omega⟩
  by_cases z : q = 0
  · subst z
    rw [dc_zero.1, if_pos ⟨hf, hm⟩]
    obtain ⟨a1, a2, a3, a4⟩ := mk 0 0
    have c := (nought_cls f0 hf ng).1
    exact ⟨a1, a2, a3, a4, by omega, ⟨fun _ => rfl, fun _ => c⟩, fun t => ⟨.inl (dc_zero.2 t), fun _ => dc_zero.2 t⟩⟩
  · have qp : 0 < q := by omega
    have Z : ¬ (q = 0 ∧ false = false) := fun h => z h.1
    have FM : (f < 4 ∧ m < 5) ∧ ¬ (q = 0 ∧ false = false) := ⟨⟨hf, hm⟩, Z⟩
    obtain ⟨c0, c1, cA⟩ := dcA_cases f0 hf qp m ng E false
    obtain ⟨n0, n1, n2, n3⟩ := dcN_bounds f0 hf qp m ng E false
    have fl : ∀ t, dcFl f m t ng q E false = (if fE f < dcA f m ng q E false then overFl f m else if restQ q (dcU f q E) false = 0 then 0 else if (if t then dcA f m ng q E false else dcE q E) < 1 - fE f then 24 else 16) := fun t => by unfold dcFl; rw [if_pos FM]
    have bv : dcB f m ng q E false = (if fE f < dcA f m ng q E false then overB f m ng else ptF f ng (pkL f (dcE q E)) (cutQ q (dcU f q E) false m ng)) := by unfold dcB; rw [if_pos ⟨hf, hm⟩, if_neg Z]
    have eU : dcU f q E = pkL f (dcE q E) - dcE q E + (blen q - fP f) := rfl
    have eD : dcE q E = blen q - 1 + E := rfl
    have tp := pow_top (show 1 ≤ fP f by omega)
    have hp := two_pow_pos (fP f - 1)
    by_cases ov : (fE f : Int) < dcA f m ng q E false
    · have f20 : overFl f m = 20 := by unfold overFl; rw [if_pos ⟨hf, hm⟩]
      rw [bv, if_pos ov]
      have cl : clsF f (overB f m ng) = 3 ∨ clsF f (overB f m ng) = 2 := by
        cases i : infM m ng with
        | true => rw [(over_inf ⟨hf, hm⟩ i).1]; exact .inl (inf_cls f0 hf ng).1
        | false => rw [(over_fin ⟨hf, hm⟩ i).1]; exact .inr (nor _ _ (by omega) (by omega))
      have mo : ∃ y v, overB f m ng = makeF f ng y v := by
        cases i : infM m ng with
        | true => exact ⟨_, _, (over_inf ⟨hf, hm⟩ i).1⟩
        | false => exact ⟨_, _, (over_fin ⟨hf, hm⟩ i).1⟩
      obtain ⟨y, v, e⟩ := mo
      rw [e] at cl ⊢
      obtain ⟨a1, a2, a3, a4⟩ := mk y v
      refine ⟨a1, a2, a3, a4, by omega, ⟨fun h => by omega, fun h => by omega⟩, fun t => ?_⟩
      rw [fl, if_pos ov, f20]
      exact ⟨.inr (.inr rfl), fun h => by omega⟩
    · rw [bv, if_neg ov]
      rcases pkL_cases f (dcE q E) with ⟨h1, l⟩ | ⟨h1, l⟩
      · -- tiny: exact
        have uk : dcU f q E = k := by omega
        have k0 : 0 < k ∨ k = 0 := by omega
        have r : restQ q (dcU f q E) false = 0 := by
          rw [uk]
          rcases k0 with h | h
          · rw [rest_zero (by omega), Int.toNat_natCast]; exact hq
          · subst h; unfold restQ; rw [if_pos (by decide)]; rfl
        have fv : floorQ q (dcU f q E) = q / 2 ^ k := by
          rw [uk]
          rcases k0 with h | h
          · rw [floor_pos (by omega), Int.toNat_natCast]
          · subst h; unfold floorQ; rw [if_pos (by decide)]; simp
        have qe : q / 2 ^ k * 2 ^ k = q := by have := Int.mul_ediv_add_emod q (2 ^ k); rw [hq, Int.mul_comm] at this; omega
        rw [cut_none r, fv, l]
        have n2' := n2 h1
        rw [cut_none r, fv] at n2' n0
        have hk2 := two_pow_pos k
        have np : q / 2 ^ k ≠ 0 := fun h => by rw [h, Int.zero_mul] at qe; omega
        have nl : q / 2 ^ k < 2 ^ (fP f - 1) := by
          have b := lt_blen q (by omega)
          have s := two_pow_le (show blen q ≤ fP f - 1 + k by omega)
          rw [Int.pow_add] at s
          exact Int.ediv_lt_of_lt_mul hk2 (by omega)
        rw [pt_sub f0 hf ng n0 nl]
        obtain ⟨a1, a2, a3, a4⟩ := mk 0 (q / 2 ^ k)
        obtain ⟨b1, b2, _⟩ := make_fields f0 hf ng 0 (q / 2 ^ k)
        rw [expOf_id f0 hf (by decide) (by omega)] at b1
        rw [Int.emod_eq_of_lt n0 nl] at b2
        have c : clsF f (makeF f ng 0 (q / 2 ^ k)) = 1 := (cls_1 hf).2 ⟨b1, by rw [b2]; exact np⟩
        refine ⟨a1, a2, a3, a4, by omega, ⟨fun h => by omega, fun h => by omega⟩, fun t => ?_⟩
        rw [fl, if_neg ov, if_pos r]
        exact ⟨.inl rfl, fun _ => rfl⟩
      · obtain ⟨n3, n4⟩ := n3 h1
        have cl : ∃ y v, ptF f ng (pkL f (dcE q E)) (cutQ q (dcU f q E) false m ng) = makeF f ng y v ∧ 1 ≤ y ∧ y ≤ 2 * fE f := by
          rw [n4, l]
          rcases cA with ⟨a, _, d⟩ | ⟨a, _, d⟩
          · exact ⟨_, _, pt_nor f0 hf ng c0 (by omega) (by omega) (by omega), by omega, by omega⟩
          · rw [d]; exact ⟨_, _, pt_top f0 hf ng (by omega) (by omega), by omega, by omega⟩
        obtain ⟨y, v, e, y0, y1⟩ := cl
        rw [e]
        obtain ⟨a1, a2, a3, a4⟩ := mk y v
        have c := nor y v y0 y1
        refine ⟨a1, a2, a3, a4, by omega, ⟨fun h => by omega, fun h => by omega⟩, fun t => ?_⟩
        rw [fl, if_neg ov]
        refine ⟨?_, fun h => by omega⟩
        by_cases r : restQ q (dcU f q E) false = 0
        · rw [if_pos r]; exact .inl rfl
        · rw [if_neg r]
          have : ¬ ((if t then dcA f m ng q E false else dcE q E) < 1 - fE f) := by
            cases t
            · simp only [Bool.false_eq_true, if_false]; omega
            · simp only [if_true]; rcases cA with ⟨a, _⟩ | ⟨a, _⟩ <;> omega
          rw [if_neg this]; exact .inr (.inl rfl)
end Go.Proofs.YtdcdbcccchadfaaGreatDoor
namespace Go.Proofs.YtdcdbcccchadfaaGreatDoor
open Go.RowKit
theorem quiet_sig {f b : Int} (h0 : 0 ≤ f) (hb : 0 ≤ b) (h : sigF f b = true) : quietF f b = makeF f (negF f b) (expF f b) (fracF f b + 2 ^ (fP f - 2)) := by
  obtain ⟨h4, e, fr, lt⟩ := sig_parts h
  obtain ⟨p0, p1, p2, p3, p4, p5, p6, p7, p8⟩ := f_nums h0 h4
  obtain ⟨x0, x1, x2, x3⟩ := exp_range h0 h4 hb
  obtain ⟨r0, r1⟩ := frac_range (b := b) h0 h4
  have n2 : (2 : Int) ^ (fP f - 1) = 2 * 2 ^ (fP f - 2) := by rw [← Int.pow_succ', show fP f - 2 + 1 = fP f - 1 by omega]
  have hp := two_pow_pos (fP f - 2)
  unfold quietF
  rw [h, if_pos rfl, ← make_split h0 h4 hb]
  unfold makeF
  rw [if_pos h4, if_pos h4, Int.emod_eq_of_lt (a := fracF f b) (by omega) (by omega), Int.emod_eq_of_lt (a := fracF f b + 2 ^ (fP f - 2)) (by omega) (by omega)]
  omega
theorem quiet_full {f b : Int} (h0 : 0 ≤ f) (hb : 0 ≤ b) (hf : b < full) : 0 ≤ quietF f b ∧ quietF f b < full := by
  by_cases h : sigF f b = true
  · rw [quiet_sig h0 hb h]; exact make_full h0 ..
  · rw [quiet_not (by simpa using h)]
    have := cut_range (f := f) h0 hb
    omega
theorem def_full {f : Int} (h0 : 0 ≤ f) : 0 ≤ defF f ∧ defF f < full := make_full h0 ..
theorem first_full {f : Int} (h0 : 0 ≤ f) (xs : List Int) : 0 ≤ firstV f xs ∧ firstV f xs < full := by
  unfold firstV
  split
  · exact quiet_full h0 (mod_f _).1 (mod_f _).2
  · exact def_full h0
theorem quiet_fields {f b : Int} (h0 : 0 ≤ f) (h4 : f < 4) (hb : 0 ≤ b) :
    negF f (quietF f b) = negF f b ∧ expF f (quietF f b) = expF f b ∧ fracF f (quietF f b) = fracF f b + (if sigF f b then 2 ^ (fP f - 2) else 0) := by
  by_cases h : sigF f b = true
  · obtain ⟨_, e, fr, lt⟩ := sig_parts h
    obtain ⟨p0, p1, p2, p3, p4, p5, p6, p7, p8⟩ := f_nums h0 h4
    obtain ⟨x0, x1, x2, x3⟩ := exp_range h0 h4 hb
    obtain ⟨r0, r1⟩ := frac_range (b := b) h0 h4
    have n2 : (2 : Int) ^ (fP f - 1) = 2 * 2 ^ (fP f - 2) := by rw [← Int.pow_succ', show fP f - 2 + 1 = fP f - 1 by omega]
    have hp := two_pow_pos (fP f - 2)
    obtain ⟨m1, m2, m3⟩ := make_fields h0 h4 (negF f b) (expF f b) (fracF f b + 2 ^ (fP f - 2))
    rw [expOf_id h0 h4 x0 x1] at m1
    rw [Int.emod_eq_of_lt (by omega) (by omega)] at m2
    rw [quiet_sig h0 hb h, h, if_pos rfl]
    exact ⟨m3, m1, m2⟩
  · have h' : sigF f b = false := by simpa using h
    rw [quiet_not h', h', if_neg (by decide), Int.add_zero]
    exact ⟨neg_cut h0 h4 b, exp_cut h0 h4 b, frac_cut h0 h4 b⟩
theorem quiet_cls {f b : Int} (h0 : 0 ≤ f) (hb : 0 ≤ b) : clsF f (quietF f b) = if sigF f b then 4 else clsF f b := by
  by_cases h4 : f < 4
  · obtain ⟨q1, q2, q3⟩ := quiet_fields h0 h4 hb
    by_cases h : sigF f b = true
    · obtain ⟨_, e, fr, lt⟩ := sig_parts h
      obtain ⟨p0, p1, p2, p3, p4, p5, p6, p7, p8⟩ := f_nums h0 h4
      obtain ⟨r0, r1⟩ := frac_range (b := b) h0 h4
      have hp := two_pow_pos (fP f - 2)
      rw [h, if_pos rfl] at q3 ⊢
      unfold clsF
      rw [if_pos h4, q2, q3, e, if_neg (by omega), if_pos rfl, if_neg (by omega), if_pos (by omega)]
    · have h' : sigF f b = false := by simpa using h
      rw [h', if_neg (by decide)] at q3 ⊢
      rw [Int.add_zero] at q3
      exact cls_congr q2 q3
  · have h' : sigF f b = false := by unfold sigF; rw [cls_no h4]; rfl
    rw [h', if_neg (by decide), cls_no h4, cls_no h4]
theorem quiet_nan {f b : Int} (h0 : 0 ≤ f) (hb : 0 ≤ b) : nanF f (quietF f b) = nanF f b ∧ sigF f (quietF f b) = false := by
  have c := quiet_cls h0 hb
  by_cases h : sigF f b = true
  · have n := sig_nan h
    rw [h, if_pos rfl] at c
    unfold nanF sigF at *
    rw [c, n]; exact ⟨rfl, rfl⟩
  · have h' : sigF f b = false := by simpa using h
    rw [h', if_neg (by decide)] at c
    unfold nanF sigF at *
    rw [c]; exact ⟨rfl, h'⟩
theorem def_cls {f : Int} (h0 : 0 ≤ f) (h4 : f < 4) : clsF f (defF f) = 4 ∧ cutF f (defF f) = defF f := by
  obtain ⟨p0, p1, p2, p3, p4, p5, p6, p7, p8⟩ := f_nums h0 h4
  have n2 : (2 : Int) ^ (fP f - 1) = 2 * 2 ^ (fP f - 2) := by rw [← Int.pow_succ', show fP f - 2 + 1 = fP f - 1 by omega]
  have hp := two_pow_pos (fP f - 2)
  obtain ⟨m1, m2, m3⟩ := make_fields h0 h4 false (2 * fE f + 1) (2 ^ (fP f - 2))
  rw [expOf_id h0 h4 (by omega) (by omega)] at m1
  rw [Int.emod_eq_of_lt (by omega) (by omega)] at m2
  constructor
  · unfold defF clsF
    rw [if_pos h4, m1, m2, if_neg (by omega), if_pos rfl, if_neg (by omega), if_pos (by omega)]
  · have m := make_parts h0 h4 false (2 * fE f + 1) (2 ^ (fP f - 2))
    exact Int.emod_eq_of_lt m.2.2.2.2.1 m.2.2.2.2.2
end Go.Proofs.YtdcdbcccchadfaaGreatDoor
namespace Go.Proofs.YtdcdbcccchadfaaGreatDoor
open Go.RowKit
attribute [local go_sem ↓] Go.wp_at_zero Go.wp_at_succ
theorem frac_low {f b : Int} (h0 : 0 ≤ f) : 0 ≤ fracF f b ∧ fracF f b < full := by
  by_cases h4 : f < 4
  · obtain ⟨p0, p1, p2, _⟩ := f_nums h0 h4
    obtain ⟨r0, r1⟩ := frac_range (b := b) h0 h4
    have e1 : (2 : Int) ^ (fP f - 1) ≤ 2 ^ fW f := two_pow_le (by omega)
    have := fW_full f
    omega
  · unfold fracF; rw [if_neg h4]; unfold full; omega
end Go.Proofs.YtdcdbcccchadfaaGreatDoor
namespace Go.Proofs.YtdcdbcccchadfaaGreatDoor
open Go.RowKit
attribute [local go_sem ↓] Go.wp_at_zero Go.wp_at_succ
def mlB (f m a b : Int) : Int := if f < 4 ∧ m < 5 then (if pickK f (mlI f a b) [a, b] then pickV f (mlI f a b) [a, b] else if clsF f a = 3 ∨ clsF f b = 3 then infF f (mlN f a b) else pkB f m (mlN f a b) (mlE f a b) (mlS f a b)) else 0
def mlFl (f m : Int) (t : Bool) (a b : Int) : Int := if f < 4 ∧ m < 5 then (if pickK f (mlI f a b) [a, b] then pickF f (mlI f a b) [a, b] else if clsF f a = 3 ∨ clsF f b = 3 then 0 else pkFl f m t (mlN f a b) (mlE f a b) (mlS f a b)) else 0
structure MulOK : Prop where
  mul : ∀ f m t a b, 0 ≤ f → f ≤ 255 → 0 ≤ m → m ≤ 255 → 0 ≤ a → a < full → 0 ≤ b → b < full → ∀ w, FTab w → Calls Tryz.prog 16 #[.int .u8 f, .agg #[.int .u8 m, .bool t], .agg #[.int .u64 (hiOf (a)), .int .u64 (loOf (a))], .agg #[.int .u64 (hiOf (b)), .int .u64 (loOf (b))]] w fun e w' => e = .returned (.agg #[.int .u64 (hiOf (mlB f m a b)), .int .u64 (loOf (mlB f m a b)), .int .u8 (mlFl f m t a b)]) ∧ Below w.heap.size w w'
  term : ∀ g c x s h d y u, 0 ≤ s → s < full → 0 ≤ u → u < full → ∀ w, Calls Tryz.prog 55 #[.agg #[.bool g, .int .u8 c, .int .i64 x, .int .u64 (hiOf (s)), .int .u64 (loOf (s))], .agg #[.bool h, .int .u8 d, .int .i64 y, .int .u64 (hiOf (u)), .int .u64 (loOf (u))]] w fun e w' => e = .returned (.tuple #[.int .i64 (tmE c d x y), .agg #[.int .u64 (wd0 (tmS c d s u)), .int .u64 (wd1 (tmS c d s u)), .int .u64 (wd2 (tmS c d s u)), .int .u64 (wd3 (tmS c d s u))]]) ∧ Below w.heap.size w w'
  bad : ∀ g c x k l h d y p q, ∀ w, Calls Tryz.prog 32 #[.agg #[.bool g, .int .u8 c, .int .i64 x, .int .u64 k, .int .u64 l], .agg #[.bool h, .int .u8 d, .int .i64 y, .int .u64 p, .int .u64 q]] w fun e w' => e = .returned (.bool (badC c d)) ∧ Below w.heap.size w w'
theorem badC_turn (c d : Int) : badC d c = badC c d := by unfold badC; rw [decide_eq_decide]; omega
theorem numC_turn (c d : Int) : numC d c = numC c d := by unfold numC; rw [decide_eq_decide]; omega
theorem mlN_turn (f a b : Int) : mlN f b a = mlN f a b := by unfold mlN; cases negF f a <;> cases negF f b <;> rfl
theorem mlE_turn (f a b : Int) : mlE f b a = mlE f a b := by unfold mlE tmE; rw [numC_turn, Int.add_comm (uE f b)]
theorem mlS_turn (f a b : Int) : mlS f b a = mlS f a b := by unfold mlS tmS; rw [numC_turn, Int.mul_comm (uS f b)]
theorem ml_fin {f m a b : Int} (f0 : 0 ≤ f) (hf : f < 4) (hm : m < 5) (a0 : 0 ≤ a) (a1 : a < full) (b0 : 0 ≤ b) (b1 : b < full) (ca : clsF f a ≤ 2) (cb : clsF f b ≤ 2) :
    mlB f m a b = pkB f m (mlN f a b) (mlE f a b) (mlS f a b) ∧ ∀ t, mlFl f m t a b = pkFl f m t (mlN f a b) (mlE f a b) (mlS f a b) := by
  have na : nanF f a = false := by unfold nanF; simp; omega
  have nb : nanF f b = false := by unfold nanF; simp; omega
  have ii : mlI f a b = false := by unfold mlI badC; rw [decide_eq_false]; omega
  have an : anyN f [a, b] = false := by unfold anyN; simp [Int.emod_eq_of_lt a0 a1, Int.emod_eq_of_lt b0 b1, na, nb]
  obtain ⟨k1, k2, k3⟩ := pick_none (f := f) [a, b] an
  unfold mlB mlFl
  rw [if_pos ⟨hf, hm⟩, ii, k3, if_neg (by decide), if_neg (by omega)]
  refine ⟨rfl, fun t => ?_⟩
  rw [if_pos ⟨hf, hm⟩, if_neg (by decide), if_neg (by omega)]
end Go.Proofs.YtdcdbcccchadfaaGreatDoor
namespace Go.Proofs.YtdcdbcccchadfaaGreatDoor
open Go.RowKit
attribute [local go_sem ↓] Go.wp_at_zero Go.wp_at_succ
theorem diff_jam {e x g y : Int} (hx : room x) (hy : room y) (h : ¬ cmpT e x g y < 0) :
    diffT e x g y = jamN (baseT e x - baseT g y) (levT e x g y + 1099511627776).toNat ∧ (x ≠ 0 → levT e x g y = clT e) ∧ (x = 0 → y = 0) := by
  have le : baseT g y ≤ baseT e x := by rw [cmpT_base, cmpI_lti] at h; omega
  have r1 := clT_range e; have r2 := clT_range g
  have x4 := room_four hx
  obtain ⟨x0, x1, x2, x3⟩ := hx
  obtain ⟨y0, y1, y2, y3⟩ := hy
  obtain ⟨l1, l2⟩ := lev_ge e x g y
  by_cases zx : x = 0
  · have zy : y = 0 := by
      have b := base_nonneg (e := g) y0
      rw [base_zero.2 zx] at le
      exact (base_zero (e := g)).1 (by omega)
    refine ⟨?_, fun k => absurd zx k, fun _ => zy⟩
    unfold diffT alT
    rw [if_neg h, base_zero.2 zx, base_zero.2 zy, zx, zy, jam_nought, jam_nought, Int.sub_zero, jam_nought]
  · have y3' : y = 0 ∨ 2 ^ 255 ≤ y := y3
    have L : levT e x g y = clT e := by
      rw [lev_down y0 h]
      by_cases zy : y = 0
      · rw [if_pos ⟨zy, zx⟩]
      · rw [if_neg (fun k => zy k.1)]
        by_cases lt : clT e < clT g
        · exfalso
          have yb := y3.resolve_left zy
          have a := pow_ge yb (clT g - clT e).toNat
          have b := two_pow_le (show 256 ≤ 255 + (clT g - clT e).toNat by omega)
          rw [wfull_pow] at b
          have c := pow_lt_mul (clT e + 1099511627776).toNat (show x < y * 2 ^ (clT g - clT e).toNat by omega)
          rw [Int.mul_assoc, ← Int.pow_add, show (clT g - clT e).toNat + (clT e + 1099511627776).toNat = (clT g + 1099511627776).toNat by omega] at c
          unfold baseT at le
          omega
        · rw [if_neg lt]
    refine ⟨?_, fun _ => L, fun k => absurd k zx⟩
    have A : alT e x (levT e x g y) = x := by unfold alT; rw [L, show (clT e - clT e).toNat = 0 by omega, jam_self]
    have B := al_base (x := y) l2
    unfold diffT
    rw [if_neg h, A, B, L]
    have S := jam_sub (a := x) (by omega) (baseT g y) (clT e + 1099511627776).toNat
    exact S.symm
theorem base_big {e x : Int} (h : 2 ^ 255 ≤ x) : 2 ^ (255 + (clT e + 1099511627776).toNat) ≤ baseT e x := pow_ge h _
theorem dc_sum {f m e x g y : Int} {ng : Bool} (f0 : 0 ≤ f) (hx : room x) (hy : room y) (he : clT e < 1099511627776) (hg : clT g < 1099511627776) :
    pkB f m ng (levT e x g y + 1) (sumT e x g y) = dcB f m ng (baseT e x + baseT g y) (-1099511628031) false ∧ (∀ t, pkFl f m t ng (levT e x g y + 1) (sumT e x g y) = dcFl f m t ng (baseT e x + baseT g y) (-1099511628031) false) ∧ (sumT e x g y = 0 ↔ baseT e x + baseT g y = 0) := by
  have sj := sum_jam (e := e) (g := g) (room_four hx) (room_four hy)
  obtain ⟨s0, s1⟩ := sum_range (e := e) (g := g) hx.1 hx.2.1 hy.1 hy.2.1
  have lr := lev_range e x g y
  have lt := lev_lt (x := x) (y := y) he hg
  have px := base_nonneg (e := e) hx.1
  have py := base_nonneg (e := g) hy.1
  have r1 := clT_range e; have r2 := clT_range g
  have p8 := fP_le f0
  obtain ⟨d1, d2⟩ := dc_pk (f := f) (m := m) (exp := levT e x g y + 1) (x := sumT e x g y) (ng := ng) f0 s0 s1
  rw [clip_id (by omega) (by omega)] at d1 d2
  by_cases h0 : x ≠ 0 ∨ y ≠ 0
  · have big : 2 ^ (255 + (levT e x g y + 1099511627776).toNat) ≤ baseT e x + baseT g y := by
      rcases lev_top (e := e) (g := g) h0 with ⟨h, z⟩ | ⟨h, z⟩
      · have := base_big (e := e) (hx.2.2.2.resolve_left z); rw [h]; omega
      · have := base_big (e := g) (hy.2.2.2.resolve_left z); rw [h]; omega
    have bl := blen_above big
    have qp : 0 < baseT e x + baseT g y := by have := two_pow_pos (255 + (levT e x g y + 1099511627776).toNat); omega
    have J := dc_jam (f := f) (m := m) (ng := ng) (E := -1099511628031) (levT e x g y + 1 + 1099511627776).toNat qp (by omega)
    rw [← sj, show (-1099511628031 : Int) + ((levT e x g y + 1 + 1099511627776).toNat : Int) = levT e x g y + 1 - 255 by omega] at J
    refine ⟨d1.symm.trans J.1, fun t => (d2 t).symm.trans (J.2 t), ?_⟩
    rw [sj]; exact jam_zero (by omega) _
  · have zx : x = 0 := by omega
    have zy : y = 0 := by omega
    have b : baseT e x + baseT g y = 0 := by rw [base_zero.2 zx, base_zero.2 zy]; rfl
    have s : sumT e x g y = 0 := by rw [sj, b]; exact jam_nought _
    rw [s] at d1 d2 ⊢
    rw [b]
    rw [dc_zero.1] at d1 ⊢
    exact ⟨d1.symm, fun t => by rw [← d2 t, dc_zero.2, dc_zero.2], by simp⟩
theorem dc_diff0 {f m e x g y : Int} {ng : Bool} (f0 : 0 ≤ f) (hx : room x) (hy : room y) (h : ¬ cmpT e x g y < 0) :
    pkB f m ng (levT e x g y) (diffT e x g y) = dcB f m ng (baseT e x - baseT g y) (-1099511628031) false ∧ (∀ t, pkFl f m t ng (levT e x g y) (diffT e x g y) = dcFl f m t ng (baseT e x - baseT g y) (-1099511628031) false) ∧ (diffT e x g y = 0 ↔ baseT e x - baseT g y = 0) := by
  obtain ⟨sj, lx, zz⟩ := diff_jam hx hy h
  have le : baseT g y ≤ baseT e x := by rw [cmpT_base, cmpI_lti] at h; omega
  obtain ⟨s0, s1⟩ := diff_range (e := e) (g := g) hx.1 hx.2.1 hy.1 hy.2.1
  have lr := lev_range e x g y
  have r1 := clT_range e; have r2 := clT_range g
  have p8 := fP_le f0
  obtain ⟨d1, d2⟩ := dc_pk (f := f) (m := m) (exp := levT e x g y) (x := diffT e x g y) (ng := ng) f0 s0 s1
  rw [clip_id (by omega) (by omega)] at d1 d2
  by_cases q0 : baseT e x - baseT g y = 0
  · have s : diffT e x g y = 0 := by rw [sj, q0]; exact jam_nought _
    rw [s] at d1 d2 ⊢
    rw [q0]
    rw [dc_zero.1] at d1 ⊢
    exact ⟨d1.symm, fun t => by rw [← d2 t, dc_zero.2, dc_zero.2], by simp⟩
  · have xz : x ≠ 0 := fun k => q0 (by rw [base_zero.2 k, base_zero.2 (zz k)]; rfl)
    have L := lx xz
    obtain ⟨l1, l2⟩ := lev_ge e x g y
    have xb := hx.2.2.2.resolve_left xz
    have X := base_big (e := e) xb
    have bl : (levT e x g y + 1099511627776).toNat + 115 ≤ blen (baseT e x - baseT g y) := by
      rw [L]
      by_cases yz : y = 0
      · have := blen_above X
        rw [base_zero.2 yz, Int.sub_zero]; omega
      · have gl : clT g ≤ clT e := by rw [← L]; exact l2.resolve_right yz
        obtain ⟨j, hj⟩ : ∃ j : Nat, clT e - clT g = j := ⟨(clT e - clT g).toNat, by omega⟩
        obtain ⟨M, hM⟩ : ∃ M : Nat, (clT g + 1099511627776).toNat = M := ⟨_, rfl⟩
        have hN : (clT e + 1099511627776).toNat = j + M := by omega
        unfold baseT at X q0 le ⊢
        rw [hN] at X q0 le ⊢
        rw [hM] at q0 le ⊢
        by_cases j2 : 2 ≤ j
        · have yl : y * 2 ^ M < 2 ^ (254 + (j + M)) := by
            have a := pow_lt_mul M (show y < 2 ^ 256 by rw [wfull_pow]; exact hy.2.1)
            rw [← Int.pow_add] at a
            have := two_pow_le (show 256 + M ≤ 254 + (j + M) by omega)
            omega
          have e2 : (2 : Int) ^ (255 + (j + M)) = 2 ^ (254 + (j + M)) * 2 := by rw [← Int.pow_succ]; congr 1; omega
          have := blen_above (q := x * 2 ^ (j + M) - y * 2 ^ M) (k := 254 + (j + M)) (by omega)
          omega
        · have e3 : x * 2 ^ (j + M) - y * 2 ^ M = (x * 2 ^ j - y) * 2 ^ M := by rw [Int.sub_mul, Int.pow_add, ← Int.mul_assoc]
          rw [e3] at q0 ⊢
          have hp := two_pow_pos M
          have nn : ¬ x * 2 ^ j - y = 0 := fun k => q0 (by rw [k, Int.zero_mul])
          have ps : 0 ≤ x * 2 ^ j - y := by
            rw [← Int.sub_nonneg, e3] at le
            exact Int.nonneg_of_mul_nonneg_left le hp
          have dv : (x * 2 ^ j - y) % full = 0 := by
            have dx : full ∣ x := Int.dvd_of_emod_eq_zero hx.2.2.1
            have dy : full ∣ y := Int.dvd_of_emod_eq_zero hy.2.2.1
            exact Int.emod_eq_zero_of_dvd (Int.dvd_sub (Int.dvd_trans dx (Int.dvd_mul_right _ _)) dy)
          have big : 2 ^ 128 ≤ x * 2 ^ j - y := by
            rw [full_pow]; unfold full at dv ⊢; omega
          have := blen_above (pow_ge big M)
          omega
    have J := dc_jam (f := f) (m := m) (ng := ng) (E := -1099511628031) (levT e x g y + 1099511627776).toNat (show 0 < baseT e x - baseT g y by omega) (by omega)
    rw [← sj, show (-1099511628031 : Int) + ((levT e x g y + 1099511627776).toNat : Int) = levT e x g y - 255 by omega] at J
    refine ⟨d1.symm.trans J.1, fun t => (d2 t).symm.trans (J.2 t), ?_⟩
    rw [sj]; exact jam_zero (by omega) _
theorem dc_diff {f m e x g y : Int} {ng : Bool} (f0 : 0 ≤ f) (hx : room x) (hy : room y) : ∀ q : Int, (if baseT e x < baseT g y then baseT g y - baseT e x else baseT e x - baseT g y) = q →
    pkB f m ng (levT e x g y) (diffT e x g y) = dcB f m ng q (-1099511628031) false ∧ (∀ t, pkFl f m t ng (levT e x g y) (diffT e x g y) = dcFl f m t ng q (-1099511628031) false) ∧ (diffT e x g y = 0 ↔ q = 0) := by
  intro q hq
  subst hq
  have c : cmpT e x g y < 0 ↔ baseT e x < baseT g y := by rw [cmpT_base, cmpI_lti]
  by_cases h : cmpT e x g y < 0
  · rw [if_pos (c.1 h), ← lev_turn e x g y, ← diff_turn e x g y]
    exact dc_diff0 f0 hy hx (by rw [cmpT_turn]; omega)
  · rw [if_neg (fun k => h (c.2 k))]
    exact dc_diff0 f0 hx hy h
theorem vF_zero {f b : Int} (f0 : 0 ≤ f) (hf : f < 4) (b0 : 0 ≤ b) (c : clsF f b ≤ 2) : vF f b = 0 ↔ clsF f b = 0 := by
  have cr := cls_range f b
  unfold vF
  rw [base_zero]
  constructor
  · intro h
    apply Classical.byContradiction; intro z
    obtain ⟨_, _, r, _⟩ := un_range f0 hf b0 (show clsF f b = 1 ∨ clsF f b = 2 by omega)
    have := two_pow_pos 127
    unfold full at h; omega
  · intro h; rw [(u_none (by omega)).2, Int.zero_mul]
def ulpF (f : Int) : Nat := (2 - fE f - fP f + 1099511628031 : Int).toNat
theorem ulpF_eq {f : Int} (f0 : 0 ≤ f) (hf : f < 4) : (ulpF f : Int) = 2 - fE f - fP f - -1099511628031 := by
  obtain ⟨p0, p1, p2, p3, p4, p5, p6, p7, p8⟩ := f_nums f0 hf
  unfold ulpF; omega
def adX (f a b : Int) (s : Bool) : Int := if negF f a = s then vF f a + vF f b else if vF f a < vF f b then vF f b - vF f a else vF f a - vF f b
def adE (f a b : Int) (s : Bool) : Int := if negF f a = s then levT (uE f a) (uS f a * full) (uE f b) (uS f b * full) + 1 else levT (uE f a) (uS f a * full) (uE f b) (uS f b * full)
def adS (f a b : Int) (s : Bool) : Int := if negF f a = s then sumT (uE f a) (uS f a * full) (uE f b) (uS f b * full) else diffT (uE f a) (uS f a * full) (uE f b) (uS f b * full)
def adT (f a b : Int) (s : Bool) : Bool := if negF f a = s then negF f a else if cmpT (uE f a) (uS f a * full) (uE f b) (uS f b * full) < 0 then s else negF f a
def adN (f m a b : Int) (s : Bool) : Bool := if adS f a b s = 0 then noM m (negF f a) s else adT f a b s
def adI (f a b : Int) (s : Bool) : Bool := decide (clsF f a = 3 ∧ clsF f b = 3 ∧ negF f a ≠ s)
def adB (f m a b : Int) (s : Bool) : Int := if f < 4 ∧ m < 5 then (if pickK f (adI f a b s) [a, b] then pickV f (adI f a b s) [a, b] else if clsF f a = 3 then infF f (negF f a) else if clsF f b = 3 then infF f s else pkB f m (adN f m a b s) (adE f a b s) (adS f a b s)) else 0
def adFl (f m : Int) (t : Bool) (a b : Int) (s : Bool) : Int := if f < 4 ∧ m < 5 then (if pickK f (adI f a b s) [a, b] then pickF f (adI f a b s) [a, b] else if clsF f a = 3 then 0 else if clsF f b = 3 then 0 else pkFl f m t (adN f m a b s) (adE f a b s) (adS f a b s)) else 0
def turnF (f b : Int) : Int := makeF f (!negF f b) (expF f b) (fracF f b)
structure AddOK : Prop where
  add : ∀ f m t a b, 0 ≤ f → f ≤ 255 → 0 ≤ m → m ≤ 255 → 0 ≤ a → a < full → 0 ≤ b → b < full → ∀ w, FTab w → Calls Tryz.prog 22 #[.int .u8 f, .agg #[.int .u8 m, .bool t], .agg #[.int .u64 (hiOf (a)), .int .u64 (loOf (a))], .agg #[.int .u64 (hiOf (b)), .int .u64 (loOf (b))]] w fun e w' => e = .returned (.agg #[.int .u64 (hiOf (adB f m a b (negF f b))), .int .u64 (loOf (adB f m a b (negF f b))), .int .u8 (adFl f m t a b (negF f b))]) ∧ Below w.heap.size w w'
  turn : ∀ f b, 0 ≤ f → f ≤ 255 → 0 ≤ b → b < full → ∀ w, FTab w → Calls Tryz.prog 19 #[.int .u8 f, .agg #[.int .u64 (hiOf (b)), .int .u64 (loOf (b))]] w fun e w' => e = .returned (.agg #[.int .u64 (hiOf (turnF f b)), .int .u64 (loOf (turnF f b))]) ∧ Below w.heap.size w w'
  nought : ∀ m t a b, 0 ≤ m → m ≤ 255 → ∀ w, Calls Tryz.prog 38 #[.agg #[.int .u8 m, .bool t], .bool a, .bool b] w fun e w' => e = .returned (.bool (noM m a b)) ∧ Below w.heap.size w w'
theorem ad_exact {f m a b : Int} {s ng : Bool} (f0 : 0 ≤ f) (a0 : 0 ≤ a) (b0 : 0 ≤ b) :
    pkB f m ng (adE f a b s) (adS f a b s) = dcB f m ng (adX f a b s) (-1099511628031) false ∧ (∀ t, pkFl f m t ng (adE f a b s) (adS f a b s) = dcFl f m t ng (adX f a b s) (-1099511628031) false) ∧ (adS f a b s = 0 ↔ adX f a b s = 0) := by
  have ra := room_u (f := f) f0 a0; have rb := room_u (f := f) f0 b0
  have ea := uE_range (f := f) f0 a0; have eb := uE_range (f := f) f0 b0
  unfold adE adS adX
  by_cases h : negF f a = s
  · rw [if_pos h, if_pos h, if_pos h]
    exact dc_sum f0 ra rb (by rw [clT_u f0 a0]; omega) (by rw [clT_u f0 b0]; omega)
  · rw [if_neg h, if_neg h, if_neg h]
    exact dc_diff f0 ra rb _ rfl
theorem ad_range {f a b : Int} (s : Bool) (f0 : 0 ≤ f) (a0 : 0 ≤ a) (b0 : 0 ≤ b) : -9223372036854775808 ≤ adE f a b s ∧ adE f a b s ≤ 9223372036854775807 ∧ 0 ≤ adS f a b s ∧ adS f a b s < wfull := by
  have ra := room_u (f := f) f0 a0; have rb := room_u (f := f) f0 b0
  have lr := lev_range (uE f a) (uS f a * full) (uE f b) (uS f b * full)
  have s1 := sum_range (e := uE f a) (g := uE f b) ra.1 ra.2.1 rb.1 rb.2.1
  have s2 := diff_range (e := uE f a) (g := uE f b) ra.1 ra.2.1 rb.1 rb.2.1
  unfold adE adS
  split
  · exact ⟨by omega, by omega, s1.1, s1.2⟩
  · exact ⟨by omega, by omega, s2.1, s2.2⟩
theorem ad_fin {f m a b : Int} {s : Bool} (f0 : 0 ≤ f) (hf : f < 4) (hm : m < 5) (a0 : 0 ≤ a) (a1 : a < full) (b0 : 0 ≤ b) (b1 : b < full) (ca : clsF f a ≤ 2) (cb : clsF f b ≤ 2) :
    adB f m a b s = pkB f m (adN f m a b s) (adE f a b s) (adS f a b s) ∧ ∀ t, adFl f m t a b s = pkFl f m t (adN f m a b s) (adE f a b s) (adS f a b s) := by
  have na : nanF f a = false := by unfold nanF; simp; omega
  have nb : nanF f b = false := by unfold nanF; simp; omega
  have ii : adI f a b s = false := by unfold adI; rw [decide_eq_false]; omega
  have an : anyN f [a, b] = false := by unfold anyN; simp [Int.emod_eq_of_lt a0 a1, Int.emod_eq_of_lt b0 b1, na, nb]
  obtain ⟨k1, k2, k3⟩ := pick_none (f := f) [a, b] an
  unfold adB adFl
  rw [if_pos ⟨hf, hm⟩, ii, k3, if_neg (by decide), if_neg (by omega), if_neg (by omega)]
  refine ⟨rfl, fun t => ?_⟩
  rw [if_pos ⟨hf, hm⟩, if_neg (by decide), if_neg (by omega), if_neg (by omega)]
theorem turn_fields {f b : Int} (f0 : 0 ≤ f) (hf : f < 4) (b0 : 0 ≤ b) : expF f (turnF f b) = expF f b ∧ fracF f (turnF f b) = fracF f b ∧ negF f (turnF f b) = !negF f b := by
  obtain ⟨x0, x1, x2, x3⟩ := exp_range f0 hf b0
  obtain ⟨r0, r1⟩ := frac_range (b := b) f0 hf
  obtain ⟨e1, e2, e3⟩ := make_fields f0 hf (!negF f b) (expF f b) (fracF f b)
  rw [expOf_id f0 hf x0 x1] at e1
  rw [Int.emod_eq_of_lt r0 r1] at e2
  exact ⟨e1, e2, e3⟩
theorem turn_full {f b : Int} (f0 : 0 ≤ f) : 0 ≤ turnF f b ∧ turnF f b < full := make_full f0 _ _ _
theorem turn_same {f b : Int} (f0 : 0 ≤ f) (hf : f < 4) (b0 : 0 ≤ b) : clsF f (turnF f b) = clsF f b ∧ uE f (turnF f b) = uE f b ∧ uS f (turnF f b) = uS f b ∧ negF f (turnF f b) = !negF f b := by
  obtain ⟨e1, e2, e3⟩ := turn_fields f0 hf b0
  have c := cls_congr (f := f) e1 e2
  have m : uM f (turnF f b) = uM f b := by unfold uM; rw [e1, e2]
  have x : uX f (turnF f b) = uX f b := by unfold uX; rw [e1]
  exact ⟨c, by unfold uE; rw [c, m, x], by unfold uS; rw [c, m], e3⟩
theorem exp_i64 {f b : Int} (f0 : 0 ≤ f) (b0 : 0 ≤ b) : -9223372036854775808 ≤ expF f b ∧ expF f b ≤ 9223372036854775807 := by
  by_cases hf : f < 4
  · obtain ⟨x0, x1, x2, x3⟩ := exp_range f0 hf b0; omega
  · unfold expF; rw [if_neg hf]; decide
end Go.Proofs.YtdcdbcccchadfaaGreatDoor
namespace Go.Proofs.YtdcdbcccchadfaaGreatDoor
open Go.RowKit
attribute [local go_sem ↓] Go.wp_at_zero Go.wp_at_succ
theorem fm_range {f a b c : Int} (f0 : 0 ≤ f) (a0 : 0 ≤ a) (b0 : 0 ≤ b) (c0 : 0 ≤ c) : -9223372036854775808 ≤ fmE f a b c ∧ fmE f a b c ≤ 9223372036854775807 ∧ 0 ≤ fmS f a b c ∧ fmS f a b c < wfull := by
  have ra := ml_room (f := f) f0 a0 b0; have rc := room_u (f := f) f0 c0
  have lr := lev_range (mlE f a b) (mlS f a b) (uE f c) (uS f c * full)
  have s1 := sum_range (e := mlE f a b) (g := uE f c) ra.1 ra.2.1 rc.1 rc.2.1
  have s2 := diff_range (e := mlE f a b) (g := uE f c) ra.1 ra.2.1 rc.1 rc.2.1
  unfold fmE fmS
  split
  · exact ⟨by omega, by omega, s1.1, s1.2⟩
  · exact ⟨by omega, by omega, s2.1, s2.2⟩
theorem fm_fin {f m a b c : Int} (hf : f < 4) (hm : m < 5) (a0 : 0 ≤ a) (a1 : a < full) (b0 : 0 ≤ b) (b1 : b < full) (c0 : 0 ≤ c) (c1 : c < full) (ca : clsF f a ≤ 2) (cb : clsF f b ≤ 2) (cc : clsF f c ≤ 2) :
    fmB f m a b c = pkB f m (fmN f m a b c) (fmE f a b c) (fmS f a b c) ∧ ∀ t, fmFl f m t a b c = pkFl f m t (fmN f m a b c) (fmE f a b c) (fmS f a b c) := by
  have na : nanF f a = false := by unfold nanF; simp; omega
  have nb : nanF f b = false := by unfold nanF; simp; omega
  have nc : nanF f c = false := by unfold nanF; simp; omega
  have ii : mlI f a b = false := by unfold mlI badC; rw [decide_eq_false]; omega
  have an : anyN f [a, b, c] = false := by unfold anyN; simp [Int.emod_eq_of_lt a0 a1, Int.emod_eq_of_lt b0 b1, Int.emod_eq_of_lt c0 c1, na, nb, nc]
  obtain ⟨k1, k2, k3⟩ := pick_none (f := f) [a, b, c] an
  unfold fmB fmFl
  rw [if_pos ⟨hf, hm⟩, ii, k3, if_neg (by decide), if_neg (by omega), if_neg (by omega)]
  refine ⟨rfl, fun t => ?_⟩
  rw [if_pos ⟨hf, hm⟩, if_neg (by decide), if_neg (by omega), if_neg (by omega)]
theorem fm_some {f m a b c : Int} (hf : f < 4) (hm : m < 5) (a0 : 0 ≤ a) (a1 : a < full) (b0 : 0 ≤ b) (b1 : b < full) (c0 : 0 ≤ c) (c1 : c < full) (na : nanF f a = false) (nb : nanF f b = false) (nc : nanF f c = false) :
    fmB f m a b c = (if mlI f a b then defF f else if clsF f a = 3 ∨ clsF f b = 3 then (if fmO f a b c then defF f else infF f (mlN f a b)) else if clsF f c = 3 then infF f (negF f c) else pkB f m (fmN f m a b c) (fmE f a b c) (fmS f a b c)) ∧
    ∀ t, fmFl f m t a b c = (if mlI f a b then 1 else if clsF f a = 3 ∨ clsF f b = 3 then (if fmO f a b c then 1 else 0) else if clsF f c = 3 then 0 else pkFl f m t (fmN f m a b c) (fmE f a b c) (fmS f a b c)) := by
  have an : anyN f [a, b, c] = false := by unfold anyN; simp [Int.emod_eq_of_lt a0 a1, Int.emod_eq_of_lt b0 b1, Int.emod_eq_of_lt c0 c1, na, nb, nc]
  have fv : firstV f [a, b, c] = defF f := by unfold firstV; simp [List.find?, Int.emod_eq_of_lt a0 a1, Int.emod_eq_of_lt b0 b1, Int.emod_eq_of_lt c0 c1, na, nb, nc]
  obtain ⟨j1, j2, j3⟩ := pick_inv hf [a, b, c]
  unfold fmB fmFl
  simp only [if_pos (show f < 4 ∧ m < 5 from ⟨hf, hm⟩)]
  cases mlI f a b with
  | true =>
    simp only [j1, j2, j3, fv, if_pos (rfl : true = true)]
    exact ⟨trivial, fun _ => trivial⟩
  | false =>
    obtain ⟨k1, k2, k3⟩ := pick_none (f := f) [a, b, c] an
    simp only [j1, j2, j3, fv, k3, if_neg (show ¬ (false = true) by decide)]
    exact ⟨trivial, fun _ => trivial⟩
end Go.Proofs.YtdcdbcccchadfaaGreatDoor
namespace Go.Proofs.YtdcdbcccchadfaaGreatDoor
open Go.RowKit
attribute [local go_sem ↓] Go.wp_at_zero Go.wp_at_succ
theorem ad_turn (f ex bh bl qh ql rh rl : Int) (ng : Bool)
    (h0 : Hid (∀ w, FTab w → Ca 48 #[.int .u8 f, U2 bh bl] w (.tuple #[.bool ng, .int .i64 ex, U2 qh ql])))
    (h1 : Hid (∀ w, FTab w → Ca 21 #[.int .u8 f, .bool (!ng), .int .i64 ex, U2 qh ql] w (U2 rh rl))) (w : World) (ft : FTab w) :
    Ca 19 #[.int .u8 f, U2 bh bl] w (U2 rh rl) := by
  simp only [Ca, U2] at *
  go_enter Tryz.func19, Tryz.ntmps19
  go_wp2_with fail
  refine vM (h0.out _ (ft.later (bA (bA bR _) _))) fun w1 b1 => ?_
  have gX1 : w.heap.size ≤ w.heap.size + 1 := by omega
  have X1 := (HB.newAt (b := w.heap.size + 1) (by simp) _ _).later b1
  go_wp2_with fail
  refine vM (h1.out _ (ft.later (bA (bC (bA (bA bR _) _) b1) _))) fun w2 b2 => ?_
  replace X1 := X1.later (bC (bA bR _) b2)
  have oX1 := X1.o
  go_wp2_with fail
  refine bodyPost_ret (v := .agg #[.int .u64 rh, .int .u64 rl]) ?_ rfl ⟨rfl, (((bC (bC (bA (bA bR _) _) b1) (bC (bA bR _) b2)).setCell (p := ⟨w.heap.size + 1, 0, none⟩) gX1 _).setCell (p := ⟨w.heap.size + 1, 1, none⟩) gX1 _)⟩
  simp [results, Tryz.results19, go_sem, oX1]
theorem turnN (f b : Int) (f0 : 0 ≤ f) (f1 : f ≤ 255) (b0 : 0 ≤ b) (b1 : b < full) (w : World) (ft : FTab w) : Calls Tryz.prog 19 #[.int .u8 f, .agg #[.int .u64 (hiOf (b)), .int .u64 (loOf (b))]] w fun e w' => e = .returned (.agg #[.int .u64 (hiOf (turnF f b)), .int .u64 (loOf (turnF f b))]) ∧ Below w.heap.size w w' := by
  have S := formOK.split f b f0 f1
  rw [Int.emod_eq_of_lt b0 b1] at S
  have er := exp_i64 (f := f) (b := b) f0 b0
  have fr := frac_low (f := f) (b := b) f0
  have Mk := formOK.make f (!negF f b) (expF f b) (fracF f b) f0 f1 er.1 er.2
  rw [Int.emod_eq_of_lt fr.1 fr.2] at Mk
  exact ad_turn f _ _ _ _ _ _ _ _ (lH S) (lH Mk) w ft
structure TurnOK : Prop where
  turn : ∀ f b, 0 ≤ f → f ≤ 255 → 0 ≤ b → b < full → ∀ w, FTab w → Calls Tryz.prog 19 #[.int .u8 f, .agg #[.int .u64 (hiOf (b)), .int .u64 (loOf (b))]] w fun e w' => e = .returned (.agg #[.int .u64 (hiOf (turnF f b)), .int .u64 (loOf (turnF f b))]) ∧ Below w.heap.size w w'
theorem turnOK : TurnOK where
  turn := fun f b f0 f1 b0 b1 w ft => turnN f b f0 f1 b0 b1 w ft
end Go.Proofs.YtdcdbcccchadfaaGreatDoor
namespace Go.Proofs.YtdcdbcccchadfaaGreatDoor
open Go.RowKit
attribute [local go_sem ↓] Go.wp_at_zero Go.wp_at_succ
theorem neqr20 (h l c : Int) (w : World) : (binOp .neq 31 (.agg #[.int .u64 h, .int .u64 l, .int .u8 c]) (.agg #[.int .u64 h, .int .u64 l, .int .u8 c])).run Tryz.prog w = .ok (.bool false) w := by
  go_simp
theorem eqb20 (h l : Int) (w : World) : (binOp .eql 28 (.agg #[.int .u64 h, .int .u64 l]) (.agg #[.int .u64 h, .int .u64 l])).run Tryz.prog w = .ok (.bool true) w := by
  go_simp
end Go.Proofs.YtdcdbcccchadfaaGreatDoor
