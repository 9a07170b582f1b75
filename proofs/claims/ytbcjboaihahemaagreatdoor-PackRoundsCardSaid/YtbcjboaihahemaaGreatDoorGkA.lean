/-
  Texts of the ground put together: Ref8, Cls8P, Goes8, Goes8L, Any8, Any8L, ClassC, ClassI, ClassG.
-/
import Derived.Test.YtbcjboaihahemaaGreatDoorGfA
import Derived.Test.YtbcjboaihahemaaGreatDoorGnA
import Derived.Test.YtbcjboaihahemaaGreatDoorGcA
import Derived.Test.YtbcjboaihahemaaGreatDoorGaA
import Derived.Defers
import Derived.Recover

/-
  Classes of numbers: by definition, over numbers; the document's answers of layer 8.
-/
set_option linter.unusedVariables false
set_option linter.unusedSimpArgs false
set_option maxRecDepth 100000
namespace Go.Proofs.YtbcjboaihahemaaGreatDoor
open Go.RowKit
attribute [local go_sem ↓] Go.wp_at_zero Go.wp_at_succ

/-- The class: 0 nought, 1 subnormal, 2 normal, 3 infinite, 4 a quiet NaN, 5 a signaling one. -/
def clsF (f b : Int) : Int := if f < 4 then (if expF f b = 0 then (if fracF f b = 0 then 0 else 1) else if expF f b = 2 * fE f + 1 then (if fracF f b = 0 then 3 else if 2 ^ (fP f - 2) ≤ fracF f b then 4 else 5) else 2) else 0
def nanF (f b : Int) : Bool := decide (4 ≤ clsF f b)
def sigF (f b : Int) : Bool := decide (clsF f b = 5)
def finF (f b : Int) : Bool := decide (f < 4) && decide (clsF f b ≤ 2)
theorem cls_range (f b : Int) : 0 ≤ clsF f b ∧ clsF f b ≤ 5 := by unfold clsF; repeat' split <;> omega

theorem neg_no {f : Int} (h : ¬ f < 4) (b : Int) : negF f b = false := by unfold negF; rw [show decide (f < 4) = false by simp [h], Bool.and_false]
theorem cls_no {f : Int} (h : ¬ f < 4) (b : Int) : clsF f b = 0 := by unfold clsF; rw [if_neg h]
end Go.Proofs.YtbcjboaihahemaaGreatDoor

/-
  What the document asks of package class; classes by size.
-/
set_option linter.unusedVariables false
set_option linter.unusedSimpArgs false
namespace Go.Proofs.YtbcjboaihahemaaGreatDoor
open Go.RowKit
attribute [local go_sem ↓] Go.wp_at_zero Go.wp_at_succ

/-- What the document asks of package class. -/
structure ClassOK : Prop where
  of : ∀ f b, 0 ≤ f → f ≤ 255 → ∀ w, FTab w → Calls Tryz.prog 15 #[.int .u8 f, .agg #[.int .u64 (hiOf (b)), .int .u64 (loOf (b))]] w fun e w' => e = .returned (.tuple #[.int .u8 (clsF f (b % full)), .bool (negF f (b % full))]) ∧ Below w.heap.size w w'
  fin : ∀ f b, 0 ≤ f → f ≤ 255 → ∀ w, FTab w → Calls Tryz.prog 12 #[.int .u8 f, .agg #[.int .u64 (hiOf (b)), .int .u64 (loOf (b))]] w fun e w' => e = .returned (.bool (finF f (b % full))) ∧ Below w.heap.size w w'

/-- The fields of what is made. -/
theorem make_fields {f : Int} (h0 : 0 ≤ f) (h : f < 4) (ng : Bool) (e m : Int) : expF f (makeF f ng e m) = expOf f e ∧ fracF f (makeF f ng e m) = m % 2 ^ (fP f - 1) ∧ negF f (makeF f ng e m) = ng := by
  obtain ⟨q1, q2, q3, q4, q5, q6⟩ := make_parts h0 h ng e m
  obtain ⟨p0, p1, p2, p3, p4, p5, p6, p7, p8⟩ := f_nums h0 h
  have hp := two_pow_pos (fP f - 1)
  have hw := two_pow_pos (fW f - 1)
  have z : makeF f ng e m = expOf f e * 2 ^ (fP f - 1) + m % 2 ^ (fP f - 1) + (if ng then 2 ^ (fW f - 1) else 0) := by unfold makeF; rw [if_pos h]
  have low : makeF f ng e m % 2 ^ (fW f - 1) = expOf f e * 2 ^ (fP f - 1) + m % 2 ^ (fP f - 1) := by
    rw [z]; split
    · rw [Int.add_emod_right, Int.emod_eq_of_lt q3 q4]
    · rw [Int.add_zero, Int.emod_eq_of_lt q3 q4]
  refine ⟨?_, ?_, ?_⟩
  · unfold expF; rw [if_pos h, low, Int.add_comm, Int.add_mul_ediv_right _ _ (by omega), Int.ediv_eq_zero_of_lt q1 q2, Int.zero_add]
  · unfold fracF; rw [if_pos h, ← mod_mod_pow (makeF f ng e m) (show fP f - 1 ≤ fW f - 1 by omega), low, Int.add_comm, Int.add_mul_emod_self_right, Int.emod_eq_of_lt q1 q2]
  · unfold negF; rw [show decide (f < 4) = true by simp [h], Bool.and_true]
    have d := Int.emod_add_mul_ediv (makeF f ng e m) (2 ^ (fW f - 1))
    rw [low] at d
    generalize makeF f ng e m / 2 ^ (fW f - 1) = t at *
    cases ng with
    | false =>
      rw [if_neg (by decide)] at z
      have : 2 ^ (fW f - 1) * t = 0 := by omega
      have : t = 0 := by rcases Int.mul_eq_zero.1 this with a | a <;> omega
      rw [this]; decide
    | true =>
      rw [if_pos rfl] at z
      have e1 : 2 ^ (fW f - 1) * t = 2 ^ (fW f - 1) * 1 := by omega
      have : t = 1 := Int.eq_of_mul_eq_mul_left (by omega) e1
      rw [this]; decide
/-- What is below the sign, by its fields. -/
theorem size_parts {f b : Int} (h0 : 0 ≤ f) (h : f < 4) (hb : 0 ≤ b) : expF f b * 2 ^ (fP f - 1) + fracF f b = b % 2 ^ (fW f - 1) := by
  obtain ⟨p0, p1, p2, _⟩ := f_nums h0 h
  unfold expF fracF; rw [if_pos h, if_pos h]
  have := Int.emod_add_mul_ediv (b % 2 ^ (fW f - 1)) (2 ^ (fP f - 1))
  rw [mod_mod_pow b (by omega), Int.mul_comm] at this
  omega
theorem cls_congr {f a b : Int} (e1 : expF f a = expF f b) (e2 : fracF f a = fracF f b) : clsF f a = clsF f b := by unfold clsF; rw [e1, e2]
/-- Classes by size alone: s: what is below the sign. -/
theorem cls_size {f b : Int} (h0 : 0 ≤ f) (h : f < 4) (hb : 0 ≤ b) : ∀ s I n q : Int, b % 2 ^ (fW f - 1) = s → infF f false = I → 2 ^ (fP f - 1) = n → I + 2 ^ (fP f - 2) = q →
    (s < I ↔ clsF f b ≤ 2) ∧ (s = I ↔ clsF f b = 3) ∧ (I < s ↔ 4 ≤ clsF f b) ∧ (s = 0 ↔ clsF f b = 0) ∧ (clsF f b = 1 ↔ s ≠ 0 ∧ s < n) ∧ (clsF f b = 4 ↔ q ≤ s) ∧ 0 ≤ s := by
  intro s I n q hs hI hn hq
  obtain ⟨p0, p1, p2, p3, p4, p5, p6, p7, p8⟩ := f_nums h0 h
  obtain ⟨x0, x1, x2, x3⟩ := exp_range h0 h hb
  obtain ⟨r0, r1⟩ := frac_range (b := b) h0 h
  have sp := size_parts h0 h hb
  rw [inf_val h0 h, if_neg (by decide), Int.add_zero] at hI
  have hp := two_pow_pos (fP f - 1)
  have n2 : (2 : Int) ^ (fP f - 1) = 2 * 2 ^ (fP f - 2) := by rw [← Int.pow_succ', show fP f - 2 + 1 = fP f - 1 by omega]
  rw [hs, hn] at sp
  rw [hn] at hI r1 n2 hp
  have hh := two_pow_pos (fP f - 2)
  unfold clsF
  rw [if_pos h]
  generalize (2 : Int) ^ (fP f - 2) = u at *
  generalize expF f b = e at *
  generalize fracF f b = r at *
  have en0 : 0 ≤ e * n := Int.mul_nonneg x0 (by omega)
  by_cases c0 : e = 0
  · subst c0
    rw [Int.zero_mul] at sp
    have i1 : 1 * n ≤ (2 * (fE f : Int) + 1) * n := mul_le_of (by omega) (by omega)
    rw [if_pos rfl]
    split <;> omega
  · have en1 : n ≤ e * n := by have := mul_le_of (c := n) (by omega) (show 1 ≤ e by omega); omega
    rw [if_neg c0]
    by_cases c1 : e = 2 * fE f + 1
    · subst c1
      rw [if_pos rfl]
      split
      · omega
      · split <;> omega
    · have en2 : (e + 1) * n ≤ (2 * (fE f : Int) + 1) * n := mul_le_of (by omega) (by omega)
      rw [Int.add_mul, Int.one_mul] at en2
      rw [if_neg c1]
      omega


end Go.Proofs.YtbcjboaihahemaaGreatDoor

/-
  The walk of the example that every statement of stage 8 asks.
-/
set_option linter.unusedVariables false
set_option linter.unusedSimpArgs false
namespace Go.Proofs.YtbcjboaihahemaaGreatDoor
open Go.RowKit
attribute [local go_sem ↓] Go.wp_at_zero Go.wp_at_succ

end Go.Proofs.YtbcjboaihahemaaGreatDoor

/-
  The example of stage 8.
-/
set_option linter.unusedVariables false
set_option linter.unusedSimpArgs false
namespace Go.Proofs.YtbcjboaihahemaaGreatDoor
open Go.RowKit
attribute [local go_sem ↓] Go.wp_at_zero Go.wp_at_succ

end Go.Proofs.YtbcjboaihahemaaGreatDoor

/-
  ClassAny: slices of encodings; the walk.
-/
set_option linter.unusedVariables false
set_option linter.unusedSimpArgs false
namespace Go.Proofs.YtbcjboaihahemaaGreatDoor
open Go.RowKit

/-- The slice '(ao, n, cap)' reads as the encodings xs. -/
def Bs (w : World) (ao : Option Addr) (n cap : Nat) (xs : List Int) : Prop :=
  n = xs.length ∧ n ≤ cap ∧ (n ≤ 9223372036854775807 ∧ (ao = none → n = 0 ∧ cap = 0)) ∧ ∀ k, k < n → ∃ a, ao = some a ∧ w.cell? (a.add (k * 2)) = some (.int .u64 (hiOf (xs.getD k 0))) ∧ w.cell? ⟨(a.add (k * 2)).block, (a.add (k * 2)).off + 1, none⟩ = some (.int .u64 (loOf (xs.getD k 0)))
theorem Bs.later {W w1 : World} {ao : Option Addr} {n cap : Nat} {xs : List Int} (x : Bs W ao n cap xs) (hb : Below W.heap.size W w1) : Bs w1 ao n cap xs := by
  obtain ⟨h1, h2, h3, h4⟩ := x
  refine ⟨h1, h2, h3, fun k hk => ?_⟩
  obtain ⟨a, e, c0, c1⟩ := h4 k hk
  exact ⟨a, e, cell_later hb c0, cell_later hb c1⟩
def someB (p : Int → Bool) (xs : List Int) (k : Nat) : Bool := (xs.take k).any p
theorem someB_succ (p : Int → Bool) (xs : List Int) (k : Nat) (h : k < xs.length) : someB p xs (k + 1) = (someB p xs k || p (xs.getD k 0)) := by
  unfold someB
  rw [List.take_add_one, List.any_append, List.getD_eq_getElem?_getD, List.getElem?_eq_getElem h]
  simp
theorem someB_all (p : Int → Bool) (xs : List Int) {n : Nat} (h : n = xs.length) : someB p xs n = xs.any p := by
  unfold someB; rw [h, List.take_length]

end Go.Proofs.YtbcjboaihahemaaGreatDoor

/-
  What the document asks of class.Any; ClassAny over slices.
-/
set_option linter.unusedVariables false
set_option linter.unusedSimpArgs false
namespace Go.Proofs.YtbcjboaihahemaaGreatDoor
open Go.RowKit

/-- What the document asks of class.Any, at the functions that the statements hand it. -/
structure AnyOK : Prop where

end Go.Proofs.YtbcjboaihahemaaGreatDoor

/-
  Walks through package class's functions.
-/
set_option linter.unusedVariables false
set_option linter.unusedSimpArgs false
namespace Go.Proofs.YtbcjboaihahemaaGreatDoor
open Go.RowKit
attribute [local go_sem ↓] Go.wp_at_zero Go.wp_at_succ

set_option maxHeartbeats 4000000 in
set_option maxRecDepth 100000 in
theorem cls_ones_0 
    (h0 : Hid (∀ w, FTab w → Calls Tryz.prog 34 #[.int .u8 0] w fun e w' => e = .returned (.int .i64 16) ∧ Below w.heap.size w w'))
    (h1 : Hid (∀ w, FTab w → Calls Tryz.prog 40 #[.int .u8 0] w fun e w' => e = .returned (.int .i64 11) ∧ Below w.heap.size w w')) (w : World) (ft : FTab w) :
    Calls Tryz.prog 75 #[.int .u8 0] w fun e w' => e = .returned (.int .i64 31) ∧ Below w.heap.size w w' := by
  go_enter Tryz.func75, Tryz.ntmps75
  go_wp2_with fail
  (with_reducible refine (h0.out _ (ft.later (Below.refl _ _))).mono ?_); rintro e w1 ⟨rfl, hb⟩
  have kk := hb
  clear hb
  go_wp2_with fail
  (with_reducible refine (h1.out _ (ft.later kk)).mono ?_); rintro e w2 ⟨rfl, hb⟩
  replace kk := bC kk hb
  clear hb
  go_wp2_with fail
  go_ret
  exact ⟨rfl, kk⟩

set_option maxHeartbeats 4000000 in
set_option maxRecDepth 100000 in
theorem cls_ones_1 
    (h0 : Hid (∀ w, FTab w → Calls Tryz.prog 34 #[.int .u8 1] w fun e w' => e = .returned (.int .i64 32) ∧ Below w.heap.size w w'))
    (h1 : Hid (∀ w, FTab w → Calls Tryz.prog 40 #[.int .u8 1] w fun e w' => e = .returned (.int .i64 24) ∧ Below w.heap.size w w')) (w : World) (ft : FTab w) :
    Calls Tryz.prog 75 #[.int .u8 1] w fun e w' => e = .returned (.int .i64 255) ∧ Below w.heap.size w w' := by
  go_enter Tryz.func75, Tryz.ntmps75
  go_wp2_with fail
  (with_reducible refine (h0.out _ (ft.later (Below.refl _ _))).mono ?_); rintro e w1 ⟨rfl, hb⟩
  have kk := hb
  clear hb
  go_wp2_with fail
  (with_reducible refine (h1.out _ (ft.later kk)).mono ?_); rintro e w2 ⟨rfl, hb⟩
  replace kk := bC kk hb
  clear hb
  go_wp2_with fail
  go_ret
  exact ⟨rfl, kk⟩

set_option maxHeartbeats 4000000 in
set_option maxRecDepth 100000 in
theorem cls_ones_2 
    (h0 : Hid (∀ w, FTab w → Calls Tryz.prog 34 #[.int .u8 2] w fun e w' => e = .returned (.int .i64 64) ∧ Below w.heap.size w w'))
    (h1 : Hid (∀ w, FTab w → Calls Tryz.prog 40 #[.int .u8 2] w fun e w' => e = .returned (.int .i64 53) ∧ Below w.heap.size w w')) (w : World) (ft : FTab w) :
    Calls Tryz.prog 75 #[.int .u8 2] w fun e w' => e = .returned (.int .i64 2047) ∧ Below w.heap.size w w' := by
  go_enter Tryz.func75, Tryz.ntmps75
  go_wp2_with fail
  (with_reducible refine (h0.out _ (ft.later (Below.refl _ _))).mono ?_); rintro e w1 ⟨rfl, hb⟩
  have kk := hb
  clear hb
  go_wp2_with fail
  (with_reducible refine (h1.out _ (ft.later kk)).mono ?_); rintro e w2 ⟨rfl, hb⟩
  replace kk := bC kk hb
  clear hb
  go_wp2_with fail
  go_ret
  exact ⟨rfl, kk⟩

set_option maxHeartbeats 4000000 in
set_option maxRecDepth 100000 in
theorem cls_ones_3 
    (h0 : Hid (∀ w, FTab w → Calls Tryz.prog 34 #[.int .u8 3] w fun e w' => e = .returned (.int .i64 128) ∧ Below w.heap.size w w'))
    (h1 : Hid (∀ w, FTab w → Calls Tryz.prog 40 #[.int .u8 3] w fun e w' => e = .returned (.int .i64 113) ∧ Below w.heap.size w w')) (w : World) (ft : FTab w) :
    Calls Tryz.prog 75 #[.int .u8 3] w fun e w' => e = .returned (.int .i64 32767) ∧ Below w.heap.size w w' := by
  go_enter Tryz.func75, Tryz.ntmps75
  go_wp2_with fail
  (with_reducible refine (h0.out _ (ft.later (Below.refl _ _))).mono ?_); rintro e w1 ⟨rfl, hb⟩
  have kk := hb
  clear hb
  go_wp2_with fail
  (with_reducible refine (h1.out _ (ft.later kk)).mono ?_); rintro e w2 ⟨rfl, hb⟩
  replace kk := bC kk hb
  clear hb
  go_wp2_with fail
  go_ret
  exact ⟨rfl, kk⟩

set_option maxHeartbeats 4000000 in
set_option maxRecDepth 100000 in
theorem cls_f0 (f ex bh bl : Int)
    (h0 : Hid (∀ w, Calls Tryz.prog 74 #[.agg #[.int .u64 bh, .int .u64 bl]] w fun e w' => e = .returned (.bool true) ∧ Below w.heap.size w w')) (c1 : (ex == 0) = true) (w : World) :
    Calls Tryz.prog 36 #[.int .u8 f, .int .i64 ex, .agg #[.int .u64 bh, .int .u64 bl]] w fun e w' => e = .returned (.int .u8 0) ∧ Below w.heap.size w w' := by
  go_enter Tryz.func36, Tryz.ntmps36
  go_wp2_with fail
  (with_reducible refine (h0.out _).mono ?_); rintro e w1 ⟨rfl, hb⟩
  have hz := bC (bA (Below.refl _ _) _) hb
  have kk := hz
  clear hb hz
  go_wp2_with fail
  go_ret
  exact ⟨rfl, kk⟩

set_option maxHeartbeats 4000000 in
set_option maxRecDepth 100000 in
theorem cls_f1 (f ex bh bl : Int)
    (h0 : Hid (∀ w, Calls Tryz.prog 74 #[.agg #[.int .u64 bh, .int .u64 bl]] w fun e w' => e = .returned (.bool false) ∧ Below w.heap.size w w')) (c1 : (ex == 0) = true) (w : World) :
    Calls Tryz.prog 36 #[.int .u8 f, .int .i64 ex, .agg #[.int .u64 bh, .int .u64 bl]] w fun e w' => e = .returned (.int .u8 1) ∧ Below w.heap.size w w' := by
  go_enter Tryz.func36, Tryz.ntmps36
  go_wp2_with fail
  (with_reducible refine (h0.out _).mono ?_); rintro e w1 ⟨rfl, hb⟩
  have hz := bC (bA (Below.refl _ _) _) hb
  have kk := hz
  clear hb hz
  go_wp2_with fail
  go_ret
  exact ⟨rfl, kk⟩

set_option maxHeartbeats 4000000 in
set_option maxRecDepth 100000 in
theorem cls_f2 (f ex bh bl o : Int)
    (h1 : Hid (∀ w, FTab w → Calls Tryz.prog 75 #[.int .u8 f] w fun e w' => e = .returned (.int .i64 o) ∧ Below w.heap.size w w')) (c1 : (ex == 0) = false) (c2 : (ex != o) = true) (w : World) (ft : FTab w) :
    Calls Tryz.prog 36 #[.int .u8 f, .int .i64 ex, .agg #[.int .u64 bh, .int .u64 bl]] w fun e w' => e = .returned (.int .u8 2) ∧ Below w.heap.size w w' := by
  go_enter Tryz.func36, Tryz.ntmps36
  go_wp2_with fail
  (with_reducible refine (h1.out _ (ft.later (bA (Below.refl _ _) _))).mono ?_); rintro e w1 ⟨rfl, hb⟩
  have hz := bC (bA (Below.refl _ _) _) hb
  have kk := hz
  clear hb hz
  go_wp2_with fail
  go_ret
  exact ⟨rfl, kk⟩

set_option maxHeartbeats 4000000 in
set_option maxRecDepth 100000 in
theorem cls_f3 (f ex bh bl o : Int)
    (h1 : Hid (∀ w, FTab w → Calls Tryz.prog 75 #[.int .u8 f] w fun e w' => e = .returned (.int .i64 o) ∧ Below w.heap.size w w'))
    (h2 : Hid (∀ w, Calls Tryz.prog 74 #[.agg #[.int .u64 bh, .int .u64 bl]] w fun e w' => e = .returned (.bool true) ∧ Below w.heap.size w w')) (c1 : (ex == 0) = false) (c2 : (ex != o) = false) (w : World) (ft : FTab w) :
    Calls Tryz.prog 36 #[.int .u8 f, .int .i64 ex, .agg #[.int .u64 bh, .int .u64 bl]] w fun e w' => e = .returned (.int .u8 3) ∧ Below w.heap.size w w' := by
  go_enter Tryz.func36, Tryz.ntmps36
  go_wp2_with fail
  (with_reducible refine (h1.out _ (ft.later (bA (Below.refl _ _) _))).mono ?_); rintro e w1 ⟨rfl, hb⟩
  have hz := bC (bA (Below.refl _ _) _) hb
  have cX0_0 := cell_later hb (a := ⟨w.heap.size, 0, none⟩) (v := .int .u64 bh) (by go_simp)
  have cX0_1 := cell_later hb (a := ⟨w.heap.size, 1, none⟩) (v := .int .u64 bl) (by go_simp)
  have sX0 : w.heap.size < w1.heap.size := World.block_lt_of_cell? _ _ cX0_0
  have kk := hz
  clear hb hz
  go_wp2_with fail
  (with_reducible refine (h2.out _).mono ?_); rintro e w2 ⟨rfl, hb⟩
  clear cX0_0 cX0_1 sX0
  replace kk := bC kk hb
  clear hb
  go_wp2_with fail
  go_ret
  exact ⟨rfl, kk⟩

set_option maxHeartbeats 4000000 in
set_option maxRecDepth 100000 in
theorem cls_f4 (f ex bh bl o p q : Int)
    (h1 : Hid (∀ w, FTab w → Calls Tryz.prog 75 #[.int .u8 f] w fun e w' => e = .returned (.int .i64 o) ∧ Below w.heap.size w w'))
    (h2 : Hid (∀ w, Calls Tryz.prog 74 #[.agg #[.int .u64 bh, .int .u64 bl]] w fun e w' => e = .returned (.bool false) ∧ Below w.heap.size w w'))
    (h3 : Hid (∀ w, FTab w → Calls Tryz.prog 40 #[.int .u8 f] w fun e w' => e = .returned (.int .i64 p) ∧ Below w.heap.size w w'))
    (h4 : Hid (∀ w, Calls Tryz.prog 73 #[.agg #[.int .u64 bh, .int .u64 bl], .int .i64 q] w fun e w' => e = .returned (.bool true) ∧ Below w.heap.size w w')) (c1 : (ex == 0) = false) (c2 : (ex != o) = false) (v1 : IntKind.i64.wrap (p - 2) = q) (w : World) (ft : FTab w) :
    Calls Tryz.prog 36 #[.int .u8 f, .int .i64 ex, .agg #[.int .u64 bh, .int .u64 bl]] w fun e w' => e = .returned (.int .u8 4) ∧ Below w.heap.size w w' := by
  go_enter Tryz.func36, Tryz.ntmps36
  go_wp2_with fail
  (with_reducible refine (h1.out _ (ft.later (bA (Below.refl _ _) _))).mono ?_); rintro e w1 ⟨rfl, hb⟩
  have hz := bC (bA (Below.refl _ _) _) hb
  have cX0_0 := cell_later hb (a := ⟨w.heap.size, 0, none⟩) (v := .int .u64 bh) (by go_simp)
  have cX0_1 := cell_later hb (a := ⟨w.heap.size, 1, none⟩) (v := .int .u64 bl) (by go_simp)
  have sX0 : w.heap.size < w1.heap.size := World.block_lt_of_cell? _ _ cX0_0
  have kk := hz
  clear hb hz
  go_wp2_with fail
  (with_reducible refine (h2.out _).mono ?_); rintro e w2 ⟨rfl, hb⟩
  replace cX0_0 := cell_later hb cX0_0; replace cX0_1 := cell_later hb cX0_1
  replace sX0 : w.heap.size < w2.heap.size := World.block_lt_of_cell? _ _ cX0_0
  replace kk := bC kk hb
  clear hb
  go_wp2_with fail
  refine wp_region_noPanic ?_
  refine wp_region_F [] [] (LS w2 (fun _ _ => True) (fun _ _ _ => True)) (by kernel_rfl) (bs := []) (vs := []) (by kernel_rfl) rfl (LS.before noBits_nil (Below.refl _ _).drew trivial) ?_
  refine wpF_take (i := 0) (v := ?vq1) rfl (by kernel_rfl) (by kernel_rfl) (fun _ _ _ h => h) (LS.load (by rfl) ?yq1) ?rq1
  case yq1 => (intro wq hb; have lcX0_0 := cell_later hb cX0_0; have lcX0_1 := cell_later hb cX0_1; go_simp; try (with_reducible rfl))
  try simp only [List.getElem_toArray, List.getElem_cons_zero, List.getElem_cons_succ, Act.put, List.setIfInBounds_toArray, List.set_cons_zero, List.set_cons_succ]
  refine wpF_yield (i := 1) (v := ?vq2) rfl (by kernel_rfl) (by kernel_rfl) (fun _ _ _ h => h) (Or.inl ⟨by rfl, ?yq2⟩) ?rq2
  case yq2 => (intro wq; go_simp; try (with_reducible rfl))
  try simp only [List.getElem_toArray, List.getElem_cons_zero, List.getElem_cons_succ, Act.put, List.setIfInBounds_toArray, List.set_cons_zero, List.set_cons_succ]
  refine wpF_take (i := 2) (v := _) rfl (by kernel_rfl) (by kernel_rfl) (fun _ _ _ h => h) (LS.callW lasts_true (by rfl) _ _ ?yq3 ((fun W hb => h3.out W (ft.later (bC kk hb))))) ?rq3
  case yq3 => (intro wq; go_simp; try (with_reducible rfl))
  try simp only [List.getElem_toArray, List.getElem_cons_zero, List.getElem_cons_succ, Act.put, List.setIfInBounds_toArray, List.set_cons_zero, List.set_cons_succ]
  refine wpF_yield (i := 3) (v := ?vq4) rfl (by kernel_rfl) (by kernel_rfl) (fun _ _ _ h => h) (Or.inl ⟨by rfl, ?yq4⟩) ?rq4
  case yq4 => (intro wq; go_simp; try (with_reducible rfl))
  try simp only [List.getElem_toArray, List.getElem_cons_zero, List.getElem_cons_succ, Act.put, List.setIfInBounds_toArray, List.set_cons_zero, List.set_cons_succ]
  refine wpF_take (i := 4) (v := _) rfl (by kernel_rfl) (by kernel_rfl) (fun _ _ _ h => h) (LS.call lasts_true (by rfl) _ _ ?yq5 (h4.out)) ?rq5
  case yq5 => (intro wq; go_simp; try (with_reducible rfl))
  try simp only [List.getElem_toArray, List.getElem_cons_zero, List.getElem_cons_succ, Act.put, List.setIfInBounds_toArray, List.set_cons_zero, List.set_cons_succ]
  refine wpF_yield (i := 5) (v := ?vq6) rfl (by kernel_rfl) (by kernel_rfl) (fun _ _ _ h => h) (Or.inl ⟨by rfl, ?yq6⟩) ?rq6
  case yq6 => (intro wq; go_simp; try (with_reducible rfl))
  try simp only [List.getElem_toArray, List.getElem_cons_zero, List.getElem_cons_succ, Act.put, List.setIfInBounds_toArray, List.set_cons_zero, List.set_cons_succ]
  refine wpF_done (bs := []) (vs := []) (by kernel_rfl) (by kernel_rfl) rfl (fun w4 hS => ?_) _
  refine NoPanic.normal ?_
  obtain ⟨hb, _⟩ := hS.1 noBits_nil
  clear hS
  clear cX0_0 cX0_1 sX0
  replace kk := bC kk hb
  clear hb
  go_wp2_with fail
  go_ret
  exact ⟨rfl, kk⟩

set_option maxHeartbeats 4000000 in
set_option maxRecDepth 100000 in
theorem cls_f5 (f ex bh bl o p q : Int)
    (h1 : Hid (∀ w, FTab w → Calls Tryz.prog 75 #[.int .u8 f] w fun e w' => e = .returned (.int .i64 o) ∧ Below w.heap.size w w'))
    (h2 : Hid (∀ w, Calls Tryz.prog 74 #[.agg #[.int .u64 bh, .int .u64 bl]] w fun e w' => e = .returned (.bool false) ∧ Below w.heap.size w w'))
    (h3 : Hid (∀ w, FTab w → Calls Tryz.prog 40 #[.int .u8 f] w fun e w' => e = .returned (.int .i64 p) ∧ Below w.heap.size w w'))
    (h4 : Hid (∀ w, Calls Tryz.prog 73 #[.agg #[.int .u64 bh, .int .u64 bl], .int .i64 q] w fun e w' => e = .returned (.bool false) ∧ Below w.heap.size w w')) (c1 : (ex == 0) = false) (c2 : (ex != o) = false) (v1 : IntKind.i64.wrap (p - 2) = q) (w : World) (ft : FTab w) :
    Calls Tryz.prog 36 #[.int .u8 f, .int .i64 ex, .agg #[.int .u64 bh, .int .u64 bl]] w fun e w' => e = .returned (.int .u8 5) ∧ Below w.heap.size w w' := by
  go_enter Tryz.func36, Tryz.ntmps36
  go_wp2_with fail
  (with_reducible refine (h1.out _ (ft.later (bA (Below.refl _ _) _))).mono ?_); rintro e w1 ⟨rfl, hb⟩
  have hz := bC (bA (Below.refl _ _) _) hb
  have cX0_0 := cell_later hb (a := ⟨w.heap.size, 0, none⟩) (v := .int .u64 bh) (by go_simp)
  have cX0_1 := cell_later hb (a := ⟨w.heap.size, 1, none⟩) (v := .int .u64 bl) (by go_simp)
  have sX0 : w.heap.size < w1.heap.size := World.block_lt_of_cell? _ _ cX0_0
  have kk := hz
  clear hb hz
  go_wp2_with fail
  (with_reducible refine (h2.out _).mono ?_); rintro e w2 ⟨rfl, hb⟩
  replace cX0_0 := cell_later hb cX0_0; replace cX0_1 := cell_later hb cX0_1
  replace sX0 : w.heap.size < w2.heap.size := World.block_lt_of_cell? _ _ cX0_0
  replace kk := bC kk hb
  clear hb
  go_wp2_with fail
  refine wp_region_noPanic ?_
  refine wp_region_F [] [] (LS w2 (fun _ _ => True) (fun _ _ _ => True)) (by kernel_rfl) (bs := []) (vs := []) (by kernel_rfl) rfl (LS.before noBits_nil (Below.refl _ _).drew trivial) ?_
  refine wpF_take (i := 0) (v := ?vq7) rfl (by kernel_rfl) (by kernel_rfl) (fun _ _ _ h => h) (LS.load (by rfl) ?yq7) ?rq7
  case yq7 => (intro wq hb; have lcX0_0 := cell_later hb cX0_0; have lcX0_1 := cell_later hb cX0_1; go_simp; try (with_reducible rfl))
  try simp only [List.getElem_toArray, List.getElem_cons_zero, List.getElem_cons_succ, Act.put, List.setIfInBounds_toArray, List.set_cons_zero, List.set_cons_succ]
  refine wpF_yield (i := 1) (v := ?vq8) rfl (by kernel_rfl) (by kernel_rfl) (fun _ _ _ h => h) (Or.inl ⟨by rfl, ?yq8⟩) ?rq8
  case yq8 => (intro wq; go_simp; try (with_reducible rfl))
  try simp only [List.getElem_toArray, List.getElem_cons_zero, List.getElem_cons_succ, Act.put, List.setIfInBounds_toArray, List.set_cons_zero, List.set_cons_succ]
  refine wpF_take (i := 2) (v := _) rfl (by kernel_rfl) (by kernel_rfl) (fun _ _ _ h => h) (LS.callW lasts_true (by rfl) _ _ ?yq9 ((fun W hb => h3.out W (ft.later (bC kk hb))))) ?rq9
  case yq9 => (intro wq; go_simp; try (with_reducible rfl))
  try simp only [List.getElem_toArray, List.getElem_cons_zero, List.getElem_cons_succ, Act.put, List.setIfInBounds_toArray, List.set_cons_zero, List.set_cons_succ]
  refine wpF_yield (i := 3) (v := ?vq10) rfl (by kernel_rfl) (by kernel_rfl) (fun _ _ _ h => h) (Or.inl ⟨by rfl, ?yq10⟩) ?rq10
  case yq10 => (intro wq; go_simp; try (with_reducible rfl))
  try simp only [List.getElem_toArray, List.getElem_cons_zero, List.getElem_cons_succ, Act.put, List.setIfInBounds_toArray, List.set_cons_zero, List.set_cons_succ]
  refine wpF_take (i := 4) (v := _) rfl (by kernel_rfl) (by kernel_rfl) (fun _ _ _ h => h) (LS.call lasts_true (by rfl) _ _ ?yq11 (h4.out)) ?rq11
  case yq11 => (intro wq; go_simp; try (with_reducible rfl))
  try simp only [List.getElem_toArray, List.getElem_cons_zero, List.getElem_cons_succ, Act.put, List.setIfInBounds_toArray, List.set_cons_zero, List.set_cons_succ]
  refine wpF_yield (i := 5) (v := ?vq12) rfl (by kernel_rfl) (by kernel_rfl) (fun _ _ _ h => h) (Or.inl ⟨by rfl, ?yq12⟩) ?rq12
  case yq12 => (intro wq; go_simp; try (with_reducible rfl))
  try simp only [List.getElem_toArray, List.getElem_cons_zero, List.getElem_cons_succ, Act.put, List.setIfInBounds_toArray, List.set_cons_zero, List.set_cons_succ]
  refine wpF_done (bs := []) (vs := []) (by kernel_rfl) (by kernel_rfl) rfl (fun w4 hS => ?_) _
  refine NoPanic.normal ?_
  obtain ⟨hb, _⟩ := hS.1 noBits_nil
  clear hS
  clear cX0_0 cX0_1 sX0
  replace kk := bC kk hb
  clear hb
  go_wp2_with fail
  go_ret
  exact ⟨rfl, kk⟩

set_option maxHeartbeats 4000000 in
set_option maxRecDepth 100000 in
theorem cls_of_no (f bh bl : Int)
    (h0 : Hid (∀ w, FTab w → Calls Tryz.prog 11 #[.int .u8 f] w fun e w' => e = .returned (.bool false) ∧ Below w.heap.size w w')) (w : World) (ft : FTab w) :
    Calls Tryz.prog 15 #[.int .u8 f, .agg #[.int .u64 bh, .int .u64 bl]] w fun e w' => e = .returned (.tuple #[.int .u8 0, .bool false]) ∧ Below w.heap.size w w' := by
  go_enter Tryz.func15, Tryz.ntmps15
  go_wp2_with fail
  (with_reducible refine (h0.out _ (ft.later (bA (Below.refl _ _) _))).mono ?_); rintro e w1 ⟨rfl, hb⟩
  have hz := bC (bA (Below.refl _ _) _) hb
  have kk := hz
  clear hb hz
  go_wp2_with fail
  go_ret2
  exact ⟨rfl, kk⟩

set_option maxHeartbeats 4000000 in
set_option maxRecDepth 100000 in
theorem cls_of_yes (f bh bl ex rh rl c : Int) (ng : Bool)
    (h0 : Hid (∀ w, FTab w → Calls Tryz.prog 11 #[.int .u8 f] w fun e w' => e = .returned (.bool true) ∧ Below w.heap.size w w'))
    (h1 : Hid (∀ w, FTab w → Calls Tryz.prog 35 #[.int .u8 f, .agg #[.int .u64 bh, .int .u64 bl]] w fun e w' => e = .returned (.tuple #[.bool ng, .int .i64 ex, .agg #[.int .u64 rh, .int .u64 rl]]) ∧ Below w.heap.size w w'))
    (h2 : Hid (∀ w, FTab w → Calls Tryz.prog 36 #[.int .u8 f, .int .i64 ex, .agg #[.int .u64 rh, .int .u64 rl]] w fun e w' => e = .returned (.int .u8 c) ∧ Below w.heap.size w w')) (w : World) (ft : FTab w) :
    Calls Tryz.prog 15 #[.int .u8 f, .agg #[.int .u64 bh, .int .u64 bl]] w fun e w' => e = .returned (.tuple #[.int .u8 c, .bool ng]) ∧ Below w.heap.size w w' := by
  go_enter Tryz.func15, Tryz.ntmps15
  go_wp2_with fail
  (with_reducible refine (h0.out _ (ft.later (bA (Below.refl _ _) _))).mono ?_); rintro e w1 ⟨rfl, hb⟩
  have hz := bC (bA (Below.refl _ _) _) hb
  have cX0_0 := cell_later hb (a := ⟨w.heap.size, 0, none⟩) (v := .int .u64 bh) (by go_simp)
  have cX0_1 := cell_later hb (a := ⟨w.heap.size, 1, none⟩) (v := .int .u64 bl) (by go_simp)
  have sX0 : w.heap.size < w1.heap.size := World.block_lt_of_cell? _ _ cX0_0
  have kk := hz
  clear hb hz
  go_wp2_with fail
  (with_reducible refine (h1.out _ (ft.later kk)).mono ?_); rintro e w2 ⟨rfl, hb⟩
  clear cX0_0 cX0_1 sX0
  replace kk := bC kk hb
  clear hb
  go_wp2_with fail
  (with_reducible refine (h2.out _ (ft.later (bC kk (bA (Below.refl _ _) _)))).mono ?_); rintro e w3 ⟨rfl, hb⟩
  have hz := bC (bA (Below.refl _ _) _) hb
  replace kk := bC kk hz
  clear hb hz
  go_wp2_with fail
  go_ret2
  exact ⟨rfl, kk⟩

end Go.Proofs.YtbcjboaihahemaaGreatDoor

/-
  slices.Contains over classes, slices.ContainsFunc over encodings, the closure that class.Any makes: contracts.
-/
set_option linter.unusedVariables false
set_option linter.unusedSimpArgs false
namespace Go.Proofs.YtbcjboaihahemaaGreatDoor
open Go.RowKit
attribute [local go_sem ↓] Go.wp_at_zero Go.wp_at_succ

/-- The cells of a list of classes. -/
def Us (w : World) (a : Addr) (xs : List Int) : Prop := ∀ k, k < xs.length → w.cell? (a.add k) = some (.int .u8 (xs.getD k 0))
theorem Us.later {W w1 : World} {a : Addr} {xs : List Int} (x : Us W a xs) (hb : Below W.heap.size W w1) : Us w1 a xs := fun k hk => cell_later hb (x k hk)
set_option maxRecDepth 100000 in
set_option maxHeartbeats 1000000 in
theorem index_u8 (a : Addr) (n cap : Nat) (xs : List Int) (v : Int) (hn : n = xs.length) (hm : n ≤ 9223372036854775807) (w : World) (x : Us w a xs) :
    Calls Tryz.prog 100 #[.slice (some a) n cap, .int .u8 v] w fun e w' => ∃ r : Int, e = .returned (.int .i64 r) ∧ decide (0 ≤ r) = xs.any (fun y => v == y) ∧ Below w.heap.size w w' := by
  have HX := Lib.hid x
  have HM := Lib.hid hm
  have HN := Lib.hid hn
  clear x hm hn
  go_enter Tryz.func100, Tryz.ntmps100
  go_wp2_with fail
  go_loopw [8] (fun i wr => ∃ k : Nat, k ≤ n ∧ i = .int .i64 k ∧ someB (fun y => v == y) xs k = false ∧ Below w.heap.size w wr) (fun i _ => n - (intOf i).toNat)
  case atStart => exact ⟨0, by omega, rfl, rfl, Below.refl _ _⟩
  case round =>
    obtain ⟨k, hk, rfl, hno, hb⟩ := hrel
    by_cases hlt : k < n
    · have c := (HX.out.later hb) k (HN.out ▸ hlt)
      have su := someB_succ (fun y => v == y) xs k (HN.out ▸ hlt)
      rw [hno, Bool.false_or] at su
      obtain ⟨y, hy⟩ : ∃ y, xs.getD k 0 = y := ⟨_, rfl⟩
      rw [hy] at c su
      have gk : decide ((k : Int) < (n : Int)) = true := by simp; omega
      have inc : IntKind.i64.wrap ((k : Int) + 1) = ((k + 1 : Nat) : Int) := by have := HM.out; rw [IntKind.wrap_i64]; omega
      have HB := Lib.hid hb; have SU := Lib.hid su; have HK := Lib.hid (And.intro hk hlt)
      by_cases hv : (v == y) = true
      · clear hb su hno
        go_wp2_with fail
        refine bodyPost_ret (v := .int .i64 k) (by simp [results, Tryz.results100, go_sem]) rfl ⟨_, rfl, ?_, HB.out⟩
        rw [show decide (0 ≤ (k : Int)) = true by simp]
        have h : someB (fun y => v == y) xs (k + 1) = true := by rw [SU.out]; exact hv
        unfold someB at h
        rw [List.any_eq_true] at h
        obtain ⟨z, hz, hp⟩ := h
        exact (List.any_eq_true.2 ⟨z, List.mem_of_mem_take hz, hp⟩).symm
      · have hv' : (v == y) = false := by simpa using hv
        clear hb su hno hv
        go_wp2_with fail
        go_roundw
        case rel => exact ⟨k + 1, by have := HK.out; omega, by go_num, by rw [SU.out]; exact hv', HB.out⟩
        case measure => have := HK.out; simp [intOf]; omega
    · have gk : decide ((k : Int) < (n : Int)) = false := by simp; omega
      have e : k = n := by omega
      have HB := Lib.hid hb; have HE := Lib.hid (And.intro e hno)
      clear hb e hno
      go_wp2_with fail
      refine bodyPost_ret (v := .int .i64 (-1)) (by simp [results, Tryz.results100, go_sem]) rfl ⟨_, rfl, ?_, HB.out⟩
      rw [← someB_all (fun y => v == y) xs HN.out, ← HE.out.1, HE.out.2]; rfl

theorem contains_u8 (a : Addr) (n cap : Nat) (xs : List Int) (v : Int) (hn : n = xs.length) (hm : n ≤ 9223372036854775807) (w : World) (x : Us w a xs) :
    Calls Tryz.prog 65 #[.slice (some a) n cap, .int .u8 v] w fun e w' => e = .returned (.bool (xs.any fun y => v == y)) ∧ Below w.heap.size w w' := by
  have K := Lib.hid (index_u8 a n cap xs v hn hm w x)
  clear x hn hm
  go_enter Tryz.func65, Tryz.ntmps65
  go_wp2_with fail
  (with_reducible refine (K.out).mono ?_); rintro e w1 ⟨r, rfl, hr, hb⟩
  have HB := Lib.hid hb; have HR := Lib.hid hr
  clear hb hr
  go_wp2_with fail
  go_ret
  exact ⟨congrArg (fun z => Ending.returned (.bool z)) HR.out, HB.out⟩

end Go.Proofs.YtbcjboaihahemaaGreatDoor

/-
  Package class keeps what the document asks.
-/
set_option linter.unusedVariables false
set_option linter.unusedSimpArgs false
namespace Go.Proofs.YtbcjboaihahemaaGreatDoor
open Go.RowKit
attribute [local go_sem ↓] Go.wp_at_zero Go.wp_at_succ

theorem ones_cls {f : Int} (h0 : 0 ≤ f) (h : f < 4) (w : World) (ft : FTab w) : Calls Tryz.prog 75 #[.int .u8 f] w fun e w' => e = .returned (.int .i64 (2 * fE f + 1)) ∧ Below w.heap.size w w' := by
  have W := formOK.width; have P := formOK.prec
  rcases f_cases h0 h with rfl | rfl | rfl | rfl
  · exact cls_ones_0 (Lib.hid (W 0 (by decide) (by decide))) (Lib.hid (P 0 (by decide) (by decide))) w ft
  · exact cls_ones_1 (Lib.hid (W 1 (by decide) (by decide))) (Lib.hid (P 1 (by decide) (by decide))) w ft
  · exact cls_ones_2 (Lib.hid (W 2 (by decide) (by decide))) (Lib.hid (P 2 (by decide) (by decide))) w ft
  · exact cls_ones_3 (Lib.hid (W 3 (by decide) (by decide))) (Lib.hid (P 3 (by decide) (by decide))) w ft
/-- The quiet bit of a fraction: its highest. -/
theorem quiet_bit {f b : Int} (h0 : 0 ≤ f) (h : f < 4) : bitI (fracF f b) ((fP f - 2 : Nat) : Int) = decide ((2 : Int) ^ (fP f - 2) ≤ fracF f b) := by
  obtain ⟨p0, p1, p2, _⟩ := f_nums h0 h
  obtain ⟨r0, r1⟩ := frac_range (b := b) h0 h
  have n2 : (2 : Int) ^ (fP f - 1) = 2 * 2 ^ (fP f - 2) := by rw [← Int.pow_succ', show fP f - 2 + 1 = fP f - 1 by omega]
  have hp := two_pow_pos (fP f - 2)
  unfold bitI
  rw [Int.toNat_natCast, show decide (0 ≤ ((fP f - 2 : Nat) : Int)) = true by simp, show decide (((fP f - 2 : Nat) : Int) < 128) = true by simp; omega, Bool.true_and, Bool.true_and]
  rw [n2] at r1
  generalize (2 : Int) ^ (fP f - 2) = q at *
  generalize fracF f b = r at *
  by_cases c : q ≤ r
  · have : r / q = 1 := by
      have d := Int.emod_add_mul_ediv r q
      have m0 := Int.emod_nonneg r (show q ≠ 0 by omega); have m1 := Int.emod_lt_of_pos r hp
      rw [show r = (r - q) + 1 * q by omega, Int.add_mul_ediv_right _ _ (by omega), Int.ediv_eq_zero_of_lt (by omega) (by omega)]; rfl
    rw [this]; simp [c]
  · rw [Int.ediv_eq_zero_of_lt r0 (by omega)]; simp [c]
theorem fields_cls {f b : Int} (h0 : 0 ≤ f) (h : f < 4) (hb : 0 ≤ b) (w : World) (ft : FTab w) : Calls Tryz.prog 36 #[.int .u8 f, .int .i64 (expF f b), .agg #[.int .u64 (hiOf (fracF f b)), .int .u64 (loOf (fracF f b))]] w fun e w' => e = .returned (.int .u8 (clsF f b)) ∧ Below w.heap.size w w' := by
  obtain ⟨p0, p1, p2, p3, p4, p5, p6, p7, p8⟩ := f_nums h0 h
  obtain ⟨r0, r1⟩ := frac_range (b := b) h0 h
  have fl := fW_full f
  have rm : fracF f b % full = fracF f b := by
    have e1 : (2 : Int) ^ (fP f - 1) ≤ 2 ^ fW f := two_pow_le (by omega)
    exact Int.emod_eq_of_lt r0 (by omega)
  have hz := zeroB (fracF f b)
  rw [rm] at hz
  have on := ones_cls h0 h
  have bt := bit_any (hiOf (fracF f b)) (loOf (fracF f b)) ((fP f - 2 : Nat) : Int) (hiOf_u _) (loOf_u _)
  rw [val_hiLo_mod, rm, quiet_bit h0 h] at bt
  have pr := formOK.prec f h0 (by omega)
  have wr : IntKind.i64.wrap ((fP f : Int) - 2) = ((fP f - 2 : Nat) : Int) := by rw [IntWalk.i64_in _ (by omega)]; omega
  unfold clsF; rw [if_pos h]
  by_cases ez : fracF f b = 0
  · rw [show (fracF f b == 0) = true by simp [ez]] at hz
    by_cases c0 : expF f b = 0
    · rw [if_pos c0, if_pos ez]; exact cls_f0 f (expF f b) _ _ (Lib.hid hz) (by simp [c0]) w
    · rw [if_neg c0]
      by_cases c1 : expF f b = 2 * fE f + 1
      · rw [if_pos c1, if_pos ez]; exact cls_f3 f _ _ _ _ (Lib.hid on) (Lib.hid hz) (by simp [c0]) (by simp [c1]) w ft
      · rw [if_neg c1]; exact cls_f2 f _ _ _ _ (Lib.hid on) (by simp [c0]) (by simp [c1]) w ft
  · rw [show (fracF f b == 0) = false by simp [ez]] at hz
    by_cases c0 : expF f b = 0
    · rw [if_pos c0, if_neg ez]; exact cls_f1 f (expF f b) _ _ (Lib.hid hz) (by simp [c0]) w
    · rw [if_neg c0]
      by_cases c1 : expF f b = 2 * fE f + 1
      · rw [if_pos c1, if_neg ez]
        by_cases cq : (2 : Int) ^ (fP f - 2) ≤ fracF f b
        · rw [if_pos cq]; rw [show decide ((2 : Int) ^ (fP f - 2) ≤ fracF f b) = true by simp [cq]] at bt
          exact cls_f4 f _ _ _ _ _ _ (Lib.hid on) (Lib.hid hz) (Lib.hid pr) (Lib.hid bt) (by simp [c0]) (by simp [c1]) wr w ft
        · rw [if_neg cq]; rw [show decide ((2 : Int) ^ (fP f - 2) ≤ fracF f b) = false by simp [cq]] at bt
          exact cls_f5 f _ _ _ _ _ _ (Lib.hid on) (Lib.hid hz) (Lib.hid pr) (Lib.hid bt) (by simp [c0]) (by simp [c1]) wr w ft
      · rw [if_neg c1]; exact cls_f2 f _ _ _ _ (Lib.hid on) (by simp [c0]) (by simp [c1]) w ft
theorem of_cls (f b : Int) (f0 : 0 ≤ f) (f1 : f ≤ 255) (w : World) (ft : FTab w) : Calls Tryz.prog 15 #[.int .u8 f, .agg #[.int .u64 (hiOf b), .int .u64 (loOf b)]] w fun e w' => e = .returned (.tuple #[.int .u8 (clsF f (b % full)), .bool (negF f (b % full))]) ∧ Below w.heap.size w w' := by
  have K := formOK.known f f0 f1
  by_cases h : f < 4
  · rw [show decide (f < 4) = true by simp [h]] at K
    exact cls_of_yes f _ _ _ _ _ _ _ (Lib.hid K) (Lib.hid (formOK.split f b f0 f1)) (Lib.hid (fields_cls f0 h (mod_f b).1)) w ft
  · rw [show decide (f < 4) = false by simp [h]] at K
    rw [show clsF f (b % full) = 0 by unfold clsF; rw [if_neg h], show negF f (b % full) = false by unfold negF; simp [h]]
    exact cls_of_no f _ _ (Lib.hid K) w ft

set_option maxRecDepth 100000 in
set_option maxHeartbeats 1000000 in
theorem among_cls (f b : Int) (a : Addr) (n cap : Nat) (xs : List Int) (hn : n = xs.length) (hm : n ≤ 9223372036854775807) (f0 : 0 ≤ f) (f1 : f ≤ 255) (w : World) (ft : FTab w) (x : Us w a xs) :
    Calls Tryz.prog 30 #[.int .u8 f, .agg #[.int .u64 (hiOf b), .int .u64 (loOf b)], .slice (some a) n cap] w fun e w' => e = .returned (.bool (decide (f < 4) && xs.any fun y => clsF f (b % full) == y)) ∧ Below w.heap.size w w' := by
  have K := Lib.hid (formOK.known f f0 f1)
  have O := Lib.hid (of_cls f b f0 f1)
  have FT := Lib.hid ft
  have HX := Lib.hid x
  have HC := Lib.hid (fun w x => contains_u8 a n cap xs (clsF f (b % full)) hn hm w x)
  clear x ft hn hm f0 f1
  obtain ⟨q, hq⟩ : ∃ q, clsF f (b % full) = q := ⟨_, rfl⟩
  obtain ⟨ng, hng⟩ : ∃ q, negF f (b % full) = q := ⟨_, rfl⟩
  rw [hq] at HC ⊢
  rw [hq, hng] at O
  clear hq hng
  cases hd : decide (f < 4)
  · rw [hd] at K
    clear hd
    go_enter Tryz.func30, Tryz.ntmps30
    go_wp2_with fail
    (with_reducible refine (K.out _ (FT.out.later (bA (Below.refl _ _) _))).mono ?_); rintro e w1 ⟨rfl, hb⟩
    have KK := Lib.hid (bC (bA (Below.refl _ _) _) hb)
    clear hb
    go_wp2_with fail
    go_ret
    exact ⟨rfl, KK.out⟩
  · rw [hd] at K
    clear hd
    rw [Bool.true_and]
    go_enter Tryz.func30, Tryz.ntmps30
    go_wp2_with fail
    (with_reducible refine (K.out _ (FT.out.later (bA (Below.refl _ _) _))).mono ?_); rintro e w1 ⟨rfl, hb⟩
    have c0 := cell_later hb (a := ⟨w.heap.size, 0, none⟩) (v := .int .u64 (hiOf b)) (by go_simp)
    have c1 := cell_later hb (a := ⟨w.heap.size, 1, none⟩) (v := .int .u64 (loOf b)) (by go_simp)
    have KK := Lib.hid (bC (bA (Below.refl _ _) _) hb)
    clear hb
    go_wp2_with fail
    (with_reducible refine (O.out _ (FT.out.later KK.out)).mono ?_); rintro e w2 ⟨rfl, hb⟩
    clear c0 c1
    have K2 := Lib.hid (bC KK.out hb)
    clear hb
    go_wp2_with fail
    (with_reducible refine (HC.out _ (HX.out.later K2.out)).mono ?_); rintro e w3 ⟨rfl, hb⟩
    have K3 := Lib.hid (bC K2.out hb)
    clear hb
    go_wp2_with fail
    go_ret
    exact ⟨rfl, K3.out⟩

theorem nan_in (f b : Int) (h0 : 0 ≤ f) : (decide (f < 4) && [4, 5].any fun y => clsF f b == y) = nanF f b := by
  obtain ⟨c0, c1⟩ := cls_range f b
  unfold nanF
  by_cases h : f < 4
  · generalize clsF f b = c at *
    rw [Bool.eq_iff_iff]
    simp [h]
    omega
  · simp [h, clsF]
theorem sig_in (f b : Int) (h0 : 0 ≤ f) : (decide (f < 4) && [5].any fun y => clsF f b == y) = sigF f b := by
  obtain ⟨c0, c1⟩ := cls_range f b
  unfold sigF
  by_cases h : f < 4
  · generalize clsF f b = c at *
    rw [Bool.eq_iff_iff]
    simp [h]
    done
  · simp [h, clsF]
theorem fin_in (f b : Int) (h0 : 0 ≤ f) : (decide (f < 4) && [0, 1, 2].any fun y => clsF f b == y) = finF f b := by
  obtain ⟨c0, c1⟩ := cls_range f b
  unfold finF
  by_cases h : f < 4
  · generalize clsF f b = c at *
    rw [Bool.eq_iff_iff]
    simp [h]
    omega
  · simp [h]
set_option maxRecDepth 100000 in
set_option maxHeartbeats 1000000 in
theorem fin_cls (f b : Int) (f0 : 0 ≤ f) (f1 : f ≤ 255) (w : World) (ft : FTab w) : Calls Tryz.prog 12 #[.int .u8 f, .agg #[.int .u64 (hiOf b), .int .u64 (loOf b)]] w fun e w' => e = .returned (.bool (finF f (b % full))) ∧ Below w.heap.size w w' := by
  have H := Lib.hid (fun a w ft x => among_cls f b a 3 3 [0, 1, 2] rfl (by decide) f0 f1 w ft x)
  have FT := Lib.hid ft
  rw [fin_in f (b % full) f0] at H
  clear ft f0 f1
  go_enter Tryz.func12, Tryz.ntmps12
  go_wp2_with fail
  (with_reducible refine (H.out ⟨w.heap.size + 1, 0, none⟩ _ (FT.out.later (bA (bA (Below.refl _ _) _) _)) ?_).mono ?_)
  · intro k hk
    match k, hk with
    | 0, _ => show World.cell? _ ⟨w.heap.size + 1, 0, none⟩ = some (.int .u8 0); go_simp
    | 1, _ => show World.cell? _ ⟨w.heap.size + 1, 1, none⟩ = some (.int .u8 1); go_simp
    | 2, _ => show World.cell? _ ⟨w.heap.size + 1, 2, none⟩ = some (.int .u8 2); go_simp
  rintro e w1 ⟨rfl, hb⟩
  have KK := Lib.hid (bC (bA (bA (Below.refl _ _) _) _) hb)
  clear hb
  go_wp2_with fail
  go_ret
  exact ⟨rfl, KK.out⟩

/-- Package class keeps what the document asks. -/
theorem classOK : ClassOK where
  of f b f0 f1 w ft := of_cls f b f0 f1 w ft
  fin f b f0 f1 w ft := fin_cls f b f0 f1 w ft
/-- class.Any keeps what the document asks, at the functions that the statements hand it. -/
theorem anyOK : AnyOK where

end Go.Proofs.YtbcjboaihahemaaGreatDoor
