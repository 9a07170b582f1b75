import Derived.Test.YtjdjonekoodalaaGreatDoorGfA
set_option maxHeartbeats 4000000
set_option linter.unusedVariables false
set_option linter.unusedSimpArgs false
set_option maxRecDepth 100000
namespace Go.Proofs.YtjdjonekoodalaaGreatDoor
open Go.RowKit
attribute [local go_sem ↓] Go.wp_at_zero Go.wp_at_succ
def clsF (f b : Int) : Int := if f < 4 then (if expF f b = 0 then (if fracF f b = 0 then 0 else 1) else if expF f b = 2 * fE f + 1 then (if fracF f b = 0 then 3 else if 2 ^ (fP f - 2) ≤ fracF f b then 4 else 5) else 2) else 0
def nanF (f b : Int) : Bool := decide (4 ≤ clsF f b)
def sigF (f b : Int) : Bool := decide (clsF f b = 5)
def finF (f b : Int) : Bool := decide (f < 4) && decide (clsF f b ≤ 2)
theorem cls_range (f b : Int) : 0 ≤ clsF f b ∧ clsF f b ≤ 5 := by unfold clsF; repeat' split <;> omega
theorem cls_no {f : Int} (h : ¬ f < 4) (b : Int) : clsF f b = 0 := by unfold clsF; rw [if_neg h]
end Go.Proofs.YtjdjonekoodalaaGreatDoor
namespace Go.Proofs.YtjdjonekoodalaaGreatDoor
open Go.RowKit
attribute [local go_sem ↓] Go.wp_at_zero Go.wp_at_succ
structure ClassOK : Prop where
  of : ∀ f b, 0 ≤ f → f ≤ 255 → ∀ w, FTab w → Calls Tryz.prog 14 #[.int .u8 f, .agg #[.int .u64 (hiOf (b)), .int .u64 (loOf (b))]] w fun e w' => e = .returned (.tuple #[.int .u8 (clsF f (b % full)), .bool (negF f (b % full))]) ∧ Below w.heap.size w w'
  nan : ∀ f b, 0 ≤ f → f ≤ 255 → ∀ w, FTab w → Calls Tryz.prog 22 #[.int .u8 f, .agg #[.int .u64 (hiOf (b)), .int .u64 (loOf (b))]] w fun e w' => e = .returned (.bool (nanF f (b % full))) ∧ Below w.heap.size w w'
  sig : ∀ f b, 0 ≤ f → f ≤ 255 → ∀ w, FTab w → Calls Tryz.prog 80 #[.int .u8 f, .agg #[.int .u64 (hiOf (b)), .int .u64 (loOf (b))]] w fun e w' => e = .returned (.bool (sigF f (b % full))) ∧ Below w.heap.size w w'
  fin : ∀ f b, 0 ≤ f → f ≤ 255 → ∀ w, FTab w → Calls Tryz.prog 16 #[.int .u8 f, .agg #[.int .u64 (hiOf (b)), .int .u64 (loOf (b))]] w fun e w' => e = .returned (.bool (finF f (b % full))) ∧ Below w.heap.size w w'
theorem make_fields {f : Int} (h0 : 0 ≤ f) (h : f < 4) (ng : Bool) (e m : Int) : expF f (makeF f ng e m) = expOf f e ∧ fracF f (makeF f ng e m) = m % 2 ^ (fP f - 1) ∧ negF f (makeF f ng e m) = ng := by
  obtain ⟨q1, q2, q3, q4, q5, q6⟩ := make_parts h0 h ng e m
  obtain ⟨p0, p1, p2, p3, p4, p5, p6, p7, p8⟩ := f_nums h0 h
  have hp := two_pow_pos (fP f - 1)
  have hw := two_pow_pos (fW f - 1)
  have z : makeF f ng e m = expOf f e * 2 ^ (fP f - 1) + m % 2 ^ (fP f - 1) + (if ng then 2 ^ (fW f - 1) else 0) := by unfold makeF; rw [if_pos h]
  have low : makeF f ng e m % 2 ^ (fW f - 1) = expOf f e * 2 ^ (fP f - 1) + m % 2 ^ (fP f - 1) := by
    rw [z]; split
    · rw [Int.add_emod_right, Int.emod_eq_of_lt q3 q4]
    · rw [Int.add_zero, Int.emod_eq_of_lt q3 q4]
  refine ⟨?_, ?_, ?_⟩
  · unfold expF; rw [if_pos h, low, Int.add_comm, Int.add_mul_ediv_right _ _ (by omega), Int.ediv_eq_zero_of_lt q1 q2, Int.zero_add]
  · unfold fracF; rw [if_pos h, ← mod_mod_pow (makeF f ng e m) (show fP f - 1 ≤ fW f - 1 by omega), low, Int.add_comm, Int.add_mul_emod_self_right, Int.emod_eq_of_lt q1 q2]
  · unfold negF; rw [show decide (f < 4) = true by simp [h], Bool.and_true]
    have d := Int.emod_add_mul_ediv (makeF f ng e m) (2 ^ (fW f - 1))
    rw [low] at d
    generalize makeF f ng e m / 2 ^ (fW f - 1) = t at *
    cases ng with
    | false =>
      rw [if_neg (by decide)] at z
      have : 2 ^ (fW f - 1) * t = 0 := by omega
      have : t = 0 := by rcases Int.mul_eq_zero.1 this with a | a <;> omega
      rw [this]; decide
    | true =>
      rw [if_pos rfl] at z
      have e1 : 2 ^ (fW f - 1) * t = 2 ^ (fW f - 1) * 1 := by omega
      have : t = 1 := Int.eq_of_mul_eq_mul_left (by omega) e1
      rw [this]; decide
theorem cls_congr {f a b : Int} (e1 : expF f a = expF f b) (e2 : fracF f a = fracF f b) : clsF f a = clsF f b := by unfold clsF; rw [e1, e2]
end Go.Proofs.YtjdjonekoodalaaGreatDoor
namespace Go.Proofs.YtjdjonekoodalaaGreatDoor
open Go.RowKit
def Bs (w : World) (ao : Option Addr) (n cap : Nat) (xs : List Int) : Prop :=
  n = xs.length ∧ n ≤ cap ∧ (n ≤ 9223372036854775807 ∧ (ao = none → n = 0 ∧ cap = 0)) ∧ ∀ k, k < n → ∃ a, ao = some a ∧ w.cell? (a.add (k * 2)) = some (.int .u64 (hiOf (xs.getD k 0))) ∧ w.cell? ⟨(a.add (k * 2)).block, (a.add (k * 2)).off + 1, none⟩ = some (.int .u64 (loOf (xs.getD k 0)))
theorem Bs.later {W w1 : World} {ao : Option Addr} {n cap : Nat} {xs : List Int} (x : Bs W ao n cap xs) (hb : Below W.heap.size W w1) : Bs w1 ao n cap xs := by
  obtain ⟨h1, h2, h3, h4⟩ := x
  refine ⟨h1, h2, h3, fun k hk => ?_⟩
  obtain ⟨a, e, c0, c1⟩ := h4 k hk
  exact ⟨a, e, cL hb c0, cL hb c1⟩
def someB (p : Int → Bool) (xs : List Int) (k : Nat) : Bool := (xs.take k).any p
theorem someB_succ (p : Int → Bool) (xs : List Int) (k : Nat) (h : k < xs.length) : someB p xs (k + 1) = (someB p xs k || p (xs.getD k 0)) := by
  unfold someB
  rw [List.take_add_one, List.any_append, List.getD_eq_getElem?_getD, List.getElem?_eq_getElem h]
  simp
theorem someB_all (p : Int → Bool) (xs : List Int) {n : Nat} (h : n = xs.length) : someB p xs n = xs.any p := by
  unfold someB; rw [h, List.take_length]
end Go.Proofs.YtjdjonekoodalaaGreatDoor
namespace Go.Proofs.YtjdjonekoodalaaGreatDoor
open Go.RowKit
structure AnyOK : Prop where
  nan : ∀ f ao n cap xs, 0 ≤ f → f ≤ 255 → ∀ w, FTab w → Bs w ao n cap xs → Calls Tryz.prog 21 #[.int .u8 f, .func (.func 22) #[] #[], .slice ao n cap] w fun e w' => e = .returned (.bool (xs.any fun b => nanF f (b % full))) ∧ Below w.heap.size w w'
  sig : ∀ f ao n cap xs, 0 ≤ f → f ≤ 255 → ∀ w, FTab w → Bs w ao n cap xs → Calls Tryz.prog 21 #[.int .u8 f, .func (.func 80) #[] #[], .slice ao n cap] w fun e w' => e = .returned (.bool (xs.any fun b => sigF f (b % full))) ∧ Below w.heap.size w w'
  fin : ∀ f ao n cap xs, 0 ≤ f → f ≤ 255 → ∀ w, FTab w → Bs w ao n cap xs → Calls Tryz.prog 21 #[.int .u8 f, .func (.func 16) #[] #[], .slice ao n cap] w fun e w' => e = .returned (.bool (xs.any fun b => finF f (b % full))) ∧ Below w.heap.size w w'
  none : ∀ f ao n cap, 0 ≤ f → f ≤ 255 → ∀ w, Calls Tryz.prog 21 #[.int .u8 f, Value.nilFunc, .slice ao n cap] w fun e w' => e = .returned (.bool false) ∧ Below w.heap.size w w'
end Go.Proofs.YtjdjonekoodalaaGreatDoor
namespace Go.Proofs.YtjdjonekoodalaaGreatDoor
open Go.RowKit
attribute [local go_sem ↓] Go.wp_at_zero Go.wp_at_succ
theorem cls_ones_0
    (h0 : Hid (∀ w, FTab w → Ca 57 #[.int .u8 0] w (.int .i64 16)))
    (h1 : Hid (∀ w, FTab w → Ca 105 #[.int .u8 0] w (.int .i64 11))) (w : World) (ft : FTab w) :
    Ca 104 #[.int .u8 0] w (.int .i64 31) := by
  simp only [Ca] at *
  go_enter Tryz.func104, Tryz.ntmps104
  go_wp2_with fail
  refine vM (h0.out _ (ft.later bR)) fun w1 b1 => ?_
  go_wp2_with fail
  refine vM (h1.out _ (ft.later b1)) fun w2 b2 => ?_
  go_wp2_with fail
  go_ret
  exact ⟨rfl, (bC b1 b2)⟩
theorem cls_ones_1
    (h0 : Hid (∀ w, FTab w → Ca 57 #[.int .u8 1] w (.int .i64 32)))
    (h1 : Hid (∀ w, FTab w → Ca 105 #[.int .u8 1] w (.int .i64 24))) (w : World) (ft : FTab w) :
    Ca 104 #[.int .u8 1] w (.int .i64 255) := by
  simp only [Ca] at *
  go_enter Tryz.func104, Tryz.ntmps104
  go_wp2_with fail
  refine vM (h0.out _ (ft.later bR)) fun w1 b1 => ?_
  go_wp2_with fail
  refine vM (h1.out _ (ft.later b1)) fun w2 b2 => ?_
  go_wp2_with fail
  go_ret
  exact ⟨rfl, (bC b1 b2)⟩
theorem cls_ones_2
    (h0 : Hid (∀ w, FTab w → Ca 57 #[.int .u8 2] w (.int .i64 64)))
    (h1 : Hid (∀ w, FTab w → Ca 105 #[.int .u8 2] w (.int .i64 53))) (w : World) (ft : FTab w) :
    Ca 104 #[.int .u8 2] w (.int .i64 2047) := by
  simp only [Ca] at *
  go_enter Tryz.func104, Tryz.ntmps104
  go_wp2_with fail
  refine vM (h0.out _ (ft.later bR)) fun w1 b1 => ?_
  go_wp2_with fail
  refine vM (h1.out _ (ft.later b1)) fun w2 b2 => ?_
  go_wp2_with fail
  go_ret
  exact ⟨rfl, (bC b1 b2)⟩
theorem cls_ones_3
    (h0 : Hid (∀ w, FTab w → Ca 57 #[.int .u8 3] w (.int .i64 128)))
    (h1 : Hid (∀ w, FTab w → Ca 105 #[.int .u8 3] w (.int .i64 113))) (w : World) (ft : FTab w) :
    Ca 104 #[.int .u8 3] w (.int .i64 32767) := by
  simp only [Ca] at *
  go_enter Tryz.func104, Tryz.ntmps104
  go_wp2_with fail
  refine vM (h0.out _ (ft.later bR)) fun w1 b1 => ?_
  go_wp2_with fail
  refine vM (h1.out _ (ft.later b1)) fun w2 b2 => ?_
  go_wp2_with fail
  go_ret
  exact ⟨rfl, (bC b1 b2)⟩
theorem cls_f0 (f ex bh bl : Int)
    (h0 : Hid (∀ w, Ca 87 #[U2 bh bl] w (.bool true))) (c1 : (ex == 0) = true) (w : World) :
    Ca 46 #[.int .u8 f, .int .i64 ex, U2 bh bl] w (.int .u8 0) := by
  simp only [Ca, U2] at *
  go_enter Tryz.func46, Tryz.ntmps46
  go_wp2_with fail
  refine vM (h0.out _) fun w1 b1 => ?_
  go_wp2_with fail
  go_ret
  exact ⟨rfl, (bC (bA bR _) b1)⟩
theorem cls_f1 (f ex bh bl : Int)
    (h0 : Hid (∀ w, Ca 87 #[U2 bh bl] w (.bool false))) (c1 : (ex == 0) = true) (w : World) :
    Ca 46 #[.int .u8 f, .int .i64 ex, U2 bh bl] w (.int .u8 1) := by
  simp only [Ca, U2] at *
  go_enter Tryz.func46, Tryz.ntmps46
  go_wp2_with fail
  refine vM (h0.out _) fun w1 b1 => ?_
  go_wp2_with fail
  go_ret
  exact ⟨rfl, (bC (bA bR _) b1)⟩
theorem cls_f2 (f ex bh bl o : Int)
    (h1 : Hid (∀ w, FTab w → Ca 104 #[.int .u8 f] w (.int .i64 o))) (c1 : (ex == 0) = false) (c2 : (ex != o) = true) (w : World) (ft : FTab w) :
    Ca 46 #[.int .u8 f, .int .i64 ex, U2 bh bl] w (.int .u8 2) := by
  simp only [Ca, U2] at *
  go_enter Tryz.func46, Tryz.ntmps46
  go_wp2_with fail
  refine vM (h1.out _ (ft.later (bA bR _))) fun w1 b1 => ?_
  go_wp2_with fail
  go_ret
  exact ⟨rfl, (bC (bA bR _) b1)⟩
theorem cls_f3 (f ex bh bl o : Int)
    (h1 : Hid (∀ w, FTab w → Ca 104 #[.int .u8 f] w (.int .i64 o)))
    (h2 : Hid (∀ w, Ca 87 #[U2 bh bl] w (.bool true))) (c1 : (ex == 0) = false) (c2 : (ex != o) = false) (w : World) (ft : FTab w) :
    Ca 46 #[.int .u8 f, .int .i64 ex, U2 bh bl] w (.int .u8 3) := by
  simp only [Ca, U2] at *
  go_enter Tryz.func46, Tryz.ntmps46
  go_wp2_with fail
  refine vM (h1.out _ (ft.later (bA bR _))) fun w1 b1 => ?_
  have X0 := (HB.newAt (b := w.heap.size) (by simp) _ _).later b1
  have oX0 := X0.o
  go_wp2_with fail
  refine vM (h2.out _) fun w2 b2 => ?_
  clear oX0
  go_wp2_with fail
  go_ret
  exact ⟨rfl, (bC (bC (bA bR _) b1) b2)⟩
theorem cls_f4 (f ex bh bl o p q : Int)
    (h1 : Hid (∀ w, FTab w → Ca 104 #[.int .u8 f] w (.int .i64 o)))
    (h2 : Hid (∀ w, Ca 87 #[U2 bh bl] w (.bool false)))
    (h3 : Hid (∀ w, FTab w → Ca 105 #[.int .u8 f] w (.int .i64 p)))
    (h4 : Hid (∀ w, Ca 103 #[U2 bh bl, .int .i64 q] w (.bool true))) (c1 : (ex == 0) = false) (c2 : (ex != o) = false) (v1 : IntKind.i64.wrap (p - 2) = q) (w : World) (ft : FTab w) :
    Ca 46 #[.int .u8 f, .int .i64 ex, U2 bh bl] w (.int .u8 4) := by
  simp only [Ca, U2] at *
  go_enter Tryz.func46, Tryz.ntmps46
  go_wp2_with fail
  refine vM (h1.out _ (ft.later (bA bR _))) fun w1 b1 => ?_
  have X0 := (HB.newAt (b := w.heap.size) (by simp) _ _).later b1
  have oX0 := X0.o
  go_wp2_with fail
  refine vM (h2.out _) fun w2 b2 => ?_
  clear oX0
  go_wp2_with fail
  replace X0 := X0.later b2
  refine vR [] fun w3 b3 S3 => ?_
  refine vT 0 S3 ?_ (hy := by intro wq hb; have q := (hb.hb X0 (by simp)).o; go_simp; try (with_reducible rfl))
  refine vT 1 S3 ?_
  refine vY1 (vC 2 S3 (h3.out _ (ft.later (bC (bC (bC (bA bR _) b1) b2) b3))) (fun _ _ => Off.later) fun w4 b4 S4 => ?_)
  refine vT 3 S4 ?_
  refine vY1 (vC 4 S4 (h4.out _) (fun _ _ => Off.later) fun w5 b5 S5 => ?_)
  refine vT 5 S5 ?_
  refine vD ?_
  go_wp2_with fail
  go_ret
  exact ⟨rfl, (bC (bC (bC (bC (bC (bA bR _) b1) b2) b3) b4) b5)⟩
theorem cls_f5 (f ex bh bl o p q : Int)
    (h1 : Hid (∀ w, FTab w → Ca 104 #[.int .u8 f] w (.int .i64 o)))
    (h2 : Hid (∀ w, Ca 87 #[U2 bh bl] w (.bool false)))
    (h3 : Hid (∀ w, FTab w → Ca 105 #[.int .u8 f] w (.int .i64 p)))
    (h4 : Hid (∀ w, Ca 103 #[U2 bh bl, .int .i64 q] w (.bool false))) (c1 : (ex == 0) = false) (c2 : (ex != o) = false) (v1 : IntKind.i64.wrap (p - 2) = q) (w : World) (ft : FTab w) :
    Ca 46 #[.int .u8 f, .int .i64 ex, U2 bh bl] w (.int .u8 5) := by
  simp only [Ca, U2] at *
  go_enter Tryz.func46, Tryz.ntmps46
  go_wp2_with fail
  refine vM (h1.out _ (ft.later (bA bR _))) fun w1 b1 => ?_
  have X0 := (HB.newAt (b := w.heap.size) (by simp) _ _).later b1
  have oX0 := X0.o
  go_wp2_with fail
  refine vM (h2.out _) fun w2 b2 => ?_
  clear oX0
  go_wp2_with fail
  replace X0 := X0.later b2
  refine vR [] fun w3 b3 S3 => ?_
  refine vT 0 S3 ?_ (hy := by intro wq hb; have q := (hb.hb X0 (by simp)).o; go_simp; try (with_reducible rfl))
  refine vT 1 S3 ?_
  refine vY1 (vC 2 S3 (h3.out _ (ft.later (bC (bC (bC (bA bR _) b1) b2) b3))) (fun _ _ => Off.later) fun w4 b4 S4 => ?_)
  refine vT 3 S4 ?_
  refine vY1 (vC 4 S4 (h4.out _) (fun _ _ => Off.later) fun w5 b5 S5 => ?_)
  refine vT 5 S5 ?_
  refine vD ?_
  go_wp2_with fail
  go_ret
  exact ⟨rfl, (bC (bC (bC (bC (bC (bA bR _) b1) b2) b3) b4) b5)⟩
theorem cls_of_no (f bh bl : Int)
    (h0 : Hid (∀ w, FTab w → Ca 15 #[.int .u8 f] w (.bool false))) (w : World) (ft : FTab w) :
    Ca 14 #[.int .u8 f, U2 bh bl] w (.tuple #[.int .u8 0, .bool false]) := by
  simp only [Ca, U2] at *
  go_enter Tryz.func14, Tryz.ntmps14
  go_wp2_with fail
  refine vM (h0.out _ (ft.later (bA bR _))) fun w1 b1 => ?_
  go_wp2_with fail
  go_ret2
  exact ⟨rfl, (bC (bA bR _) b1)⟩
theorem cls_of_yes (f bh bl ex rh rl c : Int) (ng : Bool)
    (h0 : Hid (∀ w, FTab w → Ca 15 #[.int .u8 f] w (.bool true)))
    (h1 : Hid (∀ w, FTab w → Ca 45 #[.int .u8 f, U2 bh bl] w (.tuple #[.bool ng, .int .i64 ex, U2 rh rl])))
    (h2 : Hid (∀ w, FTab w → Ca 46 #[.int .u8 f, .int .i64 ex, U2 rh rl] w (.int .u8 c))) (w : World) (ft : FTab w) :
    Ca 14 #[.int .u8 f, U2 bh bl] w (.tuple #[.int .u8 c, .bool ng]) := by
  simp only [Ca, U2] at *
  go_enter Tryz.func14, Tryz.ntmps14
  go_wp2_with fail
  refine vM (h0.out _ (ft.later (bA bR _))) fun w1 b1 => ?_
  have X0 := (HB.newAt (b := w.heap.size) (by simp) _ _).later b1
  have oX0 := X0.o
  go_wp2_with fail
  refine vM (h1.out _ (ft.later (bC (bA bR _) b1))) fun w2 b2 => ?_
  clear oX0
  go_wp2_with fail
  refine vM (h2.out _ (ft.later (bA (bC (bC (bA bR _) b1) b2) _))) fun w3 b3 => ?_
  go_wp2_with fail
  go_ret2
  exact ⟨rfl, (bC (bC (bC (bA bR _) b1) b2) (bC (bA bR _) b3))⟩
end Go.Proofs.YtjdjonekoodalaaGreatDoor
namespace Go.Proofs.YtjdjonekoodalaaGreatDoor
open Go.RowKit
attribute [local go_sem ↓] Go.wp_at_zero Go.wp_at_succ
def Us (w : World) (a : Addr) (xs : List Int) : Prop := ∀ k, k < xs.length → w.cell? (a.add k) = some (.int .u8 (xs.getD k 0))
theorem Us.later {W w1 : World} {a : Addr} {xs : List Int} (x : Us W a xs) (hb : Below W.heap.size W w1) : Us w1 a xs := fun k hk => cL hb (x k hk)
theorem index_u8 (a : Addr) (n cap : Nat) (xs : List Int) (v : Int) (hn : n = xs.length) (hm : n ≤ 9223372036854775807) (w : World) (x : Us w a xs) :
    Calls Tryz.prog 137 #[.slice (some a) n cap, .int .u8 v] w fun e w' => ∃ r : Int, e = .returned (.int .i64 r) ∧ decide (0 ≤ r) = xs.any (fun y => v == y) ∧ Below w.heap.size w w' := by
  have HX := lH x
  have HM := lH hm
  have HN := lH hn
  clear x hm hn
  go_enter Tryz.func137, Tryz.ntmps137
  go_wp2_with fail
  go_loopw [8] (fun i wr => ∃ k : Nat, k ≤ n ∧ i = .int .i64 k ∧ someB (fun y => v == y) xs k = false ∧ Below w.heap.size w wr) (fun i _ => n - (intOf i).toNat)
  case atStart => exact ⟨0, by omega, rfl, rfl, bR⟩
  case round =>
    obtain ⟨k, hk, rfl, hno, hb⟩ := hrel
    by_cases hlt : k < n
    · have c := (HX.out.later hb) k (HN.out ▸ hlt)
      have su := someB_succ (fun y => v == y) xs k (HN.out ▸ hlt)
      rw [hno, Bool.false_or] at su
      obtain ⟨y, hy⟩ : ∃ y, xs.getD k 0 = y := ⟨_, rfl⟩
      rw [hy] at c su
      have gk : decide ((k : Int) < (n : Int)) = true := by simp; omega
      have inc : IntKind.i64.wrap ((k : Int) + 1) = ((k + 1 : Nat) : Int) := by have := HM.out; rw [IntKind.wrap_i64]; omega
      have HB := lH hb; have SU := lH su; have HK := lH (And.intro hk hlt)
      by_cases hv : (v == y) = true
      · clear hb su hno
        go_wp2_with fail
        refine bodyPost_ret (v := .int .i64 k) (by simp [results, Tryz.results137, go_sem]) rfl ⟨_, rfl, ?_, HB.out⟩
        rw [show decide (0 ≤ (k : Int)) = true by simp]
        have h : someB (fun y => v == y) xs (k + 1) = true := by rw [SU.out]; exact hv
        unfold someB at h
        rw [List.any_eq_true] at h
        obtain ⟨z, hz, hp⟩ := h
        exact (List.any_eq_true.2 ⟨z, List.mem_of_mem_take hz, hp⟩).symm
      · have hv' : (v == y) = false := by simpa using hv
        clear hb su hno hv
        go_wp2_with fail
        go_roundw
        case rel => exact ⟨k + 1, by have := HK.out; omega, by go_num, by rw [SU.out]; exact hv', HB.out⟩
        case measure => have := HK.out; simp [intOf]; omega
    · have gk : decide ((k : Int) < (n : Int)) = false := by simp; omega
      have e : k = n := by omega
      have HB := lH hb; have HE := lH (And.intro e hno)
      clear hb e hno
      go_wp2_with fail
      refine bodyPost_ret (v := .int .i64 (-1)) (by simp [results, Tryz.results137, go_sem]) rfl ⟨_, rfl, ?_, HB.out⟩
      rw [← someB_all (fun y => v == y) xs HN.out, ← HE.out.1, HE.out.2]; rfl
theorem contains_u8 (a : Addr) (n cap : Nat) (xs : List Int) (v : Int) (hn : n = xs.length) (hm : n ≤ 9223372036854775807) (w : World) (x : Us w a xs) :
    Calls Tryz.prog 106 #[.slice (some a) n cap, .int .u8 v] w fun e w' => e = .returned (.bool (xs.any fun y => v == y)) ∧ Below w.heap.size w w' := by
  have K := lH (index_u8 a n cap xs v hn hm w x)
  clear x hn hm
  go_enter Tryz.func106, Tryz.ntmps106
  go_wp2_with fail
  (with_reducible refine (K.out).mono ?_); rintro e w1 ⟨r, rfl, hr, hb⟩
  have HB := lH hb; have HR := lH hr
  clear hb hr
  go_wp2_with fail
  go_ret
  exact ⟨congrArg (fun z => Ending.returned (.bool z)) HR.out, HB.out⟩
theorem recover_idle (w : World) : CallsD Tryz.prog 60 #[] .returning w fun e u' w' => e = .returned (.tuple #[]) ∧ u' = .returning ∧ w' = w := by
  refine callsD_of_wpS Tryz.func60 rfl fun c₀ cs hu => ?_
  apply wpS_region
  simp [wpOpsS, go_sem, recoverD, hu, Tryz.ntmps60, Exit.thenS, bodyPostS, results, Tryz.results60]
  cases c₀; simp_all
theorem ask_fun (g : Nat) (hg : ∀ args w, (callFunc g args).run Tryz.prog w = .ok (.enter g args) w) (p : Bool) (f b : Int) (b4 b3 : Nat) (w : World) (ft : FTab w) (c4 : w.cell? ⟨b4, 0, none⟩ = some (.func (.func g) #[] #[])) (c3 : w.cell? ⟨b3, 0, none⟩ = some (.int .u8 f))
    (H : Hid (∀ w, FTab w → Calls Tryz.prog g #[.int .u8 f, .agg #[.int .u64 (hiOf b), .int .u64 (loOf b)]] w fun e w' => e = .returned (.bool p) ∧ Below w.heap.size w w')) :
    Calls Tryz.prog 59 #[.agg #[.int .u64 (hiOf b), .int .u64 (loOf b)], .pointer (some ⟨b4, 0, none⟩), .pointer (some ⟨b3, 0, none⟩)] w fun e w' => e = .returned (.bool p) ∧ Below w.heap.size w w' := by
  have FT := lH ft
  have q4 : b4 < w.heap.size := bL c4
  have q3 : b3 < w.heap.size := bL c3
  clear ft
  go_enter_defers Tryz.func59, Tryz.ntmps59
  go_wp2_with fail
  (with_reducible refine (H.out _ (FT.out.later (bA bR _))).mono ?_); rintro e w1 ⟨rfl, hb⟩
  have HB := lH (bC (bA bR _) hb)
  clear hb
  go_wp2_with fail
  refine leaves_cons (f := 60) (args := #[]) (by simp) (by simp [go_sem]) ?_
  refine (recover_idle _).mono ?_
  rintro e u' w'' ⟨rfl, rfl, rfl⟩
  exact ⟨_, results_tmp rfl _ _ _, rfl, HB.out⟩
theorem index_func (p : Int → Bool) (b4 b3 : Nat) (ao : Option Addr) (n cap : Nat) (xs : List Int) (w : World) (x : Bs w ao n cap xs)
    (H : Hid (∀ b W, Below w.heap.size w W → Calls Tryz.prog 59 #[.agg #[.int .u64 (hiOf b), .int .u64 (loOf b)], .pointer (some ⟨b4, 0, none⟩), .pointer (some ⟨b3, 0, none⟩)] W fun e W' => e = .returned (.bool (p b)) ∧ Below W.heap.size W W')) :
    Calls Tryz.prog 76 #[.slice ao n cap, .func (.func 59) #[] #[.pointer (some ⟨b4, 0, none⟩), .pointer (some ⟨b3, 0, none⟩)]] w fun e w' => ∃ r : Int, e = .returned (.int .i64 r) ∧ decide (0 ≤ r) = xs.any p ∧ Below w.heap.size w w' := by
  have HX := lH x
  clear x
  go_enter Tryz.func76, Tryz.ntmps76
  go_wp2_with fail
  go_loopw [8] (fun i wr => ∃ k : Nat, k ≤ n ∧ i = .int .i64 k ∧ someB p xs k = false ∧ Below w.heap.size w wr) (fun i _ => n - (intOf i).toNat)
  case atStart => exact ⟨0, by omega, rfl, rfl, bR⟩
  case round =>
    obtain ⟨k, hk, rfl, hno, hb⟩ := hrel
    by_cases hlt : k < n
    · obtain ⟨a, hao, c0, c1⟩ := (HX.out.later hb).2.2.2 k hlt
      subst hao
      have su := someB_succ p xs k (HX.out.1 ▸ hlt)
      rw [hno, Bool.false_or] at su
      obtain ⟨y, hy⟩ : ∃ y, xs.getD k 0 = y := ⟨_, rfl⟩
      rw [hy] at c0 c1 su
      have gk : decide ((k : Int) < (n : Int)) = true := by simp; omega
      have inc : IntKind.i64.wrap ((k : Int) + 1) = ((k + 1 : Nat) : Int) := by have := HX.out.2.2.1.1; rw [IntKind.wrap_i64]; omega
      have HB := lH hb; have SU := lH su; have HK := lH (And.intro hk hlt)
      have HH := lH (H.out y _ hb)
      cases hv : p y
      · rw [hv] at SU HH
        clear hb su hno hk
        go_wp2_with fail
        (with_reducible refine (HH.out).mono ?_); rintro e w1 ⟨rfl, hb1⟩
        have K1 := lH (bC HB.out hb1)
        clear hb1 c0 c1
        go_wp2_with fail
        go_roundw
        case rel => exact ⟨k + 1, by have := HK.out; omega, by go_num, SU.out, K1.out⟩
        case measure => have := HK.out; simp [intOf]; omega
      · rw [hv] at SU HH
        clear hb su hno hk
        go_wp2_with fail
        (with_reducible refine (HH.out).mono ?_); rintro e w1 ⟨rfl, hb1⟩
        have K1 := lH (bC HB.out hb1)
        clear hb1 c0 c1
        go_wp2_with fail
        refine bodyPost_ret (v := .int .i64 k) (by simp [results, Tryz.results76, go_sem]) rfl ⟨_, rfl, ?_, K1.out⟩
        rw [show decide (0 ≤ (k : Int)) = true by simp]
        have h := SU.out
        unfold someB at h
        rw [List.any_eq_true] at h
        obtain ⟨z, hz, hp⟩ := h
        exact (List.any_eq_true.2 ⟨z, List.mem_of_mem_take hz, hp⟩).symm
    · have gk : decide ((k : Int) < (n : Int)) = false := by simp; omega
      have e : k = n := by omega
      have HB := lH hb; have HE := lH (And.intro e hno)
      clear hb e hno
      go_wp2_with fail
      refine bodyPost_ret (v := .int .i64 (-1)) (by simp [results, Tryz.results76, go_sem]) rfl ⟨_, rfl, ?_, HB.out⟩
      rw [← someB_all p xs HX.out.1, ← HE.out.1, HE.out.2]; rfl
theorem contains_func (p : Int → Bool) (b4 b3 : Nat) (ao : Option Addr) (n cap : Nat) (xs : List Int) (w : World) (x : Bs w ao n cap xs)
    (H : Hid (∀ b W, Below w.heap.size w W → Calls Tryz.prog 59 #[.agg #[.int .u64 (hiOf b), .int .u64 (loOf b)], .pointer (some ⟨b4, 0, none⟩), .pointer (some ⟨b3, 0, none⟩)] W fun e W' => e = .returned (.bool (p b)) ∧ Below W.heap.size W W')) :
    Calls Tryz.prog 58 #[.slice ao n cap, .func (.func 59) #[] #[.pointer (some ⟨b4, 0, none⟩), .pointer (some ⟨b3, 0, none⟩)]] w fun e w' => e = .returned (.bool (xs.any p)) ∧ Below w.heap.size w w' := by
  have K := lH (index_func p b4 b3 ao n cap xs w x H)
  clear x H
  go_enter Tryz.func58, Tryz.ntmps58
  go_wp2_with fail
  (with_reducible refine (K.out).mono ?_); rintro e w1 ⟨r, rfl, hr, hb⟩
  have HB := lH hb; have HR := lH hr
  clear hb hr
  go_wp2_with fail
  go_ret
  exact ⟨congrArg (fun z => Ending.returned (.bool z)) HR.out, HB.out⟩
theorem any_fun (g : Nat) (hg : ∀ args w, (callFunc g args).run Tryz.prog w = .ok (.enter g args) w) (p : Int → Bool) (f : Int) (ao : Option Addr) (n cap : Nat) (xs : List Int) (w : World) (ft : FTab w) (x : Bs w ao n cap xs)
    (H : Hid (∀ b w, FTab w → Calls Tryz.prog g #[.int .u8 f, .agg #[.int .u64 (hiOf b), .int .u64 (loOf b)]] w fun e w' => e = .returned (.bool (p b)) ∧ Below w.heap.size w w')) :
    Calls Tryz.prog 21 #[.int .u8 f, .func (.func g) #[] #[], .slice ao n cap] w fun e w' => e = .returned (.bool (xs.any p)) ∧ Below w.heap.size w w' := by
  have FT := lH ft
  have HX := lH x
  have HG := lH hg
  clear ft x hg
  go_enter Tryz.func21, Tryz.ntmps21
  have hnf : ∀ w : World, (binOp .eql 36 (.func (.func g) #[] #[]) Value.nilFunc).run Tryz.prog w = .ok (.bool false) w := fun _ => by kernel_rfl
  have hmf : ∀ (fn : Fn) (first cap : Array Value) (w : World), (Instr.makeFunc fn first cap).run Tryz.prog w = .ok (.func fn first cap) w := fun _ _ _ _ => rfl
  go_wp2_with fail
  (with_reducible refine (contains_func p (w.heap.size + 1) w.heap.size ao n cap xs _ (HX.out.later (bA (bA bR _) _)) (lH fun b W hb => ask_fun g HG.out (p b) f b _ _ W (FT.out.later (bC (bA (bA bR _) _) hb)) (cL hb (by go_simp)) (cL hb (by go_simp)) (lH fun w ft => H.out b w ft))).mono ?_); rintro e w1 ⟨rfl, hb⟩
  have HB := lH (bC (bA (bA bR _) _) hb)
  clear hb
  go_wp2_with fail
  go_ret
  exact ⟨rfl, HB.out⟩
theorem any_nil (f : Int) (ao : Option Addr) (n cap : Nat) (w : World) :
    Calls Tryz.prog 21 #[.int .u8 f, Value.nilFunc, .slice ao n cap] w fun e w' => e = .returned (.bool false) ∧ Below w.heap.size w w' := by
  have hnf : ∀ w : World, (binOp .eql 36 Value.nilFunc Value.nilFunc).run Tryz.prog w = .ok (.bool true) w := fun _ => by kernel_rfl
  go_enter Tryz.func21, Tryz.ntmps21
  go_wp2_with fail
  go_ret
  exact ⟨rfl, bA (bA bR _) _⟩
end Go.Proofs.YtjdjonekoodalaaGreatDoor
namespace Go.Proofs.YtjdjonekoodalaaGreatDoor
open Go.RowKit
attribute [local go_sem ↓] Go.wp_at_zero Go.wp_at_succ
theorem ones_cls {f : Int} (h0 : 0 ≤ f) (h : f < 4) (w : World) (ft : FTab w) : Calls Tryz.prog 104 #[.int .u8 f] w fun e w' => e = .returned (.int .i64 (2 * fE f + 1)) ∧ Below w.heap.size w w' := by
  have W := formOK.width; have P := formOK.prec
  rcases f_cases h0 h with rfl | rfl | rfl | rfl
  · exact cls_ones_0 (lH (W 0 (by decide) (by decide))) (lH (P 0 (by decide) (by decide))) w ft
  · exact cls_ones_1 (lH (W 1 (by decide) (by decide))) (lH (P 1 (by decide) (by decide))) w ft
  · exact cls_ones_2 (lH (W 2 (by decide) (by decide))) (lH (P 2 (by decide) (by decide))) w ft
  · exact cls_ones_3 (lH (W 3 (by decide) (by decide))) (lH (P 3 (by decide) (by decide))) w ft
theorem quiet_bit {f b : Int} (h0 : 0 ≤ f) (h : f < 4) : bitI (fracF f b) ((fP f - 2 : Nat) : Int) = decide ((2 : Int) ^ (fP f - 2) ≤ fracF f b) := by
  obtain ⟨p0, p1, p2, _⟩ := f_nums h0 h
  obtain ⟨r0, r1⟩ := frac_range (b := b) h0 h
  have n2 : (2 : Int) ^ (fP f - 1) = 2 * 2 ^ (fP f - 2) := by rw [← Int.pow_succ', show fP f - 2 + 1 = fP f - 1 by omega]
  have hp := two_pow_pos (fP f - 2)
  unfold bitI
  rw [Int.toNat_natCast, show decide (0 ≤ ((fP f - 2 : Nat) : Int)) = true by simp, show decide (((fP f - 2 : Nat) : Int) < 128) = true by simp; omega, Bool.true_and, Bool.true_and]
  rw [n2] at r1
  generalize (2 : Int) ^ (fP f - 2) = q at *
  generalize fracF f b = r at *
  by_cases c : q ≤ r
  · have : r / q = 1 := by
      have d := Int.emod_add_mul_ediv r q
      have m0 := Int.emod_nonneg r (show q ≠ 0 by omega); have m1 := Int.emod_lt_of_pos r hp
      rw [show r = (r - q) + 1 * q by omega, Int.add_mul_ediv_right _ _ (by omega), Int.ediv_eq_zero_of_lt (by omega) (by omega)]; rfl
    rw [this]; simp [c]
  · rw [Int.ediv_eq_zero_of_lt r0 (by omega)]; simp [c]
theorem fields_cls {f b : Int} (h0 : 0 ≤ f) (h : f < 4) (hb : 0 ≤ b) (w : World) (ft : FTab w) : Calls Tryz.prog 46 #[.int .u8 f, .int .i64 (expF f b), .agg #[.int .u64 (hiOf (fracF f b)), .int .u64 (loOf (fracF f b))]] w fun e w' => e = .returned (.int .u8 (clsF f b)) ∧ Below w.heap.size w w' := by
  obtain ⟨p0, p1, p2, p3, p4, p5, p6, p7, p8⟩ := f_nums h0 h
  obtain ⟨r0, r1⟩ := frac_range (b := b) h0 h
  have fl := fW_full f
  have rm : fracF f b % full = fracF f b := by
    have e1 : (2 : Int) ^ (fP f - 1) ≤ 2 ^ fW f := two_pow_le (by omega)
    exact Int.emod_eq_of_lt r0 (by omega)
  have hz := zeroB (fracF f b)
  rw [rm] at hz
  have on := ones_cls h0 h
  have bt := bit_any (hiOf (fracF f b)) (loOf (fracF f b)) ((fP f - 2 : Nat) : Int) (hiOf_u _) (loOf_u _)
  rw [val_hiLo_mod, rm, quiet_bit h0 h] at bt
  have pr := formOK.prec f h0 (by omega)
  have wr : IntKind.i64.wrap ((fP f : Int) - 2) = ((fP f - 2 : Nat) : Int) := by rw [IntWalk.i64_in _ (by omega)]; omega
  unfold clsF; rw [if_pos h]
  by_cases ez : fracF f b = 0
  · rw [show (fracF f b == 0) = true by simp [ez]] at hz
    by_cases c0 : expF f b = 0
    · rw [if_pos c0, if_pos ez]; exact cls_f0 f (expF f b) _ _ (lH hz) (by simp [c0]) w
    · rw [if_neg c0]
      by_cases c1 : expF f b = 2 * fE f + 1
      · rw [if_pos c1, if_pos ez]; exact cls_f3 f _ _ _ _ (lH on) (lH hz) (by simp [c0]) (by simp [c1]) w ft
      · rw [if_neg c1]; exact cls_f2 f _ _ _ _ (lH on) (by simp [c0]) (by simp [c1]) w ft
  · rw [show (fracF f b == 0) = false by simp [ez]] at hz
    by_cases c0 : expF f b = 0
    · rw [if_pos c0, if_neg ez]; exact cls_f1 f (expF f b) _ _ (lH hz) (by simp [c0]) w
    · rw [if_neg c0]
      by_cases c1 : expF f b = 2 * fE f + 1
      · rw [if_pos c1, if_neg ez]
        by_cases cq : (2 : Int) ^ (fP f - 2) ≤ fracF f b
        · rw [if_pos cq]; rw [show decide ((2 : Int) ^ (fP f - 2) ≤ fracF f b) = true by simp [cq]] at bt
          exact cls_f4 f _ _ _ _ _ _ (lH on) (lH hz) (lH pr) (lH bt) (by simp [c0]) (by simp [c1]) wr w ft
        · rw [if_neg cq]; rw [show decide ((2 : Int) ^ (fP f - 2) ≤ fracF f b) = false by simp [cq]] at bt
          exact cls_f5 f _ _ _ _ _ _ (lH on) (lH hz) (lH pr) (lH bt) (by simp [c0]) (by simp [c1]) wr w ft
      · rw [if_neg c1]; exact cls_f2 f _ _ _ _ (lH on) (by simp [c0]) (by simp [c1]) w ft
theorem of_cls (f b : Int) (f0 : 0 ≤ f) (f1 : f ≤ 255) (w : World) (ft : FTab w) : Calls Tryz.prog 14 #[.int .u8 f, .agg #[.int .u64 (hiOf b), .int .u64 (loOf b)]] w fun e w' => e = .returned (.tuple #[.int .u8 (clsF f (b % full)), .bool (negF f (b % full))]) ∧ Below w.heap.size w w' := by
  have K := formOK.known f f0 f1
  by_cases h : f < 4
  · rw [show decide (f < 4) = true by simp [h]] at K
    exact cls_of_yes f _ _ _ _ _ _ _ (lH K) (lH (formOK.split f b f0 f1)) (lH (fields_cls f0 h (mod_f b).1)) w ft
  · rw [show decide (f < 4) = false by simp [h]] at K
    rw [show clsF f (b % full) = 0 by unfold clsF; rw [if_neg h], show negF f (b % full) = false by unfold negF; simp [h]]
    exact cls_of_no f _ _ (lH K) w ft
theorem among_cls (f b : Int) (a : Addr) (n cap : Nat) (xs : List Int) (hn : n = xs.length) (hm : n ≤ 9223372036854775807) (f0 : 0 ≤ f) (f1 : f ≤ 255) (w : World) (ft : FTab w) (x : Us w a xs) :
    Calls Tryz.prog 47 #[.int .u8 f, .agg #[.int .u64 (hiOf b), .int .u64 (loOf b)], .slice (some a) n cap] w fun e w' => e = .returned (.bool (decide (f < 4) && xs.any fun y => clsF f (b % full) == y)) ∧ Below w.heap.size w w' := by
  have K := lH (formOK.known f f0 f1)
  have O := lH (of_cls f b f0 f1)
  have FT := lH ft
  have HX := lH x
  have HC := lH (fun w x => contains_u8 a n cap xs (clsF f (b % full)) hn hm w x)
  clear x ft hn hm f0 f1
  obtain ⟨q, hq⟩ : ∃ q, clsF f (b % full) = q := ⟨_, rfl⟩
  obtain ⟨ng, hng⟩ : ∃ q, negF f (b % full) = q := ⟨_, rfl⟩
  rw [hq] at HC ⊢
  rw [hq, hng] at O
  clear hq hng
  cases hd : decide (f < 4)
  · rw [hd] at K
    clear hd
    go_enter Tryz.func47, Tryz.ntmps47
    go_wp2_with fail
    (with_reducible refine (K.out _ (FT.out.later (bA bR _))).mono ?_); rintro e w1 ⟨rfl, hb⟩
    have KK := lH (bC (bA bR _) hb)
    clear hb
    go_wp2_with fail
    go_ret
    exact ⟨rfl, KK.out⟩
  · rw [hd] at K
    clear hd
    rw [Bool.true_and]
    go_enter Tryz.func47, Tryz.ntmps47
    go_wp2_with fail
    (with_reducible refine (K.out _ (FT.out.later (bA bR _))).mono ?_); rintro e w1 ⟨rfl, hb⟩
    have c0 := cL hb (a := ⟨w.heap.size, 0, none⟩) (v := .int .u64 (hiOf b)) (by go_simp)
    have c1 := cL hb (a := ⟨w.heap.size, 1, none⟩) (v := .int .u64 (loOf b)) (by go_simp)
    have KK := lH (bC (bA bR _) hb)
    clear hb
    go_wp2_with fail
    (with_reducible refine (O.out _ (FT.out.later KK.out)).mono ?_); rintro e w2 ⟨rfl, hb⟩
    clear c0 c1
    have K2 := lH (bC KK.out hb)
    clear hb
    go_wp2_with fail
    (with_reducible refine (HC.out _ (HX.out.later K2.out)).mono ?_); rintro e w3 ⟨rfl, hb⟩
    have K3 := lH (bC K2.out hb)
    clear hb
    go_wp2_with fail
    go_ret
    exact ⟨rfl, K3.out⟩
theorem nan_in (f b : Int) (h0 : 0 ≤ f) : (decide (f < 4) && [4, 5].any fun y => clsF f b == y) = nanF f b := by
  obtain ⟨c0, c1⟩ := cls_range f b
  unfold nanF
  by_cases h : f < 4
  · generalize clsF f b = c at *
    rw [Bool.eq_iff_iff]
    simp [h]
    omega
  · simp [h, clsF]
theorem nan_cls (f b : Int) (f0 : 0 ≤ f) (f1 : f ≤ 255) (w : World) (ft : FTab w) : Calls Tryz.prog 22 #[.int .u8 f, .agg #[.int .u64 (hiOf b), .int .u64 (loOf b)]] w fun e w' => e = .returned (.bool (nanF f (b % full))) ∧ Below w.heap.size w w' := by
  have H := lH (fun a w ft x => among_cls f b a 2 2 [4, 5] rfl (by decide) f0 f1 w ft x)
  have FT := lH ft
  rw [nan_in f (b % full) f0] at H
  clear ft f0 f1
  go_enter Tryz.func22, Tryz.ntmps22
  go_wp2_with fail
  (with_reducible refine (H.out ⟨w.heap.size + 1, 0, none⟩ _ (FT.out.later (bA (bA bR _) _)) ?_).mono ?_)
  · intro k hk
    match k, hk with
    | 0, _ => show World.cell? _ ⟨w.heap.size + 1, 0, none⟩ = some (.int .u8 4); go_simp
    | 1, _ => show World.cell? _ ⟨w.heap.size + 1, 1, none⟩ = some (.int .u8 5); go_simp
  rintro e w1 ⟨rfl, hb⟩
  have KK := lH (bC (bA (bA bR _) _) hb)
  clear hb
  go_wp2_with fail
  go_ret
  exact ⟨rfl, KK.out⟩
theorem sig_in (f b : Int) (h0 : 0 ≤ f) : (decide (f < 4) && [5].any fun y => clsF f b == y) = sigF f b := by
  obtain ⟨c0, c1⟩ := cls_range f b
  unfold sigF
  by_cases h : f < 4
  · generalize clsF f b = c at *
    rw [Bool.eq_iff_iff]
    simp [h]
    done
  · simp [h, clsF]
theorem sig_cls (f b : Int) (f0 : 0 ≤ f) (f1 : f ≤ 255) (w : World) (ft : FTab w) : Calls Tryz.prog 80 #[.int .u8 f, .agg #[.int .u64 (hiOf b), .int .u64 (loOf b)]] w fun e w' => e = .returned (.bool (sigF f (b % full))) ∧ Below w.heap.size w w' := by
  have H := lH (fun a w ft x => among_cls f b a 1 1 [5] rfl (by decide) f0 f1 w ft x)
  have FT := lH ft
  rw [sig_in f (b % full) f0] at H
  clear ft f0 f1
  go_enter Tryz.func80, Tryz.ntmps80
  go_wp2_with fail
  (with_reducible refine (H.out ⟨w.heap.size + 1, 0, none⟩ _ (FT.out.later (bA (bA bR _) _)) ?_).mono ?_)
  · intro k hk
    match k, hk with
    | 0, _ => show World.cell? _ ⟨w.heap.size + 1, 0, none⟩ = some (.int .u8 5); go_simp
  rintro e w1 ⟨rfl, hb⟩
  have KK := lH (bC (bA (bA bR _) _) hb)
  clear hb
  go_wp2_with fail
  go_ret
  exact ⟨rfl, KK.out⟩
theorem fin_in (f b : Int) (h0 : 0 ≤ f) : (decide (f < 4) && [0, 1, 2].any fun y => clsF f b == y) = finF f b := by
  obtain ⟨c0, c1⟩ := cls_range f b
  unfold finF
  by_cases h : f < 4
  · generalize clsF f b = c at *
    rw [Bool.eq_iff_iff]
    simp [h]
    omega
  · simp [h]
theorem fin_cls (f b : Int) (f0 : 0 ≤ f) (f1 : f ≤ 255) (w : World) (ft : FTab w) : Calls Tryz.prog 16 #[.int .u8 f, .agg #[.int .u64 (hiOf b), .int .u64 (loOf b)]] w fun e w' => e = .returned (.bool (finF f (b % full))) ∧ Below w.heap.size w w' := by
  have H := lH (fun a w ft x => among_cls f b a 3 3 [0, 1, 2] rfl (by decide) f0 f1 w ft x)
  have FT := lH ft
  rw [fin_in f (b % full) f0] at H
  clear ft f0 f1
  go_enter Tryz.func16, Tryz.ntmps16
  go_wp2_with fail
  (with_reducible refine (H.out ⟨w.heap.size + 1, 0, none⟩ _ (FT.out.later (bA (bA bR _) _)) ?_).mono ?_)
  · intro k hk
    match k, hk with
    | 0, _ => show World.cell? _ ⟨w.heap.size + 1, 0, none⟩ = some (.int .u8 0); go_simp
    | 1, _ => show World.cell? _ ⟨w.heap.size + 1, 1, none⟩ = some (.int .u8 1); go_simp
    | 2, _ => show World.cell? _ ⟨w.heap.size + 1, 2, none⟩ = some (.int .u8 2); go_simp
  rintro e w1 ⟨rfl, hb⟩
  have KK := lH (bC (bA (bA bR _) _) hb)
  clear hb
  go_wp2_with fail
  go_ret
  exact ⟨rfl, KK.out⟩
theorem classOK : ClassOK where
  of f b f0 f1 w ft := of_cls f b f0 f1 w ft
  nan f b f0 f1 w ft := nan_cls f b f0 f1 w ft
  sig f b f0 f1 w ft := sig_cls f b f0 f1 w ft
  fin f b f0 f1 w ft := fin_cls f b f0 f1 w ft
theorem anyOK : AnyOK where
  nan f ao n cap xs f0 f1 w ft x := any_fun 22 (enter_of Tryz.func22 (by kernel_rfl) (by kernel_rfl)) (fun b => nanF f (b % full)) f ao n cap xs w ft x (lH fun b w ft => nan_cls f b f0 f1 w ft)
  sig f ao n cap xs f0 f1 w ft x := any_fun 80 (enter_of Tryz.func80 (by kernel_rfl) (by kernel_rfl)) (fun b => sigF f (b % full)) f ao n cap xs w ft x (lH fun b w ft => sig_cls f b f0 f1 w ft)
  fin f ao n cap xs f0 f1 w ft x := any_fun 16 (enter_of Tryz.func16 (by kernel_rfl) (by kernel_rfl)) (fun b => finF f (b % full)) f ao n cap xs w ft x (lH fun b w ft => fin_cls f b f0 f1 w ft)
  none f ao n cap f0 f1 w := any_nil f ao n cap w
end Go.Proofs.YtjdjonekoodalaaGreatDoor
