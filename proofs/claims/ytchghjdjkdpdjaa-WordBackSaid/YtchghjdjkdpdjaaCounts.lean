/-
  The contract of the statements' own helper counts: it returns true.
-/
import Derived.Test.YtchghjdjkdpdjaaWordB
set_option linter.unusedVariables false
namespace Go.Proofs.Ytchghjdjkdpdjaa
open Go.RowKit

theorem bcell {W w1 : World} (hb : Below W.heap.size W w1) : (∀ b o, b < W.heap.size → w1.cell? ⟨b, o, none⟩ = W.cell? ⟨b, o, none⟩) ∧ (∀ b o, b < W.heap.size → w1.frozen? ⟨b, o, none⟩ = W.frozen? ⟨b, o, none⟩) :=
  ⟨fun b o h => hb.cell (p := ⟨b, o, none⟩) h, fun b o h => hb.frozen (p := ⟨b, o, none⟩) h⟩

/-- What a call leaves of the world in which the caller began: a step that makes a block; a call that turns nothing. -/
theorem bA {a w : World} (h : Below a.heap.size a w) (o : Obj) : Below a.heap.size a (w.alloc o) := h.alloc h.size o
theorem bC {a w w' : World} (h : Below a.heap.size a w) (k : Below w.heap.size w w') : Below a.heap.size a w' := h.trans (k.mono h.size)

/-- Two digits in a box of the caller's own. -/
def Box (w : World) (b : Nat) (h l : Int) : Prop := b < w.heap.size ∧ w.cell? ⟨b, 0, none⟩ = some (.int .u64 h) ∧ w.cell? ⟨b, 1, none⟩ = some (.int .u64 l)
theorem Box.later {W w1 : World} {b : Nat} {h l : Int} (x : Box W b h l) (hb : Below W.heap.size W w1) : Box w1 b h l :=
  ⟨Nat.lt_of_lt_of_le x.1 hb.size, (hb.cell (p := ⟨b, 0, none⟩) x.1).trans x.2.1, (hb.cell (p := ⟨b, 1, none⟩) x.1).trans x.2.2⟩
theorem Box.alloc {w : World} {b : Nat} {h l : Int} (x : Box w b h l) (o : Obj) : Box (w.alloc o) b h l :=
  x.later (bA (Below.refl _ _) o)
theorem Box.drew {w : World} {b : Nat} {h l : Int} (x : Box w b h l) : Box w.drew b h l := x.later (Below.refl _ _).drew
theorem Box.new (w : World) (h l : Int) (t : TypeId) : Box (w.alloc (.cells #[.int .u64 h, .int .u64 l] t)) w.heap.size h l := by
  refine ⟨by simp, ?_, ?_⟩ <;> go_simp

theorem Box.newAt {w : World} {b : Nat} (hb : b = w.heap.size) (h l : Int) (t : TypeId) : Box (w.alloc (.cells #[.int .u64 h, .int .u64 l] t)) b h l := by
  subst hb; exact Box.new w h l t
abbrev bx (h l : Int) (t : TypeId) : Obj := .cells #[.int .u64 h, .int .u64 l] t
theorem boxes2 (w : World) (ah al bh bl : Int) (t : TypeId) :
    Box ((w.alloc (bx ah al t)).alloc (bx bh bl t)) w.heap.size ah al ∧ Box ((w.alloc (bx ah al t)).alloc (bx bh bl t)) (w.heap.size + 1) bh bl ∧
    Below w.heap.size w ((w.alloc (bx ah al t)).alloc (bx bh bl t)) :=
  ⟨(Box.new w ah al t).alloc _, Box.newAt (by simp) bh bl t, bA (bA (Below.refl _ _) _) _⟩
theorem boxes3 (w : World) (ah al bh bl ch cl : Int) (t : TypeId) :
    Box (((w.alloc (bx ah al t)).alloc (bx bh bl t)).alloc (bx ch cl t)) w.heap.size ah al ∧ Box (((w.alloc (bx ah al t)).alloc (bx bh bl t)).alloc (bx ch cl t)) (w.heap.size + 1) bh bl ∧
    Box (((w.alloc (bx ah al t)).alloc (bx bh bl t)).alloc (bx ch cl t)) (w.heap.size + 1 + 1) ch cl ∧ Below w.heap.size w (((w.alloc (bx ah al t)).alloc (bx bh bl t)).alloc (bx ch cl t)) :=
  ⟨((Box.new w ah al t).alloc _).alloc _, (Box.newAt (by simp) bh bl t).alloc _, Box.newAt (by simp) ch cl t, bA (bA (bA (Below.refl _ _) _) _) _⟩

theorem u64_of_wf {x : Int} (h : (Lit.int .u64 x).wf = true) : U64 x := by
  simp only [Lit.wf, Bool.and_eq_true, decide_eq_true_eq] at h
  have h1 : (0 : Int) ≤ x := h.1
  have h2 : x ≤ 18446744073709551615 := h.2
  unfold U64; omega
theorem i64_of_wf {x : Int} (h : (Lit.int .i64 x).wf = true) : -9223372036854775808 ≤ x ∧ x ≤ 9223372036854775807 := by
  simp only [Lit.wf, Bool.and_eq_true, decide_eq_true_eq] at h
  exact h
theorem u0 : U64 0 := ⟨by decide, by decide⟩
theorem u1 : U64 1 := ⟨by decide, by decide⟩
theorem u2 : U64 2 := ⟨by decide, by decide⟩
theorem uMax : U64 18446744073709551615 := ⟨by decide, by decide⟩

theorem counts_add (w : World) :
    Calls Try.prog 10 #[.agg #[.int .u64 0, .int .u64 18446744073709551615], .agg #[.int .u64 0, .int .u64 1]] w fun e w' =>
      e = .returned (.tuple #[.agg #[.int .u64 1, .int .u64 0], .bool false]) ∧ Below w.heap.size w w' :=
  (add_any 0 18446744073709551615 0 1 u0 uMax u0 u1 w).mono fun e w' ⟨he, hb⟩ => ⟨he.trans (by
    rw [show hiOf (val 0 18446744073709551615 + val 0 1) = 1 from by decide +kernel, show loOf (val 0 18446744073709551615 + val 0 1) = 0 from by decide +kernel, show decide (full ≤ val 0 18446744073709551615 + val 0 1) = false from by decide +kernel]), hb⟩
theorem counts_sub (w : World) :
    Calls Try.prog 11 #[.agg #[.int .u64 0, .int .u64 0], .agg #[.int .u64 0, .int .u64 1]] w fun e w' =>
      e = .returned (.tuple #[.agg #[.int .u64 18446744073709551615, .int .u64 18446744073709551615], .bool true]) ∧ Below w.heap.size w w' :=
  (sub_any 0 0 0 1 u0 u0 u0 u1 w).mono fun e w' ⟨he, hb⟩ => ⟨he.trans (by
    rw [show hiOf (val 0 0 - val 0 1) = 18446744073709551615 from by decide +kernel, show loOf (val 0 0 - val 0 1) = 18446744073709551615 from by decide +kernel, show decide (val 0 0 < val 0 1) = true from by decide +kernel]), hb⟩
theorem counts_mul (w : World) :
    Calls Try.prog 19 #[.int .u64 4294967296, .int .u64 4294967296] w fun e w' =>
      e = .returned (.agg #[.int .u64 1, .int .u64 0]) ∧ Below w.heap.size w w' :=
  (mul_any 4294967296 4294967296 (u64_small (by decide) (by decide)) (u64_small (by decide) (by decide)) w).mono fun e w' ⟨he, hb⟩ => ⟨he.trans (by
    rw [show hiOf (4294967296 * 4294967296) = 1 from by decide +kernel, show loOf (4294967296 * 4294967296) = 0 from by decide +kernel]), hb⟩
theorem counts_cmp (w : World) :
    Calls Try.prog 22 #[.agg #[.int .u64 0, .int .u64 1], .agg #[.int .u64 0, .int .u64 2]] w fun e w' =>
      e = .returned (.int .i64 (-1)) ∧ Below w.heap.size w w' :=
  (cmp_any 0 1 0 2 u0 u1 u0 u2 w).mono fun e w' ⟨he, hb⟩ => ⟨he.trans (by
    rw [show cmpI (val 0 1) (val 0 2) = -1 from by decide +kernel]), hb⟩
theorem counts_bit (w : World) :
    Calls Try.prog 23 #[.agg #[.int .u64 1, .int .u64 0], .int .i64 64] w fun e w' =>
      e = .returned (.bool true) ∧ Below w.heap.size w w' :=
  (bit_any 1 0 64 u1 u0 w).mono fun e w' ⟨he, hb⟩ => ⟨he.trans (by
    rw [show bitI (val 1 0) 64 = true from by decide +kernel]), hb⟩

set_option maxHeartbeats 1000000 in
theorem counts_any (w : World) :
    Calls Try.prog 18 #[] w fun e w' => e = .returned (.bool true) ∧ Below w.heap.size w w' := by
  go_enter Try.func18, Try.ntmps18
  go_wp2_with fail
  (with_reducible refine (counts_add _).mono ?_); rintro e w1 ⟨rfl, hb1⟩
  go_wp2_with fail
  (with_reducible refine (counts_sub _).mono ?_); rintro e w2 ⟨rfl, hb2⟩
  have hz2 : w1.heap.size < w2.heap.size := by have := hb2.size; simp at this; omega
  obtain ⟨hc2, hf2⟩ := bcell hb2
  go_wp2_with fail
  (with_reducible refine (counts_mul _).mono ?_); rintro e w3 ⟨rfl, hb3⟩
  go_wp2_with fail
  (with_reducible refine (counts_cmp _).mono ?_); rintro e w4 ⟨rfl, hb4⟩
  go_wp2_with fail
  (with_reducible refine (counts_bit _).mono ?_); rintro e w5 ⟨rfl, hb5⟩
  go_wp2_with fail
  go_ret
  exact ⟨rfl, bC (bC (bC (bA (bC (bA (bC (Below.refl _ _) hb1) _) hb2) _) hb3) hb4) hb5⟩

end Go.Proofs.Ytchghjdjkdpdjaa
