/-
  The walk of the statement WordOrder: Cmp is an order.
-/
import Derived.Test.YtchghjdjkdpdjaaCounts
import Derived.Deep.DeepCutAuto
import Derived.Deep.DrawnRows
set_option linter.unusedVariables false
namespace Go.Proofs.Ytchghjdjkdpdjaa
open Go.RowKit
attribute [local go_sem ↓] Go.wp_at_zero Go.wp_at_succ

theorem eql_bits (a b c d : Int) (w : World) : (binOp .eql 24 (.agg #[.int .u64 a, .int .u64 b]) (.agg #[.int .u64 c, .int .u64 d])).run Try.prog w = .ok (.bool (decide (a = c ∧ b = d))) w := by
  by_cases h1 : a = c
  · subst h1
    by_cases h2 : b = d
    · subst h2
      go_simp
    · go_simp
  · go_simp

theorem cmp_as (c : Int) (ah al bh bl : Int) (u1 : U64 ah) (u2 : U64 al) (u3 : U64 bh) (u4 : U64 bl) (h : cmpI (val ah al) (val bh bl) = c) (w : World) :
    Calls Try.prog 22 #[.agg #[.int .u64 ah, .int .u64 al], .agg #[.int .u64 bh, .int .u64 bl]] w fun e w' => e = .returned (.int .i64 c) ∧ Below w.heap.size w w' := by
  subst h; exact cmp_any ah al bh bl u1 u2 u3 u4 w
theorem sub_as (q : Bool) (ah al bh bl : Int) (u1 : U64 ah) (u2 : U64 al) (u3 : U64 bh) (u4 : U64 bl) (h : decide (val ah al < val bh bl) = q) (w : World) :
    Calls Try.prog 11 #[.agg #[.int .u64 ah, .int .u64 al], .agg #[.int .u64 bh, .int .u64 bl]] w fun e w' =>
      e = .returned (.tuple #[.agg #[.int .u64 (hiOf (val ah al - val bh bl)), .int .u64 (loOf (val ah al - val bh bl))], .bool q]) ∧ Below w.heap.size w w' := by
  subst h; exact sub_any ah al bh bl u1 u2 u3 u4 w

/-- What the three orders and the rest come to, of each of the ways. -/
def Fits (x y z t : Int) (q r : Bool) : Prop :=
  (x = -1 ∧ y = 1 ∧ q = true ∧ r = false ∧ ((z = -1 ∧ t = -1) ∨ (z = 0 ∧ t = -1) ∨ z = 1)) ∨
  (x = 0 ∧ y = 0 ∧ q = false ∧ r = true ∧ ((z = -1 ∧ t = -1) ∨ (z = 0 ∧ t = 0) ∨ z = 1)) ∨
  (x = 1 ∧ y = -1 ∧ q = false ∧ r = false ∧ (z = -1 ∨ z = 0 ∨ z = 1))
theorem fits (a b c : Int) (r : Bool) (hr : r = decide (a = b)) : Fits (cmpI a b) (cmpI b a) (cmpI b c) (cmpI a c) (decide (a < b)) r := by
  subst hr
  unfold Fits cmpI
  by_cases h1 : a < b
  · by_cases h2 : b < c
    · simp [h1, h2, show ¬ b < a from by omega, show ¬ a = b from by omega, show a < c from by omega]
    · by_cases h3 : c < b
      · simp [h1, h2, h3, show ¬ b < a from by omega, show ¬ a = b from by omega]
      · simp [h1, h2, h3, show ¬ b < a from by omega, show ¬ a = b from by omega, show a < c from by omega]
  · by_cases h4 : b < a
    · by_cases h2 : b < c
      · simp [h1, h2, h4, show ¬ a = b from by omega]
      · by_cases h3 : c < b
        · simp [h1, h2, h3, h4, show ¬ a = b from by omega]
        · simp [h1, h2, h3, h4, show ¬ a = b from by omega]
    · obtain rfl : a = b := by omega
      by_cases h2 : a < c
      · simp [h2]
      · by_cases h3 : c < a
        · simp [h2, h3]
        · simp [h2, h3]

set_option maxHeartbeats 4000000 in
set_option maxRecDepth 100000 in
theorem order_case (x y z t : Int) (q r : Bool) (hf : Fits x y z t q r) (ah al bh bl ch cl : Int) (u1 : U64 ah) (u2 : U64 al) (u3 : U64 bh) (u4 : U64 bl) (u5 : U64 ch) (u6 : U64 cl)
    (hx : cmpI (val ah al) (val bh bl) = x) (hy : cmpI (val bh bl) (val ah al) = y) (hz : cmpI (val bh bl) (val ch cl) = z) (ht : cmpI (val ah al) (val ch cl) = t) (hq : decide (val ah al < val bh bl) = q) (hr : decide (ah = bh ∧ al = bl) = r) (w : World) :
    Calls Try.prog 6 #[.agg #[.int .u64 ah, .int .u64 al], .agg #[.int .u64 bh, .int .u64 bl], .agg #[.int .u64 ch, .int .u64 cl]] w fun e w' => e = .returned (.bool true) ∧ Below w.heap.size w w' := by
  have hE : ∀ w, (binOp .eql 24 (.agg #[.int .u64 ah, .int .u64 al]) (.agg #[.int .u64 bh, .int .u64 bl])).run Try.prog w = .ok (.bool r) w := fun w => by rw [eql_bits, hr]
  have cx := cmp_as x ah al bh bl u1 u2 u3 u4 hx
  have cy := cmp_as y bh bl ah al u3 u4 u1 u2 hy
  have cz := cmp_as z bh bl ch cl u3 u4 u5 u6 hz
  have ct := cmp_as t ah al ch cl u1 u2 u5 u6 ht
  have cs := sub_as q ah al bh bl u1 u2 u3 u4 hq
  have Cx := Lib.hid cx; have Cy := Lib.hid cy; have Cz := Lib.hid cz; have Ct := Lib.hid ct; have Cs := Lib.hid cs
  generalize hiOf (val ah al - val bh bl) = dh at *
  generalize loOf (val ah al - val bh bl) = dl at *
  have Hf := Lib.hid hf
  clear cx cy cz ct cs u1 u2 u3 u4 u5 u6 hx hy hz ht hq hr hf
  go_enter Try.func6, Try.ntmps6
  go_upto_region 1 with fail
  go_cut [7, 8, 9] (fun s7 s8 s9 wx => s7 = .int .i64 x ∧ s8 = .int .i64 y ∧ s9 = .int .i64 z ∧ Box wx w.heap.size ah al ∧ Box wx (w.heap.size + 1) bh bl ∧ Box wx (w.heap.size + 1 + 1) ch cl ∧ Below w.heap.size w wx)
  case first =>
    obtain ⟨p0A, p0B, p0C, kk0⟩ := boxes3 w ah al bh bl ch cl 24
    obtain ⟨sA, cA0, cA1⟩ := id p0A
    obtain ⟨sB, cB0, cB1⟩ := id p0B
    obtain ⟨sC, cC0, cC1⟩ := id p0C
    generalize ((w.alloc (bx ah al 24)).alloc (bx bh bl 24)).alloc (bx ch cl 24) = W at *
    go_region_held3 (fun w' => w'.cell? ⟨w.heap.size, 0, none⟩ = some (.int .u64 ah) ∧ w'.cell? ⟨w.heap.size, 1, none⟩ = some (.int .u64 al) ∧ w'.cell? ⟨w.heap.size + 1, 0, none⟩ = some (.int .u64 bh) ∧ w'.cell? ⟨w.heap.size + 1, 1, none⟩ = some (.int .u64 bl) ∧ w'.cell? ⟨w.heap.size + 1 + 1, 0, none⟩ = some (.int .u64 ch) ∧ w'.cell? ⟨w.heap.size + 1 + 1, 1, none⟩ = some (.int .u64 cl) ∧ Below w.heap.size w w') (first | exact ⟨cA0, cA1, cB0, cB1, cC0, cC1, kk0.drew⟩ | (refine held6B hb ?_; assumption))
      (first | (go_at_call 22; (with_reducible refine (Cx.out _).mono ?_); rintro e w' ⟨rfl, hb⟩) | (go_at_call 22; (with_reducible refine (Cy.out _).mono ?_); rintro e w' ⟨rfl, hb⟩) | (go_at_call 22; (with_reducible refine (Cz.out _).mono ?_); rintro e w' ⟨rfl, hb⟩))
    all_goals
      rename_i hh
      obtain ⟨g0, g1, g2, g3, g4, g5, g6⟩ := hh
      go_wp2_with fail
      go_meet
      exact ⟨rfl, rfl, rfl, Box.of g0 g1, Box.of g2 g3, Box.of g4 g5, g6⟩
  case rest =>
    obtain ⟨rfl, rfl, rfl, pA, pB, pC, kk⟩ := hcut
    obtain ⟨sA, cA0, cA1⟩ := id pA
    obtain ⟨sB, cB0, cB1⟩ := id pB
    obtain ⟨sC, cC0, cC1⟩ := id pC
    go_wp2_with fail
    (with_reducible refine (Cs.out _).mono ?_); rintro e w1 ⟨rfl, hb1⟩
    have p1A := pA.later hb1; have p1B := pB.later hb1; have p1C := pC.later hb1; have kk1 := bC kk hb1
    clear hb1 sA cA0 cA1 sB cB0 cB1 sC cC0 cC1 pA pB pC kk
    obtain ⟨sA, cA0, cA1⟩ := id p1A
    obtain ⟨sB, cB0, cB1⟩ := id p1B
    obtain ⟨sC, cC0, cC1⟩ := id p1C
    rcases Hf.out with ⟨rfl, rfl, rfl, rfl, ⟨rfl, rfl⟩ | ⟨rfl, rfl⟩ | rfl⟩ | ⟨rfl, rfl, rfl, rfl, ⟨rfl, rfl⟩ | ⟨rfl, rfl⟩ | rfl⟩ | ⟨rfl, rfl, rfl, rfl, rfl | rfl | rfl⟩
    all_goals
      go_wp2_with fail
    all_goals first
      | ((with_reducible refine (Ct.out _).mono ?_); rintro e w2 ⟨rfl, hb2⟩; go_wp2_with fail; (with_reducible refine (counts_any _).mono ?_); rintro e w3 ⟨rfl, hb3⟩; go_wp2_with fail; go_ret; exact ⟨rfl, bC (bC (bA kk1 _) hb2) hb3⟩)
      | ((with_reducible refine (counts_any _).mono ?_); rintro e w3 ⟨rfl, hb3⟩; go_wp2_with fail; go_ret; exact ⟨rfl, bC (bA kk1 _) hb3⟩)

theorem order_walk (ah al bh bl ch cl : Int) (u1 : U64 ah) (u2 : U64 al) (u3 : U64 bh) (u4 : U64 bl) (u5 : U64 ch) (u6 : U64 cl) (w : World) :
    Calls Try.prog 6 #[.agg #[.int .u64 ah, .int .u64 al], .agg #[.int .u64 bh, .int .u64 bl], .agg #[.int .u64 ch, .int .u64 cl]] w fun e w' => e = .returned (.bool true) ∧ Below w.heap.size w w' := by
  have hr : decide (ah = bh ∧ al = bl) = decide (val ah al = val bh bl) := by
    unfold U64 at u1 u2 u3 u4
    rw [Bool.eq_iff_iff]; simp only [decide_eq_true_eq]; unfold val; omega
  exact order_case _ _ _ _ _ _ (fits (val ah al) (val bh bl) (val ch cl) _ hr) ah al bh bl ch cl u1 u2 u3 u4 u5 u6 rfl rfl rfl rfl rfl rfl w

end Go.Proofs.Ytchghjdjkdpdjaa
