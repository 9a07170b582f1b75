/-
  Contracts of the program's wide.Of, Zero, Cmp.
-/
import Derived.Test.YtkhcbioohoeegaaDoorWideA
import Derived.Deep.DeepCutAuto
import Derived.Deep.DrawnRows
import Derived.ChangeKeysEq
set_option linter.unusedVariables false
set_option maxRecDepth 100000
namespace Go.Proofs.YtkhcbioohoeegaaDoor
open Go.RowKit
attribute [local go_sem ↓] Go.wp_at_zero Go.wp_at_succ

set_option maxHeartbeats 1000000 in
theorem eql_wide (a0 a1 a2 a3 b0 b1 b2 b3 : Int) (w : World) : (binOp .eql 38 (.agg #[.int .u64 a0, .int .u64 a1, .int .u64 a2, .int .u64 a3]) (.agg #[.int .u64 b0, .int .u64 b1, .int .u64 b2, .int .u64 b3])).run Tryd.prog w = .ok (.bool (decide (a0 = b0 ∧ a1 = b1 ∧ a2 = b2 ∧ a3 = b3))) w := by
  have hi0 : (Tryd.prog.info? 22).isSome = true := by kernel_rfl
  obtain ⟨i, hi⟩ := Option.isSome_iff_exists.1 hi0
  have hc : Tryd.prog.cellsOf 22 = 1 := by kernel_rfl
  rw [run_eql_struct, run_equalIn_array _ 9999 _ _ Tryd.underlying38 hi, hc]
  rw [show List.range 4 = [0, 1, 2, 3] from rfl]
  by_cases h0 : a0 = b0
  · subst h0
    by_cases h1 : a1 = b1
    · subst h1
      by_cases h2 : a2 = b2
      · subst h2
        by_cases h3 : a3 = b3
        · subst h3
          simp [Op.eqItems, go_sem]
        · simp [Op.eqItems, go_sem, h3]
      · simp [Op.eqItems, go_sem, h2]
    · simp [Op.eqItems, go_sem, h1]
  · simp [Op.eqItems, go_sem, h0]
theorem eql_bits (a b c d : Int) (w : World) : (binOp .eql 24 (.agg #[.int .u64 a, .int .u64 b]) (.agg #[.int .u64 c, .int .u64 d])).run Tryd.prog w = .ok (.bool (decide (a = c ∧ b = d))) w := by
  by_cases h1 : a = c
  · subst h1
    by_cases h2 : b = d
    · subst h2
      go_simp
    · go_simp
  · go_simp

theorem held8B {a W w' : World} {a1 a2 a3 a4 a5 a6 a7 a8 : Addr} {v1 v2 v3 v4 v5 v6 v7 v8 : Value} (hb : Below W.heap.size W w') (h : W.cell? a1 = some v1 ∧ W.cell? a2 = some v2 ∧ W.cell? a3 = some v3 ∧ W.cell? a4 = some v4 ∧ W.cell? a5 = some v5 ∧ W.cell? a6 = some v6 ∧ W.cell? a7 = some v7 ∧ W.cell? a8 = some v8 ∧ Below a.heap.size a W) :
    w'.cell? a1 = some v1 ∧ w'.cell? a2 = some v2 ∧ w'.cell? a3 = some v3 ∧ w'.cell? a4 = some v4 ∧ w'.cell? a5 = some v5 ∧ w'.cell? a6 = some v6 ∧ w'.cell? a7 = some v7 ∧ w'.cell? a8 = some v8 ∧ Below a.heap.size a w' :=
  ⟨cell_later hb h.1, cell_later hb h.2.1, cell_later hb h.2.2.1, cell_later hb h.2.2.2.1, cell_later hb h.2.2.2.2.1, cell_later hb h.2.2.2.2.2.1, cell_later hb h.2.2.2.2.2.2.1, cell_later hb h.2.2.2.2.2.2.2.1, bC h.2.2.2.2.2.2.2.2 hb⟩
theorem wboxes2 (w : World) (a0 a1 a2 a3 b0 b1 b2 b3 : Int) (t : TypeId) :
    WBox ((w.alloc (wbx a0 a1 a2 a3 t)).alloc (wbx b0 b1 b2 b3 t)) w.heap.size a0 a1 a2 a3 ∧ WBox ((w.alloc (wbx a0 a1 a2 a3 t)).alloc (wbx b0 b1 b2 b3 t)) (w.heap.size + 1) b0 b1 b2 b3 ∧
    Below w.heap.size w ((w.alloc (wbx a0 a1 a2 a3 t)).alloc (wbx b0 b1 b2 b3 t)) :=
  ⟨(WBox.new w a0 a1 a2 a3 t).alloc _, WBox.newAt (by simp) b0 b1 b2 b3 t, bA (bA (Below.refl _ _) _) _⟩

set_option maxHeartbeats 1000000 in
theorem of_any (ah al : Int) (w : World) :
    Calls Tryd.prog 26 #[.agg #[.int .u64 ah, .int .u64 al]] w fun e w' => e = .returned (.agg #[.int .u64 al, .int .u64 ah, .int .u64 0, .int .u64 0]) ∧ Below w.heap.size w w' := by
  go_enter Tryd.func26, Tryd.ntmps26
  go_wp2_with fail
  have pR := WBox.newAt (w := w.alloc (bx ah al 24)) (p := w.heap.size + 1) (by simp) 0 0 0 0 38
  have fR : WFree ((w.alloc (bx ah al 24)).alloc (wbx 0 0 0 0 38)) (w.heap.size + 1) := by have h := WFree.new (w.alloc (bx ah al 24)) 0 0 0 0 38; simpa using h
  (with_reducible refine (join_any 0 0 ah al _).mono ?_); rintro e w1 ⟨rfl, hb1⟩
  have kk := bC (bA (bA (Below.refl w.heap.size w) (bx ah al 24)) (wbx 0 0 0 0 38)) hb1
  have f1 := fR.later pR.1 hb1
  have p1 := pR.later hb1
  have KEY := Lib.hid (wstore al ah 0 0 p1 f1 kk (by omega))
  obtain ⟨s0, r0, r1, r2, r3⟩ := p1
  obtain ⟨f0, f1, f2, f3⟩ := f1
  clear pR fR hb1 kk
  go_wp2_with fail
  obtain ⟨⟨_, e0, e1, e2, e3⟩, kb⟩ := KEY.out
  refine bodyPost_ret (v := .agg #[.int .u64 al, .int .u64 ah, .int .u64 0, .int .u64 0]) ?_ rfl ⟨rfl, kb⟩
  clear r0 r1 r2 r3
  simp [results, Tryd.results26, go_sem, e0, e1, e2, e3]

set_option maxHeartbeats 1000000 in
theorem wzero_any (a0 a1 a2 a3 : Int) (ua0 : U64 a0) (ua1 : U64 a1) (ua2 : U64 a2) (ua3 : U64 a3) (w : World) :
    Calls Tryd.prog 23 #[.agg #[.int .u64 a0, .int .u64 a1, .int .u64 a2, .int .u64 a3]] w fun e w' => e = .returned (.bool (wval a0 a1 a2 a3 == 0)) ∧ Below w.heap.size w w' := by
  have hz : decide (a0 = 0 ∧ a1 = 0 ∧ a2 = 0 ∧ a3 = 0) = (wval a0 a1 a2 a3 == 0) := by
    unfold U64 at ua0 ua1 ua2 ua3
    rw [Bool.eq_iff_iff]; simp only [decide_eq_true_eq, beq_iff_eq]; unfold wval; omega
  generalize (wval a0 a1 a2 a3 == 0) = r at *
  have hE : ∀ w, (binOp .eql 38 (.agg #[.int .u64 a0, .int .u64 a1, .int .u64 a2, .int .u64 a3]) (.agg #[.int .u64 0, .int .u64 0, .int .u64 0, .int .u64 0])).run Tryd.prog w = .ok (.bool r) w := fun w => by rw [eql_wide, hz]
  clear hz ua0 ua1 ua2 ua3
  go_enter Tryd.func23, Tryd.ntmps23
  go_wp2
  go_ret
  exact ⟨rfl, bA (Below.refl _ _) _⟩

theorem cmp_as (ah al bh bl x : Int) (u1 : U64 ah) (u2 : U64 al) (u3 : U64 bh) (u4 : U64 bl) (h : cmpI (val ah al) (val bh bl) = x) (w : World) :
    Calls Tryd.prog 47 #[.agg #[.int .u64 ah, .int .u64 al], .agg #[.int .u64 bh, .int .u64 bl]] w fun e w' => e = .returned (.int .i64 x) ∧ Below w.heap.size w w' := by
  subst h; exact cmp_any ah al bh bl u1 u2 u3 u4 w

set_option maxHeartbeats 2000000 in
theorem wcmp_high (a0 a1 a2 a3 b0 b1 b2 b3 x : Int) (ua0 : U64 a0) (ua1 : U64 a1) (ua2 : U64 a2) (ua3 : U64 a3) (ub0 : U64 b0) (ub1 : U64 b1) (ub2 : U64 b2) (ub3 : U64 b3) (hx : Hid (cmpI (val a3 a2) (val b3 b2) = x)) (hn : (x != 0) = true) (w : World) :
    Calls Tryd.prog 24 #[.agg #[.int .u64 a0, .int .u64 a1, .int .u64 a2, .int .u64 a3], .agg #[.int .u64 b0, .int .u64 b1, .int .u64 b2, .int .u64 b3]] w fun e w' => e = .returned (.int .i64 x) ∧ Below w.heap.size w w' := by
  go_enter Tryd.func24, Tryd.ntmps24
  go_upto_region 1 with fail
  obtain ⟨⟨sA, cA0, cA1, cA2, cA3⟩, ⟨sB, cB0, cB1, cB2, cB3⟩, kk0⟩ := wboxes2 w a0 a1 a2 a3 b0 b1 b2 b3 38
  go_region_held3 (fun w' => w'.cell? ⟨w.heap.size, 0, none⟩ = some (.int .u64 a0) ∧ w'.cell? ⟨w.heap.size, 1, none⟩ = some (.int .u64 a1) ∧ w'.cell? ⟨w.heap.size, 2, none⟩ = some (.int .u64 a2) ∧ w'.cell? ⟨w.heap.size, 3, none⟩ = some (.int .u64 a3) ∧ w'.cell? ⟨w.heap.size + 1, 0, none⟩ = some (.int .u64 b0) ∧ w'.cell? ⟨w.heap.size + 1, 1, none⟩ = some (.int .u64 b1) ∧ w'.cell? ⟨w.heap.size + 1, 2, none⟩ = some (.int .u64 b2) ∧ w'.cell? ⟨w.heap.size + 1, 3, none⟩ = some (.int .u64 b3) ∧ Below w.heap.size w w') (first | exact ⟨cA0, cA1, cA2, cA3, cB0, cB1, cB2, cB3, kk0.drew⟩ | (refine held8B hb ?_; assumption)) (first | (go_at_call 30; (with_reducible refine (high_any _ _ _ _ _).mono ?_); rintro e w' ⟨rfl, hb⟩) | (go_at_call 47; (with_reducible refine (cmp_as a3 a2 b3 b2 x ua3 ua2 ub3 ub2 hx.out _).mono ?_); rintro e w' ⟨rfl, hb⟩))
  all_goals
    rename_i hh
    obtain ⟨g0, g1, g2, g3, g4, g5, g6, g7, g8⟩ := hh
    go_wp2_with fail
    go_ret
    exact ⟨rfl, g8⟩

set_option maxHeartbeats 2000000 in
theorem wcmp_low (a0 a1 a2 a3 b0 b1 b2 b3 : Int) (ua0 : U64 a0) (ua1 : U64 a1) (ua2 : U64 a2) (ua3 : U64 a3) (ub0 : U64 b0) (ub1 : U64 b1) (ub2 : U64 b2) (ub3 : U64 b3) (hx : Hid (cmpI (val a3 a2) (val b3 b2) = 0)) (w : World) :
    Calls Tryd.prog 24 #[.agg #[.int .u64 a0, .int .u64 a1, .int .u64 a2, .int .u64 a3], .agg #[.int .u64 b0, .int .u64 b1, .int .u64 b2, .int .u64 b3]] w fun e w' => e = .returned (.int .i64 (cmpI (val a1 a0) (val b1 b0))) ∧ Below w.heap.size w w' := by
  go_enter Tryd.func24, Tryd.ntmps24
  go_upto_region 1 with fail
  obtain ⟨⟨sA, cA0, cA1, cA2, cA3⟩, ⟨sB, cB0, cB1, cB2, cB3⟩, kk0⟩ := wboxes2 w a0 a1 a2 a3 b0 b1 b2 b3 38
  go_region_held3 (fun w' => w'.cell? ⟨w.heap.size, 0, none⟩ = some (.int .u64 a0) ∧ w'.cell? ⟨w.heap.size, 1, none⟩ = some (.int .u64 a1) ∧ w'.cell? ⟨w.heap.size, 2, none⟩ = some (.int .u64 a2) ∧ w'.cell? ⟨w.heap.size, 3, none⟩ = some (.int .u64 a3) ∧ w'.cell? ⟨w.heap.size + 1, 0, none⟩ = some (.int .u64 b0) ∧ w'.cell? ⟨w.heap.size + 1, 1, none⟩ = some (.int .u64 b1) ∧ w'.cell? ⟨w.heap.size + 1, 2, none⟩ = some (.int .u64 b2) ∧ w'.cell? ⟨w.heap.size + 1, 3, none⟩ = some (.int .u64 b3) ∧ Below w.heap.size w w') (first | exact ⟨cA0, cA1, cA2, cA3, cB0, cB1, cB2, cB3, kk0.drew⟩ | (refine held8B hb ?_; assumption)) (first | (go_at_call 30; (with_reducible refine (high_any _ _ _ _ _).mono ?_); rintro e w' ⟨rfl, hb⟩) | (go_at_call 47; (with_reducible refine (cmp_as a3 a2 b3 b2 0 ua3 ua2 ub3 ub2 hx.out _).mono ?_); rintro e w' ⟨rfl, hb⟩))
  all_goals
    rename_i hh
    obtain ⟨cA0, cA1, cA2, cA3, cB0, cB1, cB2, cB3, kk0⟩ := hh
    go_upto_region 4 with fail
    go_region_held3 (fun w' => w'.cell? ⟨w.heap.size, 0, none⟩ = some (.int .u64 a0) ∧ w'.cell? ⟨w.heap.size, 1, none⟩ = some (.int .u64 a1) ∧ w'.cell? ⟨w.heap.size, 2, none⟩ = some (.int .u64 a2) ∧ w'.cell? ⟨w.heap.size, 3, none⟩ = some (.int .u64 a3) ∧ w'.cell? ⟨w.heap.size + 1, 0, none⟩ = some (.int .u64 b0) ∧ w'.cell? ⟨w.heap.size + 1, 1, none⟩ = some (.int .u64 b1) ∧ w'.cell? ⟨w.heap.size + 1, 2, none⟩ = some (.int .u64 b2) ∧ w'.cell? ⟨w.heap.size + 1, 3, none⟩ = some (.int .u64 b3) ∧ Below w.heap.size w w') (first | exact ⟨cA0, cA1, cA2, cA3, cB0, cB1, cB2, cB3, kk0.drew⟩ | (refine held8B hb ?_; assumption)) (first | (go_at_call 31; (with_reducible refine (low_any _ _ _ _ _).mono ?_); rintro e w' ⟨rfl, hb⟩) | (go_at_call 47; (with_reducible refine (cmp_any a1 a0 b1 b0 ua1 ua0 ub1 ub0 _).mono ?_); rintro e w' ⟨rfl, hb⟩))
    all_goals
      rename_i hh
      obtain ⟨g0, g1, g2, g3, g4, g5, g6, g7, g8⟩ := hh
      go_wp2_with fail
      go_ret
      exact ⟨rfl, g8⟩

theorem wcmp_any (a0 a1 a2 a3 b0 b1 b2 b3 : Int) (ua0 : U64 a0) (ua1 : U64 a1) (ua2 : U64 a2) (ua3 : U64 a3) (ub0 : U64 b0) (ub1 : U64 b1) (ub2 : U64 b2) (ub3 : U64 b3) (w : World) :
    Calls Tryd.prog 24 #[.agg #[.int .u64 a0, .int .u64 a1, .int .u64 a2, .int .u64 a3], .agg #[.int .u64 b0, .int .u64 b1, .int .u64 b2, .int .u64 b3]] w fun e w' => e = .returned (.int .i64 (cmpI (wval a0 a1 a2 a3) (wval b0 b1 b2 b3))) ∧ Below w.heap.size w w' := by
  have h := wcmp ua0 ua1 ua2 ua3 ub0 ub1 ub2 ub3
  by_cases hx : cmpI (val a3 a2) (val b3 b2) = 0
  · rw [h.2 hx]; exact wcmp_low a0 a1 a2 a3 b0 b1 b2 b3 ua0 ua1 ua2 ua3 ub0 ub1 ub2 ub3 hx w
  · rw [h.1 hx]; exact wcmp_high a0 a1 a2 a3 b0 b1 b2 b3 _ ua0 ua1 ua2 ua3 ub0 ub1 ub2 ub3 rfl (by simp [hx]) w

end Go.Proofs.YtkhcbioohoeegaaDoor
