import Derived.Deep.DeepCutAuto
import Derived.Deep.DrawnRows
import Derived.LoopIn
import Derived.LoopNIn
import Derived.OwnWalkIn
import Derived.RangeFuncBound
import Derived.RangeFuncNested
import Derived.Shelf.RegionOpen
import Derived.Test.YtjdjonekoodalaaGreatDoorGaA
set_option maxHeartbeats 2000000
set_option linter.unusedVariables false
set_option maxRecDepth 100000
namespace Go.Proofs.YtjdjonekoodalaaGreatDoor
open Go.RowKit Go.Shelf
attribute [local go_sem] Oper.semAt_some
theorem hb_own {β : Type} (B : Nat) (t : TypeId) (f : β → Array Value) : Own (fun s W => HB W B t (f s)) := fun s X Y row hs hg hrow =>
  hs.kept hg (fun e' => by obtain ⟨o, ho, hc⟩ := hrow B e'.symm; rw [show X.heap[B]? = _ from hs] at ho; cases ho; cases hc)
def Keeps3 (m : Nat) (W W' : World) : Prop := ∀ k, m ≤ k → k < m + 3 → W'.heap[k]? = W.heap[k]?
theorem Keeps3.refl (m : Nat) (W : World) : Keeps3 m W W := fun _ _ _ => rfl
theorem Keeps3.t {m : Nat} {A B C : World} (h : Keeps3 m A B) (h' : Keeps3 m B C) : Keeps3 m A C := fun k a b => (h' k a b).trans (h k a b)
theorem Keeps3.b {m : Nat} {w : World} (hn : m + 3 ≤ w.heap.size) (W : World) (l : Nat) (o o' : Obj) (hl : w.heap.size ≤ l) (_ : W.heap[l]? = some o) (_ : o.isCells = false) (_ : o.isWalk = false) : Keeps3 m W (W.putObj l o') :=
  fun k _ b => World.putObj_heap_other (by omega)
theorem Keeps3.alloc {m : Nat} {W : World} (h : m + 3 ≤ W.heap.size) (o : Obj) : Keeps3 m W (W.alloc o) := fun k _ b => Below.heap_alloc W o k (by omega)
theorem Keeps3.set {m : Nat} (W : World) {p : Addr} (h : p.block < m ∨ m + 3 ≤ p.block) (v : Value) : Keeps3 m W (W.setCell p v) := fun k a b => Below.heap_setCell _ _ _ k (fun e => by omega)
theorem drewN_heap (W : World) (n : Nat) : (W.drewN n).heap = W.heap := by
  induction n generalizing W with
  | zero => rfl
  | succ n ih => first | exact ih W.drew | exact ih W
theorem Keeps3.drewN (m : Nat) (W : World) (n : Nat) : Keeps3 m W (W.drewN n) := fun k _ _ => by rw [drewN_heap]
theorem Keeps3.hb {m : Nat} {W W' : World} (h : Keeps3 m W W') {B : Nat} {t : TypeId} {vs : Array Value} (h1 : m ≤ B) (h2 : B < m + 3) (x : HB W B t vs) : HB W' B t vs := (h B h1 h2).trans x
end Go.Proofs.YtjdjonekoodalaaGreatDoor
namespace Go.Proofs.YtjdjonekoodalaaGreatDoor
open Go.RowKit
attribute [local go_sem ↓] Go.wp_at_zero Go.wp_at_succ
theorem wstore {a w : World} {p : Nat} {x0 x1 x2 x3 : Int} (d0 d1 d2 d3 : Int) (x : WBox w p x0 x1 x2 x3) (f : WFree w p) (kb : Below a.heap.size a w) (hp : a.heap.size ≤ p) :
    WBox ((((w.setCell ⟨p, 0, none⟩ (.int .u64 d0)).setCell ⟨p, 1, none⟩ (.int .u64 d1)).setCell ⟨p, 2, none⟩ (.int .u64 d2)).setCell ⟨p, 3, none⟩ (.int .u64 d3)) p d0 d1 d2 d3 ∧
    Below a.heap.size a ((((w.setCell ⟨p, 0, none⟩ (.int .u64 d0)).setCell ⟨p, 1, none⟩ (.int .u64 d1)).setCell ⟨p, 2, none⟩ (.int .u64 d2)).setCell ⟨p, 3, none⟩ (.int .u64 d3)) :=
  ⟨(((x.set0 d0).set1 d1).set2 d2).set3 d3, (((kb.setCell (p := ⟨p, 0, none⟩) hp _).setCell (p := ⟨p, 1, none⟩) hp _).setCell (p := ⟨p, 2, none⟩) hp _).setCell (p := ⟨p, 3, none⟩) hp _⟩
theorem high_any (a0 a1 a2 a3 : Int) (w : World) :
    Calls Tryz.prog 194 #[.agg #[.int .u64 a0, .int .u64 a1, .int .u64 a2, .int .u64 a3]] w fun e w' => e = .returned (.agg #[.int .u64 a3, .int .u64 a2]) ∧ Below w.heap.size w w' := by
  go_enter Tryz.func194, Tryz.ntmps194
  go_wp2_with fail
  refine bodyPost_ret (v := .agg #[.int .u64 a3, .int .u64 a2]) (by simp [results, Tryz.results194, go_sem]) rfl ⟨rfl, ?_⟩
  first | exact (bA (bA bR _) _) | simp [go_sem]; fail
theorem low_any (a0 a1 a2 a3 : Int) (w : World) :
    Calls Tryz.prog 195 #[.agg #[.int .u64 a0, .int .u64 a1, .int .u64 a2, .int .u64 a3]] w fun e w' => e = .returned (.agg #[.int .u64 a1, .int .u64 a0]) ∧ Below w.heap.size w w' := by
  go_enter Tryz.func195, Tryz.ntmps195
  go_wp2_with fail
  refine bodyPost_ret (v := .agg #[.int .u64 a1, .int .u64 a0]) (by simp [results, Tryz.results195, go_sem]) rfl ⟨rfl, ?_⟩
  first | exact (bA (bA bR _) _) | simp [go_sem]; fail
theorem join_any (ah al bh bl : Int) (w : World) :
    Calls Tryz.prog 90 #[.agg #[.int .u64 ah, .int .u64 al], .agg #[.int .u64 bh, .int .u64 bl]] w fun e w' => e = .returned (.agg #[.int .u64 bl, .int .u64 bh, .int .u64 al, .int .u64 ah]) ∧ Below w.heap.size w w' := by
  go_enter Tryz.func90, Tryz.ntmps90
  go_wp2_with fail
  refine bodyPost_ret (v := .agg #[.int .u64 bl, .int .u64 bh, .int .u64 al, .int .u64 ah]) (by simp [results, Tryz.results90, go_sem]) rfl ⟨rfl, ?_⟩
  first | exact (bA (bA (bA bR _) _) _) | simp [go_sem]; fail
theorem mid_any (ah al : Int) (w : World) :
    Calls Tryz.prog 162 #[.agg #[.int .u64 ah, .int .u64 al]] w fun e w' => e = .returned (.agg #[.int .u64 0, .int .u64 al, .int .u64 ah, .int .u64 0]) ∧ Below w.heap.size w w' := by
  go_enter Tryz.func162, Tryz.ntmps162
  go_wp2_with fail
  refine bodyPost_ret (v := .agg #[.int .u64 0, .int .u64 al, .int .u64 ah, .int .u64 0]) (by simp [results, Tryz.results162, go_sem]) rfl ⟨rfl, ?_⟩
  first | exact (bA (bA bR _) _) | simp [go_sem]; fail
theorem eql_wide (a0 a1 a2 a3 b0 b1 b2 b3 : Int) (w : World) : (binOp .eql 81 (.agg #[.int .u64 a0, .int .u64 a1, .int .u64 a2, .int .u64 a3]) (.agg #[.int .u64 b0, .int .u64 b1, .int .u64 b2, .int .u64 b3])).run Tryz.prog w = .ok (.bool (decide (a0 = b0 ∧ a1 = b1 ∧ a2 = b2 ∧ a3 = b3))) w := by
  have hi0 : (Tryz.prog.info? 23).isSome = true := by kernel_rfl
  obtain ⟨i, hi⟩ := Option.isSome_iff_exists.1 hi0
  have hc : Tryz.prog.cellsOf 23 = 1 := by kernel_rfl
  rw [run_eql_struct, run_equalIn_array _ 9999 _ _ Tryz.underlying81 hi, hc]
  rw [show List.range 4 = [0, 1, 2, 3] from rfl]
  by_cases h0 : a0 = b0
  · subst h0
    by_cases h1 : a1 = b1
    · subst h1
      by_cases h2 : a2 = b2
      · subst h2
        by_cases h3 : a3 = b3
        · subst h3
          simp [Op.eqItems, go_sem]
        · simp [Op.eqItems, go_sem, h3]
      · simp [Op.eqItems, go_sem, h2]
    · simp [Op.eqItems, go_sem, h1]
  · simp [Op.eqItems, go_sem, h0]
theorem eql_bits (a b c d : Int) (w : World) : (binOp .eql 25 (.agg #[.int .u64 a, .int .u64 b]) (.agg #[.int .u64 c, .int .u64 d])).run Tryz.prog w = .ok (.bool (decide (a = c ∧ b = d))) w := by
  by_cases h1 : a = c
  · subst h1
    by_cases h2 : b = d
    · subst h2
      go_simp
    · go_simp
  · go_simp
theorem held8B {a W w' : World} {a1 a2 a3 a4 a5 a6 a7 a8 : Addr} {v1 v2 v3 v4 v5 v6 v7 v8 : Value} (hb : Below W.heap.size W w') (h : W.cell? a1 = some v1 ∧ W.cell? a2 = some v2 ∧ W.cell? a3 = some v3 ∧ W.cell? a4 = some v4 ∧ W.cell? a5 = some v5 ∧ W.cell? a6 = some v6 ∧ W.cell? a7 = some v7 ∧ W.cell? a8 = some v8 ∧ Below a.heap.size a W) :
    w'.cell? a1 = some v1 ∧ w'.cell? a2 = some v2 ∧ w'.cell? a3 = some v3 ∧ w'.cell? a4 = some v4 ∧ w'.cell? a5 = some v5 ∧ w'.cell? a6 = some v6 ∧ w'.cell? a7 = some v7 ∧ w'.cell? a8 = some v8 ∧ Below a.heap.size a w' :=
  ⟨cL hb h.1, cL hb h.2.1, cL hb h.2.2.1, cL hb h.2.2.2.1, cL hb h.2.2.2.2.1, cL hb h.2.2.2.2.2.1, cL hb h.2.2.2.2.2.2.1, cL hb h.2.2.2.2.2.2.2.1, bC h.2.2.2.2.2.2.2.2 hb⟩
theorem wboxes2 (w : World) (a0 a1 a2 a3 b0 b1 b2 b3 : Int) (t : TypeId) :
    WBox ((w.alloc (wbx a0 a1 a2 a3 t)).alloc (wbx b0 b1 b2 b3 t)) w.heap.size a0 a1 a2 a3 ∧ WBox ((w.alloc (wbx a0 a1 a2 a3 t)).alloc (wbx b0 b1 b2 b3 t)) (w.heap.size + 1) b0 b1 b2 b3 ∧
    Below w.heap.size w ((w.alloc (wbx a0 a1 a2 a3 t)).alloc (wbx b0 b1 b2 b3 t)) :=
  ⟨(WBox.new w a0 a1 a2 a3 t).alloc _, WBox.newAt (by simp) b0 b1 b2 b3 t, bA (bA bR _) _⟩
theorem wzero_any (a0 a1 a2 a3 : Int) (ua0 : U64 a0) (ua1 : U64 a1) (ua2 : U64 a2) (ua3 : U64 a3) (w : World) :
    Calls Tryz.prog 51 #[.agg #[.int .u64 a0, .int .u64 a1, .int .u64 a2, .int .u64 a3]] w fun e w' => e = .returned (.bool (wval a0 a1 a2 a3 == 0)) ∧ Below w.heap.size w w' := by
  have hz : decide (a0 = 0 ∧ a1 = 0 ∧ a2 = 0 ∧ a3 = 0) = (wval a0 a1 a2 a3 == 0) := by
    unfold U64 at ua0 ua1 ua2 ua3
    rw [Bool.eq_iff_iff]; simp only [decide_eq_true_eq, beq_iff_eq]; unfold wval; omega
  generalize (wval a0 a1 a2 a3 == 0) = r at *
  have hE : ∀ w, (binOp .eql 81 (.agg #[.int .u64 a0, .int .u64 a1, .int .u64 a2, .int .u64 a3]) (.agg #[.int .u64 0, .int .u64 0, .int .u64 0, .int .u64 0])).run Tryz.prog w = .ok (.bool r) w := fun w => by rw [eql_wide, hz]
  clear hz ua0 ua1 ua2 ua3
  go_enter Tryz.func51, Tryz.ntmps51
  go_wp2
  go_ret
  exact ⟨rfl, bA bR _⟩
theorem cmp_as (ah al bh bl x : Int) (u1 : U64 ah) (u2 : U64 al) (u3 : U64 bh) (u4 : U64 bl) (h : cmpI (val ah al) (val bh bl) = x) (w : World) :
    Calls Tryz.prog 19 #[.agg #[.int .u64 ah, .int .u64 al], .agg #[.int .u64 bh, .int .u64 bl]] w fun e w' => e = .returned (.int .i64 x) ∧ Below w.heap.size w w' := by
  subst h; exact cmp_any ah al bh bl u1 u2 u3 u4 w
theorem wcmp_high (a0 a1 a2 a3 b0 b1 b2 b3 x : Int) (ua0 : U64 a0) (ua1 : U64 a1) (ua2 : U64 a2) (ua3 : U64 a3) (ub0 : U64 b0) (ub1 : U64 b1) (ub2 : U64 b2) (ub3 : U64 b3) (hx : Hid (cmpI (val a3 a2) (val b3 b2) = x)) (hn : (x != 0) = true) (w : World) :
    Calls Tryz.prog 208 #[.agg #[.int .u64 a0, .int .u64 a1, .int .u64 a2, .int .u64 a3], .agg #[.int .u64 b0, .int .u64 b1, .int .u64 b2, .int .u64 b3]] w fun e w' => e = .returned (.int .i64 x) ∧ Below w.heap.size w w' := by
  go_enter Tryz.func208, Tryz.ntmps208
  go_upto_region 1 with fail
  obtain ⟨⟨sA, cA0, cA1, cA2, cA3⟩, ⟨sB, cB0, cB1, cB2, cB3⟩, kk0⟩ := wboxes2 w a0 a1 a2 a3 b0 b1 b2 b3 81
  go_region_held3 (fun w' => w'.cell? ⟨w.heap.size, 0, none⟩ = some (.int .u64 a0) ∧ w'.cell? ⟨w.heap.size, 1, none⟩ = some (.int .u64 a1) ∧ w'.cell? ⟨w.heap.size, 2, none⟩ = some (.int .u64 a2) ∧ w'.cell? ⟨w.heap.size, 3, none⟩ = some (.int .u64 a3) ∧ w'.cell? ⟨w.heap.size + 1, 0, none⟩ = some (.int .u64 b0) ∧ w'.cell? ⟨w.heap.size + 1, 1, none⟩ = some (.int .u64 b1) ∧ w'.cell? ⟨w.heap.size + 1, 2, none⟩ = some (.int .u64 b2) ∧ w'.cell? ⟨w.heap.size + 1, 3, none⟩ = some (.int .u64 b3) ∧ Below w.heap.size w w') (first | exact ⟨cA0, cA1, cA2, cA3, cB0, cB1, cB2, cB3, kk0.drew⟩ | (refine held8B hb ?_; assumption)) (first | (go_at_call 194; (with_reducible refine (high_any _ _ _ _ _).mono ?_); rintro e w' ⟨rfl, hb⟩) | (go_at_call 19; (with_reducible refine (cmp_as a3 a2 b3 b2 x ua3 ua2 ub3 ub2 hx.out _).mono ?_); rintro e w' ⟨rfl, hb⟩))
  all_goals
    rename_i hh
    obtain ⟨g0, g1, g2, g3, g4, g5, g6, g7, g8⟩ := hh
    go_wp2_with fail
    go_ret
    exact ⟨rfl, g8⟩
theorem wcmp_low (a0 a1 a2 a3 b0 b1 b2 b3 : Int) (ua0 : U64 a0) (ua1 : U64 a1) (ua2 : U64 a2) (ua3 : U64 a3) (ub0 : U64 b0) (ub1 : U64 b1) (ub2 : U64 b2) (ub3 : U64 b3) (hx : Hid (cmpI (val a3 a2) (val b3 b2) = 0)) (w : World) :
    Calls Tryz.prog 208 #[.agg #[.int .u64 a0, .int .u64 a1, .int .u64 a2, .int .u64 a3], .agg #[.int .u64 b0, .int .u64 b1, .int .u64 b2, .int .u64 b3]] w fun e w' => e = .returned (.int .i64 (cmpI (val a1 a0) (val b1 b0))) ∧ Below w.heap.size w w' := by
  go_enter Tryz.func208, Tryz.ntmps208
  go_upto_region 1 with fail
  obtain ⟨⟨sA, cA0, cA1, cA2, cA3⟩, ⟨sB, cB0, cB1, cB2, cB3⟩, kk0⟩ := wboxes2 w a0 a1 a2 a3 b0 b1 b2 b3 81
  go_region_held3 (fun w' => w'.cell? ⟨w.heap.size, 0, none⟩ = some (.int .u64 a0) ∧ w'.cell? ⟨w.heap.size, 1, none⟩ = some (.int .u64 a1) ∧ w'.cell? ⟨w.heap.size, 2, none⟩ = some (.int .u64 a2) ∧ w'.cell? ⟨w.heap.size, 3, none⟩ = some (.int .u64 a3) ∧ w'.cell? ⟨w.heap.size + 1, 0, none⟩ = some (.int .u64 b0) ∧ w'.cell? ⟨w.heap.size + 1, 1, none⟩ = some (.int .u64 b1) ∧ w'.cell? ⟨w.heap.size + 1, 2, none⟩ = some (.int .u64 b2) ∧ w'.cell? ⟨w.heap.size + 1, 3, none⟩ = some (.int .u64 b3) ∧ Below w.heap.size w w') (first | exact ⟨cA0, cA1, cA2, cA3, cB0, cB1, cB2, cB3, kk0.drew⟩ | (refine held8B hb ?_; assumption)) (first | (go_at_call 194; (with_reducible refine (high_any _ _ _ _ _).mono ?_); rintro e w' ⟨rfl, hb⟩) | (go_at_call 19; (with_reducible refine (cmp_as a3 a2 b3 b2 0 ua3 ua2 ub3 ub2 hx.out _).mono ?_); rintro e w' ⟨rfl, hb⟩))
  all_goals
    rename_i hh
    obtain ⟨cA0, cA1, cA2, cA3, cB0, cB1, cB2, cB3, kk0⟩ := hh
    go_upto_region 4 with fail
    go_region_held3 (fun w' => w'.cell? ⟨w.heap.size, 0, none⟩ = some (.int .u64 a0) ∧ w'.cell? ⟨w.heap.size, 1, none⟩ = some (.int .u64 a1) ∧ w'.cell? ⟨w.heap.size, 2, none⟩ = some (.int .u64 a2) ∧ w'.cell? ⟨w.heap.size, 3, none⟩ = some (.int .u64 a3) ∧ w'.cell? ⟨w.heap.size + 1, 0, none⟩ = some (.int .u64 b0) ∧ w'.cell? ⟨w.heap.size + 1, 1, none⟩ = some (.int .u64 b1) ∧ w'.cell? ⟨w.heap.size + 1, 2, none⟩ = some (.int .u64 b2) ∧ w'.cell? ⟨w.heap.size + 1, 3, none⟩ = some (.int .u64 b3) ∧ Below w.heap.size w w') (first | exact ⟨cA0, cA1, cA2, cA3, cB0, cB1, cB2, cB3, kk0.drew⟩ | (refine held8B hb ?_; assumption)) (first | (go_at_call 195; (with_reducible refine (low_any _ _ _ _ _).mono ?_); rintro e w' ⟨rfl, hb⟩) | (go_at_call 19; (with_reducible refine (cmp_any a1 a0 b1 b0 ua1 ua0 ub1 ub0 _).mono ?_); rintro e w' ⟨rfl, hb⟩))
    all_goals
      rename_i hh
      obtain ⟨g0, g1, g2, g3, g4, g5, g6, g7, g8⟩ := hh
      go_wp2_with fail
      go_ret
      exact ⟨rfl, g8⟩
theorem wcmp_any (a0 a1 a2 a3 b0 b1 b2 b3 : Int) (ua0 : U64 a0) (ua1 : U64 a1) (ua2 : U64 a2) (ua3 : U64 a3) (ub0 : U64 b0) (ub1 : U64 b1) (ub2 : U64 b2) (ub3 : U64 b3) (w : World) :
    Calls Tryz.prog 208 #[.agg #[.int .u64 a0, .int .u64 a1, .int .u64 a2, .int .u64 a3], .agg #[.int .u64 b0, .int .u64 b1, .int .u64 b2, .int .u64 b3]] w fun e w' => e = .returned (.int .i64 (cmpI (wval a0 a1 a2 a3) (wval b0 b1 b2 b3))) ∧ Below w.heap.size w w' := by
  have h := wcmp ua0 ua1 ua2 ua3 ub0 ub1 ub2 ub3
  by_cases hx : cmpI (val a3 a2) (val b3 b2) = 0
  · rw [h.2 hx]; exact wcmp_low a0 a1 a2 a3 b0 b1 b2 b3 ua0 ua1 ua2 ua3 ub0 ub1 ub2 ub3 hx w
  · rw [h.1 hx]; exact wcmp_high a0 a1 a2 a3 b0 b1 b2 b3 _ ua0 ua1 ua2 ua3 ub0 ub1 ub2 ub3 rfl (by simp [hx]) w
end Go.Proofs.YtjdjonekoodalaaGreatDoor
namespace Go.Proofs.YtjdjonekoodalaaGreatDoor
open Go.RowKit
theorem wd_mod (n : Int) : wd0 (n % wfull) = wd0 n ∧ wd1 (n % wfull) = wd1 n ∧ wd2 (n % wfull) = wd2 n ∧ wd3 (n % wfull) = wd3 n := by
  unfold wd0 wd1 wd2 wd3 wfull; omega
theorem wd_congr {n m : Int} (h : n % wfull = m % wfull) : wd0 n = wd0 m ∧ wd1 n = wd1 m ∧ wd2 n = wd2 m ∧ wd3 n = wd3 m := by
  obtain ⟨h0, h1, h2, h3⟩ := wd_mod n
  obtain ⟨k0, k1, k2, k3⟩ := wd_mod m
  rw [h] at h0 h1 h2 h3
  exact ⟨h0.symm.trans k0, h1.symm.trans k1, h2.symm.trans k2, h3.symm.trans k3⟩
theorem hl_mod (n : Int) : hiOf (n % full) = hiOf n ∧ loOf (n % full) = loOf n := by
  unfold hiOf loOf full; omega
theorem hl_congr {n m : Int} (h : n % full = m % full) : hiOf n = hiOf m ∧ loOf n = loOf m := by
  obtain ⟨h0, h1⟩ := hl_mod n
  obtain ⟨k0, k1⟩ := hl_mod m
  rw [h] at h0 h1
  exact ⟨h0.symm.trans k0, h1.symm.trans k1⟩
theorem hl_lo (n : Int) : hiOf n = wd1 n ∧ loOf n = wd0 n := by unfold hiOf loOf wd1 wd0; omega
theorem hl_hi (n : Int) : hiOf (n / full) = wd3 n ∧ loOf (n / full) = wd2 n := by unfold hiOf loOf wd3 wd2 full; omega
theorem hl_val {h l : Int} (uh : U64 h) (ul : U64 l) : hiOf (val h l) = h ∧ loOf (val h l) = l := by
  unfold U64 at uh ul; unfold hiOf loOf val; omega
theorem wd_join (n m : Int) : wd0 (n % full * full + m % full) = loOf m ∧ wd1 (n % full * full + m % full) = hiOf m ∧ wd2 (n % full * full + m % full) = loOf n ∧ wd3 (n % full * full + m % full) = hiOf n := by
  unfold wd0 wd1 wd2 wd3 hiOf loOf full; omega
theorem wd_add_mod (n m : Int) : wd0 (n % wfull + m % wfull) = wd0 (n + m) ∧ wd1 (n % wfull + m % wfull) = wd1 (n + m) ∧ wd2 (n % wfull + m % wfull) = wd2 (n + m) ∧ wd3 (n % wfull + m % wfull) = wd3 (n + m) := wd_congr (by rw [← Int.add_emod])
theorem wd_sub_mod (n m : Int) : wd0 (n % wfull - m % wfull) = wd0 (n - m) ∧ wd1 (n % wfull - m % wfull) = wd1 (n - m) ∧ wd2 (n % wfull - m % wfull) = wd2 (n - m) ∧ wd3 (n % wfull - m % wfull) = wd3 (n - m) := wd_congr (by rw [← Int.sub_emod])
theorem cmpW (n m : Int) (w : World) : Calls Tryz.prog 208 #[.agg #[.int .u64 (wd0 n), .int .u64 (wd1 n), .int .u64 (wd2 n), .int .u64 (wd3 n)], .agg #[.int .u64 (wd0 m), .int .u64 (wd1 m), .int .u64 (wd2 m), .int .u64 (wd3 m)]] w fun e w' =>
    e = .returned (.int .i64 (cmpI (n % wfull) (m % wfull))) ∧ Below w.heap.size w w' :=
  (wcmp_any _ _ _ _ _ _ _ _ (wd0_u n) (wd1_u n) (wd2_u n) (wd3_u n) (wd0_u m) (wd1_u m) (wd2_u m) (wd3_u m) w).mono fun e w' ⟨he, hb⟩ => ⟨he.trans (by
    rw [wval_wd_mod, wval_wd_mod]), hb⟩
theorem zeroW (n : Int) (w : World) : Calls Tryz.prog 51 #[.agg #[.int .u64 (wd0 n), .int .u64 (wd1 n), .int .u64 (wd2 n), .int .u64 (wd3 n)]] w fun e w' =>
    e = .returned (.bool (n % wfull == 0)) ∧ Below w.heap.size w w' :=
  (wzero_any _ _ _ _ (wd0_u n) (wd1_u n) (wd2_u n) (wd3_u n) w).mono fun e w' ⟨he, hb⟩ => ⟨he.trans (by rw [wval_wd_mod]), hb⟩
theorem highW (n : Int) (w : World) : Calls Tryz.prog 194 #[.agg #[.int .u64 (wd0 n), .int .u64 (wd1 n), .int .u64 (wd2 n), .int .u64 (wd3 n)]] w fun e w' =>
    e = .returned (.agg #[.int .u64 (hiOf (n / full)), .int .u64 (loOf (n / full))]) ∧ Below w.heap.size w w' :=
  (high_any _ _ _ _ w).mono fun e w' ⟨he, hb⟩ => ⟨he.trans (by rw [(hl_hi n).1, (hl_hi n).2]), hb⟩
theorem lowW (n : Int) (w : World) : Calls Tryz.prog 195 #[.agg #[.int .u64 (wd0 n), .int .u64 (wd1 n), .int .u64 (wd2 n), .int .u64 (wd3 n)]] w fun e w' =>
    e = .returned (.agg #[.int .u64 (hiOf n), .int .u64 (loOf n)]) ∧ Below w.heap.size w w' :=
  (low_any _ _ _ _ w).mono fun e w' ⟨he, hb⟩ => ⟨he.trans (by rw [(hl_lo n).1, (hl_lo n).2]), hb⟩
theorem joinW (n m : Int) (w : World) : Calls Tryz.prog 90 #[.agg #[.int .u64 (hiOf n), .int .u64 (loOf n)], .agg #[.int .u64 (hiOf m), .int .u64 (loOf m)]] w fun e w' =>
    e = .returned (.agg #[.int .u64 (wd0 (n % full * full + m % full)), .int .u64 (wd1 (n % full * full + m % full)), .int .u64 (wd2 (n % full * full + m % full)), .int .u64 (wd3 (n % full * full + m % full))]) ∧ Below w.heap.size w w' :=
  (join_any _ _ _ _ w).mono fun e w' ⟨he, hb⟩ => ⟨he.trans (by
    obtain ⟨h0, h1, h2, h3⟩ := wd_join n m
    rw [h0, h1, h2, h3]), hb⟩
theorem addB (n m : Int) (w : World) : Calls Tryz.prog 128 #[.agg #[.int .u64 (hiOf n), .int .u64 (loOf n)], .agg #[.int .u64 (hiOf m), .int .u64 (loOf m)]] w fun e w' =>
    e = .returned (.tuple #[.agg #[.int .u64 (hiOf (n + m)), .int .u64 (loOf (n + m))], .bool (decide (full ≤ n % full + m % full))]) ∧ Below w.heap.size w w' :=
  (add_any _ _ _ _ (hiOf_u n) (loOf_u n) (hiOf_u m) (loOf_u m) w).mono fun e w' ⟨he, hb⟩ => ⟨he.trans (by
    rw [val_hiLo_mod, val_hiLo_mod]
    obtain ⟨h0, h1⟩ := hl_congr (n := n % full + m % full) (m := n + m) (by rw [← Int.add_emod])
    rw [h0, h1]), hb⟩
theorem cmpB (n m : Int) (w : World) : Calls Tryz.prog 19 #[.agg #[.int .u64 (hiOf n), .int .u64 (loOf n)], .agg #[.int .u64 (hiOf m), .int .u64 (loOf m)]] w fun e w' =>
    e = .returned (.int .i64 (cmpI (n % full) (m % full))) ∧ Below w.heap.size w w' :=
  (cmp_any _ _ _ _ (hiOf_u n) (loOf_u n) (hiOf_u m) (loOf_u m) w).mono fun e w' ⟨he, hb⟩ => ⟨he.trans (by rw [val_hiLo_mod, val_hiLo_mod]), hb⟩
theorem zeroB (n : Int) (w : World) : Calls Tryz.prog 87 #[.agg #[.int .u64 (hiOf n), .int .u64 (loOf n)]] w fun e w' =>
    e = .returned (.bool (n % full == 0)) ∧ Below w.heap.size w w' :=
  (zero_any _ _ (hiOf_u n) (loOf_u n) w).mono fun e w' ⟨he, hb⟩ => ⟨he.trans (by rw [val_hiLo_mod]), hb⟩
end Go.Proofs.YtjdjonekoodalaaGreatDoor
