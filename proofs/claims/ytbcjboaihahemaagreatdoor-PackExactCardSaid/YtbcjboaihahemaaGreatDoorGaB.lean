/-
  Texts of the ground put together: WideC, WideA, WideB, WideX, WideN.
-/
import Derived.RangeFuncNested
import Derived.RangeFuncBound
import Derived.RangeFuncCalls
import Derived.RangeFuncLeaves
import Derived.Shelf.Abstract
import Derived.Shelf.RegionOpen
import Derived.WalkKit
import Derived.OwnWalkIn
import Derived.TacticsInMore
import Derived.LoopNIn
import Derived.LoopIn
import Derived.Deep.RegionHeld3
import Derived.Test.YtbcjboaihahemaaGreatDoorGaA
import Derived.Deep.DeepCutAuto
import Derived.Deep.DrawnRows
import Derived.ChangeKeysEq

/-
  Contracts of the program's wide.digits (a function that is ranged over) and wide.combine.
-/
set_option linter.unusedVariables false
set_option maxRecDepth 100000
namespace Go.Proofs.YtbcjboaihahemaaGreatDoor
open Go.RowKit Go.Shelf
attribute [local go_sem] Oper.semAt_some

/-- A block of cells of the call's own. -/
def HB (W : World) (B : Nat) (t : TypeId) (vs : Array Value) : Prop := W.heap[B]? = some (.cells vs t (0, 0))
theorem HB.lt {W : World} {B : Nat} {t : TypeId} {vs : Array Value} (h : HB W B t vs) : B < W.heap.size := (Array.getElem?_eq_some_iff.1 h).1
theorem HB.cell {W : World} {B : Nat} {t : TypeId} {vs : Array Value} (h : HB W B t vs) (k : Nat) : W.cell? ⟨B, k, none⟩ = vs[k]? := by
  simp [World.cell?, show W.heap[B]? = _ from h]
theorem HB.frozen {W : World} {B : Nat} {t : TypeId} {vs : Array Value} (h : HB W B t vs) (k : Nat) : W.frozen? ⟨B, k, none⟩ = false := by
  simp [World.frozen?, show W.heap[B]? = _ from h]
theorem HB.new (W : World) (t : TypeId) (vs : Array Value) : HB (W.alloc (.cells vs t)) W.heap.size t vs := World.alloc_heap_new W _
theorem HB.newAt {W : World} {b : Nat} (hb : b = W.heap.size) (t : TypeId) (vs : Array Value) : HB (W.alloc (.cells vs t)) b t vs := by subst hb; exact HB.new W t vs
theorem HB.kept {W W' : World} {row : Option Nat} {B : Nat} {t : TypeId} {vs : Array Value} (h : HB W B t vs) (hg : W.grownBy W' row) (hne : some B ≠ row) : HB W' B t vs := (hg.block B h.lt hne).trans h
theorem HB.alloc {W : World} {B : Nat} {t : TypeId} {vs : Array Value} (h : HB W B t vs) (o : Obj) : HB (W.alloc o) B t vs := h.kept (World.grownBy_alloc W o none) (by simp)
theorem HB.set {W : World} {B : Nat} {t : TypeId} {vs : Array Value} (h : HB W B t vs) (k : Nat) (v' : Value) : HB (W.setCell ⟨B, k, none⟩ v') B t (vs.setIfInBounds k v') := by
  obtain ⟨hlt, hk⟩ := Array.getElem?_eq_some_iff.1 h
  show (W.heap.modify B _)[B]? = _
  rw [Array.getElem?_eq_getElem (by rw [Array.size_modify]; exact hlt), Array.getElem_modify_self, hk]
  rfl
theorem HB.other {W : World} {B B' : Nat} {t : TypeId} {vs : Array Value} (h : HB W B t vs) (hne : B ≠ B') (k : Nat) (u : Value) : HB (W.setCell ⟨B', k, none⟩ u) B t vs :=
  (Below.heap_setCell _ _ _ B (fun e => hne (by rw [e]))).trans h
theorem HB.drew {W : World} {B : Nat} {t : TypeId} {vs : Array Value} (h : HB W B t vs) : HB W.drew B t vs := h
theorem hb_own {β : Type} (B : Nat) (t : TypeId) (f : β → Array Value) : Own (fun s W => HB W B t (f s)) := fun s X Y row hs hg hrow =>
  hs.kept hg (fun e' => by obtain ⟨o, ho, hc⟩ := hrow B e'.symm; rw [show X.heap[B]? = _ from hs] at ho; cases ho; cases hc)

/-- Three blocks stay as they are. -/
def Keeps3 (m : Nat) (W W' : World) : Prop := ∀ k, m ≤ k → k < m + 3 → W'.heap[k]? = W.heap[k]?
theorem Keeps3.refl (m : Nat) (W : World) : Keeps3 m W W := fun _ _ _ => rfl
theorem Keeps3.t {m : Nat} {A B C : World} (h : Keeps3 m A B) (h' : Keeps3 m B C) : Keeps3 m A C := fun k a b => (h' k a b).trans (h k a b)
theorem Keeps3.b {m : Nat} {w : World} (hn : m + 3 ≤ w.heap.size) (W : World) (l : Nat) (o o' : Obj) (hl : w.heap.size ≤ l) (_ : W.heap[l]? = some o) (_ : o.isCells = false) (_ : o.isWalk = false) : Keeps3 m W (W.putObj l o') :=
  fun k _ b => World.putObj_heap_other (by omega)
theorem Keeps3.alloc {m : Nat} {W : World} (h : m + 3 ≤ W.heap.size) (o : Obj) : Keeps3 m W (W.alloc o) := fun k _ b => Below.heap_alloc W o k (by omega)
theorem Keeps3.set {m : Nat} (W : World) {p : Addr} (h : p.block < m ∨ m + 3 ≤ p.block) (v : Value) : Keeps3 m W (W.setCell p v) := fun k a b => Below.heap_setCell _ _ _ k (fun e => by omega)
theorem drewN_heap (W : World) (n : Nat) : (W.drewN n).heap = W.heap := by
  induction n generalizing W with
  | zero => rfl
  | succ n ih => first | exact ih W.drew | exact ih W
theorem Keeps3.drewN (m : Nat) (W : World) (n : Nat) : Keeps3 m W (W.drewN n) := fun k _ _ => by rw [drewN_heap]
theorem Keeps3.hb {m : Nat} {W W' : World} (h : Keeps3 m W W') {B : Nat} {t : TypeId} {vs : Array Value} (h1 : m ≤ B) (h2 : B < m + 3) (x : HB W B t vs) : HB W' B t vs := (h B h1 h2).trans x

/-- What is handed to a round. -/
def iOf : Fin 4 → Int
  | 0 => 0 | 1 => 1 | 2 => 2 | 3 => 3
def at4 (x0 x1 x2 x3 : Int) : Fin 4 → Int
  | 0 => x0 | 1 => x1 | 2 => x2 | 3 => x3
def encW (d0 d1 d2 d3 c1 c2 c3 c4 : Int) (x : Fin 4) : Array Value := #[.int .i64 (iOf x), .agg #[.int .u64 (at4 c1 c2 c3 c4 x), .int .u64 (at4 d0 d1 d2 d3 x)]]

/-- The index and the carry at the head of a round. -/
def Head (J : List (Fin 4) → World → Prop) (m : Nat) (W : World) (c1 c2 c3 c4 : Int) (c i : Value) (wr : World) : Prop :=
  ((c = .int .u64 0 ∧ i = .int .i64 0 ∧ J [] wr) ∨ (c = .int .u64 c1 ∧ i = .int .i64 1 ∧ J [0] wr) ∨ (c = .int .u64 c2 ∧ i = .int .i64 2 ∧ J [0, 1] wr) ∨ (c = .int .u64 c3 ∧ i = .int .i64 3 ∧ J [0, 1, 2] wr) ∨ (c = .int .u64 c4 ∧ i = .int .i64 4 ∧ J [0, 1, 2, 3] wr)) ∧ Keeps3 m W wr

/-- What the rounds have made: four digits and the carry. -/
def stepW (d0 d1 d2 d3 c1 c2 c3 c4 : Int) (s : Int × Int × Int × Int × Int) : Fin 4 → Int × Int × Int × Int × Int
  | 0 => (d0, s.2.1, s.2.2.1, s.2.2.2.1, c1)
  | 1 => (s.1, d1, s.2.2.1, s.2.2.2.1, c2)
  | 2 => (s.1, s.2.1, d2, s.2.2.2.1, c3)
  | 3 => (s.1, s.2.1, s.2.2.1, d3, c4)
def stW (d0 d1 d2 d3 c1 c2 c3 c4 : Int) (pre : List (Fin 4)) : Int × Int × Int × Int × Int := pre.foldl (stepW d0 d1 d2 d3 c1 c2 c3 c4) (0, 0, 0, 0, 0)
theorem stW_snoc (d0 d1 d2 d3 c1 c2 c3 c4 : Int) (pre : List (Fin 4)) (x : Fin 4) : stW d0 d1 d2 d3 c1 c2 c3 c4 (pre ++ [x]) = stepW d0 d1 d2 d3 c1 c2 c3 c4 (stW d0 d1 d2 d3 c1 c2 c3 c4 pre) x := by simp [stW]
def arrW (s : Int × Int × Int × Int × Int) : Array Value := #[.int .u64 s.1, .int .u64 s.2.1, .int .u64 s.2.2.1, .int .u64 s.2.2.2.1]


theorem round_end {w W : World} {p2 p3 p4 k m B : Nat} {t t' t2 : TypeId} {arr arr' a2 : Array Value} {v x y y' : Value} (g3 : HB W p3 t arr) (g4 : HB W p4 t' #[v]) (g2 : HB W p2 t2 a2) (hB : Below w.heap.size w W) (hs : B ≤ W.heap.size)
    (n1 : p3 ≠ p4) (n2 : p2 ≠ p3) (n3 : p2 ≠ p4) (l3 : p3 < m) (l4 : p4 < m) (u3 : w.heap.size ≤ p3) (u4 : w.heap.size ≤ p4) (ha : arr' = arr.setIfInBounds k x) (hy : y' = y) :
    KeepsFrom B W ((W.setCell ⟨p3, k, none⟩ x).setCell ⟨p4, 0, none⟩ y).drew ∧ Keeps3 m W ((W.setCell ⟨p3, k, none⟩ x).setCell ⟨p4, 0, none⟩ y).drew ∧
    (((HB ((W.setCell ⟨p3, k, none⟩ x).setCell ⟨p4, 0, none⟩ y).drew p3 t arr' ∧ HB ((W.setCell ⟨p3, k, none⟩ x).setCell ⟨p4, 0, none⟩ y).drew p4 t' #[y']) ∧ HB ((W.setCell ⟨p3, k, none⟩ x).setCell ⟨p4, 0, none⟩ y).drew p2 t2 a2) ∧
      (Below w.heap.size w ((W.setCell ⟨p3, k, none⟩ x).setCell ⟨p4, 0, none⟩ y).drew ∧ B ≤ ((W.setCell ⟨p3, k, none⟩ x).setCell ⟨p4, 0, none⟩ y).drew.heap.size)) := by
  subst ha hy
  refine ⟨(((KeepsOthers.setCell _ _ _).trans (KeepsOthers.setCell _ _ _)).trans (KeepsOthers.drew _)).from _, (Keeps3.set W (p := ⟨p3, k, none⟩) (.inl l3) _).t (Keeps3.set _ (p := ⟨p4, 0, none⟩) (.inl l4) _), ⟨⟨(g3.set k x).other n1 0 _, (g4.other n1.symm k _).set 0 _⟩, (g2.other n2 k _).other n3 0 _⟩, ?_, ?_⟩
  · exact ((hB.setCell (p := ⟨p3, k, none⟩) u3 _).setCell (p := ⟨p4, 0, none⟩) u4 _).drew
  · exact Nat.le_trans hs (((KeepsOthers.setCell _ _ _).trans (KeepsOthers.setCell _ _ _)).trans (KeepsOthers.drew _)).size

theorem comb_end {w W : World} {p2 D : Nat} {t2 : TypeId} {d0 d1 d2 d3 : Int} (g2 : HB W p2 t2 #[.int .u64 0, .int .u64 0, .int .u64 0, .int .u64 0]) (hB : Below w.heap.size w W) (hK : W.heap[D]? = some (.deferred (some []))) (hp : w.heap.size ≤ p2) (hD : p2 < D) :
    HB (((((W.setCell ⟨p2, 0, none⟩ (.int .u64 d0)).setCell ⟨p2, 1, none⟩ (.int .u64 d1)).setCell ⟨p2, 2, none⟩ (.int .u64 d2)).setCell ⟨p2, 3, none⟩ (.int .u64 d3)).drew.putObj D (.deferred none)) p2 t2 #[.int .u64 d0, .int .u64 d1, .int .u64 d2, .int .u64 d3] ∧
    ((((W.setCell ⟨p2, 0, none⟩ (.int .u64 d0)).setCell ⟨p2, 1, none⟩ (.int .u64 d1)).setCell ⟨p2, 2, none⟩ (.int .u64 d2)).setCell ⟨p2, 3, none⟩ (.int .u64 d3)).drew.heap[D]? = some (.deferred (some [])) ∧
    Below w.heap.size w (((((W.setCell ⟨p2, 0, none⟩ (.int .u64 d0)).setCell ⟨p2, 1, none⟩ (.int .u64 d1)).setCell ⟨p2, 2, none⟩ (.int .u64 d2)).setCell ⟨p2, 3, none⟩ (.int .u64 d3)).drew.putObj D (.deferred none)) := by
  have hK' : ((((W.setCell ⟨p2, 0, none⟩ (.int .u64 d0)).setCell ⟨p2, 1, none⟩ (.int .u64 d1)).setCell ⟨p2, 2, none⟩ (.int .u64 d2)).setCell ⟨p2, 3, none⟩ (.int .u64 d3)).drew.heap[D]? = some (.deferred (some [])) := by
    have n : D ≠ p2 := by omega
    refine ((Below.heap_setCell _ _ _ D n).trans ((Below.heap_setCell _ _ _ D n).trans ((Below.heap_setCell _ _ _ D n).trans (Below.heap_setCell _ _ _ D n)))).trans hK
  refine ⟨(World.putObj_heap_other (by omega)).trans ((((g2.set 0 _).set 1 _).set 2 _).set 3 _), hK', ?_⟩
  have hb : Below w.heap.size w ((((W.setCell ⟨p2, 0, none⟩ (.int .u64 d0)).setCell ⟨p2, 1, none⟩ (.int .u64 d1)).setCell ⟨p2, 2, none⟩ (.int .u64 d2)).setCell ⟨p2, 3, none⟩ (.int .u64 d3)).drew :=
    ((((hB.setCell (p := ⟨p2, 0, none⟩) hp _).setCell (p := ⟨p2, 1, none⟩) hp _).setCell (p := ⟨p2, 2, none⟩) hp _).setCell (p := ⟨p2, 3, none⟩) hp _).drew
  exact hb.trans (belowK_b (w := w) (Nat.le_refl _) _ D _ _ (by omega) hK' rfl rfl)

theorem fin4 (x : Fin 4) : x = 0 ∨ x = 1 ∨ x = 2 ∨ x = 3 := by revert x; decide

end Go.Proofs.YtbcjboaihahemaaGreatDoor

/-
  Contracts of the program's package wide.
-/
set_option linter.unusedVariables false
namespace Go.Proofs.YtbcjboaihahemaaGreatDoor
open Go.RowKit

theorem wstore {a w : World} {p : Nat} {x0 x1 x2 x3 : Int} (d0 d1 d2 d3 : Int) (x : WBox w p x0 x1 x2 x3) (f : WFree w p) (kb : Below a.heap.size a w) (hp : a.heap.size ≤ p) :
    WBox ((((w.setCell ⟨p, 0, none⟩ (.int .u64 d0)).setCell ⟨p, 1, none⟩ (.int .u64 d1)).setCell ⟨p, 2, none⟩ (.int .u64 d2)).setCell ⟨p, 3, none⟩ (.int .u64 d3)) p d0 d1 d2 d3 ∧
    Below a.heap.size a ((((w.setCell ⟨p, 0, none⟩ (.int .u64 d0)).setCell ⟨p, 1, none⟩ (.int .u64 d1)).setCell ⟨p, 2, none⟩ (.int .u64 d2)).setCell ⟨p, 3, none⟩ (.int .u64 d3)) :=
  ⟨(((x.set0 d0).set1 d1).set2 d2).set3 d3, (((kb.setCell (p := ⟨p, 0, none⟩) hp _).setCell (p := ⟨p, 1, none⟩) hp _).setCell (p := ⟨p, 2, none⟩) hp _).setCell (p := ⟨p, 3, none⟩) hp _⟩

set_option maxHeartbeats 1000000 in
theorem high_any (a0 a1 a2 a3 : Int) (w : World) :
    Calls Tryz.prog 108 #[.agg #[.int .u64 a0, .int .u64 a1, .int .u64 a2, .int .u64 a3]] w fun e w' => e = .returned (.agg #[.int .u64 a3, .int .u64 a2]) ∧ Below w.heap.size w w' := by
  go_enter Tryz.func108, Tryz.ntmps108
  go_wp2_with fail
  refine bodyPost_ret (v := .agg #[.int .u64 a3, .int .u64 a2]) (by simp [results, Tryz.results108, go_sem]) rfl ⟨rfl, ?_⟩
  first | exact (bA (bA (Below.refl _ _) _) _) | simp [go_sem]; fail

set_option maxHeartbeats 1000000 in
theorem low_any (a0 a1 a2 a3 : Int) (w : World) :
    Calls Tryz.prog 109 #[.agg #[.int .u64 a0, .int .u64 a1, .int .u64 a2, .int .u64 a3]] w fun e w' => e = .returned (.agg #[.int .u64 a1, .int .u64 a0]) ∧ Below w.heap.size w w' := by
  go_enter Tryz.func109, Tryz.ntmps109
  go_wp2_with fail
  refine bodyPost_ret (v := .agg #[.int .u64 a1, .int .u64 a0]) (by simp [results, Tryz.results109, go_sem]) rfl ⟨rfl, ?_⟩
  first | exact (bA (bA (Below.refl _ _) _) _) | simp [go_sem]; fail

set_option maxHeartbeats 1000000 in
theorem join_any (ah al bh bl : Int) (w : World) :
    Calls Tryz.prog 32 #[.agg #[.int .u64 ah, .int .u64 al], .agg #[.int .u64 bh, .int .u64 bl]] w fun e w' => e = .returned (.agg #[.int .u64 bl, .int .u64 bh, .int .u64 al, .int .u64 ah]) ∧ Below w.heap.size w w' := by
  go_enter Tryz.func32, Tryz.ntmps32
  go_wp2_with fail
  refine bodyPost_ret (v := .agg #[.int .u64 bl, .int .u64 bh, .int .u64 al, .int .u64 ah]) (by simp [results, Tryz.results32, go_sem]) rfl ⟨rfl, ?_⟩
  first | exact (bA (bA (bA (Below.refl _ _) _) _) _) | simp [go_sem]; fail

end Go.Proofs.YtbcjboaihahemaaGreatDoor

/-
  Contracts of the program's wide.Of, Zero, Cmp.
-/
set_option linter.unusedVariables false
namespace Go.Proofs.YtbcjboaihahemaaGreatDoor
open Go.RowKit
attribute [local go_sem ↓] Go.wp_at_zero Go.wp_at_succ

set_option maxHeartbeats 1000000 in
theorem eql_wide (a0 a1 a2 a3 b0 b1 b2 b3 : Int) (w : World) : (binOp .eql 28 (.agg #[.int .u64 a0, .int .u64 a1, .int .u64 a2, .int .u64 a3]) (.agg #[.int .u64 b0, .int .u64 b1, .int .u64 b2, .int .u64 b3])).run Tryz.prog w = .ok (.bool (decide (a0 = b0 ∧ a1 = b1 ∧ a2 = b2 ∧ a3 = b3))) w := by
  have hi0 : (Tryz.prog.info? 26).isSome = true := by kernel_rfl
  obtain ⟨i, hi⟩ := Option.isSome_iff_exists.1 hi0
  have hc : Tryz.prog.cellsOf 26 = 1 := by kernel_rfl
  rw [run_eql_struct, run_equalIn_array _ 9999 _ _ Tryz.underlying28 hi, hc]
  rw [show List.range 4 = [0, 1, 2, 3] from rfl]
  by_cases h0 : a0 = b0
  · subst h0
    by_cases h1 : a1 = b1
    · subst h1
      by_cases h2 : a2 = b2
      · subst h2
        by_cases h3 : a3 = b3
        · subst h3
          simp [Op.eqItems, go_sem]
        · simp [Op.eqItems, go_sem, h3]
      · simp [Op.eqItems, go_sem, h2]
    · simp [Op.eqItems, go_sem, h1]
  · simp [Op.eqItems, go_sem, h0]
theorem eql_bits (a b c d : Int) (w : World) : (binOp .eql 30 (.agg #[.int .u64 a, .int .u64 b]) (.agg #[.int .u64 c, .int .u64 d])).run Tryz.prog w = .ok (.bool (decide (a = c ∧ b = d))) w := by
  by_cases h1 : a = c
  · subst h1
    by_cases h2 : b = d
    · subst h2
      go_simp
    · go_simp
  · go_simp

theorem held8B {a W w' : World} {a1 a2 a3 a4 a5 a6 a7 a8 : Addr} {v1 v2 v3 v4 v5 v6 v7 v8 : Value} (hb : Below W.heap.size W w') (h : W.cell? a1 = some v1 ∧ W.cell? a2 = some v2 ∧ W.cell? a3 = some v3 ∧ W.cell? a4 = some v4 ∧ W.cell? a5 = some v5 ∧ W.cell? a6 = some v6 ∧ W.cell? a7 = some v7 ∧ W.cell? a8 = some v8 ∧ Below a.heap.size a W) :
    w'.cell? a1 = some v1 ∧ w'.cell? a2 = some v2 ∧ w'.cell? a3 = some v3 ∧ w'.cell? a4 = some v4 ∧ w'.cell? a5 = some v5 ∧ w'.cell? a6 = some v6 ∧ w'.cell? a7 = some v7 ∧ w'.cell? a8 = some v8 ∧ Below a.heap.size a w' :=
  ⟨cell_later hb h.1, cell_later hb h.2.1, cell_later hb h.2.2.1, cell_later hb h.2.2.2.1, cell_later hb h.2.2.2.2.1, cell_later hb h.2.2.2.2.2.1, cell_later hb h.2.2.2.2.2.2.1, cell_later hb h.2.2.2.2.2.2.2.1, bC h.2.2.2.2.2.2.2.2 hb⟩
theorem wboxes2 (w : World) (a0 a1 a2 a3 b0 b1 b2 b3 : Int) (t : TypeId) :
    WBox ((w.alloc (wbx a0 a1 a2 a3 t)).alloc (wbx b0 b1 b2 b3 t)) w.heap.size a0 a1 a2 a3 ∧ WBox ((w.alloc (wbx a0 a1 a2 a3 t)).alloc (wbx b0 b1 b2 b3 t)) (w.heap.size + 1) b0 b1 b2 b3 ∧
    Below w.heap.size w ((w.alloc (wbx a0 a1 a2 a3 t)).alloc (wbx b0 b1 b2 b3 t)) :=
  ⟨(WBox.new w a0 a1 a2 a3 t).alloc _, WBox.newAt (by simp) b0 b1 b2 b3 t, bA (bA (Below.refl _ _) _) _⟩

set_option maxHeartbeats 1000000 in
theorem wzero_any (a0 a1 a2 a3 : Int) (ua0 : U64 a0) (ua1 : U64 a1) (ua2 : U64 a2) (ua3 : U64 a3) (w : World) :
    Calls Tryz.prog 17 #[.agg #[.int .u64 a0, .int .u64 a1, .int .u64 a2, .int .u64 a3]] w fun e w' => e = .returned (.bool (wval a0 a1 a2 a3 == 0)) ∧ Below w.heap.size w w' := by
  have hz : decide (a0 = 0 ∧ a1 = 0 ∧ a2 = 0 ∧ a3 = 0) = (wval a0 a1 a2 a3 == 0) := by
    unfold U64 at ua0 ua1 ua2 ua3
    rw [Bool.eq_iff_iff]; simp only [decide_eq_true_eq, beq_iff_eq]; unfold wval; omega
  generalize (wval a0 a1 a2 a3 == 0) = r at *
  have hE : ∀ w, (binOp .eql 28 (.agg #[.int .u64 a0, .int .u64 a1, .int .u64 a2, .int .u64 a3]) (.agg #[.int .u64 0, .int .u64 0, .int .u64 0, .int .u64 0])).run Tryz.prog w = .ok (.bool r) w := fun w => by rw [eql_wide, hz]
  clear hz ua0 ua1 ua2 ua3
  go_enter Tryz.func17, Tryz.ntmps17
  go_wp2
  go_ret
  exact ⟨rfl, bA (Below.refl _ _) _⟩

end Go.Proofs.YtbcjboaihahemaaGreatDoor

/-
  The contract of the program's wide.Mul.
-/
set_option linter.unusedVariables false
namespace Go.Proofs.YtbcjboaihahemaaGreatDoor
open Go.RowKit
attribute [local go_sem ↓] Go.wp_at_zero Go.wp_at_succ

/-- What lies at the head of a statement of Mul. -/
def MulAt (w wx : World) (ah al bh bl : Int) : Prop :=
  Box wx w.heap.size ah al ∧ Box wx (w.heap.size + 1) bh bl ∧ WBox wx (w.heap.size + 1 + 1) 0 0 0 0 ∧ WFree wx (w.heap.size + 1 + 1) ∧ Below w.heap.size w wx
theorem MulAt.later {w wx w' : World} {ah al bh bl : Int} (h : MulAt w wx ah al bh bl) (hb : Below wx.heap.size wx w') : MulAt w w' ah al bh bl :=
  ⟨h.1.later hb, h.2.1.later hb, h.2.2.1.later hb, h.2.2.2.1.later h.2.2.1.1 hb, bC h.2.2.2.2 hb⟩
theorem mulAt_new (w : World) (ah al bh bl : Int) : MulAt w (((w.alloc (bx ah al 30)).alloc (bx bh bl 30)).alloc (wbx 0 0 0 0 28)) ah al bh bl :=
  ⟨((Box.new w ah al _).alloc _).alloc _, (Box.newAt (by simp) bh bl _).alloc _, WBox.newAt (by simp) 0 0 0 0 _, by have h := WFree.new ((w.alloc (bx ah al 30)).alloc (bx bh bl 30)) 0 0 0 0 28; simpa using h, bA (bA (bA (Below.refl _ _) _) _) _⟩

theorem Box.set4 {w : World} {b p : Nat} {h l : Int} (x : Box w b h l) (hne : p ≠ b) (d0 d1 d2 d3 : Int) : Box (set4 w p d0 d1 d2 d3) b h l := by
  obtain ⟨x0, x1, x2⟩ := x
  refine ⟨by simpa using x0, ?_, ?_⟩
  · exact (World.cell?_setCell_far _ _ _ _ hne).trans ((World.cell?_setCell_far _ _ _ _ hne).trans ((World.cell?_setCell_far _ _ _ _ hne).trans ((World.cell?_setCell_far _ _ _ _ hne).trans x1)))
  · exact (World.cell?_setCell_far _ _ _ _ hne).trans ((World.cell?_setCell_far _ _ _ _ hne).trans ((World.cell?_setCell_far _ _ _ _ hne).trans ((World.cell?_setCell_far _ _ _ _ hne).trans x2)))
theorem MulAt.store {w wx : World} {ah al bh bl x0 x1 x2 x3 : Int} {p : Nat} (h : MulAt w wx ah al bh bl) (hp : w.heap.size + 1 + 1 < p) (x : WBox wx p x0 x1 x2 x3) (y0 y1 y2 y3 : Int) :
    WBox (set4 wx p y0 y1 y2 y3) p y0 y1 y2 y3 ∧ MulAt w (set4 wx p y0 y1 y2 y3) ah al bh bl :=
  ⟨(((x.set0 y0).set1 y1).set2 y2).set3 y3, h.1.set4 (by omega) _ _ _ _, h.2.1.set4 (by omega) _ _ _ _, h.2.2.1.set4 (by omega) _ _ _ _, (((h.2.2.2.1.set _ _).set _ _).set _ _).set _ _,
    (((h.2.2.2.2.setCell (p := ⟨p, 0, none⟩) (by simp; omega) _).setCell (p := ⟨p, 1, none⟩) (by simp; omega) _).setCell (p := ⟨p, 2, none⟩) (by simp; omega) _).setCell (p := ⟨p, 3, none⟩) (by simp; omega) _⟩

set_option linter.unusedSimpArgs false
theorem wsum_eq {ah al bh bl : Int} (u1 : U64 ah) (u2 : U64 al) (u3 : U64 bh) (u4 : U64 bl) :
    wval (loOf (al * bl)) (hiOf (al * bl)) (loOf (ah * bh)) (hiOf (ah * bh)) + wval 0 (loOf (ah * bl)) (hiOf (ah * bl)) 0 = al * bl + (ah * bh) * 340282366920938463463374607431768211456 + (ah * bl) * 18446744073709551616 := by
  have h1 := mul_small u1 u3; have h2 := mul_small u2 u4; have h3 := mul_small u1 u4
  have e1 := hilo_of (ah * bh) h1.1 (by unfold full; omega); have e2 := hilo_of (al * bl) h2.1 (by unfold full; omega); have e3 := hilo_of (ah * bl) h3.1 (by unfold full; omega)
  generalize hiOf (ah * bh) = a1 at *; generalize loOf (ah * bh) = a2 at *; generalize hiOf (al * bl) = a3 at *; generalize loOf (al * bl) = a4 at *; generalize hiOf (ah * bl) = a5 at *; generalize loOf (ah * bl) = a6 at *
  unfold wval; omega
theorem wprod_sum {ah al bh bl : Int} (u1 : U64 ah) (u2 : U64 al) (u3 : U64 bh) (u4 : U64 bl) (X : Int)
    (hX : X = wval (loOf (al * bl)) (hiOf (al * bl)) (loOf (ah * bh)) (hiOf (ah * bh)) + wval 0 (loOf (ah * bl)) (hiOf (ah * bl)) 0) :
    wval (wd0 X) (wd1 X) (wd2 X) (wd3 X) + wval 0 (loOf (al * bh)) (hiOf (al * bh)) 0 = val ah al * val bh bl := by
  rw [wsum_eq u1 u2 u3 u4] at hX
  have h1 := mul_small u1 u3; have h2 := mul_small u2 u4; have h3 := mul_small u1 u4; have h4 := mul_small u2 u3
  rw [wval_wd (by omega) (by unfold wfull; omega), val_prod]
  have e4 := hilo_of (al * bh) h4.1 (by unfold full; omega)
  generalize hiOf (al * bh) = a5 at *; generalize loOf (al * bh) = a6 at *
  unfold wval; omega

end Go.Proofs.YtbcjboaihahemaaGreatDoor

/-
  Contracts of the program's packages word and wide over whole numbers: digits are those of a number.
-/
set_option linter.unusedVariables false
namespace Go.Proofs.YtbcjboaihahemaaGreatDoor
open Go.RowKit

theorem wd_mod (n : Int) : wd0 (n % wfull) = wd0 n ∧ wd1 (n % wfull) = wd1 n ∧ wd2 (n % wfull) = wd2 n ∧ wd3 (n % wfull) = wd3 n := by
  unfold wd0 wd1 wd2 wd3 wfull; omega
theorem wd_congr {n m : Int} (h : n % wfull = m % wfull) : wd0 n = wd0 m ∧ wd1 n = wd1 m ∧ wd2 n = wd2 m ∧ wd3 n = wd3 m := by
  obtain ⟨h0, h1, h2, h3⟩ := wd_mod n
  obtain ⟨k0, k1, k2, k3⟩ := wd_mod m
  rw [h] at h0 h1 h2 h3
  exact ⟨h0.symm.trans k0, h1.symm.trans k1, h2.symm.trans k2, h3.symm.trans k3⟩
theorem hl_mod (n : Int) : hiOf (n % full) = hiOf n ∧ loOf (n % full) = loOf n := by
  unfold hiOf loOf full; omega
theorem hl_congr {n m : Int} (h : n % full = m % full) : hiOf n = hiOf m ∧ loOf n = loOf m := by
  obtain ⟨h0, h1⟩ := hl_mod n
  obtain ⟨k0, k1⟩ := hl_mod m
  rw [h] at h0 h1
  exact ⟨h0.symm.trans k0, h1.symm.trans k1⟩
theorem val_wd_lo (n : Int) : val (wd1 n) (wd0 n) = n % full := by unfold val wd1 wd0 full; omega
theorem val_wd_hi (n : Int) : val (wd3 n) (wd2 n) = n / full % full := by unfold val wd3 wd2 full; omega
theorem hl_lo (n : Int) : hiOf n = wd1 n ∧ loOf n = wd0 n := by unfold hiOf loOf wd1 wd0; omega
theorem hl_hi (n : Int) : hiOf (n / full) = wd3 n ∧ loOf (n / full) = wd2 n := by unfold hiOf loOf wd3 wd2 full; omega
theorem hl_val {h l : Int} (uh : U64 h) (ul : U64 l) : hiOf (val h l) = h ∧ loOf (val h l) = l := by
  unfold U64 at uh ul; unfold hiOf loOf val; omega
theorem wd_join (n m : Int) : wd0 (n % full * full + m % full) = loOf m ∧ wd1 (n % full * full + m % full) = hiOf m ∧ wd2 (n % full * full + m % full) = loOf n ∧ wd3 (n % full * full + m % full) = hiOf n := by
  unfold wd0 wd1 wd2 wd3 hiOf loOf full; omega
theorem wd_small (n : Int) : wd0 (n % full) = loOf n ∧ wd1 (n % full) = hiOf n ∧ wd2 (n % full) = 0 ∧ wd3 (n % full) = 0 := by
  unfold wd0 wd1 wd2 wd3 hiOf loOf full; omega

theorem wd_add_mod (n m : Int) : wd0 (n % wfull + m % wfull) = wd0 (n + m) ∧ wd1 (n % wfull + m % wfull) = wd1 (n + m) ∧ wd2 (n % wfull + m % wfull) = wd2 (n + m) ∧ wd3 (n % wfull + m % wfull) = wd3 (n + m) := wd_congr (by rw [← Int.add_emod])
theorem wd_sub_mod (n m : Int) : wd0 (n % wfull - m % wfull) = wd0 (n - m) ∧ wd1 (n % wfull - m % wfull) = wd1 (n - m) ∧ wd2 (n % wfull - m % wfull) = wd2 (n - m) ∧ wd3 (n % wfull - m % wfull) = wd3 (n - m) := wd_congr (by rw [← Int.sub_emod])

theorem zeroW (n : Int) (w : World) : Calls Tryz.prog 17 #[.agg #[.int .u64 (wd0 n), .int .u64 (wd1 n), .int .u64 (wd2 n), .int .u64 (wd3 n)]] w fun e w' =>
    e = .returned (.bool (n % wfull == 0)) ∧ Below w.heap.size w w' :=
  (wzero_any _ _ _ _ (wd0_u n) (wd1_u n) (wd2_u n) (wd3_u n) w).mono fun e w' ⟨he, hb⟩ => ⟨he.trans (by rw [wval_wd_mod]), hb⟩
theorem highW (n : Int) (w : World) : Calls Tryz.prog 108 #[.agg #[.int .u64 (wd0 n), .int .u64 (wd1 n), .int .u64 (wd2 n), .int .u64 (wd3 n)]] w fun e w' =>
    e = .returned (.agg #[.int .u64 (hiOf (n / full)), .int .u64 (loOf (n / full))]) ∧ Below w.heap.size w w' :=
  (high_any _ _ _ _ w).mono fun e w' ⟨he, hb⟩ => ⟨he.trans (by rw [(hl_hi n).1, (hl_hi n).2]), hb⟩
theorem lowW (n : Int) (w : World) : Calls Tryz.prog 109 #[.agg #[.int .u64 (wd0 n), .int .u64 (wd1 n), .int .u64 (wd2 n), .int .u64 (wd3 n)]] w fun e w' =>
    e = .returned (.agg #[.int .u64 (hiOf n), .int .u64 (loOf n)]) ∧ Below w.heap.size w w' :=
  (low_any _ _ _ _ w).mono fun e w' ⟨he, hb⟩ => ⟨he.trans (by rw [(hl_lo n).1, (hl_lo n).2]), hb⟩
theorem joinW (n m : Int) (w : World) : Calls Tryz.prog 32 #[.agg #[.int .u64 (hiOf n), .int .u64 (loOf n)], .agg #[.int .u64 (hiOf m), .int .u64 (loOf m)]] w fun e w' =>
    e = .returned (.agg #[.int .u64 (wd0 (n % full * full + m % full)), .int .u64 (wd1 (n % full * full + m % full)), .int .u64 (wd2 (n % full * full + m % full)), .int .u64 (wd3 (n % full * full + m % full))]) ∧ Below w.heap.size w w' :=
  (join_any _ _ _ _ w).mono fun e w' ⟨he, hb⟩ => ⟨he.trans (by
    obtain ⟨h0, h1, h2, h3⟩ := wd_join n m
    rw [h0, h1, h2, h3]), hb⟩
theorem addB (n m : Int) (w : World) : Calls Tryz.prog 96 #[.agg #[.int .u64 (hiOf n), .int .u64 (loOf n)], .agg #[.int .u64 (hiOf m), .int .u64 (loOf m)]] w fun e w' =>
    e = .returned (.tuple #[.agg #[.int .u64 (hiOf (n + m)), .int .u64 (loOf (n + m))], .bool (decide (full ≤ n % full + m % full))]) ∧ Below w.heap.size w w' :=
  (add_any _ _ _ _ (hiOf_u n) (loOf_u n) (hiOf_u m) (loOf_u m) w).mono fun e w' ⟨he, hb⟩ => ⟨he.trans (by
    rw [val_hiLo_mod, val_hiLo_mod]
    obtain ⟨h0, h1⟩ := hl_congr (n := n % full + m % full) (m := n + m) (by rw [← Int.add_emod])
    rw [h0, h1]), hb⟩
theorem zeroB (n : Int) (w : World) : Calls Tryz.prog 74 #[.agg #[.int .u64 (hiOf n), .int .u64 (loOf n)]] w fun e w' =>
    e = .returned (.bool (n % full == 0)) ∧ Below w.heap.size w w' :=
  (zero_any _ _ (hiOf_u n) (loOf_u n) w).mono fun e w' ⟨he, hb⟩ => ⟨he.trans (by rw [val_hiLo_mod]), hb⟩

end Go.Proofs.YtbcjboaihahemaaGreatDoor
