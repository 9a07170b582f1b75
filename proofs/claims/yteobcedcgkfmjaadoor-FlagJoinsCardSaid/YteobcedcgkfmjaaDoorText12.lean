/-
  The document's Names; texts: contracts.
-/
import Derived.Test.YteobcedcgkfmjaaDoorRef12
import Derived.Deep.QuietTactic
import Derived.BigQuiet
import Derived.WalkSmall
import Derived.Laws.OwnMore
import Derived.Laws.AppendOwnNone
import Derived.Deep.AppendLies
set_option linter.unusedVariables false
set_option linter.unusedSimpArgs false
set_option maxRecDepth 100000
namespace Go.Proofs.YteobcedcgkfmjaaDoor
open Go.RowKit
attribute [local go_sem ↓] Go.wp_at_zero Go.wp_at_succ

theorem below_n {B : Nat} {w W : World} (h : Below B w W) (n : Nat) : Below B w (W.drewN n) := ⟨h.os, h.tape, h.output, h.size, h.block⟩
theorem nm_eq : ∀ x y : Fin 5, ((nmB x).toList == (nmB y).toList) = decide (x = y) := by decide +kernel
theorem take_eq_succ {xs ys : List (Fin 5)} {k : Nat} (hx : k < xs.length) (hy : k < ys.length) (h : xs.take k = ys.take k) : xs.take (k + 1) = ys.take (k + 1) ↔ xs.getD k 0 = ys.getD k 0 := by
  rw [List.take_add_one, List.take_add_one, h, List.getElem?_eq_getElem hx, List.getElem?_eq_getElem hy, List.getD_eq_getElem?_getD, List.getD_eq_getElem?_getD, List.getElem?_eq_getElem hx, List.getElem?_eq_getElem hy]
  simp only [Option.toList, List.append_cancel_left_eq, List.cons.injEq, and_true, Option.getD_some]

set_option maxRecDepth 100000 in
set_option maxHeartbeats 4000000 in
theorem texts_any (ao bo : Option Addr) (n cap m cbp : Nat) (xs ys : List (Fin 5)) (w : World) (x : Ss w ao n cap xs) (y : Ss w bo m cbp ys) :
    Calls Tryd.prog 12 #[.slice ao n cap, .slice bo m cbp] w fun e w' => e = .returned (.bool (decide (xs = ys))) ∧ Below w.heap.size w w' := by
  have HX := Lib.hid x; have HY := Lib.hid y
  obtain ⟨r, hr⟩ : ∃ r, decide (xs = ys) = r := ⟨_, rfl⟩
  rw [hr]
  have hn : n = xs.length := x.1
  have hm : m = ys.length := y.1
  have HN := Lib.hid x.2.1
  clear x y
  by_cases hnm : n = m
  · subst hnm
    have HR := Lib.hid (And.intro hr (And.intro hn hm))
    have g0 : (((n : Nat) : Int) == ((n : Nat) : Int)) = true := by simp
    clear hr hn hm
    go_enter Tryd.func12, Tryd.ntmps12
    go_wp2_with fail
    go_loopw [5] (fun i wr => ∃ k : Nat, k ≤ n ∧ i = .int .i64 k ∧ xs.take k = ys.take k ∧ Below w.heap.size w wr) (fun i _ => n - (intOf i).toNat)
    case atStart => exact ⟨0, by omega, rfl, rfl, Below.refl _ _⟩
    case round =>
      obtain ⟨k, hk, rfl, hp, hb⟩ := hrel
      by_cases hlt : k < n
      · obtain ⟨a, hao, c0⟩ := (HX.out.later hb).2.2 k hlt
        obtain ⟨b, hbo, c1⟩ := (HY.out.later hb).2.2 k hlt
        subst hao; subst hbo
        have ts := take_eq_succ (xs := xs) (ys := ys) (k := k) (by have := HR.out.2.1; omega) (by have := HR.out.2.2; omega) hp
        have ne := nm_eq (xs.getD k 0) (ys.getD k 0)
        have gk : decide ((k : Int) < (n : Int)) = true := by simp; omega
        have gk' : decide (k < n) = true := by simp; omega
        have inc : IntKind.i64.wrap ((k : Int) + 1) = ((k + 1 : Nat) : Int) := by have := HN.out; rw [IntKind.wrap_i64]; omega
        have HB := Lib.hid hb
        have hlt2 : (k : Int) < (n : Int) := by omega
        have hk0 : (0 : Int) ≤ (k : Int) := by omega
        by_cases hxy : xs.getD k 0 = ys.getD k 0
        · have TS := Lib.hid (ts.2 hxy)
          rw [hxy, decide_eq_true rfl] at ne
          rw [hxy] at c0
          obtain ⟨u, hu⟩ : ∃ u, nmB (ys.getD k 0) = u := ⟨_, rfl⟩
          rw [hu] at c0 c1 ne
          clear ts hb hp hu hxy
          go_wp2_with fail
          go_quiet (fail)
          go_wp2_with fail
          go_roundw
          case rel => exact ⟨k + 1, by omega, by first | trivial | go_num, TS.out, by first | exact HB.out | exact below_n HB.out _⟩
          case measure => simp [intOf]; omega
        · have rf : r = false := by
            rw [← HR.out.1, decide_eq_false_iff_not]
            intro h
            exact hxy (by rw [h])
          rw [decide_eq_false hxy] at ne
          obtain ⟨u, hu⟩ : ∃ u, nmB (xs.getD k 0) = u := ⟨_, rfl⟩
          obtain ⟨v, hv⟩ : ∃ v, nmB (ys.getD k 0) = v := ⟨_, rfl⟩
          rw [hu] at c0 ne
          rw [hv] at c1 ne
          subst rf
          clear ts hb hp hu hv hxy
          go_wp2_with fail
          go_quiet (fail)
          go_wp2_with fail
          go_ret
          exact ⟨rfl, by first | exact HB.out | exact below_n HB.out _⟩
      · have gk : decide ((k : Int) < (n : Int)) = false := by simp; omega
        have gk' : decide (k < n) = false := by simp; omega
        have hkn : k = n := by omega
        have rt : r = true := by
          rw [← HR.out.1, decide_eq_true_eq]
          rw [hkn] at hp
          rw [List.take_of_length_le (by have := HR.out.2.1; omega), List.take_of_length_le (by have := HR.out.2.2; omega)] at hp
          exact hp
        subst rt
        have HB := Lib.hid hb
        clear hp hb
        go_wp2_with fail
        go_ret
        exact ⟨rfl, HB.out⟩
  · have rf : r = false := by
      rw [← hr, decide_eq_false_iff_not]
      intro h
      exact hnm (by rw [hn, hm, h])
    subst rf
    have g0 : (((n : Nat) : Int) == ((m : Nat) : Int)) = false := by rw [beq_eq_false_iff_ne]; omega
    clear hr hn hm
    go_enter Tryd.func12, Tryd.ntmps12
    go_wp2_with fail
    go_ret
    exact ⟨rfl, Below.refl _ _⟩

set_option maxRecDepth 100000 in
set_option maxHeartbeats 4000000 in
theorem ref12_names (s : Nat) (hs : s < 256) (w : World) :
    Calls Tryd.prog 14 #[.int .u8 (s : Int)] w (NamesRet s w) := by
  obtain ⟨i0, hi, hz0, hz1, hz2⟩ := info_parts infoS
  have HS := Lib.hid hs
  clear hs
  go_enter Tryd.func14, Tryd.ntmps14
  go_wp2_with fail
  go_loopw [4, 5] (fun v i wr => ∃ j : Nat, j ≤ 5 ∧ i = .int .i64 j ∧ wr.ownsRow (w.heap.size + 1) 9 1 v (upS s j).length (nmV (upS s j)) ∧ HB wr w.heap.size 9 #[.string (nmB 0), .string (nmB 1), .string (nmB 2), .string (nmB 3), .string (nmB 4)] ∧ Below w.heap.size w wr) (fun _ i _ => 5 - (intOf i).toNat)
  case atStart => exact ⟨0, by omega, rfl, World.ownsRow_nil _ _ _ _, HB.new w _ _, bA (Below.refl _ _) _⟩
  case round =>
    obtain ⟨j, hj, rfl, hrow, hH, hB⟩ := hrel
    have lH := hH.lt
    by_cases hj5 : j = 5
    · subst hj5
      have hl5 : (namesN s).length ≤ 5 := upS_length s 5
      obtain ⟨ao, cap, rfl, hS⟩ := Ss.ofOwn hrow (by have := upS_length s 5; omega)
      have KY := Lib.hid (And.intro hS hB)
      clear hrow hH hB hS
      go_wp2_with fail
      exact bodyPost_ret (results_tmp rfl _ _ _) rfl ⟨ao, cap, rfl, KY.out.1, KY.out.2⟩
    · have RB := Lib.hid (ref12_bit s j HS.out (by omega))
      have inc : IntKind.i64.wrap ((j : Int) + 1) = ((j + 1 : Nat) : Int) := by rw [IntKind.wrap_i64]; omega
      have eU : upS s (j + 1) = if s.testBit j then upS s j ++ [Fin.ofNat 5 j] else upS s j := rfl
      have c0 := hH.cell 0; have c1 := hH.cell 1; have c2 := hH.cell 2; have c3 := hH.cell 3; have c4 := hH.cell 4
      dsimp at c0 c1 c2 c3 c4
      have hul := upS_length s j
      cases ht : s.testBit j
      · rw [ht] at RB eU
        simp only [Bool.false_eq_true, if_false] at eU
        have KY := Lib.hid (And.intro hrow (And.intro hH hB))
        have EU := Lib.hid eU
        clear hrow hH hB ht eU c0 c1 c2 c3 c4 hul
        obtain rfl | rfl | rfl | rfl | rfl : j = 0 ∨ j = 1 ∨ j = 2 ∨ j = 3 ∨ j = 4 := by omega
        all_goals
          go_wp2_with fail
          refine (RB.out _).mono ?_; rintro e w1 ⟨rfl, rfl⟩
          go_wp2_with fail
          go_roundw
          case rel => exact ⟨_, by decide, rfl, EU.out ▸ KY.out.1, KY.out.2.1, KY.out.2.2⟩
          case measure => simp [intOf]
      · rw [ht] at RB eU
        simp only [if_true] at eU
        have en : nmV (upS s (j + 1)) = nmV (upS s j) ++ [.string (nmB (Fin.ofNat 5 j))] := by rw [eU]; simp [nmV]
        have el : (upS s (j + 1)).length = (upS s j).length + 1 := by rw [eU]; simp
        have EN := Lib.hid (And.intro en el)
        clear ht eU en el
        obtain rfl | rfl | rfl | rfl | rfl : j = 0 ∨ j = 1 ∨ j = 2 ∨ j = 3 ∨ j = 4 := by omega
        · go_wp2_with fail
          refine (RB.out _).mono ?_; rintro e w1 ⟨rfl, rfl⟩
          go_wp2_with (at_builtin; refine wpList_append_own _ rfl _ _ 28 rfl (w.heap.size + 1) 9 i0 (.string ⟨#[]⟩) 1 16 Tryd.underlying28 hi hz0 hz1 hz2 rfl (by decide) _ _ _ rfl (hrow.alloc _) ⟨w1.heap.size, 0, none⟩ 1 1 [.string (nmB 0)] rfl rfl (cell_one_new _ _ _) (by simp [Value.oneCell']) (by unfold maxLen; omega) (by omega) (by simp; omega) ?_; intro v' w2 hown' hgrow _; obtain ⟨g', cap', rfl⟩ := ownsRow_succ hown'; have hH2 := HB.kept (hH.alloc _) hgrow (fun e => by have := (hrow.lt _ e.symm).1; omega); have hB2 := ((bA hB _).grown hgrow (by have := hB.size; simp; omega) (fun j ej => by have := (hrow.lt _ ej).1; omega)))
          go_roundw
          case rel => exact ⟨_, by decide, rfl, by rw [EN.out.1, EN.out.2]; exact hown', hH2, hB2⟩
          case measure => simp [intOf]
        · go_wp2_with fail
          refine (RB.out _).mono ?_; rintro e w1 ⟨rfl, rfl⟩
          go_wp2_with (at_builtin; refine wpList_append_own _ rfl _ _ 28 rfl (w.heap.size + 1) 9 i0 (.string ⟨#[]⟩) 1 16 Tryd.underlying28 hi hz0 hz1 hz2 rfl (by decide) _ _ _ rfl (hrow.alloc _) ⟨w1.heap.size, 0, none⟩ 1 1 [.string (nmB 1)] rfl rfl (cell_one_new _ _ _) (by simp [Value.oneCell']) (by unfold maxLen; omega) (by omega) (by simp; omega) ?_; intro v' w2 hown' hgrow _; obtain ⟨g', cap', rfl⟩ := ownsRow_succ hown'; have hH2 := HB.kept (hH.alloc _) hgrow (fun e => by have := (hrow.lt _ e.symm).1; omega); have hB2 := ((bA hB _).grown hgrow (by have := hB.size; simp; omega) (fun j ej => by have := (hrow.lt _ ej).1; omega)))
          go_roundw
          case rel => exact ⟨_, by decide, rfl, by rw [EN.out.1, EN.out.2]; exact hown', hH2, hB2⟩
          case measure => simp [intOf]
        · go_wp2_with fail
          refine (RB.out _).mono ?_; rintro e w1 ⟨rfl, rfl⟩
          go_wp2_with (at_builtin; refine wpList_append_own _ rfl _ _ 28 rfl (w.heap.size + 1) 9 i0 (.string ⟨#[]⟩) 1 16 Tryd.underlying28 hi hz0 hz1 hz2 rfl (by decide) _ _ _ rfl (hrow.alloc _) ⟨w1.heap.size, 0, none⟩ 1 1 [.string (nmB 2)] rfl rfl (cell_one_new _ _ _) (by simp [Value.oneCell']) (by unfold maxLen; omega) (by omega) (by simp; omega) ?_; intro v' w2 hown' hgrow _; obtain ⟨g', cap', rfl⟩ := ownsRow_succ hown'; have hH2 := HB.kept (hH.alloc _) hgrow (fun e => by have := (hrow.lt _ e.symm).1; omega); have hB2 := ((bA hB _).grown hgrow (by have := hB.size; simp; omega) (fun j ej => by have := (hrow.lt _ ej).1; omega)))
          go_roundw
          case rel => exact ⟨_, by decide, rfl, by rw [EN.out.1, EN.out.2]; exact hown', hH2, hB2⟩
          case measure => simp [intOf]
        · go_wp2_with fail
          refine (RB.out _).mono ?_; rintro e w1 ⟨rfl, rfl⟩
          go_wp2_with (at_builtin; refine wpList_append_own _ rfl _ _ 28 rfl (w.heap.size + 1) 9 i0 (.string ⟨#[]⟩) 1 16 Tryd.underlying28 hi hz0 hz1 hz2 rfl (by decide) _ _ _ rfl (hrow.alloc _) ⟨w1.heap.size, 0, none⟩ 1 1 [.string (nmB 3)] rfl rfl (cell_one_new _ _ _) (by simp [Value.oneCell']) (by unfold maxLen; omega) (by omega) (by simp; omega) ?_; intro v' w2 hown' hgrow _; obtain ⟨g', cap', rfl⟩ := ownsRow_succ hown'; have hH2 := HB.kept (hH.alloc _) hgrow (fun e => by have := (hrow.lt _ e.symm).1; omega); have hB2 := ((bA hB _).grown hgrow (by have := hB.size; simp; omega) (fun j ej => by have := (hrow.lt _ ej).1; omega)))
          go_roundw
          case rel => exact ⟨_, by decide, rfl, by rw [EN.out.1, EN.out.2]; exact hown', hH2, hB2⟩
          case measure => simp [intOf]
        · go_wp2_with fail
          refine (RB.out _).mono ?_; rintro e w1 ⟨rfl, rfl⟩
          go_wp2_with (at_builtin; refine wpList_append_own _ rfl _ _ 28 rfl (w.heap.size + 1) 9 i0 (.string ⟨#[]⟩) 1 16 Tryd.underlying28 hi hz0 hz1 hz2 rfl (by decide) _ _ _ rfl (hrow.alloc _) ⟨w1.heap.size, 0, none⟩ 1 1 [.string (nmB 4)] rfl rfl (cell_one_new _ _ _) (by simp [Value.oneCell']) (by unfold maxLen; omega) (by omega) (by simp; omega) ?_; intro v' w2 hown' hgrow _; obtain ⟨g', cap', rfl⟩ := ownsRow_succ hown'; have hH2 := HB.kept (hH.alloc _) hgrow (fun e => by have := (hrow.lt _ e.symm).1; omega); have hB2 := ((bA hB _).grown hgrow (by have := hB.size; simp; omega) (fun j ej => by have := (hrow.lt _ ej).1; omega)))
          go_roundw
          case rel => exact ⟨_, by decide, rfl, by rw [EN.out.1, EN.out.2]; exact hown', hH2, hB2⟩
          case measure => simp [intOf]

end Go.Proofs.YteobcedcgkfmjaaDoor
