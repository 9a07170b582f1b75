/-
  Contracts of package quot, over numbers, of what may not be; and of examples.
-/
import Derived.Test.YtlmgebanfjclcaaQuotN
import Derived.Test.YtlmgebanfjclcaaQuotO
import Derived.Test.YtlmgebanfjclcaaQuotV
set_option linter.unusedVariables false
set_option linter.unusedSimpArgs false
set_option maxRecDepth 100000
namespace Go.Proofs.Ytlmgebanfjclcaa
open Go.RowKit Go.Shelf
attribute [local go_sem] Oper.semAt_some

set_option maxRecDepth 100000 in
set_option maxHeartbeats 4000000 in
theorem divQ_no (n0 n1 n2 n3 : Int) (w : World) :
    Calls Try.prog 10 #[.agg #[.int .u64 n0, .int .u64 n1, .int .u64 n2, .int .u64 n3], .agg #[.int .u64 0, .int .u64 0]] w fun e w' =>
      e = .returned (.tuple #[.agg #[.int .u64 0, .int .u64 0, .int .u64 0, .int .u64 0], .agg #[.int .u64 0, .int .u64 0], .bool false]) ∧ Below w.heap.size w w' := by
  refine (callsIn_wide (n := 3)).1 ?_
  refine callsIn_of_wp_marks Try.func10 rfl trivial ?_ rfl
  simp only [Try.ntmps10, List.size_toArray, List.length_cons, List.length_nil, Nat.reduceAdd, Nat.reduceSub, Array.replicate_succ, Array.replicate_zero, List.push_toArray, List.append_toArray, List.nil_append, List.cons_append]
  gi_wp2
  refine ⟨trivial, (callsIn_wide.2 (zeroB 0 _)).mono ?_⟩
  rintro e w1 ⟨rfl, hb⟩
  rw [show ((0 : Int) % full == 0) = true from rfl]
  have kk := bC (bA (bA (bA (bA (Below.refl _ _) _) _) _) _) hb
  have xq : HB w1 (w.heap.size + 1 + 1) 24 #[.int .u64 0, .int .u64 0, .int .u64 0, .int .u64 0] := ((HB.newAt (by simp) _ _).alloc _).later hb
  have xr : HB w1 (w.heap.size + 1 + 1 + 1) 26 #[.int .u64 0, .int .u64 0] := (HB.newAt (by simp) _ _).later hb
  have y0 := xq.cell 0; have y1 := xq.cell 1; have y2 := xq.cell 2; have y3 := xq.cell 3; have z0 := xr.cell 0; have z1 := xr.cell 1
  have v0 := xq.frozen 0; have v1 := xq.frozen 1; have v2 := xq.frozen 2; have v3 := xq.frozen 3; have t0 := xr.frozen 0; have t1 := xr.frozen 1
  dsimp at y0 y1 y2 y3 z0 z1
  have a2 : w.heap.size ≤ w.heap.size + 1 + 1 := by omega
  have a3 : w.heap.size ≤ w.heap.size + 1 + 1 + 1 := by omega
  have n23 : w.heap.size + 1 + 1 ≠ w.heap.size + 1 + 1 + 1 := by omega
  have KEY := Lib.hid (And.intro ((((((xq.set 0 (.int .u64 0)).set 1 (.int .u64 0)).set 2 (.int .u64 0)).set 3 (.int .u64 0)).other n23 0 (.int .u64 0)).other n23 1 (.int .u64 0)) (And.intro ((((((xr.other n23.symm 0 (.int .u64 0)).other n23.symm 1 (.int .u64 0)).other n23.symm 2 (.int .u64 0)).other n23.symm 3 (.int .u64 0)).set 0 (.int .u64 0)).set 1 (.int .u64 0))
    ((((((kk.setCell (p := ⟨w.heap.size + 1 + 1, 0, none⟩) a2 (.int .u64 0)).setCell (p := ⟨w.heap.size + 1 + 1, 1, none⟩) a2 (.int .u64 0)).setCell (p := ⟨w.heap.size + 1 + 1, 2, none⟩) a2 (.int .u64 0)).setCell (p := ⟨w.heap.size + 1 + 1, 3, none⟩) a2 (.int .u64 0)).setCell (p := ⟨w.heap.size + 1 + 1 + 1, 0, none⟩) a3 (.int .u64 0)).setCell (p := ⟨w.heap.size + 1 + 1 + 1, 1, none⟩) a3 (.int .u64 0))))
  clear hb xq xr kk
  gi_wp2
  obtain ⟨k1, k4, k3⟩ := KEY.out
  simp only [List.setIfInBounds_toArray, List.set_cons_zero, List.set_cons_succ] at k1 k4
  have a0 := k1.cell 0
  have a1 := k1.cell 1
  have a2 := k1.cell 2
  have a3 := k1.cell 3
  have a4 := k4.cell 0
  have a5 := k4.cell 1
  dsimp at a0 a1 a2 a3 a4 a5
  refine ⟨.tuple #[.agg #[.int .u64 0, .int .u64 0, .int .u64 0, .int .u64 0], .agg #[.int .u64 0, .int .u64 0], .bool false], ?_, rfl, k3⟩
  clear k1 k3 k4 KEY y0 y1 y2 y3 z0 z1
  simp [settle, results, Try.results10, go_sem, a0, a1, a2, a3, a4, a5]

theorem qmod_no (rh rl dh dl k c : Int) (C : Hid (∀ w, Calls Try.prog 24 #[.agg #[.int .u64 rh, .int .u64 rl], .agg #[.int .u64 dh, .int .u64 dl]] w fun e w' => e = .returned (.int .i64 c) ∧ Below w.heap.size w w'))
    (hbad : decide (0 ≤ c) = true ∨ (decide (0 ≤ c) = false ∧ decide (k < 0) = true) ∨ (decide (0 ≤ c) = false ∧ decide (k < 0) = false ∧ decide (40000 < k) = true)) (w : World) :
    Calls Try.prog 14 #[.agg #[.int .u64 rh, .int .u64 rl], .int .i64 k, .agg #[.int .u64 dh, .int .u64 dl]] w fun e w' =>
      e = .returned (.tuple #[.agg #[.int .u64 0, .int .u64 0], .bool false, .bool false]) ∧ Below w.heap.size w w' := by
  rcases hbad with g | ⟨g, g1⟩ | ⟨g, g1, g2⟩
  all_goals
    go_enter Try.func14, Try.ntmps14
    go_wp2_with fail
    (with_reducible refine (C.out _).mono ?_); rintro e w1 ⟨rfl, hb⟩
    have kk := bC (bA (bA (bA (Below.refl _ _) _) _) _) hb
    have xz : HB w1 (w.heap.size + 1 + 1) 26 #[.int .u64 0, .int .u64 0] := (HB.newAt (by simp) _ _).later hb
    have q0 := xz.cell 0; have q1 := xz.cell 1; have f0 := xz.frozen 0; have f1 := xz.frozen 1; dsimp at q0 q1
    have KEY := Lib.hid (show HB ((w1.setCell ⟨w.heap.size + 1 + 1, 0, none⟩ (.int .u64 0)).setCell ⟨w.heap.size + 1 + 1, 1, none⟩ (.int .u64 0)) (w.heap.size + 1 + 1) 26 #[.int .u64 0, .int .u64 0] ∧ Below w.heap.size w ((w1.setCell ⟨w.heap.size + 1 + 1, 0, none⟩ (.int .u64 0)).setCell ⟨w.heap.size + 1 + 1, 1, none⟩ (.int .u64 0)) from
      ⟨(xz.set 0 _).set 1 _, (kk.setCell (p := ⟨w.heap.size + 1 + 1, 0, none⟩) (by show w.heap.size ≤ w.heap.size + 1 + 1; omega) _).setCell (p := ⟨w.heap.size + 1 + 1, 1, none⟩) (by show w.heap.size ≤ w.heap.size + 1 + 1; omega) _⟩)
    have lz := xz.lt
    clear hb xz kk C
    go_wp2_with fail
    obtain ⟨hE, kb⟩ := KEY.out
    have e0 := hE.cell 0; have e1 := hE.cell 1
    dsimp at e0 e1
    refine bodyPost_ret (v := .tuple #[.agg #[.int .u64 0, .int .u64 0], .bool false, .bool false]) ?_ rfl ⟨rfl, kb⟩
    clear kb hE q0 q1 f0 f1
    simp [results, Try.results14, go_sem, e0, e1]

/-- Mod, of what may not be. -/
theorem modQ_no (r d k : Int) (hbad : d % full ≤ r % full ∨ k < 0 ∨ 40000 < k) (w : World) :
    Calls Try.prog 14 #[.agg #[.int .u64 (hiOf r), .int .u64 (loOf r)], .int .i64 k, .agg #[.int .u64 (hiOf d), .int .u64 (loOf d)]] w fun e w' =>
      e = .returned (.tuple #[.agg #[.int .u64 0, .int .u64 0], .bool false, .bool false]) ∧ Below w.heap.size w w' := by
  refine qmod_no _ _ _ _ k _ (Lib.hid (cmpB r d)) ?_ w
  have hc : decide (0 ≤ cmpI (r % full) (d % full)) = decide (d % full ≤ r % full) := by
    unfold cmpI; rw [decide_eq_decide]; split <;> (try split) <;> omega
  rw [hc]
  by_cases h1 : d % full ≤ r % full
  · exact .inl (by simp [h1])
  · by_cases h2 : k < 0
    · exact .inr (.inl ⟨by simp; omega, by simp [h2]⟩)
    · exact .inr (.inr ⟨by simp; omega, by simp; omega, by simp; omega⟩)

/-- Step. -/
theorem stepQ_ok (h l d : Int) (uh : U64 h) (ul : U64 l) (ud : U64 d) (hd : h < d) (w : World) :
    Calls Try.prog 12 #[.int .u64 h, .int .u64 l, .int .u64 d] w fun e w' => e = .returned (.tuple #[.int .u64 (val h l / d), .int .u64 (val h l % d), .bool true]) ∧ Below w.heap.size w w' :=
  qstep_core h l d _ _ (by simp; omega) (Lib.hid (div64_any h l d uh ul ud hd)) w

end Go.Proofs.Ytlmgebanfjclcaa
