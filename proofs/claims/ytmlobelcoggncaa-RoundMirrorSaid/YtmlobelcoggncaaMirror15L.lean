/-
  RoundMirror.
-/
import Derived.Test.YtmlobelcoggncaaMirror15
import Derived.Test.YtmlobelcoggncaaGoes15L
set_option linter.unusedVariables false
set_option linter.unusedSimpArgs false
set_option maxRecDepth 100000
namespace Go.Proofs.Ytmlobelcoggncaa
open Go.RowKit
attribute [local go_sem ↓] Go.wp_at_zero Go.wp_at_succ

theorem mirror15_law_n (M : ModeOK) (O : RoundOK) (x k8 m : Int) (h0 : 0 ≤ x) (h1 : x < wfull) (uk : 0 ≤ k8 ∧ k8 ≤ 255) (um : 0 ≤ m ∧ m ≤ 255) (w : World) : Calls Try.prog 7 #[.agg #[.int .u64 (wd0 (x)), .int .u64 (wd1 (x)), .int .u64 (wd2 (x)), .int .u64 (wd3 (x))], .int .u8 k8, .int .u8 m] w fun e w' => e = .returned (.bool true) ∧ Below w.heap.size w w' := by
  have G := Lib.hid (goes15_any O)
  obtain ⟨k, hk⟩ : ∃ k, k8 % 128 = k := ⟨_, rfl⟩
  have kt : k8.tmod 128 = k := by rw [Int.tmod_eq_emod_of_nonneg uk.1, hk]
  have K8 : IntKind.i64.wrap k8 = k8 := IntWalk.i64_in _ (by omega)
  have k0 : 0 ≤ k ∧ k ≤ 127 := by omega
  obtain ⟨v0, v1⟩ := mir_range um.1 um.2
  have mk : mirM m < 5 ↔ m < 5 := by have := mir_known m; rwa [decide_eq_decide] at this
  have C1 := O.cut x k m true h0 h1 (by omega) (by omega) um.1 um.2
  have C2 := O.cut x k (mirM m) false h0 h1 (by omega) (by omega) v0 v1
  have e1 : cutB x k (mirM m) false = cutB x k m true := by
    have hq : cutQ x (256 - k) false (mirM m) false = cutQ x (256 - k) false m true := by unfold cutQ; rw [next_mirror]
    unfold cutB
    rw [hq]
    by_cases hm : m < 5
    · rw [if_pos ⟨k0, mk.2 hm⟩, if_pos ⟨k0, hm⟩]
    · rw [if_neg (fun z => hm (mk.1 z.2)), if_neg (fun z => hm z.2)]
  have e2 : cutX x k (mirM m) = cutX x k m := by
    unfold cutX; congr 1; rw [decide_eq_decide, mk]
  rw [e1, e2] at C2
  have CU := O.cut x k 2 false h0 h1 (by omega) (by omega) (by decide) (by decide)
  have CD := O.cut x k 3 false h0 h1 (by omega) (by omega) (by decide) (by decide)
  rw [(cut_yes ⟨k0, by decide⟩ x false).1, (cut_yes ⟨k0, by decide⟩ x false).2] at CU CD
  obtain ⟨r0, r1⟩ := rest_range x (256 - k) false
  obtain ⟨f0, f1, f2⟩ := floor_lt h0 h1 k0.1 k0.2
  have ed : cutQ x (256 - k) false 3 false = floorQ x (256 - k) := by
    unfold cutQ; rw [if_neg]
    unfold nextM; split <;> simp
  rw [ed] at CD
  have AD := addB (floorQ x (256 - k)) 1
  rw [show hiOf 1 = 0 from rfl, show loOf 1 = 1 from rfl] at AD
  by_cases z : restQ x (256 - k) false = 0
  · have eu : cutQ x (256 - k) false 2 false = floorQ x (256 - k) := by
      unfold cutQ; rw [z, next_none, if_neg (by decide)]
    rw [eu, show (restQ x (256 - k) false != 0) = false by simp [z]] at CU
    exact mirror15_0 k8 k m _ _ _ _ _ _ _ _ _ _ _ _ _ _ (Lib.hid C1) (Lib.hid (M.mirror m um.1 um.2)) (Lib.hid C2) (Lib.hid CU) (Lib.hid CD) (Lib.hid AD) G uk.1 uk.2 K8 hk kt w
  · have eu : cutQ x (256 - k) false 2 false = floorQ x (256 - k) + 1 := by
      unfold cutQ; rw [if_pos]
      unfold nextM; rw [if_neg (by omega)]; simp
    rw [eu, show (restQ x (256 - k) false != 0) = true by simp [z]] at CU
    exact mirror15_1 k8 k m _ _ _ _ _ _ _ _ _ _ _ _ _ _ (Lib.hid C1) (Lib.hid (M.mirror m um.1 um.2)) (Lib.hid C2) (Lib.hid CU) (Lib.hid CD) (Lib.hid AD) G uk.1 uk.2 K8 hk kt w
theorem mirror15_law (M : ModeOK) (O : RoundOK) (x0 x1 x2 x3 k8 m : Int) (ux0 : U64 x0) (ux1 : U64 x1) (ux2 : U64 x2) (ux3 : U64 x3) (uk : 0 ≤ k8 ∧ k8 ≤ 255) (um : 0 ≤ m ∧ m ≤ 255) (w : World) : Calls Try.prog 7 #[.agg #[.int .u64 x0, .int .u64 x1, .int .u64 x2, .int .u64 x3], .int .u8 k8, .int .u8 m] w fun e w' => e = .returned (.bool true) ∧ Below w.heap.size w w' := by
  obtain ⟨h0, h1⟩ := wval_range ux0 ux1 ux2 ux3
  obtain ⟨e0, e1, e2, e3⟩ := wd_wval ux0 ux1 ux2 ux3
  have h := mirror15_law_n M O (wval x0 x1 x2 x3) k8 m h0 h1 uk um w
  rw [e0, e1, e2, e3] at h
  exact h


end Go.Proofs.Ytmlobelcoggncaa
