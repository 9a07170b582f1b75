/-
  The document's answers of stage 5 to what may not be.
-/
import Derived.Test.YtlmgebanfjclcaaRef5M
set_option linter.unusedVariables false
set_option maxRecDepth 100000
namespace Go.Proofs.Ytlmgebanfjclcaa
open Go.RowKit
attribute [local go_sem ↓] Go.wp_at_zero Go.wp_at_succ

set_option maxHeartbeats 4000000 in
theorem ref5_div_no (n0 n1 n2 n3 : Int) (w : World) :
    Calls Try.prog 11 #[.agg #[.int .u64 n0, .int .u64 n1, .int .u64 n2, .int .u64 n3], .agg #[.int .u64 0, .int .u64 0]] w fun e w' =>
      e = .returned (.tuple #[.agg #[.int .u64 0, .int .u64 0, .int .u64 0, .int .u64 0], .agg #[.int .u64 0, .int .u64 0], .bool false]) ∧ Below w.heap.size w w' := by
  go_enter Try.func11, Try.ntmps11
  go_wp2_with fail
  exact bodyPost_ret (v := .tuple #[.agg #[.int .u64 0, .int .u64 0, .int .u64 0, .int .u64 0], .agg #[.int .u64 0, .int .u64 0], .bool false]) (by simp [results, Try.results11, go_sem]) rfl ⟨rfl, bA (bA (bA (bA (Below.refl _ _) _) _) _) _⟩

theorem mod5_go (r d k5 : Int) (c : Int) (hbad : (decide (0 ≤ c) = true) ∨ (decide (0 ≤ c) = false ∧ decide (k5 < 0) = true) ∨ (decide (0 ≤ c) = false ∧ decide (k5 < 0) = false ∧ decide (40000 < k5) = true)) (hcm : cmpI (r % full) (d % full) = c) (w : World) :
    Calls Try.prog 15 #[.agg #[.int .u64 (hiOf r), .int .u64 (loOf r)], .int .i64 k5, .agg #[.int .u64 (hiOf d), .int .u64 (loOf d)]] w fun e w' =>
      e = .returned (.tuple #[.agg #[.int .u64 0, .int .u64 0], .bool false, .bool false]) ∧ Below w.heap.size w w' := by
  have RN := Lib.hid (bigN r)
  have DN := Lib.hid (bigN d)
  have CM := Lib.hid (fun w v v' (x : IsNum w v (r % full)) (y : IsNum w v' (d % full)) => cmp_num x y)
  rw [hcm] at CM
  clear hcm
  generalize r % full = R at *
  generalize d % full = D at *
  rcases hbad with g | ⟨g, g1⟩ | ⟨g, g1, g2⟩
  all_goals
    go_enter Try.func15, Try.ntmps15
    go_wp2_with fail
    (with_reducible refine (DN.out _).mono ?_); rintro e w1 ⟨v1, rfl, n1, hb⟩
    have kk := bC (bA (bA (bA (Below.refl _ _) _) _) _) hb
    have cR0 := cell_later hb (a := ⟨w.heap.size, 0, none⟩) (v := .int .u64 (hiOf r)) (by go_simp)
    have cR1 := cell_later hb (a := ⟨w.heap.size, 1, none⟩) (v := .int .u64 (loOf r)) (by go_simp)
    have sR := World.block_lt_of_cell? _ _ cR0
    have b0 := cell_later hb (a := ⟨w.heap.size + 1 + 1, 0, none⟩) (v := .int .u64 0) (by go_simp)
    have b1 := cell_later hb (a := ⟨w.heap.size + 1 + 1, 1, none⟩) (v := .int .u64 0) (by go_simp)
    have f0 := frozen_later hb (a := ⟨w.heap.size + 1 + 1, 0, none⟩) (v := .int .u64 0) (by go_simp) (by go_simp)
    have f1 := frozen_later hb (a := ⟨w.heap.size + 1 + 1, 1, none⟩) (v := .int .u64 0) (by go_simp) (by go_simp)
    have br : BoxF w1 (w.heap.size + 1 + 1) 0 0 := ⟨Box.of b0 b1, f0, f1⟩
    clear hb DN b0 b1 f0 f1
    go_wp2_with fail
    (with_reducible refine (RN.out _).mono ?_); rintro e w2 ⟨v2, rfl, n2, hb⟩
    replace kk := bC kk hb; replace br := br.later hb; replace n1 := n1.later hb
    clear hb RN cR0 cR1 sR
    go_wp2_with fail
    (with_reducible refine (CM.out _ _ _ n2 n1).mono ?_); rintro e w3 ⟨rfl, hb⟩
    replace kk := bC kk hb; replace br := br.later hb
    clear hb CM n1 n2
    have KEY := Lib.hid (And.intro (br.set 0 0) (bS kk (by omega : w.heap.size ≤ w.heap.size + 1 + 1) 0 0))
    obtain ⟨⟨_, c0, c1⟩, f0, f1⟩ := br
    clear kk
    go_wp2_with fail
    obtain ⟨⟨⟨_, e0, e1⟩, _, _⟩, kb⟩ := KEY.out
    refine bodyPost_ret (v := .tuple #[.agg #[.int .u64 0, .int .u64 0], .bool false, .bool false]) ?_ rfl ⟨rfl, kb⟩
    clear c0 c1 f0 f1 kb
    simp [results, Try.results15, go_sem, e0, e1]

end Go.Proofs.Ytlmgebanfjclcaa
