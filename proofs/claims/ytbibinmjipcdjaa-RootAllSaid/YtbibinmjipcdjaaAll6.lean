/-
  The walk of the statement RootAll.
-/
import Derived.Test.YtbibinmjipcdjaaRef6
set_option linter.unusedVariables false
set_option linter.unusedSimpArgs false
set_option maxRecDepth 100000
namespace Go.Proofs.Ytbibinmjipcdjaa
open Go.RowKit
attribute [local go_sem ↓] Go.wp_at_zero Go.wp_at_succ

set_option maxHeartbeats 4000000 in
set_option maxRecDepth 100000 in
theorem all6_walk (A : Int)
     (C : Hid RootOK) (HC : Hid (∀ w, Calls Try.prog 11 #[] w fun e w' => e = .returned (.bool true) ∧ Below w.heap.size w w')) (w : World) :
    Calls Try.prog 3 #[.agg #[.int .u64 (wd0 (A)), .int .u64 (wd1 (A)), .int .u64 (wd2 (A)), .int .u64 (wd3 (A))]] w fun e w' => e = .returned (.bool true) ∧ Below w.heap.size w w' := by
  go_enter Try.func3, Try.ntmps3
  go_wp2_with fail
  (with_reducible refine (C.out.root A _).mono ?_); rintro e w1 ⟨rfl, hb⟩
  have hz := bC (bA (Below.refl _ _) _) hb
  have cX0_0 := cell_later hb (a := ⟨w.heap.size, 0, none⟩) (v := .int .u64 (wd0 (A))) (by go_simp)
  have cX0_1 := cell_later hb (a := ⟨w.heap.size, 1, none⟩) (v := .int .u64 (wd1 (A))) (by go_simp)
  have cX0_2 := cell_later hb (a := ⟨w.heap.size, 2, none⟩) (v := .int .u64 (wd2 (A))) (by go_simp)
  have cX0_3 := cell_later hb (a := ⟨w.heap.size, 3, none⟩) (v := .int .u64 (wd3 (A))) (by go_simp)
  have sX0 : w.heap.size < w1.heap.size := World.block_lt_of_cell? _ _ cX0_0
  have kk := hz
  clear hb hz
  go_wp2_with fail
  (with_reducible refine (ref6_root A _).mono ?_); rintro e w2 ⟨rfl, hb⟩
  have hz := bC (bA (Below.refl _ _) _) hb
  clear cX0_0 cX0_1 cX0_2 cX0_3 sX0
  have cX1_0 := cell_later hb (a := ⟨w1.heap.size, 0, none⟩) (v := .int .u64 (hiOf (rootN (A % wfull)))) (by go_simp)
  have cX1_1 := cell_later hb (a := ⟨w1.heap.size, 1, none⟩) (v := .int .u64 (loOf (rootN (A % wfull)))) (by go_simp)
  have sX1 : w1.heap.size < w2.heap.size := World.block_lt_of_cell? _ _ cX1_0
  replace kk := bC kk hz
  clear hb hz
  go_wp2_with fail
  (with_reducible refine (HC.out _).mono ?_); rintro e w3 ⟨rfl, hb⟩
  have hz := bC (bA (Below.refl _ _) _) hb
  clear cX1_0 cX1_1 sX1
  replace kk := bC kk hz
  clear hb hz
  go_wp2_with fail
  go_ret
  exact ⟨rfl, kk⟩

end Go.Proofs.Ytbibinmjipcdjaa
