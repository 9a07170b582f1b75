/-
  Contracts of the program's package wide.
-/
import Derived.Test.YtidppeaianpojaaWideC
import Derived.Test.YtidppeaianpojaaWideM
import Derived.Test.YtidppeaianpojaaWordB
set_option linter.unusedVariables false
namespace Go.Proofs.Ytidppeaianpojaa
open Go.RowKit

theorem wstore {a w : World} {p : Nat} {x0 x1 x2 x3 : Int} (d0 d1 d2 d3 : Int) (x : WBox w p x0 x1 x2 x3) (f : WFree w p) (kb : Below a.heap.size a w) (hp : a.heap.size ≤ p) :
    WBox ((((w.setCell ⟨p, 0, none⟩ (.int .u64 d0)).setCell ⟨p, 1, none⟩ (.int .u64 d1)).setCell ⟨p, 2, none⟩ (.int .u64 d2)).setCell ⟨p, 3, none⟩ (.int .u64 d3)) p d0 d1 d2 d3 ∧
    Below a.heap.size a ((((w.setCell ⟨p, 0, none⟩ (.int .u64 d0)).setCell ⟨p, 1, none⟩ (.int .u64 d1)).setCell ⟨p, 2, none⟩ (.int .u64 d2)).setCell ⟨p, 3, none⟩ (.int .u64 d3)) :=
  ⟨(((x.set0 d0).set1 d1).set2 d2).set3 d3, (((kb.setCell (p := ⟨p, 0, none⟩) hp _).setCell (p := ⟨p, 1, none⟩) hp _).setCell (p := ⟨p, 2, none⟩) hp _).setCell (p := ⟨p, 3, none⟩) hp _⟩

theorem combine_sub (a0 a1 a2 a3 b0 b1 b2 b3 : Int) (ua0 : U64 a0) (ua1 : U64 a1) (ua2 : U64 a2) (ua3 : U64 a3) (ub0 : U64 b0) (ub1 : U64 b1) (ub2 : U64 b2) (ub3 : U64 b3) (w : World) :
    Calls Try.prog 47 #[.agg #[.int .u64 a0, .int .u64 a1, .int .u64 a2, .int .u64 a3], .agg #[.int .u64 b0, .int .u64 b1, .int .u64 b2, .int .u64 b3], .func (.func 48) #[] #[]] w fun e w' => e = .returned (.tuple #[.agg #[.int .u64 (wd0 (wval a0 a1 a2 a3 - wval b0 b1 b2 b3)), .int .u64 (wd1 (wval a0 a1 a2 a3 - wval b0 b1 b2 b3)), .int .u64 (wd2 (wval a0 a1 a2 a3 - wval b0 b1 b2 b3)), .int .u64 (wd3 (wval a0 a1 a2 a3 - wval b0 b1 b2 b3))], .bool (decide (wval a0 a1 a2 a3 < wval b0 b1 b2 b3))]) ∧ Below w.heap.size w w' := by
  obtain ⟨⟨h0, h1, h2, h3⟩, hc⟩ := wsub_math ua0 ua1 ua2 ua3 ub0 ub1 ub2 ub3
  rw [← h0, ← h1, ← h2, ← h3, ← hc]
  have k1 := subC_01 a0 b0 0
  have k2 := subC_01 a1 b1 (subC a0 b0 0)
  have k3 := subC_01 a2 b2 (subC a1 b1 (subC a0 b0 0))
  exact callsIn_wide.1 (combine_in 3 (by omega) 48 a0 a1 a2 a3 b0 b1 b2 b3 _ _ _ _ _ _ _ _ (bits_sub a0 b0 0 ua0 ub0 (by omega) (by omega)) (bits_sub a1 b1 _ ua1 ub1 k1.1 k1.2) (bits_sub a2 b2 _ ua2 ub2 k2.1 k2.2) (bits_sub a3 b3 _ ua3 ub3 k3.1 k3.2) w)

set_option maxHeartbeats 1000000 in
theorem wsub_any (a0 a1 a2 a3 b0 b1 b2 b3 : Int) (ua0 : U64 a0) (ua1 : U64 a1) (ua2 : U64 a2) (ua3 : U64 a3) (ub0 : U64 b0) (ub1 : U64 b1) (ub2 : U64 b2) (ub3 : U64 b3) (w : World) :
    Calls Try.prog 26 #[.agg #[.int .u64 a0, .int .u64 a1, .int .u64 a2, .int .u64 a3], .agg #[.int .u64 b0, .int .u64 b1, .int .u64 b2, .int .u64 b3]] w fun e w' => e = .returned (.tuple #[.agg #[.int .u64 (wd0 (wval a0 a1 a2 a3 - wval b0 b1 b2 b3)), .int .u64 (wd1 (wval a0 a1 a2 a3 - wval b0 b1 b2 b3)), .int .u64 (wd2 (wval a0 a1 a2 a3 - wval b0 b1 b2 b3)), .int .u64 (wd3 (wval a0 a1 a2 a3 - wval b0 b1 b2 b3))], .bool (decide (wval a0 a1 a2 a3 < wval b0 b1 b2 b3))]) ∧ Below w.heap.size w w' := by
  go_enter Try.func26, Try.ntmps26
  go_wp2_with fail
  have pR := WBox.newAt (w := (w.alloc (wbx a0 a1 a2 a3 34)).alloc (wbx b0 b1 b2 b3 34)) (p := w.heap.size + 1 + 1) (by simp) 0 0 0 0 34
  have fR : WFree (((w.alloc (wbx a0 a1 a2 a3 34)).alloc (wbx b0 b1 b2 b3 34)).alloc (wbx 0 0 0 0 34)) (w.heap.size + 1 + 1) := by have h := WFree.new ((w.alloc (wbx a0 a1 a2 a3 34)).alloc (wbx b0 b1 b2 b3 34)) 0 0 0 0 34; simpa using h
  (with_reducible refine (combine_sub a0 a1 a2 a3 b0 b1 b2 b3 ua0 ua1 ua2 ua3 ub0 ub1 ub2 ub3 _).mono ?_); rintro e w1 ⟨rfl, hb1⟩
  have kk := bC (bA (bA (bA (Below.refl w.heap.size w) (wbx a0 a1 a2 a3 34)) (wbx b0 b1 b2 b3 34)) (wbx 0 0 0 0 34)) hb1
  have f1 := fR.later pR.1 hb1
  have p1 := pR.later hb1
  have KEY := Lib.hid (wstore (wd0 (wval a0 a1 a2 a3 - wval b0 b1 b2 b3)) (wd1 (wval a0 a1 a2 a3 - wval b0 b1 b2 b3)) (wd2 (wval a0 a1 a2 a3 - wval b0 b1 b2 b3)) (wd3 (wval a0 a1 a2 a3 - wval b0 b1 b2 b3)) p1 f1 kk (by omega))
  obtain ⟨s0, r0, r1, r2, r3⟩ := p1
  obtain ⟨f0, f1, f2, f3⟩ := f1
  clear pR fR hb1 kk
  go_wp2_with fail
  obtain ⟨⟨_, e0, e1, e2, e3⟩, kb⟩ := KEY.out
  refine bodyPost_ret (v := .tuple #[.agg #[.int .u64 (wd0 (wval a0 a1 a2 a3 - wval b0 b1 b2 b3)), .int .u64 (wd1 (wval a0 a1 a2 a3 - wval b0 b1 b2 b3)), .int .u64 (wd2 (wval a0 a1 a2 a3 - wval b0 b1 b2 b3)), .int .u64 (wd3 (wval a0 a1 a2 a3 - wval b0 b1 b2 b3))], .bool (decide (wval a0 a1 a2 a3 < wval b0 b1 b2 b3))]) ?_ rfl ⟨rfl, kb⟩
  clear r0 r1 r2 r3
  simp [results, Try.results26, go_sem, e0, e1, e2, e3]

set_option maxHeartbeats 1000000 in
theorem high_any (a0 a1 a2 a3 : Int) (w : World) :
    Calls Try.prog 51 #[.agg #[.int .u64 a0, .int .u64 a1, .int .u64 a2, .int .u64 a3]] w fun e w' => e = .returned (.agg #[.int .u64 a3, .int .u64 a2]) ∧ Below w.heap.size w w' := by
  go_enter Try.func51, Try.ntmps51
  go_wp2_with fail
  refine bodyPost_ret (v := .agg #[.int .u64 a3, .int .u64 a2]) (by simp [results, Try.results51, go_sem]) rfl ⟨rfl, ?_⟩
  first | exact (bA (bA (Below.refl _ _) _) _) | simp [go_sem]; fail

set_option maxHeartbeats 1000000 in
theorem low_any (a0 a1 a2 a3 : Int) (w : World) :
    Calls Try.prog 52 #[.agg #[.int .u64 a0, .int .u64 a1, .int .u64 a2, .int .u64 a3]] w fun e w' => e = .returned (.agg #[.int .u64 a1, .int .u64 a0]) ∧ Below w.heap.size w w' := by
  go_enter Try.func52, Try.ntmps52
  go_wp2_with fail
  refine bodyPost_ret (v := .agg #[.int .u64 a1, .int .u64 a0]) (by simp [results, Try.results52, go_sem]) rfl ⟨rfl, ?_⟩
  first | exact (bA (bA (Below.refl _ _) _) _) | simp [go_sem]; fail

set_option maxHeartbeats 1000000 in
theorem join_any (ah al bh bl : Int) (w : World) :
    Calls Try.prog 49 #[.agg #[.int .u64 ah, .int .u64 al], .agg #[.int .u64 bh, .int .u64 bl]] w fun e w' => e = .returned (.agg #[.int .u64 bl, .int .u64 bh, .int .u64 al, .int .u64 ah]) ∧ Below w.heap.size w w' := by
  go_enter Try.func49, Try.ntmps49
  go_wp2_with fail
  refine bodyPost_ret (v := .agg #[.int .u64 bl, .int .u64 bh, .int .u64 al, .int .u64 ah]) (by simp [results, Try.results49, go_sem]) rfl ⟨rfl, ?_⟩
  first | exact (bA (bA (bA (Below.refl _ _) _) _) _) | simp [go_sem]; fail

end Go.Proofs.Ytidppeaianpojaa
