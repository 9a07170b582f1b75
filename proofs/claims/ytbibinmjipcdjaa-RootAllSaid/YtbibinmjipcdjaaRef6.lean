/-
  The document's answer of stage 6.
-/
import Derived.Test.YtbibinmjipcdjaaRootP
import Derived.Test.YtbibinmjipcdjaaGnB
import Derived.Test.YtbibinmjipcdjaaGnA
set_option linter.unusedVariables false
set_option linter.unusedSimpArgs false
set_option maxRecDepth 100000
namespace Go.Proofs.Ytbibinmjipcdjaa
open Go.RowKit
attribute [local go_sem ↓] Go.wp_at_zero Go.wp_at_succ

theorem root_numN {w : World} {v : Value} {a : Int} (x : IsNum w v a) (h1 : a < wfull) : Calls Try.prog 24 #[v] w (RetNum w (rootN a)) := by
  have hw : a < bp 40000 := by
    have h2 : bp 8 ≤ bp 40000 := bp_le (by decide)
    have h3 : bp 8 = wfull := by decide +kernel
    omega
  refine (root_num x hw).mono ?_
  rintro e w' ⟨v', r, he, nr, ra, hb⟩
  rw [rootN_of x.nonneg h1 ra]
  exact ⟨v', he, nr, hb⟩
theorem cmpI_zero (x y : Int) : (cmpI x y == 0) = (x == y) := by
  unfold cmpI; rw [Bool.eq_iff_iff]; simp only [beq_iff_eq]; split <;> (try split) <;> omega
theorem small_root {r : Int} (h : r < full) : Small r := small_wide (by
  have h : full ≤ wfull * wfull := by decide +kernel
  omega)
set_option maxHeartbeats 4000000 in
theorem ref6_root (A : Int) (w : World) : Calls Try.prog 10 #[.agg #[.int .u64 (wd0 (A)), .int .u64 (wd1 (A)), .int .u64 (wd2 (A)), .int .u64 (wd3 (A))]] w fun e w' => e = .returned (.tuple #[.agg #[.int .u64 (hiOf (rootN (A % wfull))), .int .u64 (loOf (rootN (A % wfull)))], .bool (exactN (A % wfull))]) ∧ Below w.heap.size w w' := by
  obtain ⟨r0, r1⟩ := mod_w A
  obtain ⟨q0, q1, q2, q3⟩ := root_range r0 r1
  have S := Lib.hid (small_root q1)
  have R := Lib.hid (fun w v (x : IsNum w v (A % wfull)) => root_numN x r1)
  have EX := Lib.hid (show exactN (A % wfull) = (rootN (A % wfull) * rootN (A % wfull) == A % wfull) from rfl)
  have Wn := Lib.hid (wideN A)
  generalize A % wfull = a at *
  obtain ⟨ex, hex⟩ : ∃ ex, exactN a = ex := ⟨_, rfl⟩
  have CZ := Lib.hid ((cmpI_zero (rootN a * rootN a) a).trans (EX.out.symm.trans hex))
  rw [hex]
  generalize rootN a = r at *
  clear EX r0 r1 q0 q1 q2 q3 hex
  go_enter Try.func10, Try.ntmps10
  go_wp2_with fail
  (with_reducible refine (Wn.out _).mono ?_); rintro e w1 ⟨v1, rfl, n1, hb⟩
  have kk := bC (bA (bA (Below.refl _ _) _) _) hb
  have xr : Box w1 (w.heap.size + 1) 0 0 := (Box.newAt (by simp) 0 0 _).later hb
  have f0 := frozen_later hb (a := ⟨w.heap.size + 1, 0, none⟩) (v := .int .u64 0) (by go_simp) (by go_simp)
  have f1 := frozen_later hb (a := ⟨w.heap.size + 1, 1, none⟩) (v := .int .u64 0) (by go_simp) (by go_simp)
  have xr : BoxF w1 (w.heap.size + 1) 0 0 := ⟨xr, f0, f1⟩
  clear hb Wn f0 f1
  go_wp2_with fail
  (with_reducible refine (R.out _ _ n1).mono ?_); rintro e w2 ⟨v2, rfl, n2, hb⟩
  replace kk := bC kk hb; replace xr := xr.later hb; replace n1 := n1.later hb
  clear hb R
  go_wp2_with fail
  (with_reducible refine (bits_num2 n2).mono ?_); rintro e w3 ⟨rfl, hb⟩
  replace kk := bC kk hb; replace xr := xr.later hb; replace n1 := n1.later hb; replace n2 := n2.later hb
  clear hb
  go_wp2_with fail
  (with_reducible refine (mul_num n2 n2 S.out S.out).mono ?_); rintro e w4 ⟨v4, rfl, n4, hb⟩
  replace kk := bC kk hb; replace xr := xr.later hb; replace n1 := n1.later hb
  clear hb n2
  go_wp2_with fail
  (with_reducible refine (cmp_num n4 n1).mono ?_); rintro e w5 ⟨rfl, hb⟩
  replace kk := bC kk hb; replace xr := xr.later hb
  clear hb n1 n4
  have cz := CZ.out
  have KEY := Lib.hid (And.intro (xr.set (hiOf r) (loOf r)) (bS kk (by omega : w.heap.size ≤ w.heap.size + 1) (hiOf r) (loOf r)))
  obtain ⟨⟨_, c0, c1⟩, f0, f1⟩ := xr
  clear kk
  go_wp2_with fail
  obtain ⟨⟨⟨_, e0, e1⟩, _, _⟩, kb⟩ := KEY.out
  refine bodyPost_ret (v := .tuple #[.agg #[.int .u64 (hiOf r), .int .u64 (loOf r)], .bool ex]) ?_ rfl ⟨rfl, kb⟩
  clear c0 c1 f0 f1 kb
  simp [results, Try.results10, go_sem, e0, e1]


end Go.Proofs.Ytbibinmjipcdjaa
