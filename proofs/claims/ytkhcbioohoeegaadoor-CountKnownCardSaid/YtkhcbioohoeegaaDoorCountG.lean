/-
  Contracts of package count: Len, WideLen, Tail, Raise, WideRaise, over numbers.
-/
import Derived.Test.YtkhcbioohoeegaaDoorCountB
import Derived.Test.YtkhcbioohoeegaaDoorCountP
import Derived.Test.YtkhcbioohoeegaaDoorShiftG
set_option linter.unusedVariables false
set_option linter.unusedSimpArgs false
set_option maxRecDepth 100000
namespace Go.Proofs.YtkhcbioohoeegaaDoor
open Go.RowKit
attribute [local go_sem ↓] Go.wp_at_zero Go.wp_at_succ

theorem len_core (ah al l m : Int) (L : Hid (∀ w, Calls Tryd.prog 40 #[.int .u64 ah] w fun e w' => e = .returned (.int .i64 l) ∧ w = w')) (h : (ah == 0) = false) (h' : ah ≠ 0) (hm : IntKind.i64.wrap (64 + l) = m) (w : World) :
    Calls Tryd.prog 13 #[.agg #[.int .u64 ah, .int .u64 al]] w fun e w' => e = .returned (.int .i64 m) ∧ Below w.heap.size w w' := by
  go_enter Tryd.func13, Tryd.ntmps13
  go_wp2_with fail
  (with_reducible refine (L.out _).mono ?_); rintro e w1 ⟨rfl, rfl⟩
  go_wp2_with fail
  go_ret
  exact ⟨rfl, bA (Below.refl _ _) _⟩
theorem len_core0 (al l : Int) (L : Hid (∀ w, Calls Tryd.prog 40 #[.int .u64 al] w fun e w' => e = .returned (.int .i64 l) ∧ w = w')) (w : World) :
    Calls Tryd.prog 13 #[.agg #[.int .u64 0, .int .u64 al]] w fun e w' => e = .returned (.int .i64 l) ∧ Below w.heap.size w w' := by
  go_enter Tryd.func13, Tryd.ntmps13
  go_wp2_with fail
  (with_reducible refine (L.out _).mono ?_); rintro e w1 ⟨rfl, rfl⟩
  go_wp2_with fail
  go_ret
  exact ⟨rfl, bA (Below.refl _ _) _⟩
theorem blen_u {x : Int} (h : U64 x) : blen x ≤ 64 := blen_le h.1 (by have := h.2; show x < 18446744073709551616; omega)
/-- A number of two parts. -/
theorem blen_hi {x y : Int} (s : Nat) (hx : 0 < x) (h0 : 0 ≤ y) (h1 : y < 2 ^ s) : blen (x * 2 ^ s + y) = s + blen x := by
  obtain ⟨j, e, b1, b2⟩ := blen_bounds hx
  have hp := two_pow_pos s
  rw [e, show s + (j + 1) = (j + s) + 1 by omega]
  have c1 : 2 ^ j * 2 ^ s ≤ x * 2 ^ s := Int.mul_le_mul_of_nonneg_right b1 (by omega)
  have c2 : (x + 1) * 2 ^ s ≤ 2 ^ (j + 1) * 2 ^ s := Int.mul_le_mul_of_nonneg_right (by omega) (by omega)
  rw [Int.add_mul] at c2
  refine blen_of ?_ ?_
  · rw [Int.pow_add]; omega
  · rw [show j + s + 1 = (j + 1) + s by omega, Int.pow_add]; omega
theorem lenB (n : Int) (w : World) : Calls Tryd.prog 13 #[.agg #[.int .u64 (hiOf (n)), .int .u64 (loOf (n))]] w fun e w' => e = .returned (.int .i64 (blen (n % full))) ∧ Below w.heap.size w w' := by
  have uh := hiOf_u n
  have ul := loOf_u n
  rw [← val_hiLo_mod n]
  generalize hiOf n = h at *
  generalize loOf n = l at *
  by_cases h0 : h = 0
  · subst h0
    rw [show val 0 l = l by unfold val; omega]
    exact len_core0 l _ (Lib.hid (len64_any l ul)) w
  · have b := blen_u uh
    have e := blen_hi 64 (show 0 < h by have := uh.1; omega) ul.1 ul.2
    rw [show val h l = h * 2 ^ 64 + l from rfl, e]
    refine len_core h l _ _ (Lib.hid (len64_any h uh)) (by simpa using h0) h0 ?_ w
    rw [IntWalk.i64_in _ (by omega)]; omega

theorem wlen_core (a0 a1 a2 a3 h l : Int) (b m : Int) (H1 : Hid (∀ w, Calls Tryd.prog 30 #[.agg #[.int .u64 a0, .int .u64 a1, .int .u64 a2, .int .u64 a3]] w fun e w' => e = .returned (.agg #[.int .u64 h, .int .u64 l]) ∧ Below w.heap.size w w'))
    (H2 : Hid (∀ w, Calls Tryd.prog 13 #[.agg #[.int .u64 h, .int .u64 l]] w fun e w' => e = .returned (.int .i64 b) ∧ Below w.heap.size w w')) (hb0 : (b == 0) = false) (hb1 : b ≠ 0) (hm : IntKind.i64.wrap (128 + b) = m) (w : World) :
    Calls Tryd.prog 19 #[.agg #[.int .u64 a0, .int .u64 a1, .int .u64 a2, .int .u64 a3]] w fun e w' => e = .returned (.int .i64 m) ∧ Below w.heap.size w w' := by
  go_enter Tryd.func19, Tryd.ntmps19
  go_wp2_with fail
  (with_reducible refine (H1.out _).mono ?_); rintro e w1 ⟨rfl, hb⟩
  have kk := bC (bA (Below.refl _ _) _) hb
  clear hb
  go_wp2_with fail
  (with_reducible refine (H2.out _).mono ?_); rintro e w2 ⟨rfl, hb⟩
  replace kk := bC kk hb
  clear hb
  go_wp2_with fail
  go_ret
  exact ⟨rfl, kk⟩
theorem wlen_core0 (a0 a1 a2 a3 h l h' l' : Int) (b : Int) (H1 : Hid (∀ w, Calls Tryd.prog 30 #[.agg #[.int .u64 a0, .int .u64 a1, .int .u64 a2, .int .u64 a3]] w fun e w' => e = .returned (.agg #[.int .u64 h, .int .u64 l]) ∧ Below w.heap.size w w'))
    (H2 : Hid (∀ w, Calls Tryd.prog 13 #[.agg #[.int .u64 h, .int .u64 l]] w fun e w' => e = .returned (.int .i64 0) ∧ Below w.heap.size w w'))
    (H3 : Hid (∀ w, Calls Tryd.prog 31 #[.agg #[.int .u64 a0, .int .u64 a1, .int .u64 a2, .int .u64 a3]] w fun e w' => e = .returned (.agg #[.int .u64 h', .int .u64 l']) ∧ Below w.heap.size w w'))
    (H4 : Hid (∀ w, Calls Tryd.prog 13 #[.agg #[.int .u64 h', .int .u64 l']] w fun e w' => e = .returned (.int .i64 b) ∧ Below w.heap.size w w')) (w : World) :
    Calls Tryd.prog 19 #[.agg #[.int .u64 a0, .int .u64 a1, .int .u64 a2, .int .u64 a3]] w fun e w' => e = .returned (.int .i64 b) ∧ Below w.heap.size w w' := by
  go_enter Tryd.func19, Tryd.ntmps19
  go_wp2_with fail
  (with_reducible refine (H1.out _).mono ?_); rintro e w1 ⟨rfl, hb⟩
  have kk := bC (bA (Below.refl _ _) _) hb
  have xa : HB w1 w.heap.size 38 #[.int .u64 a0, .int .u64 a1, .int .u64 a2, .int .u64 a3] := (HB.new w _ _).later hb
  clear hb
  go_wp2_with fail
  (with_reducible refine (H2.out _).mono ?_); rintro e w2 ⟨rfl, hb⟩
  replace kk := bC kk hb
  replace xa := xa.later hb
  have c0 := xa.cell 0; have c1 := xa.cell 1; have c2 := xa.cell 2; have c3 := xa.cell 3
  dsimp at c0 c1 c2 c3
  have sz := xa.lt
  clear hb xa
  go_wp2_with fail
  (with_reducible refine (H3.out _).mono ?_); rintro e w3 ⟨rfl, hb⟩
  replace kk := bC kk hb
  clear hb c0 c1 c2 c3 sz
  go_wp2_with fail
  (with_reducible refine (H4.out _).mono ?_); rintro e w4 ⟨rfl, hb⟩
  replace kk := bC kk hb
  clear hb
  go_wp2_with fail
  go_ret
  exact ⟨rfl, kk⟩
theorem wlenW (n : Int) (w : World) : Calls Tryd.prog 19 #[.agg #[.int .u64 (wd0 (n)), .int .u64 (wd1 (n)), .int .u64 (wd2 (n)), .int .u64 (wd3 (n))]] w fun e w' => e = .returned (.int .i64 (blen (n % wfull))) ∧ Below w.heap.size w w' := by
  have e : n % wfull = n / full % full * 2 ^ 128 + n % full := by show _ = n / full % full * full + n % full; unfold wfull full; omega
  have m0 := mod_f (n / full)
  have m1 := mod_f n
  by_cases h0 : n / full % full = 0
  · have L := lenB (n / full)
    rw [h0, blen_zero] at L
    rw [e, h0, Int.zero_mul, Int.zero_add]
    exact wlen_core0 _ _ _ _ _ _ _ _ _ (Lib.hid (highW n)) (Lib.hid L) (Lib.hid (lowW n)) (Lib.hid (lenB n)) w
  · have b := blen_f m0.1 m0.2
    have bp := blen_pos (show 0 < n / full % full by omega)
    rw [e, blen_hi 128 (by omega) m1.1 m1.2]
    refine wlen_core _ _ _ _ _ _ _ _ (Lib.hid (highW n)) (Lib.hid (lenB (n / full))) (by simp; omega) (by omega) ?_ w
    rw [IntWalk.i64_in _ (by omega)]; omega

/-! ### Tail -/

theorem idx_wide0 (x0 x1 x2 x3 : Int) (w : World) : (Instr.index 38 (.agg #[.int .u64 x0, .int .u64 x1, .int .u64 x2, .int .u64 x3]) (.int .i64 0)).run Tryd.prog w = .ok (.int .u64 x0) w := by
  have hi0 : (Tryd.prog.info? 22).isSome = true := by kernel_rfl
  obtain ⟨i, hi⟩ := Option.isSome_iff_exists.1 hi0
  have hc : Tryd.prog.cellsOf 22 = 1 := by kernel_rfl
  simp [Instr.index, run_underlying Tryd.underlying38, asIntOf, go_sem]

theorem idx_wide1 (x0 x1 x2 x3 : Int) (w : World) : (Instr.index 38 (.agg #[.int .u64 x0, .int .u64 x1, .int .u64 x2, .int .u64 x3]) (.int .i64 1)).run Tryd.prog w = .ok (.int .u64 x1) w := by
  have hi0 : (Tryd.prog.info? 22).isSome = true := by kernel_rfl
  obtain ⟨i, hi⟩ := Option.isSome_iff_exists.1 hi0
  have hc : Tryd.prog.cellsOf 22 = 1 := by kernel_rfl
  simp [Instr.index, run_underlying Tryd.underlying38, asIntOf, go_sem]

theorem idx_wide2 (x0 x1 x2 x3 : Int) (w : World) : (Instr.index 38 (.agg #[.int .u64 x0, .int .u64 x1, .int .u64 x2, .int .u64 x3]) (.int .i64 2)).run Tryd.prog w = .ok (.int .u64 x2) w := by
  have hi0 : (Tryd.prog.info? 22).isSome = true := by kernel_rfl
  obtain ⟨i, hi⟩ := Option.isSome_iff_exists.1 hi0
  have hc : Tryd.prog.cellsOf 22 = 1 := by kernel_rfl
  simp [Instr.index, run_underlying Tryd.underlying38, asIntOf, go_sem]

theorem idx_wide3 (x0 x1 x2 x3 : Int) (w : World) : (Instr.index 38 (.agg #[.int .u64 x0, .int .u64 x1, .int .u64 x2, .int .u64 x3]) (.int .i64 3)).run Tryd.prog w = .ok (.int .u64 x3) w := by
  have hi0 : (Tryd.prog.info? 22).isSome = true := by kernel_rfl
  obtain ⟨i, hi⟩ := Option.isSome_iff_exists.1 hi0
  have hc : Tryd.prog.cellsOf 22 = 1 := by kernel_rfl
  simp [Instr.index, run_underlying Tryd.underlying38, asIntOf, go_sem]

set_option maxHeartbeats 4000000 in
theorem tail_core0 (a0 a1 a2 a3 : Int) (hz : (a0 == 0) = false) (hz' : a0 ≠ 0) (c m : Int) (w : World) (T : Hid (∀ W, Below w.heap.size w W → Calls Tryd.prog 45 #[.int .u64 a0] W fun e w' => e = .returned (.int .i64 c) ∧ W = w')) (hm : wrap64 (c) = m) :
    Calls Tryd.prog 20 #[.agg #[.int .u64 a0, .int .u64 a1, .int .u64 a2, .int .u64 a3]] w fun e w' => e = .returned (.int .i64 m) ∧ Below w.heap.size w w' := by
  have I0 := idx_wide0 a0 a1 a2 a3
  go_enter Tryd.func20, Tryd.ntmps20
  go_wp2_with fail
  go_loopw [6] (fun i wr => (i = .int .i64 0) ∧ Below w.heap.size w wr) (fun i _ => 4 - (intOf i).toNat)
  case atStart => exact ⟨by simp, bA (Below.refl _ _) _⟩
  case round =>
    obtain ⟨hs, kk⟩ := hrel
    rcases hs with rfl
    · go_wp2_with fail
      (with_reducible refine (T.out _ kk).mono ?_); rintro e w1 ⟨rfl, rfl⟩
      go_wp2_with fail
      go_ret
      first | exact ⟨rfl, kk⟩ | exact ⟨congrArg (fun z => Ending.returned (Value.int IntKind.i64 z)) hm, kk⟩

set_option maxHeartbeats 4000000 in
theorem tail_core1 (a1 a2 a3 : Int) (hz : (a1 == 0) = false) (hz' : a1 ≠ 0) (c m : Int) (w : World) (T : Hid (∀ W, Below w.heap.size w W → Calls Tryd.prog 45 #[.int .u64 a1] W fun e w' => e = .returned (.int .i64 c) ∧ W = w')) (hm : wrap64 (64 + c) = m) :
    Calls Tryd.prog 20 #[.agg #[.int .u64 0, .int .u64 a1, .int .u64 a2, .int .u64 a3]] w fun e w' => e = .returned (.int .i64 m) ∧ Below w.heap.size w w' := by
  have I0 := idx_wide0 0 a1 a2 a3
  have I1 := idx_wide1 0 a1 a2 a3
  go_enter Tryd.func20, Tryd.ntmps20
  go_wp2_with fail
  go_loopw [6] (fun i wr => (i = .int .i64 0 ∨ i = .int .i64 1) ∧ Below w.heap.size w wr) (fun i _ => 4 - (intOf i).toNat)
  case atStart => exact ⟨by simp, bA (Below.refl _ _) _⟩
  case round =>
    obtain ⟨hs, kk⟩ := hrel
    rcases hs with rfl | rfl
    · go_wp2_with fail
      go_roundw
      case rel => exact ⟨by simp, kk⟩
      case measure => simp [intOf]
    · go_wp2_with fail
      (with_reducible refine (T.out _ kk).mono ?_); rintro e w1 ⟨rfl, rfl⟩
      go_wp2_with fail
      go_ret
      first | exact ⟨rfl, kk⟩ | exact ⟨congrArg (fun z => Ending.returned (Value.int IntKind.i64 z)) hm, kk⟩

set_option maxHeartbeats 4000000 in
theorem tail_core2 (a2 a3 : Int) (hz : (a2 == 0) = false) (hz' : a2 ≠ 0) (c m : Int) (w : World) (T : Hid (∀ W, Below w.heap.size w W → Calls Tryd.prog 45 #[.int .u64 a2] W fun e w' => e = .returned (.int .i64 c) ∧ W = w')) (hm : wrap64 (128 + c) = m) :
    Calls Tryd.prog 20 #[.agg #[.int .u64 0, .int .u64 0, .int .u64 a2, .int .u64 a3]] w fun e w' => e = .returned (.int .i64 m) ∧ Below w.heap.size w w' := by
  have I0 := idx_wide0 0 0 a2 a3
  have I1 := idx_wide1 0 0 a2 a3
  have I2 := idx_wide2 0 0 a2 a3
  go_enter Tryd.func20, Tryd.ntmps20
  go_wp2_with fail
  go_loopw [6] (fun i wr => (i = .int .i64 0 ∨ i = .int .i64 1 ∨ i = .int .i64 2) ∧ Below w.heap.size w wr) (fun i _ => 4 - (intOf i).toNat)
  case atStart => exact ⟨by simp, bA (Below.refl _ _) _⟩
  case round =>
    obtain ⟨hs, kk⟩ := hrel
    rcases hs with rfl | rfl | rfl
    · go_wp2_with fail
      go_roundw
      case rel => exact ⟨by simp, kk⟩
      case measure => simp [intOf]
    · go_wp2_with fail
      go_roundw
      case rel => exact ⟨by simp, kk⟩
      case measure => simp [intOf]
    · go_wp2_with fail
      (with_reducible refine (T.out _ kk).mono ?_); rintro e w1 ⟨rfl, rfl⟩
      go_wp2_with fail
      go_ret
      first | exact ⟨rfl, kk⟩ | exact ⟨congrArg (fun z => Ending.returned (Value.int IntKind.i64 z)) hm, kk⟩

set_option maxHeartbeats 4000000 in
theorem tail_core3 (a3 : Int) (hz : (a3 == 0) = false) (hz' : a3 ≠ 0) (c m : Int) (w : World) (T : Hid (∀ W, Below w.heap.size w W → Calls Tryd.prog 45 #[.int .u64 a3] W fun e w' => e = .returned (.int .i64 c) ∧ W = w')) (hm : wrap64 (192 + c) = m) :
    Calls Tryd.prog 20 #[.agg #[.int .u64 0, .int .u64 0, .int .u64 0, .int .u64 a3]] w fun e w' => e = .returned (.int .i64 m) ∧ Below w.heap.size w w' := by
  have I0 := idx_wide0 0 0 0 a3
  have I1 := idx_wide1 0 0 0 a3
  have I2 := idx_wide2 0 0 0 a3
  have I3 := idx_wide3 0 0 0 a3
  go_enter Tryd.func20, Tryd.ntmps20
  go_wp2_with fail
  go_loopw [6] (fun i wr => (i = .int .i64 0 ∨ i = .int .i64 1 ∨ i = .int .i64 2 ∨ i = .int .i64 3) ∧ Below w.heap.size w wr) (fun i _ => 4 - (intOf i).toNat)
  case atStart => exact ⟨by simp, bA (Below.refl _ _) _⟩
  case round =>
    obtain ⟨hs, kk⟩ := hrel
    rcases hs with rfl | rfl | rfl | rfl
    · go_wp2_with fail
      go_roundw
      case rel => exact ⟨by simp, kk⟩
      case measure => simp [intOf]
    · go_wp2_with fail
      go_roundw
      case rel => exact ⟨by simp, kk⟩
      case measure => simp [intOf]
    · go_wp2_with fail
      go_roundw
      case rel => exact ⟨by simp, kk⟩
      case measure => simp [intOf]
    · go_wp2_with fail
      (with_reducible refine (T.out _ kk).mono ?_); rintro e w1 ⟨rfl, rfl⟩
      go_wp2_with fail
      go_ret
      first | exact ⟨rfl, kk⟩ | exact ⟨congrArg (fun z => Ending.returned (Value.int IntKind.i64 z)) hm, kk⟩

set_option maxHeartbeats 4000000 in
theorem tail_core4 (w : World) :
    Calls Tryd.prog 20 #[.agg #[.int .u64 0, .int .u64 0, .int .u64 0, .int .u64 0]] w fun e w' => e = .returned (.int .i64 256) ∧ Below w.heap.size w w' := by
  have I0 := idx_wide0 0 0 0 0
  have I1 := idx_wide1 0 0 0 0
  have I2 := idx_wide2 0 0 0 0
  have I3 := idx_wide3 0 0 0 0
  go_enter Tryd.func20, Tryd.ntmps20
  go_wp2_with fail
  go_loopw [6] (fun i wr => (i = .int .i64 0 ∨ i = .int .i64 1 ∨ i = .int .i64 2 ∨ i = .int .i64 3 ∨ i = .int .i64 4) ∧ Below w.heap.size w wr) (fun i _ => 4 - (intOf i).toNat)
  case atStart => exact ⟨by simp, bA (Below.refl _ _) _⟩
  case round =>
    obtain ⟨hs, kk⟩ := hrel
    rcases hs with rfl | rfl | rfl | rfl | rfl
    · go_wp2_with fail
      go_roundw
      case rel => exact ⟨by simp, kk⟩
      case measure => simp [intOf]
    · go_wp2_with fail
      go_roundw
      case rel => exact ⟨by simp, kk⟩
      case measure => simp [intOf]
    · go_wp2_with fail
      go_roundw
      case rel => exact ⟨by simp, kk⟩
      case measure => simp [intOf]
    · go_wp2_with fail
      go_roundw
      case rel => exact ⟨by simp, kk⟩
      case measure => simp [intOf]
    · go_wp2_with fail
      go_ret
      exact ⟨rfl, kk⟩

theorem tailW (n : Int) (w : World) (tb : Tab w) : Calls Tryd.prog 20 #[.agg #[.int .u64 (wd0 (n)), .int .u64 (wd1 (n)), .int .u64 (wd2 (n)), .int .u64 (wd3 (n))]] w fun e w' => e = .returned (.int .i64 (tailN (n % wfull))) ∧ Below w.heap.size w w' := by
  have u0 := wd0_u n; have u1 := wd1_u n; have u2 := wd2_u n; have u3 := wd3_u n
  have e := wval_wd_mod n
  have m := mod_w n
  rw [← e] at m ⊢
  generalize wd0 n = a0 at *
  generalize wd1 n = a1 at *
  generalize wd2 n = a2 at *
  generalize wd3 n = a3 at *
  clear e
  have fin : ∀ (d r : Int) (i : Nat), U64 d → d ≠ 0 → i < 4 → 0 < wval a0 a1 a2 a3 → wval a0 a1 a2 a3 = 2 ^ (64 * i) * (d + 18446744073709551616 * r) → ∀ v : Int, v = 64 * (i : Int) + (Lib.ctz 64 d.toNat : Nat) → wrap64 v = (tailN (wval a0 a1 a2 a3) : Nat) := fun d r i hd h0 hi hp hx v hv => by
    obtain ⟨c1, z, c2⟩ := ctz_spec hd h0
    obtain ⟨t1, t2⟩ := tail_digit hx c1 c2
    rw [tail_of hp m.2 t1 t2]; unfold wrap64; omega
  by_cases h0 : a0 = 0
  · by_cases h1 : a1 = 0
    · by_cases h2 : a2 = 0
      · by_cases h3 : a3 = 0
        · subst h0 h1 h2 h3
          rw [show wval 0 0 0 0 = 0 from rfl, tail_zero]
          exact tail_core4 w
        · subst h0 h1 h2
          have h : 0 < a3 := by have := u3.1; omega
          refine tail_core3 a3 (by simpa using h3) h3 _ _ w (Lib.hid fun W hb => tz64_any a3 u3 h3 W (tb.later hb)) ?_
          exact fin a3 0 3 u3 h3 (by omega) (by unfold wval; omega) (by show wval 0 0 0 a3 = 6277101735386680763835789423207666416102355444464034512896 * _; unfold wval; omega) _ (by omega)
      · subst h0 h1
        have h : 0 < a2 := by have := u2.1; omega
        have := u3.1
        refine tail_core2 a2 a3 (by simpa using h2) h2 _ _ w (Lib.hid fun W hb => tz64_any a2 u2 h2 W (tb.later hb)) ?_
        exact fin a2 a3 2 u2 h2 (by omega) (by unfold wval; omega) (by show wval 0 0 a2 a3 = 340282366920938463463374607431768211456 * _; unfold wval; omega) _ (by omega)
    · subst h0
      have h : 0 < a1 := by have := u1.1; omega
      have := u2.1; have := u3.1
      refine tail_core1 a1 a2 a3 (by simpa using h1) h1 _ _ w (Lib.hid fun W hb => tz64_any a1 u1 h1 W (tb.later hb)) ?_
      exact fin a1 (a2 + 18446744073709551616 * a3) 1 u1 h1 (by omega) (by unfold wval; omega) (by show wval 0 a1 a2 a3 = 18446744073709551616 * _; unfold wval; omega) _ (by omega)
  · have h : 0 < a0 := by have := u0.1; omega
    have := u1.1; have := u2.1; have := u3.1
    refine tail_core0 a0 a1 a2 a3 (by simpa using h0) h0 _ _ w (Lib.hid fun W hb => tz64_any a0 u0 h0 W (tb.later hb)) ?_
    exact fin a0 (a1 + 18446744073709551616 * a2 + 340282366920938463463374607431768211456 * a3) 0 u0 h0 (by omega) (by unfold wval; omega) (by show wval a0 a1 a2 a3 = 1 * _; unfold wval; omega) _ (by omega)

/-! ### Raise -/

theorem above2 (a0 a1 b m : Int) (p : Nat) (L : Hid (∀ w, Calls Tryd.prog 13 #[.agg #[.int .u64 a0, .int .u64 a1]] w fun e w' => e = .returned (.int .i64 b) ∧ Below w.heap.size w w')) (hm : IntKind.i64.wrap (128 - b) = m) (w : World) (hx : HB w p 24 #[.int .u64 a0, .int .u64 a1]) :
    Calls Tryd.prog 36 #[.pointer (some ⟨p, 0, none⟩)] w fun e w' => e = .returned (.int .i64 m) ∧ Below w.heap.size w w' := by
  have c0 := hx.cell 0; have c1 := hx.cell 1
  dsimp at c0 c1
  have sz := hx.lt
  clear hx
  go_enter Tryd.func36, Tryd.ntmps36
  go_wp2_with fail
  (with_reducible refine (L.out _).mono ?_); rintro e w1 ⟨rfl, hb⟩
  go_wp2_with fail
  go_ret
  exact ⟨rfl, hb⟩

set_option maxHeartbeats 4000000 in
theorem leftc2 (a0 a1 x0 x1 k : Int) (p : Nat) (L : Hid (∀ w, Calls Tryd.prog 38 #[.agg #[.int .u64 a0, .int .u64 a1], .int .i64 k] w fun e w' => e = .returned (.agg #[.int .u64 x0, .int .u64 x1]) ∧ Below w.heap.size w w')) (w : World) (hx : HB w p 24 #[.int .u64 a0, .int .u64 a1]) :
    Calls Tryd.prog 37 #[.int .i64 k, .pointer (some ⟨p, 0, none⟩)] w fun e w' => e = .returned (.agg #[.int .u64 x0, .int .u64 x1]) ∧ Below w.heap.size w w' := by
  have c0 := hx.cell 0; have c1 := hx.cell 1
  dsimp at c0 c1
  have sz := hx.lt
  clear hx
  go_enter Tryd.func37, Tryd.ntmps37
  go_wp2_with fail
  (with_reducible refine (L.out _).mono ?_); rintro e w1 ⟨rfl, hb⟩
  have kk := bC (bA (Below.refl _ _) _) hb
  have xr : HB w1 w.heap.size 24 #[.int .u64 0, .int .u64 0] := (HB.new w _ _).later hb
  have KEY : Hid (HB ((w1.setCell ⟨w.heap.size, 0, none⟩ (.int .u64 (x0))).setCell ⟨w.heap.size, 1, none⟩ (.int .u64 (x1))) (w.heap.size) 24 #[.int .u64 (x0), .int .u64 (x1)] ∧ Below w.heap.size w ((w1.setCell ⟨w.heap.size, 0, none⟩ (.int .u64 (x0))).setCell ⟨w.heap.size, 1, none⟩ (.int .u64 (x1)))) := Lib.hid ⟨((xr.set 0 _).set 1 _), ((kk.setCell (p := ⟨w.heap.size, 0, none⟩) (by simp) _).setCell (p := ⟨w.heap.size, 1, none⟩) (by simp) _)⟩
  have hsz := kk.size; have hlt := xr.lt
  have z0 := xr.cell 0; have f0 := xr.frozen 0; dsimp at z0; have z1 := xr.cell 1; have f1 := xr.frozen 1; dsimp at z1
  clear hb xr kk L c0 c1 sz
  go_wp2_with fail
  obtain ⟨hE, kb⟩ := KEY.out
  have e0 := hE.cell 0; have e1 := hE.cell 1
  dsimp at e0 e1
  refine bodyPost_ret (v := .agg #[.int .u64 x0, .int .u64 x1]) ?_ rfl ⟨rfl, kb⟩
  clear z0 f0 z1 f1 kb hE
  simp [results, Tryd.results37, go_sem, e0, e1]

set_option maxHeartbeats 4000000 in
theorem raise2_zero (p : Nat) (w : World) :
    Calls Tryd.prog 35 #[.agg #[.int .u64 0, .int .u64 0], .func (.func 36) #[] #[.pointer (some ⟨p, 0, none⟩)], .func (.func 37) #[] #[.pointer (some ⟨p, 0, none⟩)]] w fun e w' => e = .returned (.tuple #[.agg #[.int .u64 0, .int .u64 0], .int .i64 0]) ∧ Below w.heap.size w w' := by
  have EQ : ∀ w, (binOp .eql 24 (.agg #[.int .u64 0, .int .u64 0]) (.agg #[.int .u64 0, .int .u64 0])).run Tryd.prog w = .ok (.bool true) w := fun w => by rw [eql_bits]; simp
  go_enter Tryd.func35, Tryd.ntmps35
  go_wp2_with fail
  refine bodyPost_ret (v := .tuple #[.agg #[.int .u64 0, .int .u64 0], .int .i64 0]) ?_ rfl ⟨rfl, bA (bA (bA (Below.refl _ _) _) _) _⟩
  simp [results, Tryd.results35, go_sem]

set_option maxHeartbeats 4000000 in
theorem raise2_not (a0 a1 x0 x1 k : Int) (p : Nat) (EQ : ∀ w, (binOp .eql 24 (.agg #[.int .u64 a0, .int .u64 a1]) (.agg #[.int .u64 0, .int .u64 0])).run Tryd.prog w = .ok (.bool false) w) (w : World)
    (H1 : Hid (∀ W, Below w.heap.size w W → Calls Tryd.prog 36 #[.pointer (some ⟨p, 0, none⟩)] W fun e w' => e = .returned (.int .i64 k) ∧ Below W.heap.size W w'))
    (H2 : Hid (∀ W, Below w.heap.size w W → Calls Tryd.prog 37 #[.int .i64 k, .pointer (some ⟨p, 0, none⟩)] W fun e w' => e = .returned (.agg #[.int .u64 x0, .int .u64 x1]) ∧ Below W.heap.size W w')) :
    Calls Tryd.prog 35 #[.agg #[.int .u64 a0, .int .u64 a1], .func (.func 36) #[] #[.pointer (some ⟨p, 0, none⟩)], .func (.func 37) #[] #[.pointer (some ⟨p, 0, none⟩)]] w fun e w' => e = .returned (.tuple #[.agg #[.int .u64 x0, .int .u64 x1], .int .i64 k]) ∧ Below w.heap.size w w' := by
  go_enter Tryd.func35, Tryd.ntmps35
  go_wp2_with fail
  (with_reducible refine (H1.out _ (bA (bA (bA (Below.refl _ _) _) _) _)).mono ?_); rintro e w1 ⟨rfl, hb⟩
  have kk := bC (bA (bA (bA (Below.refl _ _) _) _) _) hb
  have xr : HB w1 (w.heap.size + 1) 24 #[.int .u64 0, .int .u64 0] := ((HB.newAt (by simp) _ _).alloc _).later hb
  clear hb
  go_wp2_with fail
  (with_reducible refine (H2.out _ kk).mono ?_); rintro e w2 ⟨rfl, hb⟩
  replace kk := bC kk hb
  replace xr := xr.later hb
  have KEY : Hid (HB ((w2.setCell ⟨w.heap.size + 1, 0, none⟩ (.int .u64 (x0))).setCell ⟨w.heap.size + 1, 1, none⟩ (.int .u64 (x1))) (w.heap.size + 1) 24 #[.int .u64 (x0), .int .u64 (x1)] ∧ Below w.heap.size w ((w2.setCell ⟨w.heap.size + 1, 0, none⟩ (.int .u64 (x0))).setCell ⟨w.heap.size + 1, 1, none⟩ (.int .u64 (x1)))) := Lib.hid ⟨((xr.set 0 _).set 1 _), ((kk.setCell (p := ⟨w.heap.size + 1, 0, none⟩) (by simp) _).setCell (p := ⟨w.heap.size + 1, 1, none⟩) (by simp) _)⟩
  have hsz := kk.size; have hlt := xr.lt
  have z0 := xr.cell 0; have f0 := xr.frozen 0; dsimp at z0; have z1 := xr.cell 1; have f1 := xr.frozen 1; dsimp at z1
  clear hb xr kk H1 H2
  go_wp2_with fail
  obtain ⟨hE, kb⟩ := KEY.out
  have e0 := hE.cell 0; have e1 := hE.cell 1
  dsimp at e0 e1
  refine bodyPost_ret (v := .tuple #[.agg #[.int .u64 x0, .int .u64 x1], .int .i64 k]) ?_ rfl ⟨rfl, kb⟩
  clear z0 f0 z1 f1 kb hE
  simp [results, Tryd.results35, go_sem, e0, e1]

set_option maxHeartbeats 4000000 in
theorem top2 (a0 a1 x0 x1 k : Int) (R : Hid (∀ (p : Nat) w, HB w p 24 #[.int .u64 a0, .int .u64 a1] → Calls Tryd.prog 35 #[.agg #[.int .u64 a0, .int .u64 a1], .func (.func 36) #[] #[.pointer (some ⟨p, 0, none⟩)], .func (.func 37) #[] #[.pointer (some ⟨p, 0, none⟩)]] w fun e w' => e = .returned (.tuple #[.agg #[.int .u64 x0, .int .u64 x1], .int .i64 k]) ∧ Below w.heap.size w w')) (w : World) :
    Calls Tryd.prog 11 #[.agg #[.int .u64 a0, .int .u64 a1]] w fun e w' => e = .returned (.tuple #[.agg #[.int .u64 x0, .int .u64 x1], .int .i64 k]) ∧ Below w.heap.size w w' := by
  go_enter Tryd.func11, Tryd.ntmps11
  go_wp2_with fail
  (with_reducible refine (R.out _ _ ((HB.new w _ _).alloc _)).mono ?_); rintro e w1 ⟨rfl, hb⟩
  have kk := bC (bA (bA (Below.refl _ _) _) _) hb
  have xr : HB w1 (w.heap.size + 1) 24 #[.int .u64 0, .int .u64 0] := (HB.newAt (by simp) _ _).later hb
  have KEY : Hid (HB ((w1.setCell ⟨w.heap.size + 1, 0, none⟩ (.int .u64 (x0))).setCell ⟨w.heap.size + 1, 1, none⟩ (.int .u64 (x1))) (w.heap.size + 1) 24 #[.int .u64 (x0), .int .u64 (x1)] ∧ Below w.heap.size w ((w1.setCell ⟨w.heap.size + 1, 0, none⟩ (.int .u64 (x0))).setCell ⟨w.heap.size + 1, 1, none⟩ (.int .u64 (x1)))) := Lib.hid ⟨((xr.set 0 _).set 1 _), ((kk.setCell (p := ⟨w.heap.size + 1, 0, none⟩) (by simp) _).setCell (p := ⟨w.heap.size + 1, 1, none⟩) (by simp) _)⟩
  have hsz := kk.size; have hlt := xr.lt
  have z0 := xr.cell 0; have f0 := xr.frozen 0; dsimp at z0; have z1 := xr.cell 1; have f1 := xr.frozen 1; dsimp at z1
  clear hb xr kk R
  go_wp2_with fail
  obtain ⟨hE, kb⟩ := KEY.out
  have e0 := hE.cell 0; have e1 := hE.cell 1
  dsimp at e0 e1
  refine bodyPost_ret (v := .tuple #[.agg #[.int .u64 x0, .int .u64 x1], .int .i64 k]) ?_ rfl ⟨rfl, kb⟩
  clear z0 f0 z1 f1 kb hE
  simp [results, Tryd.results11, go_sem, e0, e1]

theorem raiseB (n : Int) (w : World) : Calls Tryd.prog 11 #[.agg #[.int .u64 (hiOf (n)), .int .u64 (loOf (n))]] w fun e w' => e = .returned (.tuple #[.agg #[.int .u64 (hiOf (n % full * 2 ^ upN 128 (n % full))), .int .u64 (loOf (n % full * 2 ^ upN 128 (n % full)))], .int .i64 (upN 128 (n % full))]) ∧ Below w.heap.size w w' := by
  have m0 := mod_f n
  by_cases h0 : n % full = 0
  ·
    have z : hiOf n = 0 ∧ loOf n = 0 := by have := hl_mod n; rw [h0] at this; exact ⟨this.1.symm, this.2.symm⟩
    rw [h0, Int.zero_mul, up_zero, z.1, z.2, show hiOf 0 = 0 from rfl, show loOf 0 = 0 from rfl]
    exact top2 0 0 0 0 0 (Lib.hid fun p w _ => raise2_zero p w) w
  · have b := blen_f m0.1 m0.2
    have bp := blen_pos (show 0 < n % full by omega)
    have hu : upN 128 (n % full) = 128 - blen (n % full) := by unfold upN; rw [if_neg h0]
    obtain ⟨q0, q1⟩ := hl_mul_mod n (2 ^ upN 128 (n % full))
    rw [q0, q1]
    refine top2 _ _ _ _ _ (Lib.hid fun p w hx => raise2_not _ _ _ _ _ p ?_ w (Lib.hid fun W hb => above2 _ _  _ _ p (Lib.hid (lenB n)) (by rw [IntWalk.i64_in _ (by omega), hu]; omega) W (hx.later hb)) (Lib.hid fun W hb => leftc2 _ _ _ _ _ p (Lib.hid fun w => ?_) W (hx.later hb))) w
    · intro w
      rw [eql_bits]
      congr 2
      rw [decide_eq_false_iff_not]
      have hi := hl_inj m0.1 m0.2 (Int.le_refl 0) (by decide : (0 : Int) < full)
      rw [(hl_mod n).1, (hl_mod n).2, show hiOf 0 = 0 from rfl, show loOf 0 = 0 from rfl] at hi
      intro hh; exact h0 (hi.1 ⟨hh.2, hh.1⟩)
    · have h := leftB n (upN 128 (n % full) : Nat) (by omega) (by omega) w
      rw [Int.toNat_natCast] at h
      exact h

theorem above4 (a0 a1 a2 a3 b m : Int) (p : Nat) (L : Hid (∀ w, Calls Tryd.prog 19 #[.agg #[.int .u64 a0, .int .u64 a1, .int .u64 a2, .int .u64 a3]] w fun e w' => e = .returned (.int .i64 b) ∧ Below w.heap.size w w')) (hm : IntKind.i64.wrap (256 - b) = m) (w : World) (hx : HB w p 38 #[.int .u64 a0, .int .u64 a1, .int .u64 a2, .int .u64 a3]) :
    Calls Tryd.prog 43 #[.pointer (some ⟨p, 0, none⟩)] w fun e w' => e = .returned (.int .i64 m) ∧ Below w.heap.size w w' := by
  have c0 := hx.cell 0; have c1 := hx.cell 1; have c2 := hx.cell 2; have c3 := hx.cell 3
  dsimp at c0 c1 c2 c3
  have sz := hx.lt
  clear hx
  go_enter Tryd.func43, Tryd.ntmps43
  go_wp2_with fail
  (with_reducible refine (L.out _).mono ?_); rintro e w1 ⟨rfl, hb⟩
  go_wp2_with fail
  go_ret
  exact ⟨rfl, hb⟩

set_option maxHeartbeats 4000000 in
theorem leftc4 (a0 a1 a2 a3 x0 x1 x2 x3 k : Int) (p : Nat) (L : Hid (∀ w, Calls Tryd.prog 25 #[.agg #[.int .u64 a0, .int .u64 a1, .int .u64 a2, .int .u64 a3], .int .i64 k] w fun e w' => e = .returned (.agg #[.int .u64 x0, .int .u64 x1, .int .u64 x2, .int .u64 x3]) ∧ Below w.heap.size w w')) (w : World) (hx : HB w p 38 #[.int .u64 a0, .int .u64 a1, .int .u64 a2, .int .u64 a3]) :
    Calls Tryd.prog 44 #[.int .i64 k, .pointer (some ⟨p, 0, none⟩)] w fun e w' => e = .returned (.agg #[.int .u64 x0, .int .u64 x1, .int .u64 x2, .int .u64 x3]) ∧ Below w.heap.size w w' := by
  have c0 := hx.cell 0; have c1 := hx.cell 1; have c2 := hx.cell 2; have c3 := hx.cell 3
  dsimp at c0 c1 c2 c3
  have sz := hx.lt
  clear hx
  go_enter Tryd.func44, Tryd.ntmps44
  go_wp2_with fail
  (with_reducible refine (L.out _).mono ?_); rintro e w1 ⟨rfl, hb⟩
  have kk := bC (bA (Below.refl _ _) _) hb
  have xr : HB w1 w.heap.size 38 #[.int .u64 0, .int .u64 0, .int .u64 0, .int .u64 0] := (HB.new w _ _).later hb
  have KEY : Hid (HB ((((w1.setCell ⟨w.heap.size, 0, none⟩ (.int .u64 (x0))).setCell ⟨w.heap.size, 1, none⟩ (.int .u64 (x1))).setCell ⟨w.heap.size, 2, none⟩ (.int .u64 (x2))).setCell ⟨w.heap.size, 3, none⟩ (.int .u64 (x3))) (w.heap.size) 38 #[.int .u64 (x0), .int .u64 (x1), .int .u64 (x2), .int .u64 (x3)] ∧ Below w.heap.size w ((((w1.setCell ⟨w.heap.size, 0, none⟩ (.int .u64 (x0))).setCell ⟨w.heap.size, 1, none⟩ (.int .u64 (x1))).setCell ⟨w.heap.size, 2, none⟩ (.int .u64 (x2))).setCell ⟨w.heap.size, 3, none⟩ (.int .u64 (x3)))) := Lib.hid ⟨((((xr.set 0 _).set 1 _).set 2 _).set 3 _), ((((kk.setCell (p := ⟨w.heap.size, 0, none⟩) (by simp) _).setCell (p := ⟨w.heap.size, 1, none⟩) (by simp) _).setCell (p := ⟨w.heap.size, 2, none⟩) (by simp) _).setCell (p := ⟨w.heap.size, 3, none⟩) (by simp) _)⟩
  have hsz := kk.size; have hlt := xr.lt
  have z0 := xr.cell 0; have f0 := xr.frozen 0; dsimp at z0; have z1 := xr.cell 1; have f1 := xr.frozen 1; dsimp at z1; have z2 := xr.cell 2; have f2 := xr.frozen 2; dsimp at z2; have z3 := xr.cell 3; have f3 := xr.frozen 3; dsimp at z3
  clear hb xr kk L c0 c1 c2 c3 sz
  go_wp2_with fail
  obtain ⟨hE, kb⟩ := KEY.out
  have e0 := hE.cell 0; have e1 := hE.cell 1; have e2 := hE.cell 2; have e3 := hE.cell 3
  dsimp at e0 e1 e2 e3
  refine bodyPost_ret (v := .agg #[.int .u64 x0, .int .u64 x1, .int .u64 x2, .int .u64 x3]) ?_ rfl ⟨rfl, kb⟩
  clear z0 f0 z1 f1 z2 f2 z3 f3 kb hE
  simp [results, Tryd.results44, go_sem, e0, e1, e2, e3]

set_option maxHeartbeats 4000000 in
theorem raise4_zero (p : Nat) (w : World) :
    Calls Tryd.prog 42 #[.agg #[.int .u64 0, .int .u64 0, .int .u64 0, .int .u64 0], .func (.func 43) #[] #[.pointer (some ⟨p, 0, none⟩)], .func (.func 44) #[] #[.pointer (some ⟨p, 0, none⟩)]] w fun e w' => e = .returned (.tuple #[.agg #[.int .u64 0, .int .u64 0, .int .u64 0, .int .u64 0], .int .i64 0]) ∧ Below w.heap.size w w' := by
  have EQ : ∀ w, (binOp .eql 38 (.agg #[.int .u64 0, .int .u64 0, .int .u64 0, .int .u64 0]) (.agg #[.int .u64 0, .int .u64 0, .int .u64 0, .int .u64 0])).run Tryd.prog w = .ok (.bool true) w := fun w => by rw [eql_wide]; simp
  go_enter Tryd.func42, Tryd.ntmps42
  go_wp2_with fail
  refine bodyPost_ret (v := .tuple #[.agg #[.int .u64 0, .int .u64 0, .int .u64 0, .int .u64 0], .int .i64 0]) ?_ rfl ⟨rfl, bA (bA (bA (Below.refl _ _) _) _) _⟩
  simp [results, Tryd.results42, go_sem]

set_option maxHeartbeats 4000000 in
theorem raise4_not (a0 a1 a2 a3 x0 x1 x2 x3 k : Int) (p : Nat) (EQ : ∀ w, (binOp .eql 38 (.agg #[.int .u64 a0, .int .u64 a1, .int .u64 a2, .int .u64 a3]) (.agg #[.int .u64 0, .int .u64 0, .int .u64 0, .int .u64 0])).run Tryd.prog w = .ok (.bool false) w) (w : World)
    (H1 : Hid (∀ W, Below w.heap.size w W → Calls Tryd.prog 43 #[.pointer (some ⟨p, 0, none⟩)] W fun e w' => e = .returned (.int .i64 k) ∧ Below W.heap.size W w'))
    (H2 : Hid (∀ W, Below w.heap.size w W → Calls Tryd.prog 44 #[.int .i64 k, .pointer (some ⟨p, 0, none⟩)] W fun e w' => e = .returned (.agg #[.int .u64 x0, .int .u64 x1, .int .u64 x2, .int .u64 x3]) ∧ Below W.heap.size W w')) :
    Calls Tryd.prog 42 #[.agg #[.int .u64 a0, .int .u64 a1, .int .u64 a2, .int .u64 a3], .func (.func 43) #[] #[.pointer (some ⟨p, 0, none⟩)], .func (.func 44) #[] #[.pointer (some ⟨p, 0, none⟩)]] w fun e w' => e = .returned (.tuple #[.agg #[.int .u64 x0, .int .u64 x1, .int .u64 x2, .int .u64 x3], .int .i64 k]) ∧ Below w.heap.size w w' := by
  go_enter Tryd.func42, Tryd.ntmps42
  go_wp2_with fail
  (with_reducible refine (H1.out _ (bA (bA (bA (Below.refl _ _) _) _) _)).mono ?_); rintro e w1 ⟨rfl, hb⟩
  have kk := bC (bA (bA (bA (Below.refl _ _) _) _) _) hb
  have xr : HB w1 (w.heap.size + 1) 38 #[.int .u64 0, .int .u64 0, .int .u64 0, .int .u64 0] := ((HB.newAt (by simp) _ _).alloc _).later hb
  clear hb
  go_wp2_with fail
  (with_reducible refine (H2.out _ kk).mono ?_); rintro e w2 ⟨rfl, hb⟩
  replace kk := bC kk hb
  replace xr := xr.later hb
  have KEY : Hid (HB ((((w2.setCell ⟨w.heap.size + 1, 0, none⟩ (.int .u64 (x0))).setCell ⟨w.heap.size + 1, 1, none⟩ (.int .u64 (x1))).setCell ⟨w.heap.size + 1, 2, none⟩ (.int .u64 (x2))).setCell ⟨w.heap.size + 1, 3, none⟩ (.int .u64 (x3))) (w.heap.size + 1) 38 #[.int .u64 (x0), .int .u64 (x1), .int .u64 (x2), .int .u64 (x3)] ∧ Below w.heap.size w ((((w2.setCell ⟨w.heap.size + 1, 0, none⟩ (.int .u64 (x0))).setCell ⟨w.heap.size + 1, 1, none⟩ (.int .u64 (x1))).setCell ⟨w.heap.size + 1, 2, none⟩ (.int .u64 (x2))).setCell ⟨w.heap.size + 1, 3, none⟩ (.int .u64 (x3)))) := Lib.hid ⟨((((xr.set 0 _).set 1 _).set 2 _).set 3 _), ((((kk.setCell (p := ⟨w.heap.size + 1, 0, none⟩) (by simp) _).setCell (p := ⟨w.heap.size + 1, 1, none⟩) (by simp) _).setCell (p := ⟨w.heap.size + 1, 2, none⟩) (by simp) _).setCell (p := ⟨w.heap.size + 1, 3, none⟩) (by simp) _)⟩
  have hsz := kk.size; have hlt := xr.lt
  have z0 := xr.cell 0; have f0 := xr.frozen 0; dsimp at z0; have z1 := xr.cell 1; have f1 := xr.frozen 1; dsimp at z1; have z2 := xr.cell 2; have f2 := xr.frozen 2; dsimp at z2; have z3 := xr.cell 3; have f3 := xr.frozen 3; dsimp at z3
  clear hb xr kk H1 H2
  go_wp2_with fail
  obtain ⟨hE, kb⟩ := KEY.out
  have e0 := hE.cell 0; have e1 := hE.cell 1; have e2 := hE.cell 2; have e3 := hE.cell 3
  dsimp at e0 e1 e2 e3
  refine bodyPost_ret (v := .tuple #[.agg #[.int .u64 x0, .int .u64 x1, .int .u64 x2, .int .u64 x3], .int .i64 k]) ?_ rfl ⟨rfl, kb⟩
  clear z0 f0 z1 f1 z2 f2 z3 f3 kb hE
  simp [results, Tryd.results42, go_sem, e0, e1, e2, e3]

set_option maxHeartbeats 4000000 in
theorem top4 (a0 a1 a2 a3 x0 x1 x2 x3 k : Int) (R : Hid (∀ (p : Nat) w, HB w p 38 #[.int .u64 a0, .int .u64 a1, .int .u64 a2, .int .u64 a3] → Calls Tryd.prog 42 #[.agg #[.int .u64 a0, .int .u64 a1, .int .u64 a2, .int .u64 a3], .func (.func 43) #[] #[.pointer (some ⟨p, 0, none⟩)], .func (.func 44) #[] #[.pointer (some ⟨p, 0, none⟩)]] w fun e w' => e = .returned (.tuple #[.agg #[.int .u64 x0, .int .u64 x1, .int .u64 x2, .int .u64 x3], .int .i64 k]) ∧ Below w.heap.size w w')) (w : World) :
    Calls Tryd.prog 18 #[.agg #[.int .u64 a0, .int .u64 a1, .int .u64 a2, .int .u64 a3]] w fun e w' => e = .returned (.tuple #[.agg #[.int .u64 x0, .int .u64 x1, .int .u64 x2, .int .u64 x3], .int .i64 k]) ∧ Below w.heap.size w w' := by
  go_enter Tryd.func18, Tryd.ntmps18
  go_wp2_with fail
  (with_reducible refine (R.out _ _ ((HB.new w _ _).alloc _)).mono ?_); rintro e w1 ⟨rfl, hb⟩
  have kk := bC (bA (bA (Below.refl _ _) _) _) hb
  have xr : HB w1 (w.heap.size + 1) 38 #[.int .u64 0, .int .u64 0, .int .u64 0, .int .u64 0] := (HB.newAt (by simp) _ _).later hb
  have KEY : Hid (HB ((((w1.setCell ⟨w.heap.size + 1, 0, none⟩ (.int .u64 (x0))).setCell ⟨w.heap.size + 1, 1, none⟩ (.int .u64 (x1))).setCell ⟨w.heap.size + 1, 2, none⟩ (.int .u64 (x2))).setCell ⟨w.heap.size + 1, 3, none⟩ (.int .u64 (x3))) (w.heap.size + 1) 38 #[.int .u64 (x0), .int .u64 (x1), .int .u64 (x2), .int .u64 (x3)] ∧ Below w.heap.size w ((((w1.setCell ⟨w.heap.size + 1, 0, none⟩ (.int .u64 (x0))).setCell ⟨w.heap.size + 1, 1, none⟩ (.int .u64 (x1))).setCell ⟨w.heap.size + 1, 2, none⟩ (.int .u64 (x2))).setCell ⟨w.heap.size + 1, 3, none⟩ (.int .u64 (x3)))) := Lib.hid ⟨((((xr.set 0 _).set 1 _).set 2 _).set 3 _), ((((kk.setCell (p := ⟨w.heap.size + 1, 0, none⟩) (by simp) _).setCell (p := ⟨w.heap.size + 1, 1, none⟩) (by simp) _).setCell (p := ⟨w.heap.size + 1, 2, none⟩) (by simp) _).setCell (p := ⟨w.heap.size + 1, 3, none⟩) (by simp) _)⟩
  have hsz := kk.size; have hlt := xr.lt
  have z0 := xr.cell 0; have f0 := xr.frozen 0; dsimp at z0; have z1 := xr.cell 1; have f1 := xr.frozen 1; dsimp at z1; have z2 := xr.cell 2; have f2 := xr.frozen 2; dsimp at z2; have z3 := xr.cell 3; have f3 := xr.frozen 3; dsimp at z3
  clear hb xr kk R
  go_wp2_with fail
  obtain ⟨hE, kb⟩ := KEY.out
  have e0 := hE.cell 0; have e1 := hE.cell 1; have e2 := hE.cell 2; have e3 := hE.cell 3
  dsimp at e0 e1 e2 e3
  refine bodyPost_ret (v := .tuple #[.agg #[.int .u64 x0, .int .u64 x1, .int .u64 x2, .int .u64 x3], .int .i64 k]) ?_ rfl ⟨rfl, kb⟩
  clear z0 f0 z1 f1 z2 f2 z3 f3 kb hE
  simp [results, Tryd.results18, go_sem, e0, e1, e2, e3]

theorem wraiseW (n : Int) (w : World) : Calls Tryd.prog 18 #[.agg #[.int .u64 (wd0 (n)), .int .u64 (wd1 (n)), .int .u64 (wd2 (n)), .int .u64 (wd3 (n))]] w fun e w' => e = .returned (.tuple #[.agg #[.int .u64 (wd0 (n % wfull * 2 ^ upN 256 (n % wfull))), .int .u64 (wd1 (n % wfull * 2 ^ upN 256 (n % wfull))), .int .u64 (wd2 (n % wfull * 2 ^ upN 256 (n % wfull))), .int .u64 (wd3 (n % wfull * 2 ^ upN 256 (n % wfull)))], .int .i64 (upN 256 (n % wfull))]) ∧ Below w.heap.size w w' := by
  have m0 := mod_w n
  by_cases h0 : n % wfull = 0
  ·
    have z : wd0 n = 0 ∧ wd1 n = 0 ∧ wd2 n = 0 ∧ wd3 n = 0 := by have := wd_mod n; rw [h0] at this; exact ⟨this.1.symm, this.2.1.symm, this.2.2.1.symm, this.2.2.2.symm⟩
    rw [h0, Int.zero_mul, up_zero, z.1, z.2.1, z.2.2.1, z.2.2.2, show wd0 0 = 0 from rfl, show wd1 0 = 0 from rfl, show wd2 0 = 0 from rfl, show wd3 0 = 0 from rfl]
    exact top4 0 0 0 0 0 0 0 0 0 (Lib.hid fun p w _ => raise4_zero p w) w
  · have b := blen_w m0.1 m0.2
    have bp := blen_pos (show 0 < n % wfull by omega)
    have hu : upN 256 (n % wfull) = 256 - blen (n % wfull) := by unfold upN; rw [if_neg h0]
    obtain ⟨q0, q1, q2, q3⟩ := wd_mul_mod n (2 ^ upN 256 (n % wfull))
    rw [q0, q1, q2, q3]
    refine top4 _ _ _ _ _ _ _ _ _ (Lib.hid fun p w hx => raise4_not _ _ _ _ _ _ _ _ _ p ?_ w (Lib.hid fun W hb => above4 _ _ _ _ _ _ p (Lib.hid (wlenW n)) (by rw [IntWalk.i64_in _ (by omega), hu]; omega) W (hx.later hb)) (Lib.hid fun W hb => leftc4 _ _ _ _ _ _ _ _ _ p (Lib.hid fun w => ?_) W (hx.later hb))) w
    · intro w
      rw [eql_wide]
      congr 2
      rw [decide_eq_false_iff_not]
      have hi := wd_inj m0.1 m0.2 (Int.le_refl 0) (by decide : (0 : Int) < wfull)
      obtain ⟨e0, e1, e2, e3⟩ := wd_mod n
      rw [e0, e1, e2, e3, show wd0 0 = 0 from rfl, show wd1 0 = 0 from rfl, show wd2 0 = 0 from rfl, show wd3 0 = 0 from rfl] at hi
      intro hh; exact h0 (hi.1 hh)
    · have h := wleftW n (upN 256 (n % wfull) : Nat) (by omega) (by omega) w
      rw [Int.toNat_natCast] at h
      exact h

theorem countOK : CountOK := ⟨lenB, wlenW, tailW, raiseB, wraiseW⟩
end Go.Proofs.YtkhcbioohoeegaaDoor
