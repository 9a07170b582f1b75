import Derived.Laws.EntriesVeiled
import Derived.Test.YtjdjonekoodalaaGreatDoorGcA
set_option maxHeartbeats 4000000
set_option linter.unusedVariables false
set_option linter.unusedSimpArgs false
set_option maxRecDepth 100000
namespace Go.Proofs.YtjdjonekoodalaaGreatDoor
open Go.RowKit
attribute [local go_sem ↓] Go.wp_at_zero Go.wp_at_succ
def partN (d r b : Int) : Int := if 2 * (r % full) + b < d % full then 0 else 1
def restN (d r b : Int) : Int := if 2 * (r % full) + b < d % full then 2 * (r % full) + b else 2 * (r % full) + b - d % full
theorem qstep_lt (rh rl b dh dl th tl ul c : Int) (B : Nat)
    (A : Hid (∀ w, Calls Tryz.prog 128 #[.agg #[.int .u64 rh, .int .u64 rl], .agg #[.int .u64 rh, .int .u64 rl]] w fun e w' => e = .returned (.tuple #[.agg #[.int .u64 th, .int .u64 tl], .bool false]) ∧ Below w.heap.size w w'))
    (hor : bits .or .u64 tl b = ul)
    (C : Hid (∀ w, Calls Tryz.prog 19 #[.agg #[.int .u64 th, .int .u64 ul], .agg #[.int .u64 dh, .int .u64 dl]] w fun e w' => e = .returned (.int .i64 c) ∧ Below w.heap.size w w'))
    (hc : decide (c < 0) = true) (w : World) (hD : HB w B 25 #[.int .u64 dh, .int .u64 dl]) :
    Calls Tryz.prog 190 #[.agg #[.int .u64 rh, .int .u64 rl], .int .u64 b, .pointer (some ⟨B, 0, none⟩)] w fun e w' =>
      e = .returned (.tuple #[.int .u64 0, .agg #[.int .u64 th, .int .u64 ul]]) ∧ Below w.heap.size w w' := by
  have hBlt := hD.lt
  go_enter Tryz.func190, Tryz.ntmps190
  go_wp2_with fail
  (with_reducible refine (A.out _).mono ?_); rintro e w1 ⟨rfl, hb⟩
  have kk := bC (bA (bA bR _) _) hb
  have xr : HB w1 (w.heap.size + 1) 25 #[.int .u64 0, .int .u64 0] := (HB.newAt (by simp) _ _).later hb
  have xd : HB w1 B 25 #[.int .u64 dh, .int .u64 dl] := (((hD.alloc _).alloc _)).later hb
  have hsz := kk.size; have hlt := xr.lt; have hlB := xd.lt
  have d0 := xd.cell 0; have d1 := xd.cell 1; dsimp at d0 d1
  clear hb A
  go_wp2_with fail
  (with_reducible refine (C.out _).mono ?_); rintro e w2 ⟨rfl, hb⟩
  have xt : HB w2 w1.heap.size 25 #[.int .u64 th, .int .u64 ul] := (HB.new w1 _ _).later hb
  replace xr := (xr.alloc (.cells #[Value.int IntKind.u64 th, Value.int IntKind.u64 ul] 25)).later hb
  replace kk := bC (bA kk _) hb
  have c0 := xt.cell 0; have c1 := xt.cell 1; have z0 := xr.cell 0; have z1 := xr.cell 1; have f0 := xr.frozen 0; have f1 := xr.frozen 1
  dsimp at c0 c1 z0 z1
  have KEY := lH (show HB ((w2.setCell ⟨w.heap.size + 1, 0, none⟩ (.int .u64 th)).setCell ⟨w.heap.size + 1, 1, none⟩ (.int .u64 ul)).drew (w.heap.size + 1) 25 #[.int .u64 th, .int .u64 ul] ∧ Below w.heap.size w ((w2.setCell ⟨w.heap.size + 1, 0, none⟩ (.int .u64 th)).setCell ⟨w.heap.size + 1, 1, none⟩ (.int .u64 ul)).drew from
    ⟨((xr.set 0 _).set 1 _).drew, ((kk.setCell (p := ⟨w.heap.size + 1, 0, none⟩) (by show w.heap.size ≤ w.heap.size + 1; omega) _).setCell (p := ⟨w.heap.size + 1, 1, none⟩) (by show w.heap.size ≤ w.heap.size + 1; omega) _).drew⟩)
  clear hb C xt xr d0 d1 xd
  go_wp2_with fail
  go_region
  all_goals (go_wp2_with fail)
  all_goals
    obtain ⟨hE, kb⟩ := KEY.out
    have e0 := hE.cell 0; have e1 := hE.cell 1
    dsimp at e0 e1
    refine bodyPost_ret (v := .tuple #[.int .u64 0, .agg #[.int .u64 th, .int .u64 ul]]) ?_ rfl ⟨rfl, kb⟩
    clear kb hE c0 c1 z0 z1 f0 f1
    simp [results, Tryz.results190, go_sem, e0, e1]
theorem qstep_ge (rh rl b dh dl th tl ul c sh sl : Int) (br : Bool) (B : Nat)
    (A : Hid (∀ w, Calls Tryz.prog 128 #[.agg #[.int .u64 rh, .int .u64 rl], .agg #[.int .u64 rh, .int .u64 rl]] w fun e w' => e = .returned (.tuple #[.agg #[.int .u64 th, .int .u64 tl], .bool false]) ∧ Below w.heap.size w w'))
    (hor : bits .or .u64 tl b = ul)
    (C : Hid (∀ w, Calls Tryz.prog 19 #[.agg #[.int .u64 th, .int .u64 ul], .agg #[.int .u64 dh, .int .u64 dl]] w fun e w' => e = .returned (.int .i64 c) ∧ Below w.heap.size w w'))
    (hc : decide (c < 0) = false)
    (S : Hid (∀ w, Calls Tryz.prog 88 #[.agg #[.int .u64 th, .int .u64 ul], .agg #[.int .u64 dh, .int .u64 dl]] w fun e w' => e = .returned (.tuple #[.agg #[.int .u64 sh, .int .u64 sl], .bool br]) ∧ Below w.heap.size w w')) (w : World) (hD : HB w B 25 #[.int .u64 dh, .int .u64 dl]) :
    Calls Tryz.prog 190 #[.agg #[.int .u64 rh, .int .u64 rl], .int .u64 b, .pointer (some ⟨B, 0, none⟩)] w fun e w' =>
      e = .returned (.tuple #[.int .u64 1, .agg #[.int .u64 sh, .int .u64 sl]]) ∧ Below w.heap.size w w' := by
  have hBlt := hD.lt
  go_enter Tryz.func190, Tryz.ntmps190
  go_wp2_with fail
  (with_reducible refine (A.out _).mono ?_); rintro e w1 ⟨rfl, hb⟩
  have kk := bC (bA (bA bR _) _) hb
  have xr : HB w1 (w.heap.size + 1) 25 #[.int .u64 0, .int .u64 0] := (HB.newAt (by simp) _ _).later hb
  have xd : HB w1 B 25 #[.int .u64 dh, .int .u64 dl] := (((hD.alloc _).alloc _)).later hb
  have hsz := kk.size; have hlt := xr.lt; have hlB := xd.lt
  have d0 := xd.cell 0; have d1 := xd.cell 1; dsimp at d0 d1
  clear hb A
  go_wp2_with fail
  (with_reducible refine (C.out _).mono ?_); rintro e w2 ⟨rfl, hb⟩
  have xt : HB w2 w1.heap.size 25 #[.int .u64 th, .int .u64 ul] := (HB.new w1 _ _).later hb
  replace xr := (xr.alloc (.cells #[Value.int IntKind.u64 th, Value.int IntKind.u64 ul] 25)).later hb
  replace xd := (xd.alloc (.cells #[Value.int IntKind.u64 th, Value.int IntKind.u64 ul] 25)).later hb
  replace kk := bC (bA kk _) hb
  have c0 := xt.cell 0; have c1 := xt.cell 1
  replace d0 := xd.cell 0; replace d1 := xd.cell 1; dsimp at c0 c1 d0 d1
  have lt2 := xt.lt; have ld2 := xd.lt; have lr2 := xr.lt
  clear hb C
  go_wp2_with fail
  (with_reducible refine (S.out _).mono ?_); rintro e w3 ⟨rfl, hb⟩
  replace xr := xr.later hb
  replace kk := bC kk hb
  have lr := xr.lt
  have x9 : HB (w3.alloc (.cells #[.int .u64 sh, .int .u64 sl] 25)) w3.heap.size 25 #[.int .u64 sh, .int .u64 sl] := HB.new w3 _ _
  replace xr := xr.alloc (.cells #[.int .u64 sh, .int .u64 sl] 25)
  replace kk := bA kk (.cells #[.int .u64 sh, .int .u64 sl] 25)
  clear hb S d0 d1 xd
  go_wp2_with fail
  have c0 := x9.cell 0; have c1 := x9.cell 1; have z0 := xr.cell 0; have z1 := xr.cell 1; have f0 := xr.frozen 0; have f1 := xr.frozen 1
  dsimp at c0 c1 z0 z1
  have l9 := x9.lt; have lx := xr.lt
  have ne : w.heap.size + 1 ≠ w3.heap.size := by omega
  generalize w3.alloc (.cells #[.int .u64 sh, .int .u64 sl] 25) = V at *
  have KEY := lH (show HB ((V.setCell ⟨w.heap.size + 1, 0, none⟩ (.int .u64 sh)).setCell ⟨w.heap.size + 1, 1, none⟩ (.int .u64 sl)).drew (w.heap.size + 1) 25 #[.int .u64 sh, .int .u64 sl] ∧ Below w.heap.size w ((V.setCell ⟨w.heap.size + 1, 0, none⟩ (.int .u64 sh)).setCell ⟨w.heap.size + 1, 1, none⟩ (.int .u64 sl)).drew from
    ⟨((xr.set 0 _).set 1 _).drew, ((kk.setCell (p := ⟨w.heap.size + 1, 0, none⟩) (by show w.heap.size ≤ w.heap.size + 1; omega) _).setCell (p := ⟨w.heap.size + 1, 1, none⟩) (by show w.heap.size ≤ w.heap.size + 1; omega) _).drew⟩)
  clear xr x9 kk
  go_region
  all_goals (go_wp2_with fail)
  all_goals
    obtain ⟨hE, kb⟩ := KEY.out
    have e0 := hE.cell 0; have e1 := hE.cell 1
    dsimp at e0 e1
    refine bodyPost_ret (v := .tuple #[.int .u64 1, .agg #[.int .u64 sh, .int .u64 sl]]) ?_ rfl ⟨rfl, kb⟩
    clear kb hE c0 c1 z0 z1 f0 f1
    simp [results, Tryz.results190, go_sem, e0, e1]
theorem qstep_carry (rh rl b dh dl th tl ul sh sl : Int) (br : Bool) (B : Nat)
    (A : Hid (∀ w, Calls Tryz.prog 128 #[.agg #[.int .u64 rh, .int .u64 rl], .agg #[.int .u64 rh, .int .u64 rl]] w fun e w' => e = .returned (.tuple #[.agg #[.int .u64 th, .int .u64 tl], .bool true]) ∧ Below w.heap.size w w'))
    (hor : bits .or .u64 tl b = ul)
    (S : Hid (∀ w, Calls Tryz.prog 88 #[.agg #[.int .u64 th, .int .u64 ul], .agg #[.int .u64 dh, .int .u64 dl]] w fun e w' => e = .returned (.tuple #[.agg #[.int .u64 sh, .int .u64 sl], .bool br]) ∧ Below w.heap.size w w')) (w : World) (hD : HB w B 25 #[.int .u64 dh, .int .u64 dl]) :
    Calls Tryz.prog 190 #[.agg #[.int .u64 rh, .int .u64 rl], .int .u64 b, .pointer (some ⟨B, 0, none⟩)] w fun e w' =>
      e = .returned (.tuple #[.int .u64 1, .agg #[.int .u64 sh, .int .u64 sl]]) ∧ Below w.heap.size w w' := by
  have hBlt := hD.lt
  go_enter Tryz.func190, Tryz.ntmps190
  go_wp2_with fail
  (with_reducible refine (A.out _).mono ?_); rintro e w1 ⟨rfl, hb⟩
  have kk := bC (bA (bA bR _) _) hb
  have xr : HB w1 (w.heap.size + 1) 25 #[.int .u64 0, .int .u64 0] := (HB.newAt (by simp) _ _).later hb
  have xd : HB w1 B 25 #[.int .u64 dh, .int .u64 dl] := (((hD.alloc _).alloc _)).later hb
  have hsz := kk.size; have hlt := xr.lt; have hlB := xd.lt
  have d0 := xd.cell 0; have d1 := xd.cell 1; dsimp at d0 d1
  clear hb A
  go_wp2_with fail
  (with_reducible refine (S.out _).mono ?_); rintro e w2 ⟨rfl, hb⟩
  replace xr := (xr.alloc (.cells #[Value.int IntKind.u64 th, Value.int IntKind.u64 ul] 25)).later hb
  replace kk := bC (bA kk _) hb
  have lr := xr.lt
  have x9 : HB (w2.alloc (.cells #[.int .u64 sh, .int .u64 sl] 25)) w2.heap.size 25 #[.int .u64 sh, .int .u64 sl] := HB.new w2 _ _
  replace xr := xr.alloc (.cells #[.int .u64 sh, .int .u64 sl] 25)
  replace kk := bA kk (.cells #[.int .u64 sh, .int .u64 sl] 25)
  clear hb S d0 d1 xd
  go_wp2_with fail
  have c0 := x9.cell 0; have c1 := x9.cell 1; have z0 := xr.cell 0; have z1 := xr.cell 1; have f0 := xr.frozen 0; have f1 := xr.frozen 1
  dsimp at c0 c1 z0 z1
  have l9 := x9.lt; have lx := xr.lt
  have ne : w.heap.size + 1 ≠ w2.heap.size := by omega
  generalize w2.alloc (.cells #[.int .u64 sh, .int .u64 sl] 25) = V at *
  have KEY := lH (show HB ((V.setCell ⟨w.heap.size + 1, 0, none⟩ (.int .u64 sh)).setCell ⟨w.heap.size + 1, 1, none⟩ (.int .u64 sl)).drew (w.heap.size + 1) 25 #[.int .u64 sh, .int .u64 sl] ∧ Below w.heap.size w ((V.setCell ⟨w.heap.size + 1, 0, none⟩ (.int .u64 sh)).setCell ⟨w.heap.size + 1, 1, none⟩ (.int .u64 sl)).drew from
    ⟨((xr.set 0 _).set 1 _).drew, ((kk.setCell (p := ⟨w.heap.size + 1, 0, none⟩) (by show w.heap.size ≤ w.heap.size + 1; omega) _).setCell (p := ⟨w.heap.size + 1, 1, none⟩) (by show w.heap.size ≤ w.heap.size + 1; omega) _).drew⟩)
  clear xr x9 kk
  go_region
  all_goals (go_wp2_with fail)
  all_goals
    obtain ⟨hE, kb⟩ := KEY.out
    have e0 := hE.cell 0; have e1 := hE.cell 1
    dsimp at e0 e1
    refine bodyPost_ret (v := .tuple #[.int .u64 1, .agg #[.int .u64 sh, .int .u64 sl]]) ?_ rfl ⟨rfl, kb⟩
    clear kb hE c0 c1 z0 z1 f0 f1
    simp [results, Tryz.results190, go_sem, e0, e1]
theorem or_bit64 {v b : Int} (h : U64 v) (he : v % 2 = 0) (hb : b = 0 ∨ b = 1) : bits .or .u64 v b = v + b := by
  rcases hb with rfl | rfl
  · rw [u64_or v 0 h.1 h.2 (by omega) (by omega)]
    have := h.1
    simp; omega
  · rw [or_one h]; omega
theorem hl_sub_mod (x d : Int) : hiOf (x - d % full) = hiOf (x - d) ∧ loOf (x - d % full) = loOf (x - d) := hl_congr (by unfold full; omega)
theorem subB (n m : Int) (w : World) : Calls Tryz.prog 88 #[.agg #[.int .u64 (hiOf n), .int .u64 (loOf n)], .agg #[.int .u64 (hiOf m), .int .u64 (loOf m)]] w fun e w' =>
    e = .returned (.tuple #[.agg #[.int .u64 (hiOf (n - m)), .int .u64 (loOf (n - m))], .bool (decide (n % full < m % full))]) ∧ Below w.heap.size w w' := by
  have h := sub_any (hiOf n) (loOf n) (hiOf m) (loOf m) (hiOf_u _) (loOf_u _) (hiOf_u _) (loOf_u _) w
  rw [val_hiLo_mod, val_hiLo_mod, (hl_sub_mod (n % full) m).1, (hl_sub_mod (n % full) m).2, (hl_congr (show (n % full - m) % full = (n - m) % full by unfold full; omega)).1, (hl_congr (show (n % full - m) % full = (n - m) % full by unfold full; omega)).2] at h
  exact h
theorem twice_or (r b : Int) (hb : b = 0 ∨ b = 1) : bits .or .u64 (loOf (r + r)) b = loOf (2 * (r % full) + b) ∧ hiOf (r + r) = hiOf (2 * (r % full) + b) := by
  constructor
  · rw [or_bit64 (loOf_u _) (by unfold loOf; omega) hb]
    unfold loOf full; omega
  · unfold hiOf full; omega
theorem even_lt {x : Int} (h : ¬ full ≤ 2 * x) {b : Int} (hb : b = 0 ∨ b = 1) : 2 * x + b < full := by unfold full at *; omega
theorem qstepN (d r b : Int) (hb : b = 0 ∨ b = 1) (B : Nat) (w : World) (hD : HB w B 25 #[.int .u64 (hiOf d), .int .u64 (loOf d)]) :
    Calls Tryz.prog 190 #[.agg #[.int .u64 (hiOf r), .int .u64 (loOf r)], .int .u64 b, .pointer (some ⟨B, 0, none⟩)] w fun e w' =>
      e = .returned (.tuple #[.int .u64 (partN d r b), .agg #[.int .u64 (hiOf (restN d r b)), .int .u64 (loOf (restN d r b))]]) ∧ Below w.heap.size w w' := by
  have m0 := mod_f r
  have dm := mod_f d
  have hA := addB r r
  have e2 : r % full + r % full = 2 * (r % full) := by omega
  obtain ⟨hor, hhi⟩ := twice_or r b hb
  rw [e2, hhi] at hA
  have hS := subB (2 * (r % full) + b) d
  rw [← (hl_sub_mod (2 * (r % full) + b) d).1, ← (hl_sub_mod (2 * (r % full) + b) d).2] at hS
  have hC := cmpB (2 * (r % full) + b) d
  unfold partN restN
  by_cases hc : full ≤ 2 * (r % full)
  · have hn : ¬ 2 * (r % full) + b < d % full := by omega
    rw [show decide (full ≤ 2 * (r % full)) = true by simp [hc]] at hA
    rw [if_neg hn, if_neg hn]
    exact qstep_carry _ _ b _ _ _ _ _ _ _ _ B (lH hA) hor (lH hS) w hD
  · rw [show decide (full ≤ 2 * (r % full)) = false by simp; omega] at hA
    have lt := even_lt hc hb
    rw [Int.emod_eq_of_lt (by omega) lt] at hC
    by_cases hn : 2 * (r % full) + b < d % full
    · rw [if_pos hn, if_pos hn]
      rw [show cmpI (2 * (r % full) + b) (d % full) = -1 by unfold cmpI; rw [if_pos hn]] at hC
      exact qstep_lt _ _ b _ _ _ _ _ _ B (lH hA) hor (lH hC) (by decide) w hD
    · rw [if_neg hn, if_neg hn]
      obtain ⟨c, hc0, hc1⟩ : ∃ c, cmpI (2 * (r % full) + b) (d % full) = c ∧ decide (c < 0) = false := ⟨_, rfl, by unfold cmpI; rw [if_neg hn]; split <;> decide⟩
      rw [hc0] at hC
      exact qstep_ge _ _ b _ _ _ _ _ _ _ _ _ B (lH hA) hor (lH hC) hc1 (lH hS) w hD
theorem divby_any (dh dl : Int) (w : World) :
    Calls Tryz.prog 170 #[.agg #[.int .u64 dh, .int .u64 dl]] w fun e w' => e = .returned (.func (.func 190) #[] #[.pointer (some ⟨w.heap.size, 0, none⟩)]) ∧ HB w' w.heap.size 25 #[.int .u64 dh, .int .u64 dl] ∧ w'.heap.size = w.heap.size + 1 ∧ Below w.heap.size w w' := by
  have hmf : ∀ (fn : Fn) (first cap : Array Value) (w : World), (Instr.makeFunc fn first cap).run Tryz.prog w = .ok (.func fn first cap) w := fun _ _ _ _ => rfl
  go_enter Tryz.func170, Tryz.ntmps170
  go_wp2_with fail
  go_ret
  exact ⟨rfl, HB.new _ _ _, by simp, bA bR _⟩
end Go.Proofs.YtjdjonekoodalaaGreatDoor
