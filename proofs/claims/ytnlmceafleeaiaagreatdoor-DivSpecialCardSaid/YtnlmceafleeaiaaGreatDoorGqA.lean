import Derived.Laws.EntriesVeiled
import Derived.Test.YtnlmceafleeaiaaGreatDoorGcA
import Derived.Test.YtnlmceafleeaiaaGreatDoorGaB
set_option maxHeartbeats 8000000
set_option linter.unusedVariables false
set_option linter.unusedSimpArgs false
set_option maxRecDepth 100000
namespace Go.Proofs.YtnlmceafleeaiaaGreatDoor
open Go.RowKit
attribute [local go_sem ↓] Go.wp_at_zero Go.wp_at_succ
def partN (d r b : Int) : Int := if 2 * (r % full) + b < d % full then 0 else 1
def restN (d r b : Int) : Int := if 2 * (r % full) + b < d % full then 2 * (r % full) + b else 2 * (r % full) + b - d % full
theorem qstep_lt (rh rl b dh dl th tl ul c : Int) (B : Nat)
    (A : Hid (∀ w, Calls Tryz.prog 137 #[.agg #[.int .u64 rh, .int .u64 rl], .agg #[.int .u64 rh, .int .u64 rl]] w fun e w' => e = .returned (.tuple #[.agg #[.int .u64 th, .int .u64 tl], .bool false]) ∧ Below w.heap.size w w'))
    (hor : bits .or .u64 tl b = ul)
    (C : Hid (∀ w, Calls Tryz.prog 177 #[.agg #[.int .u64 th, .int .u64 ul], .agg #[.int .u64 dh, .int .u64 dl]] w fun e w' => e = .returned (.int .i64 c) ∧ Below w.heap.size w w'))
    (hc : decide (c < 0) = true) (w : World) (hD : HB w B 28 #[.int .u64 dh, .int .u64 dl]) :
    Calls Tryz.prog 176 #[.agg #[.int .u64 rh, .int .u64 rl], .int .u64 b, .pointer (some ⟨B, 0, none⟩)] w fun e w' =>
      e = .returned (.tuple #[.int .u64 0, .agg #[.int .u64 th, .int .u64 ul]]) ∧ Below w.heap.size w w' := by
  have hBlt := hD.lt
  go_enter Tryz.func176, Tryz.ntmps176
  go_wp2_with fail
  (with_reducible refine (A.out _).mono ?_); rintro e w1 ⟨rfl, hb⟩
  have kk := bC (bA (bA bR _) _) hb
  have xr : HB w1 (w.heap.size + 1) 28 #[.int .u64 0, .int .u64 0] := (HB.newAt (by simp) _ _).later hb
  have xd : HB w1 B 28 #[.int .u64 dh, .int .u64 dl] := (((hD.alloc _).alloc _)).later hb
  have hsz := kk.size; have hlt := xr.lt; have hlB := xd.lt
  have d0 := xd.cell 0; have d1 := xd.cell 1; dsimp at d0 d1
  clear hb A
  go_wp2_with fail
  (with_reducible refine (C.out _).mono ?_); rintro e w2 ⟨rfl, hb⟩
  have xt : HB w2 w1.heap.size 28 #[.int .u64 th, .int .u64 ul] := (HB.new w1 _ _).later hb
  replace xr := (xr.alloc (.cells #[Value.int IntKind.u64 th, Value.int IntKind.u64 ul] 28)).later hb
  replace kk := bC (bA kk _) hb
  have c0 := xt.cell 0; have c1 := xt.cell 1; have z0 := xr.cell 0; have z1 := xr.cell 1; have f0 := xr.frozen 0; have f1 := xr.frozen 1
  dsimp at c0 c1 z0 z1
  have KEY := lH (show HB ((w2.setCell ⟨w.heap.size + 1, 0, none⟩ (.int .u64 th)).setCell ⟨w.heap.size + 1, 1, none⟩ (.int .u64 ul)).drew (w.heap.size + 1) 28 #[.int .u64 th, .int .u64 ul] ∧ Below w.heap.size w ((w2.setCell ⟨w.heap.size + 1, 0, none⟩ (.int .u64 th)).setCell ⟨w.heap.size + 1, 1, none⟩ (.int .u64 ul)).drew from
    ⟨((xr.set 0 _).set 1 _).drew, ((kk.setCell (p := ⟨w.heap.size + 1, 0, none⟩) (by show w.heap.size ≤ w.heap.size + 1; omega) _).setCell (p := ⟨w.heap.size + 1, 1, none⟩) (by show w.heap.size ≤ w.heap.size + 1; omega) _).drew⟩)
  clear hb C xt xr d0 d1 xd
  go_wp2_with fail
  go_region
  all_goals (go_wp2_with fail)
  all_goals
    obtain ⟨hE, kb⟩ := KEY.out
    have e0 := hE.cell 0; have e1 := hE.cell 1
    dsimp at e0 e1
    refine bodyPost_ret (v := .tuple #[.int .u64 0, .agg #[.int .u64 th, .int .u64 ul]]) ?_ rfl ⟨rfl, kb⟩
    clear kb hE c0 c1 z0 z1 f0 f1
    simp [results, Tryz.results176, go_sem, e0, e1]
theorem qstep_ge (rh rl b dh dl th tl ul c sh sl : Int) (br : Bool) (B : Nat)
    (A : Hid (∀ w, Calls Tryz.prog 137 #[.agg #[.int .u64 rh, .int .u64 rl], .agg #[.int .u64 rh, .int .u64 rl]] w fun e w' => e = .returned (.tuple #[.agg #[.int .u64 th, .int .u64 tl], .bool false]) ∧ Below w.heap.size w w'))
    (hor : bits .or .u64 tl b = ul)
    (C : Hid (∀ w, Calls Tryz.prog 177 #[.agg #[.int .u64 th, .int .u64 ul], .agg #[.int .u64 dh, .int .u64 dl]] w fun e w' => e = .returned (.int .i64 c) ∧ Below w.heap.size w w'))
    (hc : decide (c < 0) = false)
    (S : Hid (∀ w, Calls Tryz.prog 178 #[.agg #[.int .u64 th, .int .u64 ul], .agg #[.int .u64 dh, .int .u64 dl]] w fun e w' => e = .returned (.tuple #[.agg #[.int .u64 sh, .int .u64 sl], .bool br]) ∧ Below w.heap.size w w')) (w : World) (hD : HB w B 28 #[.int .u64 dh, .int .u64 dl]) :
    Calls Tryz.prog 176 #[.agg #[.int .u64 rh, .int .u64 rl], .int .u64 b, .pointer (some ⟨B, 0, none⟩)] w fun e w' =>
      e = .returned (.tuple #[.int .u64 1, .agg #[.int .u64 sh, .int .u64 sl]]) ∧ Below w.heap.size w w' := by
  have hBlt := hD.lt
  go_enter Tryz.func176, Tryz.ntmps176
  go_wp2_with fail
  (with_reducible refine (A.out _).mono ?_); rintro e w1 ⟨rfl, hb⟩
  have kk := bC (bA (bA bR _) _) hb
  have xr : HB w1 (w.heap.size + 1) 28 #[.int .u64 0, .int .u64 0] := (HB.newAt (by simp) _ _).later hb
  have xd : HB w1 B 28 #[.int .u64 dh, .int .u64 dl] := (((hD.alloc _).alloc _)).later hb
  have hsz := kk.size; have hlt := xr.lt; have hlB := xd.lt
  have d0 := xd.cell 0; have d1 := xd.cell 1; dsimp at d0 d1
  clear hb A
  go_wp2_with fail
  (with_reducible refine (C.out _).mono ?_); rintro e w2 ⟨rfl, hb⟩
  have xt : HB w2 w1.heap.size 28 #[.int .u64 th, .int .u64 ul] := (HB.new w1 _ _).later hb
  replace xr := (xr.alloc (.cells #[Value.int IntKind.u64 th, Value.int IntKind.u64 ul] 28)).later hb
  replace xd := (xd.alloc (.cells #[Value.int IntKind.u64 th, Value.int IntKind.u64 ul] 28)).later hb
  replace kk := bC (bA kk _) hb
  have c0 := xt.cell 0; have c1 := xt.cell 1
  replace d0 := xd.cell 0; replace d1 := xd.cell 1; dsimp at c0 c1 d0 d1
  have lt2 := xt.lt; have ld2 := xd.lt; have lr2 := xr.lt
  clear hb C
  go_wp2_with fail
  (with_reducible refine (S.out _).mono ?_); rintro e w3 ⟨rfl, hb⟩
  replace xr := xr.later hb
  replace kk := bC kk hb
  have lr := xr.lt
  have x9 : HB (w3.alloc (.cells #[.int .u64 sh, .int .u64 sl] 28)) w3.heap.size 28 #[.int .u64 sh, .int .u64 sl] := HB.new w3 _ _
  replace xr := xr.alloc (.cells #[.int .u64 sh, .int .u64 sl] 28)
  replace kk := bA kk (.cells #[.int .u64 sh, .int .u64 sl] 28)
  clear hb S d0 d1 xd
  go_wp2_with fail
  have c0 := x9.cell 0; have c1 := x9.cell 1; have z0 := xr.cell 0; have z1 := xr.cell 1; have f0 := xr.frozen 0; have f1 := xr.frozen 1
  dsimp at c0 c1 z0 z1
  have l9 := x9.lt; have lx := xr.lt
  have ne : w.heap.size + 1 ≠ w3.heap.size := by omega
  generalize w3.alloc (.cells #[.int .u64 sh, .int .u64 sl] 28) = V at *
  have KEY := lH (show HB ((V.setCell ⟨w.heap.size + 1, 0, none⟩ (.int .u64 sh)).setCell ⟨w.heap.size + 1, 1, none⟩ (.int .u64 sl)).drew (w.heap.size + 1) 28 #[.int .u64 sh, .int .u64 sl] ∧ Below w.heap.size w ((V.setCell ⟨w.heap.size + 1, 0, none⟩ (.int .u64 sh)).setCell ⟨w.heap.size + 1, 1, none⟩ (.int .u64 sl)).drew from
    ⟨((xr.set 0 _).set 1 _).drew, ((kk.setCell (p := ⟨w.heap.size + 1, 0, none⟩) (by show w.heap.size ≤ w.heap.size + 1; omega) _).setCell (p := ⟨w.heap.size + 1, 1, none⟩) (by show w.heap.size ≤ w.heap.size + 1; omega) _).drew⟩)
  clear xr x9 kk
  go_region
  all_goals (go_wp2_with fail)
  all_goals
    obtain ⟨hE, kb⟩ := KEY.out
    have e0 := hE.cell 0; have e1 := hE.cell 1
    dsimp at e0 e1
    refine bodyPost_ret (v := .tuple #[.int .u64 1, .agg #[.int .u64 sh, .int .u64 sl]]) ?_ rfl ⟨rfl, kb⟩
    clear kb hE c0 c1 z0 z1 f0 f1
    simp [results, Tryz.results176, go_sem, e0, e1]
theorem qstep_carry (rh rl b dh dl th tl ul sh sl : Int) (br : Bool) (B : Nat)
    (A : Hid (∀ w, Calls Tryz.prog 137 #[.agg #[.int .u64 rh, .int .u64 rl], .agg #[.int .u64 rh, .int .u64 rl]] w fun e w' => e = .returned (.tuple #[.agg #[.int .u64 th, .int .u64 tl], .bool true]) ∧ Below w.heap.size w w'))
    (hor : bits .or .u64 tl b = ul)
    (S : Hid (∀ w, Calls Tryz.prog 178 #[.agg #[.int .u64 th, .int .u64 ul], .agg #[.int .u64 dh, .int .u64 dl]] w fun e w' => e = .returned (.tuple #[.agg #[.int .u64 sh, .int .u64 sl], .bool br]) ∧ Below w.heap.size w w')) (w : World) (hD : HB w B 28 #[.int .u64 dh, .int .u64 dl]) :
    Calls Tryz.prog 176 #[.agg #[.int .u64 rh, .int .u64 rl], .int .u64 b, .pointer (some ⟨B, 0, none⟩)] w fun e w' =>
      e = .returned (.tuple #[.int .u64 1, .agg #[.int .u64 sh, .int .u64 sl]]) ∧ Below w.heap.size w w' := by
  have hBlt := hD.lt
  go_enter Tryz.func176, Tryz.ntmps176
  go_wp2_with fail
  (with_reducible refine (A.out _).mono ?_); rintro e w1 ⟨rfl, hb⟩
  have kk := bC (bA (bA bR _) _) hb
  have xr : HB w1 (w.heap.size + 1) 28 #[.int .u64 0, .int .u64 0] := (HB.newAt (by simp) _ _).later hb
  have xd : HB w1 B 28 #[.int .u64 dh, .int .u64 dl] := (((hD.alloc _).alloc _)).later hb
  have hsz := kk.size; have hlt := xr.lt; have hlB := xd.lt
  have d0 := xd.cell 0; have d1 := xd.cell 1; dsimp at d0 d1
  clear hb A
  go_wp2_with fail
  (with_reducible refine (S.out _).mono ?_); rintro e w2 ⟨rfl, hb⟩
  replace xr := (xr.alloc (.cells #[Value.int IntKind.u64 th, Value.int IntKind.u64 ul] 28)).later hb
  replace kk := bC (bA kk _) hb
  have lr := xr.lt
  have x9 : HB (w2.alloc (.cells #[.int .u64 sh, .int .u64 sl] 28)) w2.heap.size 28 #[.int .u64 sh, .int .u64 sl] := HB.new w2 _ _
  replace xr := xr.alloc (.cells #[.int .u64 sh, .int .u64 sl] 28)
  replace kk := bA kk (.cells #[.int .u64 sh, .int .u64 sl] 28)
  clear hb S d0 d1 xd
  go_wp2_with fail
  have c0 := x9.cell 0; have c1 := x9.cell 1; have z0 := xr.cell 0; have z1 := xr.cell 1; have f0 := xr.frozen 0; have f1 := xr.frozen 1
  dsimp at c0 c1 z0 z1
  have l9 := x9.lt; have lx := xr.lt
  have ne : w.heap.size + 1 ≠ w2.heap.size := by omega
  generalize w2.alloc (.cells #[.int .u64 sh, .int .u64 sl] 28) = V at *
  have KEY := lH (show HB ((V.setCell ⟨w.heap.size + 1, 0, none⟩ (.int .u64 sh)).setCell ⟨w.heap.size + 1, 1, none⟩ (.int .u64 sl)).drew (w.heap.size + 1) 28 #[.int .u64 sh, .int .u64 sl] ∧ Below w.heap.size w ((V.setCell ⟨w.heap.size + 1, 0, none⟩ (.int .u64 sh)).setCell ⟨w.heap.size + 1, 1, none⟩ (.int .u64 sl)).drew from
    ⟨((xr.set 0 _).set 1 _).drew, ((kk.setCell (p := ⟨w.heap.size + 1, 0, none⟩) (by show w.heap.size ≤ w.heap.size + 1; omega) _).setCell (p := ⟨w.heap.size + 1, 1, none⟩) (by show w.heap.size ≤ w.heap.size + 1; omega) _).drew⟩)
  clear xr x9 kk
  go_region
  all_goals (go_wp2_with fail)
  all_goals
    obtain ⟨hE, kb⟩ := KEY.out
    have e0 := hE.cell 0; have e1 := hE.cell 1
    dsimp at e0 e1
    refine bodyPost_ret (v := .tuple #[.int .u64 1, .agg #[.int .u64 sh, .int .u64 sl]]) ?_ rfl ⟨rfl, kb⟩
    clear kb hE c0 c1 z0 z1 f0 f1
    simp [results, Tryz.results176, go_sem, e0, e1]
theorem or_bit64 {v b : Int} (h : U64 v) (he : v % 2 = 0) (hb : b = 0 ∨ b = 1) : bits .or .u64 v b = v + b := by
  rcases hb with rfl | rfl
  · rw [u64_or v 0 h.1 h.2 (by omega) (by omega)]
    have := h.1
    simp; omega
  · rw [or_one h]; omega
theorem hl_sub_mod (x d : Int) : hiOf (x - d % full) = hiOf (x - d) ∧ loOf (x - d % full) = loOf (x - d) := hl_congr (by unfold full; omega)
theorem subB (n m : Int) (w : World) : Calls Tryz.prog 178 #[.agg #[.int .u64 (hiOf n), .int .u64 (loOf n)], .agg #[.int .u64 (hiOf m), .int .u64 (loOf m)]] w fun e w' =>
    e = .returned (.tuple #[.agg #[.int .u64 (hiOf (n - m)), .int .u64 (loOf (n - m))], .bool (decide (n % full < m % full))]) ∧ Below w.heap.size w w' := by
  have h := sub_any (hiOf n) (loOf n) (hiOf m) (loOf m) (hiOf_u _) (loOf_u _) (hiOf_u _) (loOf_u _) w
  rw [val_hiLo_mod, val_hiLo_mod, (hl_sub_mod (n % full) m).1, (hl_sub_mod (n % full) m).2, (hl_congr (show (n % full - m) % full = (n - m) % full by unfold full; omega)).1, (hl_congr (show (n % full - m) % full = (n - m) % full by unfold full; omega)).2] at h
  exact h
theorem twice_or (r b : Int) (hb : b = 0 ∨ b = 1) : bits .or .u64 (loOf (r + r)) b = loOf (2 * (r % full) + b) ∧ hiOf (r + r) = hiOf (2 * (r % full) + b) := by
  constructor
  · rw [or_bit64 (loOf_u _) (by unfold loOf; omega) hb]
    unfold loOf full; omega
  · unfold hiOf full; omega
theorem even_lt {x : Int} (h : ¬ full ≤ 2 * x) {b : Int} (hb : b = 0 ∨ b = 1) : 2 * x + b < full := by unfold full at *; omega
theorem qstepN (d r b : Int) (hb : b = 0 ∨ b = 1) (B : Nat) (w : World) (hD : HB w B 28 #[.int .u64 (hiOf d), .int .u64 (loOf d)]) :
    Calls Tryz.prog 176 #[.agg #[.int .u64 (hiOf r), .int .u64 (loOf r)], .int .u64 b, .pointer (some ⟨B, 0, none⟩)] w fun e w' =>
      e = .returned (.tuple #[.int .u64 (partN d r b), .agg #[.int .u64 (hiOf (restN d r b)), .int .u64 (loOf (restN d r b))]]) ∧ Below w.heap.size w w' := by
  have m0 := mod_f r
  have dm := mod_f d
  have hA := addB r r
  have e2 : r % full + r % full = 2 * (r % full) := by omega
  obtain ⟨hor, hhi⟩ := twice_or r b hb
  rw [e2, hhi] at hA
  have hS := subB (2 * (r % full) + b) d
  rw [← (hl_sub_mod (2 * (r % full) + b) d).1, ← (hl_sub_mod (2 * (r % full) + b) d).2] at hS
  have hC := cmpB (2 * (r % full) + b) d
  unfold partN restN
  by_cases hc : full ≤ 2 * (r % full)
  · have hn : ¬ 2 * (r % full) + b < d % full := by omega
    rw [show decide (full ≤ 2 * (r % full)) = true by simp [hc]] at hA
    rw [if_neg hn, if_neg hn]
    exact qstep_carry _ _ b _ _ _ _ _ _ _ _ B (lH hA) hor (lH hS) w hD
  · rw [show decide (full ≤ 2 * (r % full)) = false by simp; omega] at hA
    have lt := even_lt hc hb
    rw [Int.emod_eq_of_lt (by omega) lt] at hC
    by_cases hn : 2 * (r % full) + b < d % full
    · rw [if_pos hn, if_pos hn]
      rw [show cmpI (2 * (r % full) + b) (d % full) = -1 by unfold cmpI; rw [if_pos hn]] at hC
      exact qstep_lt _ _ b _ _ _ _ _ _ B (lH hA) hor (lH hC) (by decide) w hD
    · rw [if_neg hn, if_neg hn]
      obtain ⟨c, hc0, hc1⟩ : ∃ c, cmpI (2 * (r % full) + b) (d % full) = c ∧ decide (c < 0) = false := ⟨_, rfl, by unfold cmpI; rw [if_neg hn]; split <;> decide⟩
      rw [hc0] at hC
      exact qstep_ge _ _ b _ _ _ _ _ _ _ _ _ B (lH hA) hor (lH hC) hc1 (lH hS) w hD
theorem divby_any (dh dl : Int) (w : World) :
    Calls Tryz.prog 139 #[.agg #[.int .u64 dh, .int .u64 dl]] w fun e w' => e = .returned (.func (.func 176) #[] #[.pointer (some ⟨w.heap.size, 0, none⟩)]) ∧ HB w' w.heap.size 28 #[.int .u64 dh, .int .u64 dl] ∧ w'.heap.size = w.heap.size + 1 ∧ Below w.heap.size w w' := by
  have hmf : ∀ (fn : Fn) (first cap : Array Value) (w : World), (Instr.makeFunc fn first cap).run Tryz.prog w = .ok (.func fn first cap) w := fun _ _ _ _ => rfl
  go_enter Tryz.func139, Tryz.ntmps139
  go_wp2_with fail
  go_ret
  exact ⟨rfl, HB.new _ _ _, by simp, bA bR _⟩
theorem bitsof_any (n0 n1 n2 n3 : Int) (w : World) :
    Calls Tryz.prog 140 #[.agg #[.int .u64 n0, .int .u64 n1, .int .u64 n2, .int .u64 n3]] w fun e w' => e = .returned (.func (.func 179) #[] #[.pointer (some ⟨w.heap.size, 0, none⟩)]) ∧ HB w' w.heap.size 90 #[.int .u64 n0, .int .u64 n1, .int .u64 n2, .int .u64 n3] ∧ w'.heap.size = w.heap.size + 1 ∧ Below w.heap.size w w' := by
  have hmf : ∀ (fn : Fn) (first cap : Array Value) (w : World), (Instr.makeFunc fn first cap).run Tryz.prog w = .ok (.func fn first cap) w := fun _ _ _ _ => rfl
  go_enter Tryz.func140, Tryz.ntmps140
  go_wp2_with fail
  go_ret
  exact ⟨rfl, HB.new _ _ _, by simp, bA bR _⟩
end Go.Proofs.YtnlmceafleeaiaaGreatDoor
namespace Go.Proofs.YtnlmceafleeaiaaGreatDoor
open Go.RowKit Go.Shelf
attribute [local go_sem] Oper.semAt_some
def topL (L : Nat) : Nat → List (Fin 256)
  | 0 => []
  | j + 1 => topL L j ++ [Fin.ofNat 256 (L - 1 - j)]
theorem topL_length (L j : Nat) : (topL L j).length = j := by
  induction j with
  | zero => rfl
  | succ j ih => simp [topL, ih]
def encB (n : Int) (x : Fin 256) : Array Value := #[.int .i64 (x.val : Int), .int .u64 (n / 2 ^ x.val % 2)]
theorem grown_of {w w' : World} (h : Below w.heap.size w w') : w.grownBy w' none := ⟨h.os, h.tape, h.output, h.size, fun k hk _ => h.block k hk⟩
theorem Keeps3.below {m : Nat} {W W' : World} (hm : m + 3 ≤ W.heap.size) (h : Below W.heap.size W W') : Keeps3 m W W' := fun k _ b => h.block k (by omega)
theorem digit_bit (n : Int) (c m : Nat) (hm : m < 64) : n / 18446744073709551616 ^ c % 18446744073709551616 / 2 ^ m % 2 = n / 2 ^ (64 * c + m) % 2 := by
  have e : (2 : Int) ^ (64 * c + m) = 18446744073709551616 ^ c * 2 ^ m := by rw [pow_64, Int.mul_comm]
  rw [e, ← Int.ediv_ediv_of_nonneg (Int.pow_nonneg (by decide))]
  generalize n / 18446744073709551616 ^ c = x
  have h1 : (18446744073709551616 : Int) = 2 ^ m * (2 * 2 ^ (63 - m)) := by
    rw [← Int.pow_succ', ← Int.pow_add, show m + (63 - m + 1) = 64 by omega]; rfl
  rw [h1]
  have hp := two_pow_pos m
  have hq := two_pow_pos (63 - m)
  generalize (2 : Int) ^ m = P at *
  generalize (2 : Int) ^ (63 - m) = Q at *
  rw [Int.emod_def x (P * (2 * Q)), Int.mul_assoc P, Int.sub_eq_add_neg, ← Int.mul_neg, Int.add_mul_ediv_left _ _ (by omega)]
  generalize x / P = y
  rw [Int.mul_assoc 2 Q, ← Int.mul_neg]
  generalize -(Q * _) = z
  omega
theorem bits1_in (nn : Nat) (hn : 1 ≤ nn) (l m L : Nat) (n : Int) (hL : blen (n % wfull) = L) (hL2 : L ≤ 256)
    (J Jx : List (Fin 256) → World → Prop) (hJA : ∀ pre W W', J pre W → Below W.heap.size W W' → J pre W')
    (hY : ∀ pre x W, J pre W → pre.length < 256 → YieldAt Fence.wide (nn - 1) Tryz.prog l (encB n x) W fun e W' =>
      (e = .returned (.bool true) ∧ J (pre ++ [x]) W' ∧ Keeps3 m W W') ∨ (e = .returned (.bool false) ∧ Jx (pre ++ [x]) W'))
    (W : World) (hm : m + 3 ≤ W.heap.size) (hN : HB W (m + 1 + 1) 90 #[.int .u64 (wd0 n), .int .u64 (wd1 n), .int .u64 (wd2 n), .int .u64 (wd3 n)]) (h0 : J [] W) :
    CallsIn Fence.wide nn Tryz.prog 179 #[.func (.yield l) #[] #[], .pointer (some ⟨m + 1 + 1, 0, none⟩)] W fun e W' => (∃ v, e = .returned v) ∧
      ((∃ ys, ys = topL L L ∧ J ys W') ∨ (∃ pre, True ∧ Jx pre W')) := by
  have q0 := hN.cell 0; have q1 := hN.cell 1; have q2 := hN.cell 2; have q3 := hN.cell 3
  dsimp at q0 q1 q2 q3
  refine callsIn_of_wp Tryz.func179 rfl trivial ?_ rfl
  simp only [Tryz.ntmps179, List.size_toArray, List.length_cons, List.length_nil, Nat.reduceAdd, Nat.reduceSub, Array.replicate_succ, Array.replicate_zero, List.push_toArray, List.append_toArray, List.nil_append, List.cons_append]
  gi_wp2
  refine ⟨trivial, (callsIn_wide.2 (wlenW n _)).mono ?_⟩
  rintro e W1 ⟨rfl, hb⟩
  rw [hL]
  have h1 := hJA _ _ _ h0 hb
  have hN1 := hN.later hb
  have hk1 : Keeps3 m W W1 := Keeps3.below hm hb
  have hm1 : m + 3 ≤ W1.heap.size := lZ hm hb.size
  have ew : IntKind.i64.wrap ((L : Int) - 1) = (L : Int) - 1 := IntWalk.i64_in _ (by omega)
  clear q0 q1 q2 q3 hb h0 hN
  gi_wp2
  gi_loopw [3] (fun i wr => ∃ j : Nat, j ≤ L ∧ i = .int .i64 ((L : Int) - 1 - j) ∧ J (topL L j) wr ∧ Keeps3 m W1 wr)
    (fun i _ => (intOf i + 1).toNat)
  case atStart => exact ⟨0, by omega, by simp, h1, Keeps3.refl _ _⟩
  case round =>
    obtain ⟨j, hj, rfl, hJ, hk⟩ := hrel
    by_cases hjL : j = L
    · have g1 : decide ((0 : Int) ≤ (L : Int) - 1 - j) = false := by simp; omega
      gi_wp2
      go_end0
      exact ⟨⟨_, rfl⟩, .inl ⟨_, rfl, hjL ▸ hJ⟩⟩
    · obtain ⟨K, hK⟩ : ∃ K : Nat, (L : Int) - 1 - j = K := ⟨L - 1 - j, by omega⟩
      have hK2 : K < 256 := by omega
      rw [hK]
      have g1 : decide ((0 : Int) ≤ (K : Int)) = true := by simp
      have hN2 := hk.hb (by omega) (by omega) hN1
      have eK : topL L (j + 1) = topL L j ++ [⟨K, hK2⟩] := by
        show _ ++ _ = _
        congr 2
        refine Fin.ext ?_
        show (L - 1 - j) % 256 = K
        omega
      have hbit := digit_bit n (K / 64) (K % 64) (by omega)
      rw [show 64 * (K / 64) + K % 64 = K by omega] at hbit
      obtain ⟨fn, tmps, assign, body, hy, hR⟩ := hY _ ⟨K, hK2⟩ wr hJ (by rw [topL_length]; omega)
      dsimp only [encB] at hy
      clear hY hJA
      have hmod : K % 64 < 64 := Nat.mod_lt _ (by decide)
      have hm64 : IntKind.i64.wrap ((K : Int) - 1) = (K : Int) - 1 := IntWalk.i64_in _ (by omega)
      have hd0 := wd0_u n; have hd1 := wd1_u n; have hd2 := wd2_u n; have hd3 := wd3_u n
      have e2 : (18446744073709551616 : Int) ^ 2 = 340282366920938463463374607431768211456 := by decide +kernel
      have e3 : (18446744073709551616 : Int) ^ 3 = 6277101735386680763835789423207666416102355444464034512896 := by decide +kernel
      obtain hc | hc | hc | hc : K / 64 = 0 ∨ K / 64 = 1 ∨ K / 64 = 2 ∨ K / 64 = 3 := by omega
      · rw [hc, Int.pow_zero, Int.ediv_one] at hbit
        have an : bits .and .u64 (wd0 n / 2 ^ (K % 64)) 1 = n / 2 ^ K % 2 := by rw [and_one (div_pow_u hd0 _)]; exact hbit
        have c0 := hN2.cell 0; dsimp at c0
        clear hbit e2 e3
        generalize n / 2 ^ K % 2 = bt at *
        gi_wp2
        refine hR.mono ?_
        rintro e W3 (⟨rfl, hJ3, hk3⟩ | ⟨rfl, hJx3⟩)
        · gi_wp2
          go_roundw
          case rel => exact ⟨j + 1, by omega, by rw [← hK]; congr 1; omega, by rw [eK]; exact hJ3, hk.t hk3⟩
          case measure => simp [intOf]
        · gi_wp2
          refine bodyPost_ret (results_none rfl _ _ _) rfl ?_
          exact ⟨⟨_, rfl⟩, .inr ⟨_, trivial, hJx3⟩⟩
      · rw [hc, Int.pow_succ, Int.pow_zero, Int.one_mul] at hbit
        have an : bits .and .u64 (wd1 n / 2 ^ (K % 64)) 1 = n / 2 ^ K % 2 := by rw [and_one (div_pow_u hd1 _)]; exact hbit
        have c0 := hN2.cell 1; dsimp at c0
        clear hbit e2 e3
        generalize n / 2 ^ K % 2 = bt at *
        gi_wp2
        refine hR.mono ?_
        rintro e W3 (⟨rfl, hJ3, hk3⟩ | ⟨rfl, hJx3⟩)
        · gi_wp2
          go_roundw
          case rel => exact ⟨j + 1, by omega, by rw [← hK]; congr 1; omega, by rw [eK]; exact hJ3, hk.t hk3⟩
          case measure => simp [intOf]
        · gi_wp2
          refine bodyPost_ret (results_none rfl _ _ _) rfl ?_
          exact ⟨⟨_, rfl⟩, .inr ⟨_, trivial, hJx3⟩⟩
      · rw [hc, e2] at hbit
        have an : bits .and .u64 (wd2 n / 2 ^ (K % 64)) 1 = n / 2 ^ K % 2 := by rw [and_one (div_pow_u hd2 _)]; exact hbit
        have c0 := hN2.cell 2; dsimp at c0
        clear hbit e2 e3
        generalize n / 2 ^ K % 2 = bt at *
        gi_wp2
        refine hR.mono ?_
        rintro e W3 (⟨rfl, hJ3, hk3⟩ | ⟨rfl, hJx3⟩)
        · gi_wp2
          go_roundw
          case rel => exact ⟨j + 1, by omega, by rw [← hK]; congr 1; omega, by rw [eK]; exact hJ3, hk.t hk3⟩
          case measure => simp [intOf]
        · gi_wp2
          refine bodyPost_ret (results_none rfl _ _ _) rfl ?_
          exact ⟨⟨_, rfl⟩, .inr ⟨_, trivial, hJx3⟩⟩
      · rw [hc, e3] at hbit
        have an : bits .and .u64 (wd3 n / 2 ^ (K % 64)) 1 = n / 2 ^ K % 2 := by rw [and_one (div_pow_u hd3 _)]; exact hbit
        have c0 := hN2.cell 3; dsimp at c0
        clear hbit e2 e3
        generalize n / 2 ^ K % 2 = bt at *
        gi_wp2
        refine hR.mono ?_
        rintro e W3 (⟨rfl, hJ3, hk3⟩ | ⟨rfl, hJx3⟩)
        · gi_wp2
          go_roundw
          case rel => exact ⟨j + 1, by omega, by rw [← hK]; congr 1; omega, by rw [eK]; exact hJ3, hk.t hk3⟩
          case measure => simp [intOf]
        · gi_wp2
          refine bodyPost_ret (results_none rfl _ _ _) rfl ?_
          exact ⟨⟨_, rfl⟩, .inr ⟨_, trivial, hJx3⟩⟩
theorem bits_stops (nn : Nat) (hn : 1 ≤ nn) (m L : Nat) (n : Int) (hL : blen (n % wfull) = L) (hL2 : L ≤ 256) (w : World) (hm : m + 3 ≤ w.heap.size)
    (hN : HB w (m + 1 + 1) 90 #[.int .u64 (wd0 n), .int .u64 (wd1 n), .int .u64 (wd2 n), .int .u64 (wd3 n)]) :
    SeqStopsK Fence.wide nn Tryz.prog 179 #[.pointer (some ⟨m + 1 + 1, 0, none⟩)] (encB n) (Keeps3 m) (fun ys => ys = topL L L) (fun _ => True) 256 w :=
  fun l J Jx W hW hJ hJx hY h0 =>
    bits1_in nn hn l m L n hL hL2 J Jx (fun pre A B h hb => hJ pre A B none h (grown_of hb) (by simp)) hY W (lZ hm hW.size) (hN.later hW) h0
end Go.Proofs.YtnlmceafleeaiaaGreatDoor
namespace Go.Proofs.YtnlmceafleeaiaaGreatDoor
open Go.RowKit Go.Shelf
attribute [local go_sem] Oper.semAt_some
def noDefer (ops : Array Oper) : Bool := ops.all fun o => match o.op with | .defer _ => false | _ => true
theorem noDefer_spec {ops : Array Oper} (h : noDefer ops = true) {o : Oper} {i : Nat} (ho : ops[i]? = some o) (c : Call) : o.op ≠ .defer c := by
  intro e
  have := Array.all_eq_true_iff_forall_mem.1 h o (Array.mem_of_getElem? ho)
  simp [e] at this
theorem wpOpIn_inRound {F : Fence} {n : Nat} {P : Program} {ops : Array Oper} {Q : Exit → Act → World → Prop} (l : Nat) (hro : F.round = none) (hd : noDefer ops = true) {i : Nat} {K : Act → World → Prop} {a : Act} {w : World} (h : wpOpIn F n P ops Q i K a w) : wpOpIn (F.inRound l) n P ops Q i K a w := by
  unfold wpOpIn at *
  cases ho : ops[i]? with
  | none => rw [ho] at h; exact h
  | some o =>
    rw [ho] at h
    dsimp only at h ⊢
    split
    · rename_i hw
      rw [if_pos hw] at h
      refine ⟨h.1, ?_⟩
      have h2 := h.2
      rw [hro, Oper.semAt_none] at h2
      show o.uponIn (F.inRound l) n P a K Q ((o.semAt (some l) a.eval).run P w)
      rw [Oper.semAt_eq (some l) _ _ (noDefer_spec hd ho)]
      generalize (execOp a.eval o).run P w = r at *
      cases r with
      | ok x w' => cases x <;> exact h2
      | halt x w' => cases x <;> exact h2
    · rename_i hw
      rw [if_neg hw] at h
      exact h
theorem wpAnyIn_inRound {F : Fence} {n : Nat} {P : Program} {md : Region.Mode} {ops : Array Oper} {Q : Exit → Act → World → Prop} (l : Nat) (hro : F.round = none) (hd : noDefer ops = true) :
    ∀ (fuel : Nat) (listed : Array Bool) (a : Act) (w : World), wpAnyIn F n P md ops Q fuel listed a w → wpAnyIn (F.inRound l) n P md ops Q fuel listed a w := by
  intro fuel
  induction fuel with
  | zero => exact fun _ _ _ h => h
  | succ fuel ih => exact fun listed a w h => ⟨h.1, fun i hi => wpOpIn_inRound l hro hd (wpOpIn_mono (fun a w => ih _ a w) (h.2 i hi))⟩
def orW (k : Nat) (p : Int) (s : Int × Int × Int × Int) : Int × Int × Int × Int :=
  if k / 64 = 0 then (bits .or .u64 s.1 (upLo p (k % 64)), s.2.1, s.2.2.1, s.2.2.2)
  else if k / 64 = 1 then (s.1, bits .or .u64 s.2.1 (upLo p (k % 64)), s.2.2.1, s.2.2.2)
  else if k / 64 = 2 then (s.1, s.2.1, bits .or .u64 s.2.2.1 (upLo p (k % 64)), s.2.2.2)
  else (s.1, s.2.1, s.2.2.1, bits .or .u64 s.2.2.2 (upLo p (k % 64)))
def stepQ (n d : Int) (s : (Int × Int × Int × Int) × Int) (x : Fin 256) : (Int × Int × Int × Int) × Int :=
  (orW x.val (partN d s.2 (n / 2 ^ x.val % 2)) s.1, restN d s.2 (n / 2 ^ x.val % 2))
def stQ (n d : Int) (pre : List (Fin 256)) : (Int × Int × Int × Int) × Int := pre.foldl (stepQ n d) ((0, 0, 0, 0), 0)
theorem stQ_snoc (n d : Int) (pre : List (Fin 256)) (x : Fin 256) : stQ n d (pre ++ [x]) = stepQ n d (stQ n d pre) x := by simp [stQ]
def dgQ (s : Int × Int × Int × Int) (c : Nat) : Int := if c = 0 then s.1 else if c = 1 then s.2.1 else if c = 2 then s.2.2.1 else s.2.2.2
def arrQ (s : Int × Int × Int × Int) : Array Value := #[.int .u64 s.1, .int .u64 s.2.1, .int .u64 s.2.2.1, .int .u64 s.2.2.2]
theorem arrQ_cell (s : Int × Int × Int × Int) {c : Nat} (hc : c < 4) : (arrQ s)[c]? = some (.int .u64 (dgQ s c)) := by
  obtain rfl | rfl | rfl | rfl : c = 0 ∨ c = 1 ∨ c = 2 ∨ c = 3 := by omega
  all_goals rfl
theorem arrQ_or (s : Int × Int × Int × Int) (K : Nat) (P : Int) {c M : Nat} (hK : K < 256) (hc : K / 64 = c) (hM : K % 64 = M) : arrQ (orW K P s) = (arrQ s).setIfInBounds c (.int .u64 (bits .or .u64 (dgQ s c) (upLo P M))) := by
  subst hc hM
  obtain h | h | h | h : K / 64 = 0 ∨ K / 64 = 1 ∨ K / 64 = 2 ∨ K / 64 = 3 := by omega
  all_goals
    unfold orW
    rw [h]
    rfl
def DivI (w W0 : World) (s B : Nat) (n d : Int) (pre : List (Fin 256)) (W : World) : Prop :=
  (((HB W B 90 (arrQ (stQ n d pre).1) ∧ HB W (B + 1) 28 #[.int .u64 (hiOf (stQ n d pre).2), .int .u64 (loOf (stQ n d pre).2)]) ∧
    (HB W (s + 1 + 1) 90 #[.int .u64 0, .int .u64 0, .int .u64 0, .int .u64 0] ∧ HB W (s + 1 + 1 + 1) 28 #[.int .u64 0, .int .u64 0])) ∧
    (HB W (B + 1 + 1) 28 #[.int .u64 (hiOf d), .int .u64 (loOf d)] ∧ HB W (B + 1 + 1 + 1) 174 #[.func (.func 176) #[] #[.pointer (some ⟨B + 1 + 1, 0, none⟩)]])) ∧
  (Below s w W ∧ W0.heap.size ≤ W.heap.size)
theorem qround_end {w w3 W W1 : World} {s B c : Nat} {n d : Int} {pre : List (Fin 256)} {x : Fin 256} {v : Value} {rr : Int} (hI : DivI w w3 s B n d pre W) (hb : Below W.heap.size W W1) (hsB : s + 4 ≤ B) (h3 : B + 5 ≤ w3.heap.size)
    (ha : arrQ (stQ n d (pre ++ [x])).1 = (arrQ (stQ n d pre).1).setIfInBounds c v) (hr : (stQ n d (pre ++ [x])).2 = rr) :
    KeepsFrom w3.heap.size W (((W1.setCell ⟨B + 1, 0, none⟩ (.int .u64 (hiOf rr))).setCell ⟨B + 1, 1, none⟩ (.int .u64 (loOf rr))).setCell ⟨B, c, none⟩ v).drew ∧
    Keeps3 (B + 1 + 1) W (((W1.setCell ⟨B + 1, 0, none⟩ (.int .u64 (hiOf rr))).setCell ⟨B + 1, 1, none⟩ (.int .u64 (loOf rr))).setCell ⟨B, c, none⟩ v).drew ∧
    DivI w w3 s B n d (pre ++ [x]) (((W1.setCell ⟨B + 1, 0, none⟩ (.int .u64 (hiOf rr))).setCell ⟨B + 1, 1, none⟩ (.int .u64 (loOf rr))).setCell ⟨B, c, none⟩ v).drew := by
  obtain ⟨⟨⟨⟨yq, yr⟩, xq, xr⟩, yd, yc⟩, kk, hle⟩ := hI
  have sz := yc.lt
  have ko : KeepsOthers W1 (((W1.setCell ⟨B + 1, 0, none⟩ (.int .u64 (hiOf rr))).setCell ⟨B + 1, 1, none⟩ (.int .u64 (loOf rr))).setCell ⟨B, c, none⟩ v).drew := (((KeepsOthers.setCell _ _ _).trans (KeepsOthers.setCell _ _ _)).trans (KeepsOthers.setCell _ _ _)).trans (KeepsOthers.drew _)
  refine ⟨(KeepsFrom.of_grownBy (grown_of hb) (fun j e => by cases e)).trans (ko.from _), fun k a b => ?_, ?_⟩
  · refine Eq.trans ?_ (hb.block k ?_)
    · exact (Below.heap_setCell _ _ _ k (by show k ≠ B; omega)).trans ((Below.heap_setCell _ _ _ k (by show k ≠ B + 1; omega)).trans (Below.heap_setCell _ _ _ k (by show k ≠ B + 1; omega)))
    · have := kk.size; omega
  · replace kk := kk.trans (hb.mono (by omega : s ≤ W.heap.size))
    refine ⟨⟨⟨⟨?_, ?_⟩, ?_, ?_⟩, ?_, ?_⟩, ?_, ?_⟩
    · rw [ha]; exact ((((yq.later hb).other (by omega) _ _).other (by omega) _ _).set c v).drew
    · rw [hr]; exact ((((yr.later hb).set 0 _).set 1 _).other (by omega) _ _).drew
    · exact ((((xq.later hb).other (by omega) _ _).other (by omega) _ _).other (by omega) _ _).drew
    · exact ((((xr.later hb).other (by omega) _ _).other (by omega) _ _).other (by omega) _ _).drew
    · exact ((((yd.later hb).other (by omega) _ _).other (by omega) _ _).other (by omega) _ _).drew
    · exact ((((yc.later hb).other (by omega) _ _).other (by omega) _ _).other (by omega) _ _).drew
    · exact (((kk.setCell (p := ⟨B + 1, 0, none⟩) (by show s ≤ B + 1; omega) _).setCell (p := ⟨B + 1, 1, none⟩) (by show s ≤ B + 1; omega) _).setCell (p := ⟨B, c, none⟩) (by show s ≤ B; omega) _).drew
    · have h1 := hb.size
      have h2 := ko.1
      exact lZ hle (lZ h1 h2)
theorem qdiv_end {w W : World} {s D : Nat} {t2 t3 : TypeId} {d0 d1 d2 d3 h l : Int} (g2 : HB W (s + 1 + 1) t2 #[.int .u64 0, .int .u64 0, .int .u64 0, .int .u64 0]) (g3 : HB W (s + 1 + 1 + 1) t3 #[.int .u64 0, .int .u64 0]) (hB : Below s w W) (hK : W.heap[D]? = some (.deferred (some []))) (hD : s + 1 + 1 + 1 < D) (hs : s ≤ w.heap.size) (hs2 : w.heap.size ≤ D) :
    (HB (((((((W.setCell ⟨s + 1 + 1, 0, none⟩ (.int .u64 d0)).setCell ⟨s + 1 + 1, 1, none⟩ (.int .u64 d1)).setCell ⟨s + 1 + 1, 2, none⟩ (.int .u64 d2)).setCell ⟨s + 1 + 1, 3, none⟩ (.int .u64 d3)).setCell ⟨s + 1 + 1 + 1, 0, none⟩ (.int .u64 h)).setCell ⟨s + 1 + 1 + 1, 1, none⟩ (.int .u64 l)).drew.putObj D (.deferred none)) (s + 1 + 1) t2 #[.int .u64 d0, .int .u64 d1, .int .u64 d2, .int .u64 d3] ∧ HB (((((((W.setCell ⟨s + 1 + 1, 0, none⟩ (.int .u64 d0)).setCell ⟨s + 1 + 1, 1, none⟩ (.int .u64 d1)).setCell ⟨s + 1 + 1, 2, none⟩ (.int .u64 d2)).setCell ⟨s + 1 + 1, 3, none⟩ (.int .u64 d3)).setCell ⟨s + 1 + 1 + 1, 0, none⟩ (.int .u64 h)).setCell ⟨s + 1 + 1 + 1, 1, none⟩ (.int .u64 l)).drew.putObj D (.deferred none)) (s + 1 + 1 + 1) t3 #[.int .u64 h, .int .u64 l]) ∧
    ((((((W.setCell ⟨s + 1 + 1, 0, none⟩ (.int .u64 d0)).setCell ⟨s + 1 + 1, 1, none⟩ (.int .u64 d1)).setCell ⟨s + 1 + 1, 2, none⟩ (.int .u64 d2)).setCell ⟨s + 1 + 1, 3, none⟩ (.int .u64 d3)).setCell ⟨s + 1 + 1 + 1, 0, none⟩ (.int .u64 h)).setCell ⟨s + 1 + 1 + 1, 1, none⟩ (.int .u64 l)).drew.heap[D]? = some (.deferred (some [])) ∧
    Below s w (((((((W.setCell ⟨s + 1 + 1, 0, none⟩ (.int .u64 d0)).setCell ⟨s + 1 + 1, 1, none⟩ (.int .u64 d1)).setCell ⟨s + 1 + 1, 2, none⟩ (.int .u64 d2)).setCell ⟨s + 1 + 1, 3, none⟩ (.int .u64 d3)).setCell ⟨s + 1 + 1 + 1, 0, none⟩ (.int .u64 h)).setCell ⟨s + 1 + 1 + 1, 1, none⟩ (.int .u64 l)).drew.putObj D (.deferred none)) := by
  have hK' : ((((((W.setCell ⟨s + 1 + 1, 0, none⟩ (.int .u64 d0)).setCell ⟨s + 1 + 1, 1, none⟩ (.int .u64 d1)).setCell ⟨s + 1 + 1, 2, none⟩ (.int .u64 d2)).setCell ⟨s + 1 + 1, 3, none⟩ (.int .u64 d3)).setCell ⟨s + 1 + 1 + 1, 0, none⟩ (.int .u64 h)).setCell ⟨s + 1 + 1 + 1, 1, none⟩ (.int .u64 l)).drew.heap[D]? = some (.deferred (some [])) := by
    have n2 : D ≠ s + 1 + 1 := by omega
    have n3 : D ≠ s + 1 + 1 + 1 := by omega
    have st : ∀ (X : World) (b k : Nat) (v : Value), D ≠ b → X.heap[D]? = some (.deferred (some [])) → (X.setCell ⟨b, k, none⟩ v).heap[D]? = some (.deferred (some [])) := fun X b k v hne hx => (Below.heap_setCell X ⟨b, k, none⟩ v D hne).trans hx
    have hK0 : ((((((W.setCell ⟨s + 1 + 1, 0, none⟩ (.int .u64 d0)).setCell ⟨s + 1 + 1, 1, none⟩ (.int .u64 d1)).setCell ⟨s + 1 + 1, 2, none⟩ (.int .u64 d2)).setCell ⟨s + 1 + 1, 3, none⟩ (.int .u64 d3)).setCell ⟨s + 1 + 1 + 1, 0, none⟩ (.int .u64 h)).setCell ⟨s + 1 + 1 + 1, 1, none⟩ (.int .u64 l)).heap[D]? = some (.deferred (some [])) := st _ _ _ _ n3 (st _ _ _ _ n3 (st _ _ _ _ n2 (st _ _ _ _ n2 (st _ _ _ _ n2 (st _ _ _ _ n2 hK)))))
    rw [show ∀ X : World, X.drew.heap = X.heap from fun _ => rfl]
    exact hK0
  have n23 : s + 1 + 1 ≠ s + 1 + 1 + 1 := by omega
  have A : HB ((((((W.setCell ⟨s + 1 + 1, 0, none⟩ (.int .u64 d0)).setCell ⟨s + 1 + 1, 1, none⟩ (.int .u64 d1)).setCell ⟨s + 1 + 1, 2, none⟩ (.int .u64 d2)).setCell ⟨s + 1 + 1, 3, none⟩ (.int .u64 d3)).setCell ⟨s + 1 + 1 + 1, 0, none⟩ (.int .u64 h)).setCell ⟨s + 1 + 1 + 1, 1, none⟩ (.int .u64 l)) (s + 1 + 1) t2 #[.int .u64 d0, .int .u64 d1, .int .u64 d2, .int .u64 d3] := ((((((g2.set 0 (.int .u64 d0)).set 1 (.int .u64 d1)).set 2 (.int .u64 d2)).set 3 (.int .u64 d3)).other n23 0 (.int .u64 h)).other n23 1 (.int .u64 l))
  have C : HB ((((((W.setCell ⟨s + 1 + 1, 0, none⟩ (.int .u64 d0)).setCell ⟨s + 1 + 1, 1, none⟩ (.int .u64 d1)).setCell ⟨s + 1 + 1, 2, none⟩ (.int .u64 d2)).setCell ⟨s + 1 + 1, 3, none⟩ (.int .u64 d3)).setCell ⟨s + 1 + 1 + 1, 0, none⟩ (.int .u64 h)).setCell ⟨s + 1 + 1 + 1, 1, none⟩ (.int .u64 l)) (s + 1 + 1 + 1) t3 #[.int .u64 h, .int .u64 l] := ((((((g3.other n23.symm 0 (.int .u64 d0)).other n23.symm 1 (.int .u64 d1)).other n23.symm 2 (.int .u64 d2)).other n23.symm 3 (.int .u64 d3)).set 0 (.int .u64 h)).set 1 (.int .u64 l))
  generalize hW : ((((((W.setCell ⟨s + 1 + 1, 0, none⟩ (.int .u64 d0)).setCell ⟨s + 1 + 1, 1, none⟩ (.int .u64 d1)).setCell ⟨s + 1 + 1, 2, none⟩ (.int .u64 d2)).setCell ⟨s + 1 + 1, 3, none⟩ (.int .u64 d3)).setCell ⟨s + 1 + 1 + 1, 0, none⟩ (.int .u64 h)).setCell ⟨s + 1 + 1 + 1, 1, none⟩ (.int .u64 l)) = V at *
  refine ⟨⟨(World.putObj_heap_other (by omega)).trans A, (World.putObj_heap_other (by omega)).trans C⟩, hK', ?_⟩
  subst hW
  have a2 : s ≤ s + 1 + 1 := by omega
  have a3 : s ≤ s + 1 + 1 + 1 := by omega
  have hb : Below s w ((((((W.setCell ⟨s + 1 + 1, 0, none⟩ (.int .u64 d0)).setCell ⟨s + 1 + 1, 1, none⟩ (.int .u64 d1)).setCell ⟨s + 1 + 1, 2, none⟩ (.int .u64 d2)).setCell ⟨s + 1 + 1, 3, none⟩ (.int .u64 d3)).setCell ⟨s + 1 + 1 + 1, 0, none⟩ (.int .u64 h)).setCell ⟨s + 1 + 1 + 1, 1, none⟩ (.int .u64 l)).drew :=
    ((((((hB.setCell (p := ⟨s + 1 + 1, 0, none⟩) a2 _).setCell (p := ⟨s + 1 + 1, 1, none⟩) a2 _).setCell (p := ⟨s + 1 + 1, 2, none⟩) a2 _).setCell (p := ⟨s + 1 + 1, 3, none⟩) a2 _).setCell (p := ⟨s + 1 + 1 + 1, 0, none⟩) a3 _).setCell (p := ⟨s + 1 + 1 + 1, 1, none⟩) a3 _).drew
  exact hb.trans (belowK_b (w := w) hs _ D _ _ (by omega) hK' rfl rfl)
theorem qdiv_in (nn : Nat) (hn : 3 ≤ nn) (n d : Int) (hd : (d % full == 0) = false) (w : World) :
    CallsIn Fence.wide nn Tryz.prog 80 #[.agg #[.int .u64 (wd0 n), .int .u64 (wd1 n), .int .u64 (wd2 n), .int .u64 (wd3 n)], .agg #[.int .u64 (hiOf d), .int .u64 (loOf d)]] w fun e w' =>
      e = .returned (.tuple #[.agg (arrQ (stQ n d (topL (blen (n % wfull)) (blen (n % wfull)))).1), .agg #[.int .u64 (hiOf (stQ n d (topL (blen (n % wfull)) (blen (n % wfull)))).2), .int .u64 (loOf (stQ n d (topL (blen (n % wfull)) (blen (n % wfull)))).2)], .bool true]) ∧ Below w.heap.size w w' := by
  have h1 : 1 ≤ nn := by omega
  obtain ⟨L, hL⟩ : ∃ L, blen (n % wfull) = L := ⟨_, rfl⟩
  have hL2 : L ≤ 256 := hL ▸ blen_w (mod_w n).1 (mod_w n).2
  rw [hL]
  refine callsIn_of_wp_marks Tryz.func80 rfl trivial ?_ rfl
  simp only [Tryz.ntmps80, List.size_toArray, List.length_cons, List.length_nil, Nat.reduceAdd, Nat.reduceSub, Array.replicate_succ, Array.replicate_zero, List.push_toArray, List.append_toArray, List.nil_append, List.cons_append]
  gi_wp2
  refine ⟨trivial, (callsIn_wide.2 (zeroB d _)).mono ?_⟩
  rintro e w1 ⟨rfl, hb⟩
  rw [hd]
  have kk := bC (bA (bA (bA (bA bR _) _) _) _) hb
  have xn : HB w1 w.heap.size 90 #[.int .u64 (wd0 n), .int .u64 (wd1 n), .int .u64 (wd2 n), .int .u64 (wd3 n)] := ((((HB.new w _ _).alloc _).alloc _).alloc _).later hb
  have xd : HB w1 (w.heap.size + 1) 28 #[.int .u64 (hiOf d), .int .u64 (loOf d)] := (((HB.newAt (by simp) _ _).alloc _).alloc _).later hb
  have xq : HB w1 (w.heap.size + 1 + 1) 90 #[.int .u64 0, .int .u64 0, .int .u64 0, .int .u64 0] := ((HB.newAt (by simp) _ _).alloc _).later hb
  have xr : HB w1 (w.heap.size + 1 + 1 + 1) 28 #[.int .u64 0, .int .u64 0] := (HB.newAt (by simp) _ _).later hb
  have d0 := xd.cell 0; have d1 := xd.cell 1; dsimp at d0 d1
  have lr := xr.lt; have ld := xd.lt; have ln := xn.lt; have lq := xq.lt
  clear hb
  have ks := kk.size
  gi_wp2
  refine ⟨trivial, (callsIn_wide.2 (divby_any (hiOf d) (loOf d) _)).mono ?_⟩
  rintro e w2 ⟨rfl, yd, hsz, hb⟩
  have yq : HB w2 w1.heap.size 90 #[.int .u64 0, .int .u64 0, .int .u64 0, .int .u64 0] := ((HB.new w1 _ _).alloc _).later hb
  have yr : HB w2 (w1.heap.size + 1) 28 #[.int .u64 0, .int .u64 0] := (HB.newAt (by simp) _ _).later hb
  replace xn := ((xn.alloc _).alloc _).later hb
  replace xq := ((xq.alloc _).alloc _).later hb
  replace xr := ((xr.alloc _).alloc _).later hb
  replace kk := bC (bA (bA kk _) _) hb
  simp only [World.size_alloc] at yd hsz
  clear hb d0 d1 xd
  have HS := lH hsz
  have n0 := xn.cell 0; have n1 := xn.cell 1; have n2 := xn.cell 2; have n3 := xn.cell 3; dsimp at n0 n1 n2 n3
  replace ln := xn.lt
  clear hsz ld lq
  gi_wp2
  refine ⟨trivial, (callsIn_wide.2 (bitsof_any _ _ _ _ _)).mono ?_⟩
  rintro e w3 ⟨rfl, yN, hsz3, hb⟩
  have yc : HB w3 w2.heap.size 174 #[.func (.func 176) #[] #[.pointer (some ⟨w1.heap.size + 1 + 1, 0, none⟩)]] := (HB.new w2 _ _).later hb
  replace yq := (yq.alloc _).later hb
  replace yr := (yr.alloc _).later hb
  replace yd := (yd.alloc _).later hb
  replace xq := (xq.alloc _).later hb
  replace xr := (xr.alloc _).later hb
  replace kk := bC (bA kk _) hb
  simp only [World.size_alloc] at yN hsz3
  clear hb n0 n1 n2 n3 ln xn
  gi_wp2
  rw [HS.out] at yN hsz3 yc ⊢
  have hsB : w.heap.size + 4 ≤ w1.heap.size := by omega
  have h3 : w1.heap.size + 5 ≤ w3.heap.size := by omega
  clear HS lr ks
  generalize w1.heap.size = B at *
  refine wpIn_rangeFunc_ownG rfl h1 (gf := 179) (lb := #[.pointer (some ⟨B + 1 + 1 + 1 + 1, 0, none⟩)]) rfl trivial (enters_of Tryz.func179 (by kernel_rfl) rfl)
    (bits_stops (nn - 1) (by omega) (B + 1 + 1) L n hL hL2 w3 (by omega) yN) Keeps3.t (Keeps3.b (by omega)) bR (fun _ => rfl)
    (DivI w w3 w.heap.size B n d) (fun _ _ _ => False)
    (OwnFrom.and (OwnFrom.and (OwnFrom.and (OwnFrom.and (Own.from (hb_own _ _ _) _) (Own.from (hb_own _ _ _) _)) (OwnFrom.and (Own.from (hb_own _ _ (fun _ => _)) _) (Own.from (hb_own _ _ (fun _ => _)) _))) (OwnFrom.and (Own.from (hb_own _ _ (fun _ => _)) _) (Own.from (hb_own _ _ (fun _ => _)) _))) (OwnFrom.and (ownFrom_below (Nat.le_refl _) (by omega)) (fun _ X Y row hs hg hr => lZ hs hg.size)))
    (fun _ _ _ _ _ hs _ _ => hs)
    ⟨⟨⟨⟨yq, yr⟩, xq, xr⟩, yd, yc⟩, kk, Nat.le_refl _⟩ (fun x => { tmps := #[.agg #[.int .u64 (wd0 n), .int .u64 (wd1 n), .int .u64 (wd2 n), .int .u64 (wd3 n)], .agg #[.int .u64 (hiOf d), .int .u64 (loOf d)], .pointer (some ⟨w.heap.size, 0, none⟩), .pointer (some ⟨w.heap.size + 1, 0, none⟩), .pointer (some ⟨w.heap.size + 1 + 1, 0, none⟩), .pointer (some ⟨w.heap.size + 1 + 1 + 1, 0, none⟩), .bool false,
      .pointer (some ⟨B, 0, none⟩), .pointer (some ⟨B + 1, 0, none⟩), .pointer (some ⟨B + 1 + 1 + 1, 0, none⟩), .int .i64 (x.val : Int), .int .u64 (n / 2 ^ x.val % 2), undef, .agg #[.int .u64 (hiOf d), .int .u64 (loOf d)], .bool false, undef, undef, .agg #[.int .u64 (hiOf d), .int .u64 (loOf d)], .func (.func 176) #[] #[.pointer (some ⟨B + 1 + 1, 0, none⟩)],
      .agg #[.int .u64 (wd0 n), .int .u64 (wd1 n), .int .u64 (wd2 n), .int .u64 (wd3 n)], .func (.func 179) #[] #[.pointer (some ⟨B + 1 + 1 + 1 + 1, 0, none⟩)], .int .i64 (x.val : Int), .int .u64 (n / 2 ^ x.val % 2), undef, undef, undef, undef, undef, undef, undef, undef, undef, undef, undef, undef, undef, undef, undef, undef, undef, undef, undef], defers := [] })
    ?assign ?body ?done ?stop
  case assign =>
    intro l x W K hK
    dsimp only [encB]
    gi_wp2
    exact hK
  case body =>
    rintro l pre ⟨K, hK2⟩ W hI hlt
    dsimp only
    have hI2 := hI
    obtain ⟨⟨⟨⟨zq, zr⟩, wq, wr⟩, zd, zc⟩, kw, hle⟩ := hI2
    have hmx : Tryz.prog.follows .mixedOrders = true := by kernel_rfl
    have c0 := zc.cell 0; have r0 := zr.cell 0; have r1 := zr.cell 1; dsimp at c0 r0 r1
    have hb01 : n / 2 ^ K % 2 = 0 ∨ n / 2 ^ K % 2 = 1 := by omega
    have ST := lH (qstepN d (stQ n d pre).2 (n / 2 ^ K % 2) hb01 (B + 1 + 1) W zd)
    clear wq wr zd zc kw hle yN
    gi_wp2
    refine ⟨trivial, fun _ => by omega, (CallsIn.inRound l (callsIn_wide.2 ST.out)).mono ?_⟩
    rintro e W1 ⟨rfl, hb⟩
    have hrr : (stQ n d (pre ++ [⟨K, hK2⟩])).2 = restN d (stQ n d pre).2 (n / 2 ^ K % 2) := by rw [stQ_snoc]; rfl
    obtain ⟨P, hP⟩ : ∃ P, partN d (stQ n d pre).2 (n / 2 ^ K % 2) = P := ⟨_, rfl⟩
    rw [hP]
    obtain ⟨rr, hrr0⟩ : ∃ rr, restN d (stQ n d pre).2 (n / 2 ^ K % 2) = rr := ⟨_, rfl⟩
    rw [hrr0] at hrr ⊢
    replace zq := zq.later hb; replace zr := zr.later hb
    replace r0 := zr.cell 0; replace r1 := zr.cell 1; have g0 := zr.frozen 0; have g1 := zr.frozen 1; dsimp at r0 r1
    have hmod : K % 64 < 64 := Nat.mod_lt _ (by decide)
    obtain ⟨M, hM⟩ : ∃ M, K % 64 = M := ⟨_, rfl⟩
    have hKm : (K : Int).tmod 64 = (M : Int) := by rw [Int.tmod_eq_emod_of_nonneg (by omega)]; omega
    have hsh : Op.shift .shl .u64 P .i64 (M : Int) = pure (.int .u64 (upLo P M)) := by
      rw [shift_shl .u64 .i64 _ _ (by omega) (by show (_ : Int) ≤ 64; omega), Int.toNat_natCast, IntKind.wrap_u64]; rfl
    clear c0 hb01 ST
    obtain ⟨c, hc⟩ : ∃ c, K / 64 = c := ⟨_, rfl⟩
    have hc4 : c < 4 := by omega
    have hc4i : (c : Int) < 4 := by omega
    have hc0i : (0 : Int) ≤ (c : Int) := by omega
    have hcb : (0 : Int) ≤ (c : Int) ∧ (c : Int) < 4 := by omega
    have hcw : IntKind.i64.wrap (c : Int) = (c : Int) := IntWalk.i64_in _ (by omega)
    have ha : arrQ (stQ n d (pre ++ [⟨K, hK2⟩])).1 = (arrQ (stQ n d pre).1).setIfInBounds c (.int .u64 (bits .or .u64 (dgQ (stQ n d pre).1 c) (upLo P M))) := by
      rw [stQ_snoc]; show arrQ (orW K (partN d (stQ n d pre).2 (n / 2 ^ K % 2)) (stQ n d pre).1) = _; rw [hP]; exact arrQ_or _ K P hK2 hc hM
    have KEY := lH (qround_end hI hb hsB h3 ha hrr)
    have hKd : (K : Int) / 64 = (c : Int) := by omega
    have zq2 := (zq.other (B' := B + 1) (by omega) 0 (.int .u64 (hiOf rr))).other (B' := B + 1) (by omega) 1 (.int .u64 (loOf rr))
    clear hI hb ha hrr hP zr hM hmod hc
    gi_wp2
    clear r0 r1 g0 g1 zq
    have q0 := zq2.cell c; have f0 := zq2.frozen c; rw [arrQ_cell _ hc4] at q0
    clear zq2
    generalize (W1.setCell ⟨B + 1, 0, none⟩ (.int .u64 (hiOf rr))).setCell ⟨B + 1, 1, none⟩ (.int .u64 (loOf rr)) = V at *
    generalize dgQ (stQ n d pre).1 c = qd at *
    refine wpIn_mono (Q := NoPanic _) ?_ NoPanic.imp
    refine wpIn_region_any hmx (wpAnyIn_inRound l rfl (by kernel_rfl) _ _ _ _ ?_)
    change wpAnyIn _ _ _ _ _ _ _ _ _ (World.drew _)
    refine wpAnyIn_take (i := 0) (v := ?v0) rfl rfl (by kernel_rfl) (by kernel_rfl) (by kernel_rfl) (fun _ _ _ h => h) ⟨Or.inl ⟨by rfl, ?y0⟩, fun _ => rfl⟩ ?r0
    case y0 => (intro wq; go_simp; try (with_reducible rfl))
    try simp only [zA, zB, zC, Act.put, zD, zE, zF]
    refine wpAnyIn_take (i := 1) (v := ?v1) rfl rfl (by kernel_rfl) (by kernel_rfl) (by kernel_rfl) (fun _ _ _ h => h) ⟨Or.inl ⟨by rfl, ?y1⟩, fun _ => rfl⟩ ?r1
    case y1 => (intro wq; go_simp; try (with_reducible rfl))
    try simp only [zA, zB, zC, Act.put, zD, zE, zF]
    refine wpAnyIn_take (i := 2) (v := ?v2) rfl rfl (by kernel_rfl) (by kernel_rfl) (by kernel_rfl) (fun _ _ _ h => h) ⟨Or.inl ⟨by rfl, ?y2⟩, fun _ => rfl⟩ ?r2
    case y2 => (intro wq; go_simp; first | rfl | (rw [if_pos hcb]; rfl))
    try simp only [zA, zB, zC, Act.put, zD, zE, zF]
    refine wpAnyIn_take (i := 4) (v := ?v4) rfl rfl (by kernel_rfl) (by kernel_rfl) (by kernel_rfl) (fun _ _ _ h => h) ⟨Or.inl ⟨by rfl, ?y4⟩, fun _ => rfl⟩ ?r4
    case y4 => (intro wq; go_simp; try (with_reducible rfl))
    try simp only [zA, zB, zC, Act.put, zD, zE, zF]
    refine wpAnyIn_take (i := 5) (v := ?v5) rfl rfl (by kernel_rfl) (by kernel_rfl) (by kernel_rfl) (fun _ _ _ h => h) ⟨Or.inl ⟨by rfl, ?y5⟩, fun _ => rfl⟩ ?r5
    case y5 => (intro wq; go_simp; try (with_reducible rfl))
    try simp only [zA, zB, zC, Act.put, zD, zE, zF]
    refine wpAnyIn_take (i := 6) (v := ?v6) rfl rfl (by kernel_rfl) (by kernel_rfl) (by kernel_rfl) (fun _ _ _ h => h) ⟨Or.inl ⟨by rfl, ?y6⟩, fun _ => rfl⟩ ?r6
    case y6 => (intro wq; go_simp; try (with_reducible rfl))
    try simp only [zA, zB, zC, Act.put, zD, zE, zF]
    refine wpAnyIn_take (i := 7) (v := ?v7) rfl rfl (by kernel_rfl) (by kernel_rfl) (by kernel_rfl) (fun _ _ _ h => h) ⟨Or.inl ⟨by rfl, ?y7⟩, fun _ => rfl⟩ ?r7
    case y7 => (intro wq; go_simp; try (with_reducible rfl))
    try simp only [zA, zB, zC, Act.put, zD, zE, zF]
    refine wpAnyIn_ready (rs := [3]) (by kernel_rfl) (by simp) (AllReadyIn.cons rfl (fun K' hK' => ?_) AllReadyIn.nil)
    go_simp
    refine hK' _ _ ?_
    clear hK' K'
    try simp only [zA, zB, zC, Act.put, zD, zE, zF]
    refine wpAnyIn_take (i := 8) (v := ?v8) rfl rfl (by kernel_rfl) (by kernel_rfl) (by kernel_rfl) (fun _ _ _ h => h) ⟨Or.inl ⟨by rfl, ?y8⟩, fun _ => rfl⟩ ?r8
    case y8 => (intro wq; go_simp; try (with_reducible rfl))
    try simp only [zA, zB, zC, Act.put, zD, zE, zF]
    refine wpAnyIn_take (i := 9) (v := ?v9) rfl rfl (by kernel_rfl) (by kernel_rfl) (by kernel_rfl) (fun _ _ _ h => h) ⟨Or.inl ⟨by rfl, ?y9⟩, fun _ => rfl⟩ ?r9
    case y9 => (intro wq; go_simp; first | rfl | (rw [if_pos hcb]; rfl))
    try simp only [zA, zB, zC, Act.put, zD, zE, zF]
    refine wpAnyIn_ready (rs := [10]) (by kernel_rfl) (by simp) (AllReadyIn.cons rfl (fun K' hK' => ?_) AllReadyIn.nil)
    go_simp
    refine hK' _ _ ?_
    clear hK' K'
    try simp only [zA, zB, zC, Act.put, zD, zE, zF]
    refine wpAnyIn_done (by kernel_rfl) ?_ _
    refine NoPanic.normal ?_
    exact KEY.out
  case done =>
    rintro D zs W hD rfl ⟨⟨⟨⟨g4, g5⟩, g2, g3⟩, _, _⟩, hB1, hle⟩ hK
    have hmx : Tryz.prog.follows .mixedOrders = true := by kernel_rfl
    have x0 := g4.cell 0
    have x1 := g4.cell 1
    have x2 := g4.cell 2
    have x3 := g4.cell 3
    have z0 := g5.cell 0
    have z1 := g5.cell 1
    have y0 := g2.cell 0
    have y1 := g2.cell 1
    have y2 := g2.cell 2
    have y3 := g2.cell 3
    have v0 := g2.frozen 0
    have v1 := g2.frozen 1
    have v2 := g2.frozen 2
    have v3 := g2.frozen 3
    have r0 := g3.cell 0
    have r1 := g3.cell 1
    have t0 := g3.frozen 0
    have t1 := g3.frozen 1
    dsimp [arrQ] at x0 x1 x2 x3 z0 z1 y0 y1 y2 y3 r0 r1
    have KEY := lH (qdiv_end (d0 := (stQ n d (topL L L)).1.1) (d1 := (stQ n d (topL L L)).1.2.1) (d2 := (stQ n d (topL L L)).1.2.2.1) (d3 := (stQ n d (topL L L)).1.2.2.2) (h := hiOf (stQ n d (topL L L)).2) (l := loOf (stQ n d (topL L L)).2) g2 g3 hB1 hK (by omega) (Nat.le_refl _) (by omega))
    clear g2 g3 g4 g5 hK hle yN
    gi_wp2
    refine wpIn_mono (Q := NoPanic _) ?_ NoPanic.imp
    gi_region_with_o (fail)
    all_goals (refine NoPanic.normal ?_)
    all_goals gi_wp2
    all_goals
      try simp only [zA, zB, zC, Act.put, zD, zE, zF]
      obtain ⟨⟨k1, k4⟩, k2, k3⟩ := KEY.out
      have a0 := k1.cell 0
      have a1 := k1.cell 1
      have a2 := k1.cell 2
      have a3 := k1.cell 3
      have a4 := k4.cell 0
      have a5 := k4.cell 1
      dsimp at a0 a1 a2 a3 a4 a5
      refine ⟨by simp, .inl ⟨_, _, rfl, run_takeDeferred k2, ?_⟩⟩
      refine ⟨.tuple #[.agg (arrQ (stQ n d (topL L L)).1), .agg #[.int .u64 (hiOf (stQ n d (topL L L)).2), .int .u64 (loOf (stQ n d (topL L L)).2)], .bool true], ?_, rfl, k3⟩
      clear k1 k2 k3 k4 KEY x0 x1 x2 x3 y0 y1 y2 y3 r0 r1 z0 z1
      simp [results, Tryz.results80, go_sem, arrQ, a0, a1, a2, a3, a4, a5]
  case stop =>
    rintro D c pre W _ _ h _
    exact h.elim
end Go.Proofs.YtnlmceafleeaiaaGreatDoor
namespace Go.Proofs.YtnlmceafleeaiaaGreatDoor
open Go.RowKit
def tup (x : Int) : Int × Int × Int × Int := (wd0 x, wd1 x, wd2 x, wd3 x)
theorem upLo_bit {p : Int} (hp : p = 0 ∨ p = 1) {m : Nat} (hm : m < 64) : upLo p m = p * 2 ^ m := by
  unfold upLo
  have h := two_pow_le (show m ≤ 63 by omega)
  have h0 := two_pow_pos m
  have e : (2 : Int) ^ 63 = 9223372036854775808 := rfl
  rcases hp with rfl | rfl
  · simp
  · rw [Int.one_mul]; omega
theorem or_low {v p : Int} {m : Nat} (hm : m < 64) (hv : U64 v) (h : v % 2 ^ (m + 1) = 0) (hp : p = 0 ∨ p = 1) : bits .or .u64 v (upLo p m) = v + p * 2 ^ m ∧ U64 (v + p * 2 ^ m) := by
  rw [upLo_bit hp hm]
  have h0 := two_pow_pos m
  have e1 : (2 : Int) ^ (m + 1) = 2 * 2 ^ m := by rw [Int.pow_succ, Int.mul_comm]
  have e2 : (2 : Int) ^ (m + 1) * 2 ^ (64 - (m + 1)) = 18446744073709551616 := by rw [← Int.pow_add, show m + 1 + (64 - (m + 1)) = 64 by omega]; rfl
  have hd := Int.emod_add_mul_ediv v (2 ^ (m + 1))
  rw [h, Int.zero_add] at hd
  have k0 : 0 ≤ v / 2 ^ (m + 1) := Int.ediv_nonneg hv.1 (by omega)
  have k1 : v / 2 ^ (m + 1) < 2 ^ (64 - (m + 1)) := by
    refine Int.ediv_lt_of_lt_mul (by omega) ?_
    rw [Int.mul_comm, e2]; exact hv.2
  have q0 : 0 ≤ p * 2 ^ m ∧ p * 2 ^ m < 2 ^ (m + 1) := by rcases hp with rfl | rfl <;> simp <;> omega
  have key := or_add (p := m + 1) (by omega) k0 k1 q0.1 q0.2
  have sum := mul_add_lt (two_pow_pos (m + 1)) k0 k1 q0.1 q0.2
  rw [hd] at key sum
  rw [e2] at sum
  exact ⟨key, sum.1, sum.2⟩
theorem wd_low (Q : Int) (c m : Nat) (hm : m < 64) : 2 ^ (64 * c + m + 1) * Q / 18446744073709551616 ^ c % 18446744073709551616 % 2 ^ (m + 1) = 0 := by
  have e : (2 : Int) ^ (64 * c + m + 1) * Q = 18446744073709551616 ^ c * (2 ^ (m + 1) * Q) := by
    rw [show 64 * c + m + 1 = 64 * c + (m + 1) by omega, pow_64, Int.mul_comm (2 ^ (m + 1)), Int.mul_assoc]
  rw [e, Int.mul_ediv_cancel_left _ (by have : (0 : Int) < 18446744073709551616 ^ c := Int.pow_pos (by decide); omega)]
  have e2 : (18446744073709551616 : Int) = 2 ^ (m + 1) * 2 ^ (63 - m) := by rw [← Int.pow_add, show m + 1 + (63 - m) = 64 by omega]; rfl
  rw [e2, Int.mul_emod_mul_of_pos _ _ (two_pow_pos (m + 1))]
  exact Int.mul_emod_right ..
theorem orW_num (X Q p : Int) (k : Nat) (hk : k < 256) (hX : X = 2 ^ (k + 1) * Q) (h0 : 0 ≤ X) (h1 : X < wfull) (hp : p = 0 ∨ p = 1) : orW k p (tup X) = tup (X + p * 2 ^ k) := by
  obtain ⟨c, hc⟩ : ∃ c, k / 64 = c := ⟨_, rfl⟩
  obtain ⟨m, hm⟩ : ∃ m, k % 64 = m := ⟨_, rfl⟩
  have hm64 : m < 64 := by omega
  have hk2 : k = 64 * c + m := by omega
  have low := wd_low Q c m hm64
  rw [← hk2, ← hX] at low
  have ew : (2 : Int) ^ k = 2 ^ m * 18446744073709551616 ^ c := by rw [hk2, pow_64]
  have wv := wval_wd h0 h1
  have u0 := wd0_u X; have u1 := wd1_u X; have u2 := wd2_u X; have u3 := wd3_u X
  have e2 : (18446744073709551616 : Int) ^ 2 = 340282366920938463463374607431768211456 := by decide +kernel
  have e3 : (18446744073709551616 : Int) ^ 3 = 6277101735386680763835789423207666416102355444464034512896 := by decide +kernel
  unfold orW tup
  rw [hc, hm]
  obtain rfl | rfl | rfl | rfl : c = 0 ∨ c = 1 ∨ c = 2 ∨ c = 3 := by omega
  · rw [Int.pow_zero, Int.ediv_one] at low
    obtain ⟨a, b⟩ := or_low hm64 u0 low hp
    obtain ⟨d0, d1, d2, d3⟩ := wd_of (n := X + p * 2 ^ k) (c := 0) b u1 u2 u3 (by rw [ew, Int.pow_zero, Int.mul_one]; unfold wval at *; generalize p * 2 ^ m = z at *; omega)
    rw [if_pos rfl, d0, d1, d2, d3]
    dsimp only; rw [a]
  · rw [Int.pow_succ, Int.pow_zero, Int.one_mul] at low
    obtain ⟨a, b⟩ := or_low hm64 u1 low hp
    obtain ⟨d0, d1, d2, d3⟩ := wd_of (n := X + p * 2 ^ k) (c := 0) u0 b u2 u3 (by rw [ew, Int.pow_succ 18446744073709551616 0, Int.pow_zero, Int.one_mul, ← Int.mul_assoc]; unfold wval at *; generalize p * 2 ^ m = z at *; omega)
    rw [if_neg (by decide), if_pos rfl, d0, d1, d2, d3]
    dsimp only; rw [a]
  · rw [e2] at low
    obtain ⟨a, b⟩ := or_low hm64 u2 low hp
    obtain ⟨d0, d1, d2, d3⟩ := wd_of (n := X + p * 2 ^ k) (c := 0) u0 u1 b u3 (by rw [ew, e2, ← Int.mul_assoc]; unfold wval at *; generalize p * 2 ^ m = z at *; omega)
    rw [if_neg (by decide), if_neg (by decide), if_pos rfl, d0, d1, d2, d3]
    dsimp only; rw [a]
  · rw [e3] at low
    obtain ⟨a, b⟩ := or_low hm64 u3 low hp
    obtain ⟨d0, d1, d2, d3⟩ := wd_of (n := X + p * 2 ^ k) (c := 0) u0 u1 u2 b (by rw [ew, e3, ← Int.mul_assoc]; unfold wval at *; generalize p * 2 ^ m = z at *; omega)
    rw [if_neg (by decide), if_neg (by decide), if_neg (by decide), d0, d1, d2, d3]
    dsimp only; rw [a]
theorem stQ_top (n d : Int) (L : Nat) (hL : L ≤ 256) (hn : n % wfull < 2 ^ L) (hD : 0 < d % full) : ∀ j k : Nat, j + k = L →
    stQ n d (topL L j) = (tup (n % wfull / 2 ^ k / (d % full) * 2 ^ k), n % wfull / 2 ^ k % (d % full)) := by
  obtain ⟨N, hN⟩ : ∃ N, n % wfull = N := ⟨_, rfl⟩
  obtain ⟨D, hD2⟩ : ∃ D, d % full = D := ⟨_, rfl⟩
  have N0 : 0 ≤ N := hN ▸ (mod_w n).1
  have N1 : N < wfull := hN ▸ (mod_w n).2
  have D1 : D < full := hD2 ▸ (mod_f d).2
  rw [hN] at hn ⊢
  rw [hD2] at hD ⊢
  have bit : ∀ i : Nat, i < 256 → n / 2 ^ i % 2 = N / 2 ^ i % 2 := fun i hi => by
    rw [← hN]
    have e : wfull = 2 ^ i * (2 * 2 ^ (255 - i)) := by
      rw [← wfull_pow, ← Int.pow_succ', ← Int.pow_add, show i + (255 - i + 1) = 256 by omega]
    rw [Int.emod_def n wfull, e]
    have hp := two_pow_pos i
    generalize (2 : Int) ^ i = P at *
    generalize (2 : Int) ^ (255 - i) = R at *
    rw [Int.mul_assoc P, Int.sub_eq_add_neg, ← Int.mul_neg, Int.add_mul_ediv_left _ _ (by omega), Int.mul_assoc 2 R, ← Int.mul_neg]
    generalize -(R * _) = z
    omega
  intro j
  induction j with
  | zero =>
    intro k hk
    obtain rfl : k = L := by omega
    have z : N / 2 ^ k = 0 := Int.ediv_eq_zero_of_lt N0 hn
    rw [z]
    simp [topL, stQ, tup, wd0, wd1, wd2, wd3]
  | succ j ih =>
    intro k hk
    have h := ih (k + 1) (by omega)
    have kx : (Fin.ofNat 256 (L - 1 - j)).val = k := by show (L - 1 - j) % 256 = k; omega
    show stQ n d (topL L j ++ [_]) = _
    rw [stQ_snoc, h]
    unfold stepQ
    rw [kx, bit k (by omega)]
    obtain ⟨a1, a2, a3, a4, a5, a6⟩ := div_bit N D k N0 hD
    have em : N / 2 ^ (k + 1) % D % full = N / 2 ^ (k + 1) % D := Int.emod_eq_of_lt a3 (by omega)
    have pe : partN d (N / 2 ^ (k + 1) % D) (N / 2 ^ k % 2) = if 2 * (N / 2 ^ (k + 1) % D) + N / 2 ^ k % 2 < D then 0 else 1 := by unfold partN; rw [em, hD2]
    have re : restN d (N / 2 ^ (k + 1) % D) (N / 2 ^ k % 2) = N / 2 ^ k % D := by
      rw [a2]; unfold restN; rw [em, hD2]; split <;> omega
    have hq0 : 0 ≤ N / 2 ^ (k + 1) := Int.ediv_nonneg N0 (by have := two_pow_pos (k + 1); omega)
    have hq1 : 0 ≤ N / 2 ^ (k + 1) / D := Int.ediv_nonneg hq0 (by omega)
    have hX : N / 2 ^ (k + 1) / D * 2 ^ (k + 1) ≤ N := by
      have h1 : N / 2 ^ (k + 1) / D ≤ N / 2 ^ (k + 1) := Int.ediv_le_self _ hq0
      exact Int.le_trans (mul_le_of (by have := two_pow_pos (k + 1); omega) h1) (Int.ediv_mul_le _ (by have := two_pow_pos (k + 1); omega))
    dsimp only
    rw [re, pe]
    have key := orW_num (N / 2 ^ (k + 1) / D * 2 ^ (k + 1)) (N / 2 ^ (k + 1) / D) _ k (by omega) (Int.mul_comm _ _) (Int.mul_nonneg hq1 (by have := two_pow_pos (k + 1); omega)) (by omega) a6
    rw [key, a1]
    congr 2
    rw [Int.add_mul, Int.pow_succ]; congr 1; ac_rfl
theorem divQ (n d : Int) (hd : d % full ≠ 0) (w : World) :
    Calls Tryz.prog 80 #[.agg #[.int .u64 (wd0 n), .int .u64 (wd1 n), .int .u64 (wd2 n), .int .u64 (wd3 n)], .agg #[.int .u64 (hiOf d), .int .u64 (loOf d)]] w fun e w' =>
      e = .returned (.tuple #[.agg #[.int .u64 (wd0 (n % wfull / (d % full))), .int .u64 (wd1 (n % wfull / (d % full))), .int .u64 (wd2 (n % wfull / (d % full))), .int .u64 (wd3 (n % wfull / (d % full)))], .agg #[.int .u64 (hiOf (n % wfull % (d % full))), .int .u64 (loOf (n % wfull % (d % full)))], .bool true]) ∧ Below w.heap.size w w' := by
  have m := mod_w n
  have hL : n % wfull < 2 ^ blen (n % wfull) := by
    by_cases h0 : n % wfull = 0
    · rw [h0]; exact two_pow_pos _
    · obtain ⟨j, e, b0, b1⟩ := blen_bounds (show 0 < n % wfull by omega)
      rw [e]; exact b1
  have t := stQ_top n d (blen (n % wfull)) (blen_w m.1 m.2) hL (by have := (mod_f d).1; omega) (blen (n % wfull)) 0 (by omega)
  rw [Int.pow_zero, Int.ediv_one, Int.mul_one] at t
  have key := (callsIn_wide (n := 3)).1 (qdiv_in 3 (by omega) n d (by simpa using hd) w)
  rw [t] at key
  exact key
end Go.Proofs.YtnlmceafleeaiaaGreatDoor
