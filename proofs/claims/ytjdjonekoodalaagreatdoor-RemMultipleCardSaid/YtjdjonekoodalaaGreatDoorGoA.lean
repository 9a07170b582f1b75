import Derived.Test.YtjdjonekoodalaaGreatDoorGkA
import Derived.Test.YtjdjonekoodalaaGreatDoorGmA
set_option maxHeartbeats 4000000
set_option linter.unusedVariables false
set_option linter.unusedSimpArgs false
set_option maxRecDepth 100000
namespace Go.Proofs.YtjdjonekoodalaaGreatDoor
open Go.RowKit
attribute [local go_sem ↓] Go.wp_at_zero Go.wp_at_succ
def overB (f m : Int) (ng : Bool) : Int := if f < 4 ∧ m < 5 then (if infM m ng then infF f ng else maxF f ng) else 0
def overFl (f m : Int) : Int := if f < 4 ∧ m < 5 then 20 else 0
structure OverOK : Prop where
  over : ∀ f m ng, 0 ≤ f → f ≤ 255 → 0 ≤ m → m ≤ 255 → ∀ w, FTab w → Calls Tryz.prog 151 #[.int .u8 f, .int .u8 m, .bool ng] w fun e w' => e = .returned (.agg #[.int .u64 (hiOf (overB f m ng)), .int .u64 (loOf (overB f m ng)), .int .u8 (overFl f m)]) ∧ Below w.heap.size w w'
  beyond : ∀ f x, 0 ≤ f → f ≤ 255 → -9223372036854775808 ≤ x → x ≤ 9223372036854775807 → ∀ w, FTab w → Calls Tryz.prog 183 #[.int .u8 f, .int .i64 x] w fun e w' => e = .returned (.bool (decide (f < 4) && decide (fE f < x))) ∧ Below w.heap.size w w'
  tiny : ∀ f x, 0 ≤ f → f ≤ 255 → -9223372036854775808 ≤ x → x ≤ 9223372036854775807 → ∀ w, FTab w → Calls Tryz.prog 207 #[.int .u8 f, .int .i64 x] w fun e w' => e = .returned (.bool (decide (f < 4) && decide (x < 1 - fE f))) ∧ Below w.heap.size w w'
theorem over_no {f m : Int} (h : ¬ (f < 4 ∧ m < 5)) (ng : Bool) : overB f m ng = 0 ∧ overFl f m = 0 := by unfold overB overFl; rw [if_neg h, if_neg h]; exact ⟨rfl, rfl⟩
theorem over_inf {f m : Int} (h : f < 4 ∧ m < 5) {ng : Bool} (i : infM m ng = true) : overB f m ng = infF f ng ∧ overFl f m = 20 := by unfold overB overFl; rw [if_pos h, if_pos h, if_pos i]; exact ⟨rfl, rfl⟩
theorem over_fin {f m : Int} (h : f < 4 ∧ m < 5) {ng : Bool} (i : infM m ng = false) : overB f m ng = maxF f ng ∧ overFl f m = 20 := by unfold overB overFl; rw [if_pos h, if_pos h, i, if_neg (by decide)]; exact ⟨rfl, rfl⟩
end Go.Proofs.YtjdjonekoodalaaGreatDoor
namespace Go.Proofs.YtjdjonekoodalaaGreatDoor
open Go.RowKit
attribute [local go_sem ↓] Go.wp_at_zero Go.wp_at_succ
def EndsIn (w : World) (f : Int) (ng : Bool) (vp : Nat × Nat) : Prop := w.cell? ⟨vp.1, 0, none⟩ = some (.int .u8 f) ∧ w.cell? ⟨vp.2, 0, none⟩ = some (.bool ng)
theorem EndsIn.later {w w' : World} {f : Int} {ng : Bool} {vp : Nat × Nat} (h : EndsIn w f ng vp) (hb : Below w.heap.size w w') : EndsIn w' f ng vp := ⟨cL hb h.1, cL hb h.2⟩
theorem over_ends (f : Int) (ng : Bool) (w : World) : Calls Tryz.prog 185 #[.int .u8 f, .bool ng] w fun e w' => ∃ vp, e = .returned (.agg #[.func (.func 202) #[] #[.pointer (some ⟨vp.1, 0, none⟩), .pointer (some ⟨vp.2, 0, none⟩)], .func (.func 204) #[] #[.pointer (some ⟨vp.1, 0, none⟩), .pointer (some ⟨vp.2, 0, none⟩)]]) ∧ EndsIn w' f ng vp ∧ Below w.heap.size w w' := by
  have hmf : ∀ (fn : Fn) (first cap : Array Value) (w : World), (Instr.makeFunc fn first cap).run Tryz.prog w = .ok (.func fn first cap) w := fun _ _ _ _ => rfl
  have hst : ∀ (fn : Fn) (first cap : Array Value) (p : Addr) (mm : Go.Mode) (w : World), (store p (.func fn first cap) mm).run Tryz.prog w = stored Tryz.prog w p (.func fn first cap) mm := fun _ _ _ _ _ w => run_store _ w _ _ _ rfl
  have KEY : Hid ((((w.alloc (.cells #[.int .u8 f] 22)).alloc (.cells #[.bool ng] 4)).alloc (.cells #[.func (.func 202) #[] #[.pointer (some ⟨w.heap.size, 0, none⟩), .pointer (some ⟨w.heap.size + 1, 0, none⟩)], .func (.func 204) #[] #[.pointer (some ⟨w.heap.size, 0, none⟩), .pointer (some ⟨w.heap.size + 1, 0, none⟩)]] 215)).cell? ⟨w.heap.size + 1 + 1, 0, none⟩ = some (.func (.func 202) #[] #[.pointer (some ⟨w.heap.size, 0, none⟩), .pointer (some ⟨w.heap.size + 1, 0, none⟩)]) ∧ (((w.alloc (.cells #[.int .u8 f] 22)).alloc (.cells #[.bool ng] 4)).alloc (.cells #[.func (.func 202) #[] #[.pointer (some ⟨w.heap.size, 0, none⟩), .pointer (some ⟨w.heap.size + 1, 0, none⟩)], .func (.func 204) #[] #[.pointer (some ⟨w.heap.size, 0, none⟩), .pointer (some ⟨w.heap.size + 1, 0, none⟩)]] 215)).cell? ⟨w.heap.size + 1 + 1, 1, none⟩ = some (.func (.func 204) #[] #[.pointer (some ⟨w.heap.size, 0, none⟩), .pointer (some ⟨w.heap.size + 1, 0, none⟩)]) ∧ (((w.alloc (.cells #[.int .u8 f] 22)).alloc (.cells #[.bool ng] 4)).alloc (.cells #[.func (.func 202) #[] #[.pointer (some ⟨w.heap.size, 0, none⟩), .pointer (some ⟨w.heap.size + 1, 0, none⟩)], .func (.func 204) #[] #[.pointer (some ⟨w.heap.size, 0, none⟩), .pointer (some ⟨w.heap.size + 1, 0, none⟩)]] 215)).cell? ⟨w.heap.size, 0, none⟩ = some (.int .u8 f) ∧ (((w.alloc (.cells #[.int .u8 f] 22)).alloc (.cells #[.bool ng] 4)).alloc (.cells #[.func (.func 202) #[] #[.pointer (some ⟨w.heap.size, 0, none⟩), .pointer (some ⟨w.heap.size + 1, 0, none⟩)], .func (.func 204) #[] #[.pointer (some ⟨w.heap.size, 0, none⟩), .pointer (some ⟨w.heap.size + 1, 0, none⟩)]] 215)).cell? ⟨w.heap.size + 1, 0, none⟩ = some (.bool ng) ∧ Below w.heap.size w (((w.alloc (.cells #[.int .u8 f] 22)).alloc (.cells #[.bool ng] 4)).alloc (.cells #[.func (.func 202) #[] #[.pointer (some ⟨w.heap.size, 0, none⟩), .pointer (some ⟨w.heap.size + 1, 0, none⟩)], .func (.func 204) #[] #[.pointer (some ⟨w.heap.size, 0, none⟩), .pointer (some ⟨w.heap.size + 1, 0, none⟩)]] 215))) :=
    lH ⟨by go_simp, by go_simp, by go_simp, by go_simp, bA (bA (bA bR _) _) _⟩
  go_enter Tryz.func185, Tryz.ntmps185
  go_wp2_with fail
  obtain ⟨e0, e1, e2, e3, kb⟩ := KEY.out
  clear KEY
  refine bodyPost_ret (v := .agg #[.func (.func 202) #[] #[.pointer (some ⟨w.heap.size, 0, none⟩), .pointer (some ⟨w.heap.size + 1, 0, none⟩)], .func (.func 204) #[] #[.pointer (some ⟨w.heap.size, 0, none⟩), .pointer (some ⟨w.heap.size + 1, 0, none⟩)]]) ?_ rfl ⟨(w.heap.size, w.heap.size + 1), rfl, ⟨e2, e3⟩, kb⟩
  simp [results, Tryz.results185, go_sem, e0, e1]
theorem over_c1_core (bf bn : Nat) (f bh bl : Int) (ng : Bool)
    (h0 : Hid (∀ w, FTab w → Ca 203 #[.int .u8 f, .bool ng] w (U2 bh bl))) (w : World) (ft : FTab w) (cX0_0 : w.cell? ⟨bf, 0, none⟩ = some (.int .u8 f)) (cX1_0 : w.cell? ⟨bn, 0, none⟩ = some (.bool ng)) :
    Ca 202 #[.pointer (some ⟨bf, 0, none⟩), .pointer (some ⟨bn, 0, none⟩)] w (U2 bh bl) := by
  simp only [Ca, U2] at *
  go_enter Tryz.func202, Tryz.ntmps202
  have oX0 : bf < w.heap.size := bL cX0_0
  have oX1 : bn < w.heap.size := bL cX1_0
  go_wp2_with fail
  refine vM (h0.out _ (ft.later (bA bR _))) fun w1 b1 => ?_
  have gX2 : w.heap.size ≤ w.heap.size := by omega
  have X2 := (HB.newAt (b := w.heap.size) (by simp) _ _).later b1
  clear oX0 oX1
  have oX2 := X2.o
  go_wp2_with fail
  refine bodyPost_ret (v := .agg #[.int .u64 bh, .int .u64 bl]) ?_ rfl ⟨rfl, (((bC (bA bR _) b1).setCell (p := ⟨w.heap.size, 0, none⟩) gX2 _).setCell (p := ⟨w.heap.size, 1, none⟩) gX2 _)⟩
  simp [results, Tryz.results202, go_sem, oX2]
theorem over_c1 (f : Int) (ng : Bool) (f0 : 0 ≤ f) (f1 : f ≤ 255) (vp : Nat × Nat) (w : World) (ft : FTab w) (h : EndsIn w f ng vp) : Calls Tryz.prog 202 #[.pointer (some ⟨vp.1, 0, none⟩), .pointer (some ⟨vp.2, 0, none⟩)] w fun e w' => e = .returned (.agg #[.int .u64 (hiOf (maxF f ng)), .int .u64 (loOf (maxF f ng))]) ∧ Below w.heap.size w w' :=
  over_c1_core vp.1 vp.2 f _ _ ng (lH (formOK.max f ng f0 f1)) w ft h.1 h.2
theorem over_c2_core (bf bn : Nat) (f bh bl : Int) (ng : Bool)
    (h0 : Hid (∀ w, FTab w → Ca 28 #[.int .u8 f, .bool ng] w (U2 bh bl))) (w : World) (ft : FTab w) (cX0_0 : w.cell? ⟨bf, 0, none⟩ = some (.int .u8 f)) (cX1_0 : w.cell? ⟨bn, 0, none⟩ = some (.bool ng)) :
    Ca 204 #[.pointer (some ⟨bf, 0, none⟩), .pointer (some ⟨bn, 0, none⟩)] w (U2 bh bl) := by
  simp only [Ca, U2] at *
  go_enter Tryz.func204, Tryz.ntmps204
  have oX0 : bf < w.heap.size := bL cX0_0
  have oX1 : bn < w.heap.size := bL cX1_0
  go_wp2_with fail
  refine vM (h0.out _ (ft.later (bA bR _))) fun w1 b1 => ?_
  have gX2 : w.heap.size ≤ w.heap.size := by omega
  have X2 := (HB.newAt (b := w.heap.size) (by simp) _ _).later b1
  clear oX0 oX1
  have oX2 := X2.o
  go_wp2_with fail
  refine bodyPost_ret (v := .agg #[.int .u64 bh, .int .u64 bl]) ?_ rfl ⟨rfl, (((bC (bA bR _) b1).setCell (p := ⟨w.heap.size, 0, none⟩) gX2 _).setCell (p := ⟨w.heap.size, 1, none⟩) gX2 _)⟩
  simp [results, Tryz.results204, go_sem, oX2]
theorem over_c2 (f : Int) (ng : Bool) (f0 : 0 ≤ f) (f1 : f ≤ 255) (vp : Nat × Nat) (w : World) (ft : FTab w) (h : EndsIn w f ng vp) : Calls Tryz.prog 204 #[.pointer (some ⟨vp.1, 0, none⟩), .pointer (some ⟨vp.2, 0, none⟩)] w fun e w' => e = .returned (.agg #[.int .u64 (hiOf (infF f ng)), .int .u64 (loOf (infF f ng))]) ∧ Below w.heap.size w w' :=
  over_c2_core vp.1 vp.2 f _ _ ng (lH (formOK.inf f ng f0 f1)) w ft h.1 h.2
theorem over_no1 (f m : Int) (ng : Bool)
    (h0 : Hid (∀ w, FTab w → Ca 15 #[.int .u8 f] w (.bool false))) (w : World) (ft : FTab w) :
    Ca 151 #[.int .u8 f, .int .u8 m, .bool ng] w (.agg #[.int .u64 0, .int .u64 0, .int .u8 0]) := by
  simp only [Ca] at *
  go_enter Tryz.func151, Tryz.ntmps151
  go_wp2_with fail
  refine vM (h0.out _ (ft.later (bA bR _))) fun w1 b1 => ?_
  have gX0 : w.heap.size ≤ w.heap.size := by omega
  have X0 := (HB.newAt (b := w.heap.size) (by simp) _ _).later b1
  have oX0 := X0.o
  go_wp2_with fail
  refine bodyPost_ret (v := .agg #[.int .u64 0, .int .u64 0, .int .u8 0]) ?_ rfl ⟨rfl, ((((bC (bA bR _) b1).setCell (p := ⟨w.heap.size, 0, none⟩) gX0 _).setCell (p := ⟨w.heap.size, 1, none⟩) gX0 _).setCell (p := ⟨w.heap.size, 2, none⟩) gX0 _)⟩
  simp [results, Tryz.results151, go_sem, oX0]
theorem over_no2 (f m : Int) (ng : Bool)
    (h0 : Hid (∀ w, FTab w → Ca 15 #[.int .u8 f] w (.bool true)))
    (h1 : Hid (∀ w, Ca 48 #[.int .u8 m] w (.bool false))) (w : World) (ft : FTab w) :
    Ca 151 #[.int .u8 f, .int .u8 m, .bool ng] w (.agg #[.int .u64 0, .int .u64 0, .int .u8 0]) := by
  simp only [Ca] at *
  go_enter Tryz.func151, Tryz.ntmps151
  go_wp2_with fail
  refine vM (h0.out _ (ft.later (bA bR _))) fun w1 b1 => ?_
  have gX0 : w.heap.size ≤ w.heap.size := by omega
  have X0 := (HB.newAt (b := w.heap.size) (by simp) _ _).later b1
  go_wp2_with fail
  refine vM (h1.out _) fun w2 b2 => ?_
  replace X0 := X0.later b2
  have oX0 := X0.o
  go_wp2_with fail
  refine bodyPost_ret (v := .agg #[.int .u64 0, .int .u64 0, .int .u8 0]) ?_ rfl ⟨rfl, ((((bC (bC (bA bR _) b1) b2).setCell (p := ⟨w.heap.size, 0, none⟩) gX0 _).setCell (p := ⟨w.heap.size, 1, none⟩) gX0 _).setCell (p := ⟨w.heap.size, 2, none⟩) gX0 _)⟩
  simp [results, Tryz.results151, go_sem, oX0]
theorem over_fin_core (f m : Int) (ng : Bool)
    (h0 : Hid (∀ w, FTab w → Ca 15 #[.int .u8 f] w (.bool true)))
    (h1 : Hid (∀ w, Ca 48 #[.int .u8 m] w (.bool true)))
    (h2 : Hid (∀ w, Ca 184 #[.int .u8 m, .bool ng] w (.bool false))) (f0 : 0 ≤ f) (f1 : f ≤ 255) (w : World) (ft : FTab w) :
    Ca 151 #[.int .u8 f, .int .u8 m, .bool ng] w (.agg #[.int .u64 (hiOf (maxF f ng)), .int .u64 (loOf (maxF f ng)), .int .u8 20]) := by
  simp only [Ca] at *
  go_enter Tryz.func151, Tryz.ntmps151
  go_wp2_with fail
  refine vM (h0.out _ (ft.later (bA bR _))) fun w1 b1 => ?_
  have gX0 : w.heap.size ≤ w.heap.size := by omega
  have X0 := (HB.newAt (b := w.heap.size) (by simp) _ _).later b1
  go_wp2_with fail
  refine vM (h1.out _) fun w2 b2 => ?_
  go_wp2_with fail
  refine vM (h2.out _) fun w3 b3 => ?_
  go_wp2_with fail
  refine vE (over_ends f ng _) fun vp w4 nvp b4 => ?_
  have hix : ∀ w : World, (Instr.index 215 (.agg #[.func (.func 202) #[] #[.pointer (some ⟨vp.1, 0, none⟩), .pointer (some ⟨vp.2, 0, none⟩)], .func (.func 204) #[] #[.pointer (some ⟨vp.1, 0, none⟩), .pointer (some ⟨vp.2, 0, none⟩)]]) (.int .i64 0)).run Tryz.prog w = .ok (.func (.func 202) #[] #[.pointer (some ⟨vp.1, 0, none⟩), .pointer (some ⟨vp.2, 0, none⟩)]) w := fun _ => by kernel_rfl
  go_wp2_with fail
  refine vM (over_c1 f ng f0 f1 vp _ (ft.later (bC (bC (bC (bC (bA bR _) b1) b2) b3) b4)) nvp) fun w5 b5 => ?_
  clear nvp
  replace X0 := X0.later (bC (bC (bC b2 b3) b4) b5)
  have oX0 := X0.o
  go_wp2_with fail
  refine bodyPost_ret (v := .agg #[.int .u64 (hiOf (maxF f ng)), .int .u64 (loOf (maxF f ng)), .int .u8 20]) ?_ rfl ⟨rfl, ((((bC (bC (bC (bC (bC (bA bR _) b1) b2) b3) b4) b5).setCell (p := ⟨w.heap.size, 0, none⟩) gX0 _).setCell (p := ⟨w.heap.size, 1, none⟩) gX0 _).setCell (p := ⟨w.heap.size, 2, none⟩) gX0 _)⟩
  simp [results, Tryz.results151, go_sem, oX0]
theorem over_inf_core (f m : Int) (ng : Bool)
    (h0 : Hid (∀ w, FTab w → Ca 15 #[.int .u8 f] w (.bool true)))
    (h1 : Hid (∀ w, Ca 48 #[.int .u8 m] w (.bool true)))
    (h2 : Hid (∀ w, Ca 184 #[.int .u8 m, .bool ng] w (.bool true))) (f0 : 0 ≤ f) (f1 : f ≤ 255) (w : World) (ft : FTab w) :
    Ca 151 #[.int .u8 f, .int .u8 m, .bool ng] w (.agg #[.int .u64 (hiOf (infF f ng)), .int .u64 (loOf (infF f ng)), .int .u8 20]) := by
  simp only [Ca] at *
  go_enter Tryz.func151, Tryz.ntmps151
  go_wp2_with fail
  refine vM (h0.out _ (ft.later (bA bR _))) fun w1 b1 => ?_
  have gX0 : w.heap.size ≤ w.heap.size := by omega
  have X0 := (HB.newAt (b := w.heap.size) (by simp) _ _).later b1
  go_wp2_with fail
  refine vM (h1.out _) fun w2 b2 => ?_
  go_wp2_with fail
  refine vM (h2.out _) fun w3 b3 => ?_
  go_wp2_with fail
  refine vE (over_ends f ng _) fun vp w4 nvp b4 => ?_
  have hix : ∀ w : World, (Instr.index 215 (.agg #[.func (.func 202) #[] #[.pointer (some ⟨vp.1, 0, none⟩), .pointer (some ⟨vp.2, 0, none⟩)], .func (.func 204) #[] #[.pointer (some ⟨vp.1, 0, none⟩), .pointer (some ⟨vp.2, 0, none⟩)]]) (.int .i64 1)).run Tryz.prog w = .ok (.func (.func 204) #[] #[.pointer (some ⟨vp.1, 0, none⟩), .pointer (some ⟨vp.2, 0, none⟩)]) w := fun _ => by kernel_rfl
  go_wp2_with fail
  refine vM (over_c2 f ng f0 f1 vp _ (ft.later (bC (bC (bC (bC (bA bR _) b1) b2) b3) b4)) nvp) fun w5 b5 => ?_
  clear nvp
  replace X0 := X0.later (bC (bC (bC b2 b3) b4) b5)
  have oX0 := X0.o
  go_wp2_with fail
  refine bodyPost_ret (v := .agg #[.int .u64 (hiOf (infF f ng)), .int .u64 (loOf (infF f ng)), .int .u8 20]) ?_ rfl ⟨rfl, ((((bC (bC (bC (bC (bC (bA bR _) b1) b2) b3) b4) b5).setCell (p := ⟨w.heap.size, 0, none⟩) gX0 _).setCell (p := ⟨w.heap.size, 1, none⟩) gX0 _).setCell (p := ⟨w.heap.size, 2, none⟩) gX0 _)⟩
  simp [results, Tryz.results151, go_sem, oX0]
theorem over_beyond_no (f x : Int)
    (h0 : Hid (∀ w, FTab w → Ca 15 #[.int .u8 f] w (.bool false))) (w : World) (ft : FTab w) :
    Ca 183 #[.int .u8 f, .int .i64 x] w (.bool false) := by
  simp only [Ca] at *
  go_enter Tryz.func183, Tryz.ntmps183
  go_wp2_with fail
  refine vM (h0.out _ (ft.later bR)) fun w1 b1 => ?_
  go_wp2_with fail
  go_ret
  exact ⟨rfl, b1⟩
theorem over_beyond_yes (f x em : Int) (p : Bool)
    (h0 : Hid (∀ w, FTab w → Ca 15 #[.int .u8 f] w (.bool true)))
    (h1 : Hid (∀ w, FTab w → Ca 26 #[.int .u8 f] w (.int .i64 em))) (j : decide (em < x) = p) (w : World) (ft : FTab w) :
    Ca 183 #[.int .u8 f, .int .i64 x] w (.bool p) := by
  simp only [Ca] at *
  go_enter Tryz.func183, Tryz.ntmps183
  go_wp2_with fail
  refine vM (h0.out _ (ft.later bR)) fun w1 b1 => ?_
  go_wp2_with fail
  refine vM (h1.out _ (ft.later b1)) fun w2 b2 => ?_
  go_wp2_with fail
  go_ret
  exact ⟨rfl, (bC b1 b2)⟩
theorem over_tiny_no (f x : Int)
    (h0 : Hid (∀ w, FTab w → Ca 15 #[.int .u8 f] w (.bool false))) (w : World) (ft : FTab w) :
    Ca 207 #[.int .u8 f, .int .i64 x] w (.bool false) := by
  simp only [Ca] at *
  go_enter Tryz.func207, Tryz.ntmps207
  go_wp2_with fail
  refine vM (h0.out _ (ft.later bR)) fun w1 b1 => ?_
  go_wp2_with fail
  go_ret
  exact ⟨rfl, b1⟩
theorem over_tiny_yes (f x em k : Int) (p : Bool)
    (h0 : Hid (∀ w, FTab w → Ca 15 #[.int .u8 f] w (.bool true)))
    (h1 : Hid (∀ w, FTab w → Ca 26 #[.int .u8 f] w (.int .i64 em))) (w1 : IntKind.i64.wrap (1 - em) = k) (j : decide (x < k) = p) (w : World) (ft : FTab w) :
    Ca 207 #[.int .u8 f, .int .i64 x] w (.bool p) := by
  simp only [Ca] at *
  go_enter Tryz.func207, Tryz.ntmps207
  go_wp2_with fail
  refine vM (h0.out _ (ft.later bR)) fun w1 b1 => ?_
  go_wp2_with fail
  refine vM (h1.out _ (ft.later b1)) fun w2 b2 => ?_
  go_wp2_with fail
  go_ret
  exact ⟨rfl, (bC b1 b2)⟩
theorem f_known (f : Int) (f0 : 0 ≤ f) (f1 : f ≤ 255) {k : Bool} (h : decide (f < 4) = k) (w : World) (ft : FTab w) : Calls Tryz.prog 15 #[.int .u8 f] w fun e w' => e = .returned (.bool k) ∧ Below w.heap.size w w' := h ▸ formOK.known f f0 f1 w ft
theorem m_known (m : Int) (m0 : 0 ≤ m) (m1 : m ≤ 255) {k : Bool} (h : decide (m < 5) = k) (w : World) : Calls Tryz.prog 48 #[.int .u8 m] w fun e w' => e = .returned (.bool k) ∧ Below w.heap.size w w' := h ▸ modeOK.known m m0 m1 w
theorem m_inf (m : Int) (ng : Bool) (m0 : 0 ≤ m) (m1 : m ≤ 255) {k : Bool} (h : infM m ng = k) (w : World) : Calls Tryz.prog 184 #[.int .u8 m, .bool ng] w fun e w' => e = .returned (.bool k) ∧ Below w.heap.size w w' := h ▸ modeOK.inf m ng m0 m1 w
theorem over_any (f m : Int) (ng : Bool) (f0 : 0 ≤ f) (f1 : f ≤ 255) (m0 : 0 ≤ m) (m1 : m ≤ 255) (w : World) (ft : FTab w) : Calls Tryz.prog 151 #[.int .u8 f, .int .u8 m, .bool ng] w fun e w' => e = .returned (.agg #[.int .u64 (hiOf (overB f m ng)), .int .u64 (loOf (overB f m ng)), .int .u8 (overFl f m)]) ∧ Below w.heap.size w w' := by
  by_cases hf : f < 4
  · have K := lH (f_known f f0 f1 (k := true) (by simp [hf]))
    by_cases hm : m < 5
    · have M := lH (m_known m m0 m1 (k := true) (by simp [hm]))
      cases i : infM m ng with
      | true =>
        rw [(over_inf ⟨hf, hm⟩ i).1, (over_inf ⟨hf, hm⟩ i).2]
        exact over_inf_core f m ng K M (lH (m_inf m ng m0 m1 i)) f0 f1 w ft
      | false =>
        rw [(over_fin ⟨hf, hm⟩ i).1, (over_fin ⟨hf, hm⟩ i).2]
        exact over_fin_core f m ng K M (lH (m_inf m ng m0 m1 i)) f0 f1 w ft
    · rw [(over_no (f := f) (m := m) (by omega) ng).1, (over_no (f := f) (m := m) (by omega) ng).2]
      exact over_no2 f m ng K (lH (m_known m m0 m1 (k := false) (by simp; omega))) w ft
  · rw [(over_no (f := f) (m := m) (by omega) ng).1, (over_no (f := f) (m := m) (by omega) ng).2]
    exact over_no1 f m ng (lH (f_known f f0 f1 (k := false) (by simp; omega))) w ft
theorem overOK : OverOK where
  over := fun f m ng f0 f1 m0 m1 w ft => over_any f m ng f0 f1 m0 m1 w ft
  beyond := fun f x f0 f1 x0 x1 w ft => by
    by_cases hf : f < 4
    · rw [show decide (f < 4) = true by simp [hf], Bool.true_and]
      exact over_beyond_yes f x _ _ (lH (f_known f f0 f1 (k := true) (by simp [hf]))) (lH (formOK.emax f f0 f1)) rfl w ft
    · rw [show decide (f < 4) = false by simp [hf], Bool.false_and]
      exact over_beyond_no f x (lH (f_known f f0 f1 (k := false) (by simp; omega))) w ft
  tiny := fun f x f0 f1 x0 x1 w ft => by
    by_cases hf : f < 4
    · rw [show decide (f < 4) = true by simp [hf], Bool.true_and]
      obtain ⟨p0, p1, p2, p3, p4, p5, p6, p7, p8⟩ := f_nums f0 hf
      exact over_tiny_yes f x _ _ _ (lH (f_known f f0 f1 (k := true) (by simp [hf]))) (lH (formOK.emax f f0 f1)) (IntWalk.i64_in _ (by omega)) rfl w ft
    · rw [show decide (f < 4) = false by simp [hf], Bool.false_and]
      exact over_tiny_no f x (lH (f_known f f0 f1 (k := false) (by simp; omega))) w ft
end Go.Proofs.YtjdjonekoodalaaGreatDoor
