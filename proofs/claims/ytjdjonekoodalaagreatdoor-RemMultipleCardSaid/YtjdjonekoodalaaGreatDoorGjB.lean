import Derived.Test.YtjdjonekoodalaaGreatDoorGdA
set_option maxHeartbeats 4000000
set_option linter.unusedVariables false
set_option linter.unusedSimpArgs false
set_option maxRecDepth 100000
namespace Go.Proofs.YtjdjonekoodalaaGreatDoor
open Go.RowKit
def defF (f : Int) : Int := makeF f false (2 * fE f + 1) (2 ^ (fP f - 2))
def quietF (f b : Int) : Int := cutF f b + (if sigF f b then 2 ^ (fP f - 2) else 0)
def anyN (f : Int) (xs : List Int) : Bool := xs.any fun b => nanF f (b % full)
def anyS (f : Int) (xs : List Int) : Bool := xs.any fun b => sigF f (b % full)
def firstV (f : Int) (xs : List Int) : Int := match xs.find? (fun b => nanF f (b % full)) with
  | some b => quietF f (b % full)
  | none => defF f
def pickK (f : Int) (inv : Bool) (xs : List Int) : Bool := decide (f < 4) && (inv || anyN f xs)
def pickV (f : Int) (inv : Bool) (xs : List Int) : Int := if pickK f inv xs then firstV f xs else 0
def pickF (f : Int) (inv : Bool) (xs : List Int) : Int := if pickK f inv xs && (inv || anyS f xs) then 1 else 0
theorem sig_parts {f b : Int} (h : sigF f b = true) : f < 4 ∧ expF f b = 2 * fE f + 1 ∧ fracF f b ≠ 0 ∧ fracF f b < 2 ^ (fP f - 2) := by
  unfold sigF at h
  have c : clsF f b = 5 := by simpa using h
  have h4 : f < 4 := by
    rcases Int.lt_or_le f 4 with h | h
    · exact h
    · exfalso; have := cls_no (show ¬ f < 4 by omega) b; omega
  unfold clsF at c
  rw [if_pos h4] at c
  split at c
  · split at c <;> omega
  · split at c
    · split at c
      · omega
      · split at c
        · omega
        · rename_i a1 a2 a3 a4; exact ⟨h4, a2, a3, by omega⟩
    · omega
theorem sig_nan {f b : Int} (h : sigF f b = true) : nanF f b = true := by
  unfold sigF at h; unfold nanF
  have : clsF f b = 5 := by simpa using h
  simp [this]
theorem quiet_sig {f b : Int} (h0 : 0 ≤ f) (hb : 0 ≤ b) (h : sigF f b = true) : quietF f b = makeF f (negF f b) (expF f b) (fracF f b + 2 ^ (fP f - 2)) := by
  obtain ⟨h4, e, fr, lt⟩ := sig_parts h
  obtain ⟨p0, p1, p2, p3, p4, p5, p6, p7, p8⟩ := f_nums h0 h4
  obtain ⟨x0, x1, x2, x3⟩ := exp_range h0 h4 hb
  obtain ⟨r0, r1⟩ := frac_range (b := b) h0 h4
  have n2 : (2 : Int) ^ (fP f - 1) = 2 * 2 ^ (fP f - 2) := by rw [← Int.pow_succ', show fP f - 2 + 1 = fP f - 1 by omega]
  have hp := two_pow_pos (fP f - 2)
  unfold quietF
  rw [h, if_pos rfl, ← make_split h0 h4 hb]
  unfold makeF
  rw [if_pos h4, if_pos h4, Int.emod_eq_of_lt (a := fracF f b) (by omega) (by omega), Int.emod_eq_of_lt (a := fracF f b + 2 ^ (fP f - 2)) (by omega) (by omega)]
  omega
theorem quiet_not {f b : Int} (h : sigF f b = false) : quietF f b = cutF f b := by unfold quietF; rw [h, if_neg (by decide), Int.add_zero]
theorem quiet_full {f b : Int} (h0 : 0 ≤ f) (hb : 0 ≤ b) (hf : b < full) : 0 ≤ quietF f b ∧ quietF f b < full := by
  by_cases h : sigF f b = true
  · rw [quiet_sig h0 hb h]; exact make_full h0 ..
  · rw [quiet_not (by simpa using h)]
    have := cut_range (f := f) h0 hb
    omega
theorem def_full {f : Int} (h0 : 0 ≤ f) : 0 ≤ defF f ∧ defF f < full := make_full h0 ..
theorem first_full {f : Int} (h0 : 0 ≤ f) (xs : List Int) : 0 ≤ firstV f xs ∧ firstV f xs < full := by
  unfold firstV
  split
  · exact quiet_full h0 (mod_f _).1 (mod_f _).2
  · exact def_full h0
theorem quiet_fields {f b : Int} (h0 : 0 ≤ f) (h4 : f < 4) (hb : 0 ≤ b) :
    negF f (quietF f b) = negF f b ∧ expF f (quietF f b) = expF f b ∧ fracF f (quietF f b) = fracF f b + (if sigF f b then 2 ^ (fP f - 2) else 0) := by
  by_cases h : sigF f b = true
  · obtain ⟨_, e, fr, lt⟩ := sig_parts h
    obtain ⟨p0, p1, p2, p3, p4, p5, p6, p7, p8⟩ := f_nums h0 h4
    obtain ⟨x0, x1, x2, x3⟩ := exp_range h0 h4 hb
    obtain ⟨r0, r1⟩ := frac_range (b := b) h0 h4
    have n2 : (2 : Int) ^ (fP f - 1) = 2 * 2 ^ (fP f - 2) := by rw [← Int.pow_succ', show fP f - 2 + 1 = fP f - 1 by omega]
    have hp := two_pow_pos (fP f - 2)
    obtain ⟨m1, m2, m3⟩ := make_fields h0 h4 (negF f b) (expF f b) (fracF f b + 2 ^ (fP f - 2))
    rw [expOf_id h0 h4 x0 x1] at m1
    rw [Int.emod_eq_of_lt (by omega) (by omega)] at m2
    rw [quiet_sig h0 hb h, h, if_pos rfl]
    exact ⟨m3, m1, m2⟩
  · have h' : sigF f b = false := by simpa using h
    rw [quiet_not h', h', if_neg (by decide), Int.add_zero]
    exact ⟨neg_cut h0 h4 b, exp_cut h0 h4 b, frac_cut h0 h4 b⟩
theorem quiet_cls {f b : Int} (h0 : 0 ≤ f) (hb : 0 ≤ b) : clsF f (quietF f b) = if sigF f b then 4 else clsF f b := by
  by_cases h4 : f < 4
  · obtain ⟨q1, q2, q3⟩ := quiet_fields h0 h4 hb
    by_cases h : sigF f b = true
    · obtain ⟨_, e, fr, lt⟩ := sig_parts h
      obtain ⟨p0, p1, p2, p3, p4, p5, p6, p7, p8⟩ := f_nums h0 h4
      obtain ⟨r0, r1⟩ := frac_range (b := b) h0 h4
      have hp := two_pow_pos (fP f - 2)
      rw [h, if_pos rfl] at q3 ⊢
      unfold clsF
      rw [if_pos h4, q2, q3, e, if_neg (by omega), if_pos rfl, if_neg (by omega), if_pos (by omega)]
    · have h' : sigF f b = false := by simpa using h
      rw [h', if_neg (by decide)] at q3 ⊢
      rw [Int.add_zero] at q3
      exact cls_congr q2 q3
  · have h' : sigF f b = false := by unfold sigF; rw [cls_no h4]; rfl
    rw [h', if_neg (by decide), cls_no h4, cls_no h4]
theorem quiet_nan {f b : Int} (h0 : 0 ≤ f) (hb : 0 ≤ b) : nanF f (quietF f b) = nanF f b ∧ sigF f (quietF f b) = false := by
  have c := quiet_cls h0 hb
  by_cases h : sigF f b = true
  · have n := sig_nan h
    rw [h, if_pos rfl] at c
    unfold nanF sigF at *
    rw [c, n]; exact ⟨rfl, rfl⟩
  · have h' : sigF f b = false := by simpa using h
    rw [h', if_neg (by decide)] at c
    unfold nanF sigF at *
    rw [c]; exact ⟨rfl, h'⟩
theorem def_cls {f : Int} (h0 : 0 ≤ f) (h4 : f < 4) : clsF f (defF f) = 4 ∧ cutF f (defF f) = defF f := by
  obtain ⟨p0, p1, p2, p3, p4, p5, p6, p7, p8⟩ := f_nums h0 h4
  have n2 : (2 : Int) ^ (fP f - 1) = 2 * 2 ^ (fP f - 2) := by rw [← Int.pow_succ', show fP f - 2 + 1 = fP f - 1 by omega]
  have hp := two_pow_pos (fP f - 2)
  obtain ⟨m1, m2, m3⟩ := make_fields h0 h4 false (2 * fE f + 1) (2 ^ (fP f - 2))
  rw [expOf_id h0 h4 (by omega) (by omega)] at m1
  rw [Int.emod_eq_of_lt (by omega) (by omega)] at m2
  constructor
  · unfold defF clsF
    rw [if_pos h4, m1, m2, if_neg (by omega), if_pos rfl, if_neg (by omega), if_pos (by omega)]
  · have m := make_parts h0 h4 false (2 * fE f + 1) (2 ^ (fP f - 2))
    exact Int.emod_eq_of_lt m.2.2.2.2.1 m.2.2.2.2.2
end Go.Proofs.YtjdjonekoodalaaGreatDoor
namespace Go.Proofs.YtjdjonekoodalaaGreatDoor
open Go.RowKit
attribute [local go_sem ↓] Go.wp_at_zero Go.wp_at_succ
structure NanOK : Prop where
  quiet : ∀ f b, 0 ≤ f → f ≤ 255 → ∀ w, FTab w → Calls Tryz.prog 79 #[.int .u8 f, .agg #[.int .u64 (hiOf (b)), .int .u64 (loOf (b))]] w fun e w' => e = .returned (.agg #[.int .u64 (hiOf (quietF f (b % full))), .int .u64 (loOf (quietF f (b % full)))]) ∧ Below w.heap.size w w'
  dflt : ∀ f, 0 ≤ f → f ≤ 255 → ∀ w, FTab w → Calls Tryz.prog 78 #[.int .u8 f] w fun e w' => e = .returned (.agg #[.int .u64 (hiOf (defF f)), .int .u64 (loOf (defF f))]) ∧ Below w.heap.size w w'
  pick : ∀ f inv ao n cap xs, 0 ≤ f → f ≤ 255 → ∀ w, FTab w → Bs w ao n cap xs → Calls Tryz.prog 31 #[.int .u8 f, .bool inv, .slice ao n cap] w fun e w' => e = .returned (.tuple #[.agg #[.int .u64 (hiOf (pickV f inv xs)), .int .u64 (loOf (pickV f inv xs)), .int .u8 (pickF f inv xs)], .bool (pickK f inv xs)]) ∧ Below w.heap.size w w'
theorem frac_low {f b : Int} (h0 : 0 ≤ f) : 0 ≤ fracF f b ∧ fracF f b < full := by
  by_cases h4 : f < 4
  · obtain ⟨p0, p1, p2, _⟩ := f_nums h0 h4
    obtain ⟨r0, r1⟩ := frac_range (b := b) h0 h4
    have e1 : (2 : Int) ^ (fP f - 1) ≤ 2 ^ fW f := two_pow_le (by omega)
    have := fW_full f
    omega
  · unfold fracF; rw [if_neg h4]; unfold full; omega
theorem pick_no {f : Int} (h : ¬ f < 4) (inv : Bool) (xs : List Int) : pickV f inv xs = 0 ∧ pickF f inv xs = 0 ∧ pickK f inv xs = false := by
  have k : pickK f inv xs = false := by unfold pickK; simp [h]
  unfold pickV pickF; rw [k]; exact ⟨rfl, rfl, rfl⟩
theorem pick_none {f : Int} (xs : List Int) (hn : anyN f xs = false) : pickV f false xs = 0 ∧ pickF f false xs = 0 ∧ pickK f false xs = false := by
  have k : pickK f false xs = false := by unfold pickK; simp [hn]
  unfold pickV pickF; rw [k]; exact ⟨rfl, rfl, rfl⟩
theorem pick_inv {f : Int} (h : f < 4) (xs : List Int) : pickV f true xs = firstV f xs ∧ pickF f true xs = 1 ∧ pickK f true xs = true := by
  have k : pickK f true xs = true := by unfold pickK; simp [h]
  unfold pickV pickF; rw [k]; exact ⟨rfl, rfl, rfl⟩
theorem pick_nan {f : Int} (h : f < 4) (xs : List Int) (hn : anyN f xs = true) : pickV f false xs = firstV f xs ∧ pickF f false xs = (if anyS f xs then 1 else 0) ∧ pickK f false xs = true := by
  have k : pickK f false xs = true := by unfold pickK; simp [h, hn]
  unfold pickV pickF; rw [k]; exact ⟨rfl, by simp, rfl⟩
theorem Bs.ofHB {W : World} {p : Nat} {T : TypeId} {vs : Array Value} (xs : List Int) (h : HB W p T vs) (hv : vs = (cellsOfB xs).toArray) (hl : xs.length ≤ 1000) : Bs W (some ⟨p, 0, none⟩) xs.length xs.length xs := by
  refine ⟨rfl, Nat.le_refl _, ⟨by omega, fun e => by cases e⟩, fun k hk => ⟨⟨p, 0, none⟩, rfl, ?_⟩⟩
  obtain ⟨c0, c1⟩ := cellsOfB_at xs k hk
  subst hv
  have e : ∀ j, Addr.add ⟨p, 0, none⟩ j = ⟨p, j, none⟩ := fun j => by unfold Addr.add; by_cases h : j = 0 <;> simp [h]
  rw [e]
  constructor
  · rw [h.cell (k * 2), List.getElem?_toArray]; exact c0
  · show W.cell? ⟨p, k * 2 + 1, none⟩ = _
    rw [h.cell (k * 2 + 1), List.getElem?_toArray]; exact c1
end Go.Proofs.YtjdjonekoodalaaGreatDoor
namespace Go.Proofs.YtjdjonekoodalaaGreatDoor
open Go.RowKit
attribute [local go_sem ↓] Go.wp_at_zero Go.wp_at_succ
theorem nan_quieted (f bh bl p q xh xl rh rl : Int)
    (h0 : Hid (∀ w, FTab w → Ca 105 #[.int .u8 f] w (.int .i64 p)))
    (h1 : Hid (∀ w, Ca 62 #[U2 0 1, .int .i64 q] w (U2 xh xl))) (v1 : IntKind.i64.wrap (p - 2) = q) (a1 : bits .or .u64 bh xh = rh) (a2 : bits .or .u64 bl xl = rl) (w : World) (ft : FTab w) :
    Ca 125 #[.int .u8 f, U2 bh bl] w (U2 rh rl) := by
  simp only [Ca, U2] at *
  go_enter Tryz.func125, Tryz.ntmps125
  go_wp2_with fail
  refine vM (h0.out _ (ft.later (bA (bA bR _) _))) fun w1 b1 => ?_
  have gX1 : w.heap.size ≤ w.heap.size + 1 := by omega
  have X0 := ((HB.newAt (b := w.heap.size) (by simp) _ _).alloc _).later b1
  have X1 := (HB.newAt (b := w.heap.size + 1) (by simp) _ _).later b1
  go_wp2_with fail
  refine vM (h1.out _) fun w2 b2 => ?_
  replace X0 := X0.later b2
  have oX0 := X0.o
  replace X1 := X1.later b2
  have oX1 := X1.o
  have mX0_X1 : ¬ (w.heap.size = w.heap.size + 1) := by omega
  have mX1_X0 : ¬ (w.heap.size + 1 = w.heap.size) := by omega
  go_wp2_with fail
  refine bodyPost_ret (v := .agg #[.int .u64 rh, .int .u64 rl]) ?_ rfl ⟨rfl, (bA (((bC (bC (bA (bA bR _) _) b1) b2).setCell (p := ⟨w.heap.size + 1, 0, none⟩) gX1 _).setCell (p := ⟨w.heap.size + 1, 1, none⟩) gX1 _) _)⟩
  simp [results, Tryz.results125, go_sem, oX1, mX0_X1, mX1_X0]
theorem nan_quiet_no (f bh bl ch cl : Int)
    (h0 : Hid (∀ w, FTab w → Ca 20 #[.int .u8 f, U2 bh bl] w (U2 ch cl)))
    (h1 : Hid (∀ w, FTab w → Ca 22 #[.int .u8 f, U2 ch cl] w (.bool false))) (w : World) (ft : FTab w) :
    Ca 79 #[.int .u8 f, U2 bh bl] w (U2 ch cl) := by
  simp only [Ca, U2] at *
  go_enter Tryz.func79, Tryz.ntmps79
  go_wp2_with fail
  refine vM (h0.out _ (ft.later (bA (bA bR _) _))) fun w1 b1 => ?_
  have gX0 : w.heap.size ≤ w.heap.size := by omega
  have gX1 : w.heap.size ≤ w.heap.size + 1 := by omega
  have X0 := ((HB.newAt (b := w.heap.size) (by simp) _ _).alloc _).later b1
  have X1 := (HB.newAt (b := w.heap.size + 1) (by simp) _ _).later b1
  have oX0 := X0.o
  go_wp2_with fail
  refine vM (h1.out _ (ft.later (((bC (bA (bA bR _) _) b1).setCell (p := ⟨w.heap.size, 0, none⟩) gX0 _).setCell (p := ⟨w.heap.size, 1, none⟩) gX0 _))) fun w2 b2 => ?_
  replace X0 := ((X0.set 0 _).set 1 _).later b2
  replace X1 := ((X1.other (by omega) 0 _).other (by omega) 1 _).later b2
  have kk := bC (((bC (bA (bA bR _) _) b1).setCell (p := ⟨w.heap.size, 0, none⟩) gX0 _).setCell (p := ⟨w.heap.size, 1, none⟩) gX0 _) b2
  clear oX0
  have oX0 := X0.o
  have oX1 := X1.o
  have mX0_X1 : ¬ (w.heap.size = w.heap.size + 1) := by omega
  have mX1_X0 : ¬ (w.heap.size + 1 = w.heap.size) := by omega
  go_wp2_with fail
  refine bodyPost_ret (v := .agg #[.int .u64 ch, .int .u64 cl]) ?_ rfl ⟨rfl, ((kk.setCell (p := ⟨w.heap.size + 1, 0, none⟩) gX1 _).setCell (p := ⟨w.heap.size + 1, 1, none⟩) gX1 _)⟩
  simp [results, Tryz.results79, go_sem, oX1, mX0_X1, mX1_X0]
theorem nan_quiet_yes (f bh bl ch cl rh rl : Int)
    (h0 : Hid (∀ w, FTab w → Ca 20 #[.int .u8 f, U2 bh bl] w (U2 ch cl)))
    (h1 : Hid (∀ w, FTab w → Ca 22 #[.int .u8 f, U2 ch cl] w (.bool true)))
    (h2 : Hid (∀ w, FTab w → Ca 125 #[.int .u8 f, U2 ch cl] w (U2 rh rl))) (w : World) (ft : FTab w) :
    Ca 79 #[.int .u8 f, U2 bh bl] w (U2 rh rl) := by
  simp only [Ca, U2] at *
  go_enter Tryz.func79, Tryz.ntmps79
  go_wp2_with fail
  refine vM (h0.out _ (ft.later (bA (bA bR _) _))) fun w1 b1 => ?_
  have gX0 : w.heap.size ≤ w.heap.size := by omega
  have gX1 : w.heap.size ≤ w.heap.size + 1 := by omega
  have X0 := ((HB.newAt (b := w.heap.size) (by simp) _ _).alloc _).later b1
  have X1 := (HB.newAt (b := w.heap.size + 1) (by simp) _ _).later b1
  have oX0 := X0.o
  go_wp2_with fail
  refine vM (h1.out _ (ft.later (((bC (bA (bA bR _) _) b1).setCell (p := ⟨w.heap.size, 0, none⟩) gX0 _).setCell (p := ⟨w.heap.size, 1, none⟩) gX0 _))) fun w2 b2 => ?_
  replace X0 := ((X0.set 0 _).set 1 _).later b2
  replace X1 := ((X1.other (by omega) 0 _).other (by omega) 1 _).later b2
  have kk := bC (((bC (bA (bA bR _) _) b1).setCell (p := ⟨w.heap.size, 0, none⟩) gX0 _).setCell (p := ⟨w.heap.size, 1, none⟩) gX0 _) b2
  clear oX0
  have oX0 := X0.o
  go_wp2_with fail
  refine vM (h2.out _ (ft.later kk)) fun w3 b3 => ?_
  clear oX0
  replace X1 := X1.later b3
  have oX1 := X1.o
  go_wp2_with fail
  refine bodyPost_ret (v := .agg #[.int .u64 rh, .int .u64 rl]) ?_ rfl ⟨rfl, (((bC kk b3).setCell (p := ⟨w.heap.size + 1, 0, none⟩) gX1 _).setCell (p := ⟨w.heap.size + 1, 1, none⟩) gX1 _)⟩
  simp [results, Tryz.results79, go_sem, oX1]
theorem nan_default_no (f : Int)
    (h0 : Hid (∀ w, FTab w → Ca 15 #[.int .u8 f] w (.bool false))) (w : World) (ft : FTab w) :
    Ca 78 #[.int .u8 f] w (U2 0 0) := by
  simp only [Ca, U2] at *
  go_enter Tryz.func78, Tryz.ntmps78
  go_wp2_with fail
  refine vM (h0.out _ (ft.later (bA bR _))) fun w1 b1 => ?_
  have gX0 : w.heap.size ≤ w.heap.size := by omega
  have X0 := (HB.newAt (b := w.heap.size) (by simp) _ _).later b1
  have oX0 := X0.o
  go_wp2_with fail
  refine bodyPost_ret (v := .agg #[.int .u64 0, .int .u64 0]) ?_ rfl ⟨rfl, (((bC (bA bR _) b1).setCell (p := ⟨w.heap.size, 0, none⟩) gX0 _).setCell (p := ⟨w.heap.size, 1, none⟩) gX0 _)⟩
  simp [results, Tryz.results78, go_sem, oX0]
theorem nan_default_yes (f ih il rh rl : Int)
    (h0 : Hid (∀ w, FTab w → Ca 15 #[.int .u8 f] w (.bool true)))
    (h1 : Hid (∀ w, FTab w → Ca 28 #[.int .u8 f, .bool false] w (U2 ih il)))
    (h2 : Hid (∀ w, FTab w → Ca 125 #[.int .u8 f, U2 ih il] w (U2 rh rl))) (w : World) (ft : FTab w) :
    Ca 78 #[.int .u8 f] w (U2 rh rl) := by
  simp only [Ca, U2] at *
  go_enter Tryz.func78, Tryz.ntmps78
  go_wp2_with fail
  refine vM (h0.out _ (ft.later (bA bR _))) fun w1 b1 => ?_
  have gX0 : w.heap.size ≤ w.heap.size := by omega
  have X0 := (HB.newAt (b := w.heap.size) (by simp) _ _).later b1
  go_wp2_with fail
  refine vM (h1.out _ (ft.later (bC (bA bR _) b1))) fun w2 b2 => ?_
  go_wp2_with fail
  refine vM (h2.out _ (ft.later (bC (bC (bA bR _) b1) b2))) fun w3 b3 => ?_
  replace X0 := X0.later (bC b2 b3)
  have oX0 := X0.o
  go_wp2_with fail
  refine bodyPost_ret (v := .agg #[.int .u64 rh, .int .u64 rl]) ?_ rfl ⟨rfl, (((bC (bC (bC (bA bR _) b1) b2) b3).setCell (p := ⟨w.heap.size, 0, none⟩) gX0 _).setCell (p := ⟨w.heap.size, 1, none⟩) gX0 _)⟩
  simp [results, Tryz.results78, go_sem, oX0]
end Go.Proofs.YtjdjonekoodalaaGreatDoor
namespace Go.Proofs.YtjdjonekoodalaaGreatDoor
open Go.RowKit
attribute [local go_sem ↓] Go.wp_at_zero Go.wp_at_succ
theorem nan_pick_no (f : Int) (ao : Option Addr) (n cap : Nat) (xs : List Int) (inv : Bool)
    (h0 : Hid (∀ w, FTab w → Ca 15 #[.int .u8 f] w (.bool false))) (w : World) (ft : FTab w) :
    Ca 31 #[.int .u8 f, .bool inv, .slice ao n cap] w (.tuple #[.agg #[.int .u64 0, .int .u64 0, .int .u8 0], .bool false]) := by
  simp only [Ca] at *
  have hmf : ∀ (fn : Fn) (first cap : Array Value) (w : World), (Instr.makeFunc fn first cap).run Tryz.prog w = .ok (.func fn first cap) w := fun _ _ _ _ => rfl
  go_enter Tryz.func31, Tryz.ntmps31
  go_wp2_with fail
  refine vM (h0.out _ (ft.later (bA (bA bR _) _))) fun w1 b1 => ?_
  have gX1 : w.heap.size ≤ w.heap.size + 1 := by omega
  have X1 := (HB.newAt (b := w.heap.size + 1) (by simp) _ _).later b1
  have oX1 := X1.o
  go_wp2_with fail
  refine bodyPost_ret (v := .tuple #[.agg #[.int .u64 0, .int .u64 0, .int .u8 0], .bool false]) ?_ rfl ⟨rfl, ((((bC (bA (bA bR _) _) b1).setCell (p := ⟨w.heap.size + 1, 0, none⟩) gX1 _).setCell (p := ⟨w.heap.size + 1, 1, none⟩) gX1 _).setCell (p := ⟨w.heap.size + 1, 2, none⟩) gX1 _)⟩
  simp [results, Tryz.results31, go_sem, oX1]
theorem nan_pick_none (f : Int) (ao : Option Addr) (n cap : Nat) (xs : List Int)
    (h0 : Hid (∀ w, FTab w → Ca 15 #[.int .u8 f] w (.bool true))) (ix : Hid (∀ bk w, FTab w → Bs w ao n cap xs → w.cell? ⟨bk, 0, none⟩ = some (.int .u8 f) → Ca 76 #[.slice ao n cap, .func (.func 77) #[] #[.pointer (some ⟨bk, 0, none⟩)]] w (.int .i64 (-1)))) (g1 : decide ((-1 : Int) < 0) = true) (w : World) (ft : FTab w) (bs : Bs w ao n cap xs) :
    Ca 31 #[.int .u8 f, .bool false, .slice ao n cap] w (.tuple #[.agg #[.int .u64 0, .int .u64 0, .int .u8 0], .bool false]) := by
  simp only [Ca] at *
  have hmf : ∀ (fn : Fn) (first cap : Array Value) (w : World), (Instr.makeFunc fn first cap).run Tryz.prog w = .ok (.func fn first cap) w := fun _ _ _ _ => rfl
  go_enter Tryz.func31, Tryz.ntmps31
  go_wp2_with fail
  refine vM (h0.out _ (ft.later (bA (bA bR _) _))) fun w1 b1 => ?_
  have gX1 : w.heap.size ≤ w.heap.size + 1 := by omega
  have X0 := ((HB.newAt (b := w.heap.size) (by simp) _ _).alloc _).later b1
  have X1 := (HB.newAt (b := w.heap.size + 1) (by simp) _ _).later b1
  have oX0 := X0.o
  go_wp2_with fail
  refine vM (ix.out _ _ (ft.later (bC (bA (bA bR _) _) b1)) (bs.later (bC (bA (bA bR _) _) b1)) (X0.cell 0)) fun w2 b2 => ?_
  clear oX0
  replace X1 := X1.later b2
  have oX1 := X1.o
  go_wp2_with fail
  refine bodyPost_ret (v := .tuple #[.agg #[.int .u64 0, .int .u64 0, .int .u8 0], .bool false]) ?_ rfl ⟨rfl, ((((bC (bC (bA (bA bR _) _) b1) b2).setCell (p := ⟨w.heap.size + 1, 0, none⟩) gX1 _).setCell (p := ⟨w.heap.size + 1, 1, none⟩) gX1 _).setCell (p := ⟨w.heap.size + 1, 2, none⟩) gX1 _)⟩
  simp [results, Tryz.results31, go_sem, oX1]
theorem nan_pick_inv (f dh dl : Int) (ao : Option Addr) (n cap : Nat) (xs : List Int)
    (h0 : Hid (∀ w, FTab w → Ca 15 #[.int .u8 f] w (.bool true)))
    (h2 : Hid (∀ w, FTab w → Ca 78 #[.int .u8 f] w (U2 dh dl))) (ix : Hid (∀ bk w, FTab w → Bs w ao n cap xs → w.cell? ⟨bk, 0, none⟩ = some (.int .u8 f) → Ca 76 #[.slice ao n cap, .func (.func 77) #[] #[.pointer (some ⟨bk, 0, none⟩)]] w (.int .i64 (-1)))) (g1 : decide ((-1 : Int) < 0) = true) (g2 : decide (0 ≤ (-1 : Int)) = false) (w : World) (ft : FTab w) (bs : Bs w ao n cap xs) :
    Ca 31 #[.int .u8 f, .bool true, .slice ao n cap] w (.tuple #[.agg #[.int .u64 dh, .int .u64 dl, .int .u8 1], .bool true]) := by
  simp only [Ca, U2] at *
  have hmf : ∀ (fn : Fn) (first cap : Array Value) (w : World), (Instr.makeFunc fn first cap).run Tryz.prog w = .ok (.func fn first cap) w := fun _ _ _ _ => rfl
  go_enter Tryz.func31, Tryz.ntmps31
  go_wp2_with fail
  refine vM (h0.out _ (ft.later (bA (bA bR _) _))) fun w1 b1 => ?_
  have gX1 : w.heap.size ≤ w.heap.size + 1 := by omega
  have X0 := ((HB.newAt (b := w.heap.size) (by simp) _ _).alloc _).later b1
  have X1 := (HB.newAt (b := w.heap.size + 1) (by simp) _ _).later b1
  have oX0 := X0.o
  go_wp2_with fail
  refine vM (ix.out _ _ (ft.later (bC (bA (bA bR _) _) b1)) (bs.later (bC (bA (bA bR _) _) b1)) (X0.cell 0)) fun w2 b2 => ?_
  clear oX0
  replace X0 := X0.later b2
  have oX0 := X0.o
  go_wp2_with fail
  refine vM (h2.out _ (ft.later (bC (bC (bA (bA bR _) _) b1) b2))) fun w3 b3 => ?_
  clear oX0
  replace X0 := X0.later b3
  have oX0 := X0.o
  replace X1 := X1.later (bC b2 b3)
  have oX1 := X1.o
  have mX0_X1 : ¬ (w.heap.size = w.heap.size + 1) := by omega
  have mX1_X0 : ¬ (w.heap.size + 1 = w.heap.size) := by omega
  go_wp2_with fail
  refine bodyPost_ret (v := .tuple #[.agg #[.int .u64 dh, .int .u64 dl, .int .u8 1], .bool true]) ?_ rfl ⟨rfl, (bA ((((bC (bC (bC (bA (bA bR _) _) b1) b2) b3).setCell (p := ⟨w.heap.size + 1, 0, none⟩) gX1 _).setCell (p := ⟨w.heap.size + 1, 1, none⟩) gX1 _).setCell (p := ⟨w.heap.size + 1, 2, none⟩) gX1 _) _)⟩
  simp [results, Tryz.results31, go_sem, oX1, mX0_X1, mX1_X0]
theorem nan_pick_t (f dh dl bh bl qh ql : Int) (a : Addr) (k : Nat) (ao : Option Addr) (n cap : Nat) (xs : List Int)
    (h0 : Hid (∀ w, FTab w → Calls Tryz.prog 15 #[.int .u8 f] w fun e w' => e = .returned (.bool true) ∧ Below w.heap.size w w'))
    (h2 : Hid (∀ w, FTab w → Calls Tryz.prog 78 #[.int .u8 f] w fun e w' => e = .returned (.agg #[.int .u64 dh, .int .u64 dl]) ∧ Below w.heap.size w w'))
    (h3 : Hid (∀ w, FTab w → Calls Tryz.prog 79 #[.int .u8 f, .agg #[.int .u64 bh, .int .u64 bl]] w fun e w' => e = .returned (.agg #[.int .u64 qh, .int .u64 ql]) ∧ Below w.heap.size w w')) (ix : Hid (∀ bk w, FTab w → Bs w ao n cap xs → w.cell? ⟨bk, 0, none⟩ = some (.int .u8 f) → Calls Tryz.prog 76 #[.slice ao n cap, .func (.func 77) #[] #[.pointer (some ⟨bk, 0, none⟩)]] w fun e w' => e = .returned (.int .i64 (k : Int)) ∧ Below w.heap.size w w')) (ha : ao = some a) (g1 : decide ((k : Int) < 0) = false) (g2 : decide (0 ≤ (k : Int)) = true) (gk : decide ((k : Int) < (n : Int)) = true) (gn : k < n) (w : World) (ft : FTab w) (bs : Bs w ao n cap xs) (c00 : w.cell? (a.add (k * 2)) = some (.int .u64 bh)) (c01 : w.cell? ⟨(a.add (k * 2)).block, (a.add (k * 2)).off + 1, none⟩ = some (.int .u64 bl)) :
    Calls Tryz.prog 31 #[.int .u8 f, .bool true, .slice ao n cap] w fun e w' => e = .returned (.tuple #[.agg #[.int .u64 qh, .int .u64 ql, .int .u8 1], .bool true]) ∧ Below w.heap.size w w' := by
  subst ha
  have hmf : ∀ (fn : Fn) (first cap : Array Value) (w : World), (Instr.makeFunc fn first cap).run Tryz.prog w = .ok (.func fn first cap) w := fun _ _ _ _ => rfl
  go_enter Tryz.func31, Tryz.ntmps31
  go_wp2_with fail
  (with_reducible refine (h0.out _ (ft.later (bA (bA bR _) _))).mono ?_); rintro e w1 ⟨rfl, hb⟩
  have hz := bC (bA (bA bR _) _) hb
  have gX1 : w.heap.size ≤ w.heap.size + 1 := by omega
  have cX0_0 := cL hb (a := ⟨w.heap.size, 0, none⟩) (v := .int .u8 f) (by go_simp)
  have sX0 : w.heap.size < w1.heap.size := bL cX0_0
  have cX1_0 := cL hb (a := ⟨w.heap.size + 1, 0, none⟩) (v := .int .u64 0) (by go_simp)
  have cX1_1 := cL hb (a := ⟨w.heap.size + 1, 1, none⟩) (v := .int .u64 0) (by go_simp)
  have cX1_2 := cL hb (a := ⟨w.heap.size + 1, 2, none⟩) (v := .int .u8 0) (by go_simp)
  have sX1 : w.heap.size + 1 < w1.heap.size ∧ w.heap.size < w1.heap.size := by have h : w.heap.size + 1 < w1.heap.size := bL cX1_0; exact ⟨h, by omega⟩
  have fX1_0 := fL hb (a := ⟨w.heap.size + 1, 0, none⟩) (v := .int .u64 0) (by go_simp) (by go_simp)
  have fX1_1 := fL hb (a := ⟨w.heap.size + 1, 1, none⟩) (v := .int .u64 0) (by go_simp) (by go_simp)
  have fX1_2 := fL hb (a := ⟨w.heap.size + 1, 2, none⟩) (v := .int .u8 0) (by go_simp) (by go_simp)
  have kk := hz
  clear hb hz
  go_wp2_with fail
  (with_reducible refine (ix.out _ _ (ft.later kk) (bs.later kk) cX0_0).mono ?_); rintro e w2 ⟨rfl, hb⟩
  replace cX0_0 := cL hb cX0_0
  replace sX0 : w.heap.size < w2.heap.size := bL cX0_0
  replace fX1_0 := fL hb cX1_0 fX1_0; replace fX1_1 := fL hb cX1_1 fX1_1; replace fX1_2 := fL hb cX1_2 fX1_2
  replace cX1_0 := cL hb cX1_0; replace cX1_1 := cL hb cX1_1; replace cX1_2 := cL hb cX1_2
  replace sX1 : w.heap.size + 1 < w2.heap.size ∧ w.heap.size < w2.heap.size := by have h : w.heap.size + 1 < w2.heap.size := bL cX1_0; exact ⟨h, by omega⟩
  replace kk := bC kk hb
  clear hb
  go_wp2_with fail
  (with_reducible refine (h2.out _ (ft.later kk)).mono ?_); rintro e w3 ⟨rfl, hb⟩
  replace cX0_0 := cL hb cX0_0
  replace sX0 : w.heap.size < w3.heap.size := bL cX0_0
  replace fX1_0 := fL hb cX1_0 fX1_0; replace fX1_1 := fL hb cX1_1 fX1_1; replace fX1_2 := fL hb cX1_2 fX1_2
  replace cX1_0 := cL hb cX1_0; replace cX1_1 := cL hb cX1_1; replace cX1_2 := cL hb cX1_2
  replace sX1 : w.heap.size + 1 < w3.heap.size ∧ w.heap.size < w3.heap.size := by have h : w.heap.size + 1 < w3.heap.size := bL cX1_0; exact ⟨h, by omega⟩
  replace kk := bC kk hb
  clear hb
  go_wp2_with fail
  have nX0_X2 : w.heap.size < w3.heap.size := by omega
  have nX1_X2 : w.heap.size + 1 < w3.heap.size := by omega
  have gX2 : w.heap.size ≤ w3.heap.size := by have := kk.size; omega
  refine wp_forget (fun W => W.cell? ⟨w.heap.size, 0, none⟩ = some (.int .u8 f) ∧ W.cell? ⟨w.heap.size + 1, 0, none⟩ = some (.int .u64 0) ∧ W.cell? ⟨w.heap.size + 1, 1, none⟩ = some (.int .u64 0) ∧ W.cell? ⟨w.heap.size + 1, 2, none⟩ = some (.int .u8 0) ∧ W.cell? ⟨w3.heap.size, 0, none⟩ = some (.int .u64 dh) ∧ W.cell? ⟨w3.heap.size, 1, none⟩ = some (.int .u64 dl) ∧ W.cell? ⟨w3.heap.size, 2, none⟩ = some (.int .u8 0) ∧ W.frozen? ⟨w.heap.size + 1, 0, none⟩ = false ∧ W.frozen? ⟨w.heap.size + 1, 1, none⟩ = false ∧ W.frozen? ⟨w.heap.size + 1, 2, none⟩ = false ∧ W.frozen? ⟨w3.heap.size, 0, none⟩ = false ∧ W.frozen? ⟨w3.heap.size, 1, none⟩ = false ∧ W.frozen? ⟨w3.heap.size, 2, none⟩ = false ∧ Below w.heap.size w W) ⟨cL (bA bR _) cX0_0, cL (bA bR _) cX1_0, cL (bA bR _) cX1_1, cL (bA bR _) cX1_2, by go_simp, by go_simp, by go_simp, fL (bA bR _) cX1_0 fX1_0, fL (bA bR _) cX1_1 fX1_1, fL (bA bR _) cX1_2 fX1_2, by go_simp, by go_simp, by go_simp, bC kk (bA bR _)⟩ (fun w4 hst => ?_)
  clear cX0_0 sX0 cX1_0 cX1_1 cX1_2 sX1 fX1_0 fX1_1 fX1_2 kk
  obtain ⟨cX0_0, cX1_0, cX1_1, cX1_2, cX2_0, cX2_1, cX2_2, fX1_0, fX1_1, fX1_2, fX2_0, fX2_1, fX2_2, kk⟩ := hst
  have sX0 : w.heap.size < w4.heap.size := bL cX0_0
  have sX1 : w.heap.size + 1 < w4.heap.size ∧ w.heap.size < w4.heap.size := by have h : w.heap.size + 1 < w4.heap.size := bL cX1_0; exact ⟨h, by omega⟩
  have sX2 : w3.heap.size < w4.heap.size := bL cX2_0
  have c0 := cL kk c00
  have c1 := cL kk c01
  refine wp_region_noPanic ?_
  refine wp_region_held_drew (S := fun w' => w'.cell? (a.add (k * 2)) = some (.int .u64 bh) ∧ w'.cell? ⟨(a.add (k * 2)).block, (a.add (k * 2)).off + 1, none⟩ = some (.int .u64 bl) ∧ w'.cell? ⟨w.heap.size, 0, none⟩ = some (.int .u8 f) ∧ True) (by kernel_rfl) ⟨cL bR.drew c0, cL bR.drew c1, cL bR.drew cX0_0, trivial⟩ (fun hHeld => ?_)
  replace cX0_0 := cL bR.drew cX0_0
  replace fX1_0 := fL bR.drew cX1_0 fX1_0; replace fX1_1 := fL bR.drew cX1_1 fX1_1; replace fX1_2 := fL bR.drew cX1_2 fX1_2
  replace cX1_0 := cL bR.drew cX1_0; replace cX1_1 := cL bR.drew cX1_1; replace cX1_2 := cL bR.drew cX1_2
  replace fX2_0 := fL bR.drew cX2_0 fX2_0; replace fX2_1 := fL bR.drew cX2_1 fX2_1; replace fX2_2 := fL bR.drew cX2_2 fX2_2
  replace cX2_0 := cL bR.drew cX2_0; replace cX2_1 := cL bR.drew cX2_1; replace cX2_2 := cL bR.drew cX2_2
  replace kk := bC kk bR.drew
  replace c0 := cL kk c00; replace c1 := cL kk c01
  refine wpAnyH_take (i := 0) (v := ?vq1) rfl (by kernel_rfl) (by kernel_rfl) (by kernel_rfl) (fun _ _ _ h => h) (Or.inl ⟨by rfl, ?yq1⟩) hHeld ?rq1
  case yq1 => (intro wq hb; obtain ⟨lq0, lq1, lq2, _⟩ := hb; go_simp; try (with_reducible rfl))
  try simp only [zA, zB, zC, Act.put, zD, zE, zF]
  refine wpAnyH_take (i := 1) (v := ?vq2) rfl (by kernel_rfl) (by kernel_rfl) (by kernel_rfl) (fun _ _ _ h => h) (Or.inl ⟨by rfl, ?yq2⟩) hHeld ?rq2
  case yq2 => (intro wq hb; obtain ⟨lq0, lq1, lq2, _⟩ := hb; go_simp; try (with_reducible rfl))
  try simp only [zA, zB, zC, Act.put, zD, zE, zF]
  refine wpAnyH_take (i := 2) (v := ?vq3) rfl (by kernel_rfl) (by kernel_rfl) (by kernel_rfl) (fun _ _ _ h => h) (Or.inl ⟨by rfl, ?yq3⟩) hHeld ?rq3
  case yq3 => (intro wq hb; obtain ⟨lq0, lq1, lq2, _⟩ := hb; go_simp; try (with_reducible rfl))
  try simp only [zA, zB, zC, Act.put, zD, zE, zF]
  refine wpAnyH_take (i := 3) (v := ?vq4) rfl (by kernel_rfl) (by kernel_rfl) (by kernel_rfl) (fun _ _ _ h => h) (Or.inl ⟨by rfl, ?yq4⟩) hHeld ?rq4
  case yq4 => (intro wq hb; obtain ⟨lq0, lq1, lq2, _⟩ := hb; go_simp; try (with_reducible rfl))
  try simp only [zA, zB, zC, Act.put, zD, zE, zF]
  refine wpAnyH_take (i := 4) (v := ?vq5) rfl (by kernel_rfl) (by kernel_rfl) (by kernel_rfl) (fun _ _ _ h => h) (Or.inl ⟨by rfl, ?yq5⟩) hHeld ?rq5
  case yq5 => (intro wq hb; obtain ⟨lq0, lq1, lq2, _⟩ := hb; go_simp; try (with_reducible rfl))
  try simp only [zA, zB, zC, Act.put, zD, zE, zF]
  clear hHeld
  refine wpAnyH_ready (rs := [5]) (by kernel_rfl) (by simp) ?_
  refine AllReadyH.cons rfl (fun K hK => ?_) AllReadyH.nil
  go_simp
  (with_reducible refine (h3.out _ (ft.later kk)).mono ?_); rintro e w5 ⟨rfl, hb⟩
  replace cX0_0 := cL hb cX0_0
  replace fX1_0 := fL hb cX1_0 fX1_0; replace fX1_1 := fL hb cX1_1 fX1_1; replace fX1_2 := fL hb cX1_2 fX1_2
  replace cX1_0 := cL hb cX1_0; replace cX1_1 := cL hb cX1_1; replace cX1_2 := cL hb cX1_2
  replace fX2_0 := fL hb cX2_0 fX2_0; replace fX2_1 := fL hb cX2_1 fX2_1; replace fX2_2 := fL hb cX2_2 fX2_2
  replace cX2_0 := cL hb cX2_0; replace cX2_1 := cL hb cX2_1; replace cX2_2 := cL hb cX2_2
  replace kk := bC kk hb
  replace c0 := cL kk c00; replace c1 := cL kk c01
  clear hb
  refine hK.out _ _ ⟨c0, c1, cX0_0, trivial⟩ (fun hHeld => ?_)
  clear hK K
  try simp only [zA, zB, zC, Act.put, zD, zE, zF]
  refine wpAnyH_take (i := 6) (v := ?vq6) rfl (by kernel_rfl) (by kernel_rfl) (by kernel_rfl) (fun _ _ _ h => h) (Or.inl ⟨by rfl, ?yq6⟩) hHeld ?rq6
  case yq6 => (intro wq hb; obtain ⟨lq0, lq1, lq2, _⟩ := hb; go_simp; try (with_reducible rfl))
  try simp only [zA, zB, zC, Act.put, zD, zE, zF]
  clear hHeld
  refine wpAnyH_ready (rs := [7]) (by kernel_rfl) (by simp) ?_
  refine AllReadyH.cons rfl (fun K hK => ?_) AllReadyH.nil
  go_simp
  have neX0 : ¬ (w3.heap.size = w.heap.size) := by omega
  have nfX0 : ¬ (w.heap.size = w3.heap.size) := by omega
  have neX1 : ¬ (w3.heap.size = w.heap.size + 1) := by omega
  have nfX1 : ¬ (w.heap.size + 1 = w3.heap.size) := by omega
  have KEY := lH (show ((w5.setCell ⟨w3.heap.size, 0, none⟩ (.int .u64 qh)).setCell ⟨w3.heap.size, 1, none⟩ (.int .u64 ql)).cell? ⟨w.heap.size, 0, none⟩ = some (.int .u8 f) ∧ ((w5.setCell ⟨w3.heap.size, 0, none⟩ (.int .u64 qh)).setCell ⟨w3.heap.size, 1, none⟩ (.int .u64 ql)).cell? ⟨w.heap.size + 1, 0, none⟩ = some (.int .u64 0) ∧ ((w5.setCell ⟨w3.heap.size, 0, none⟩ (.int .u64 qh)).setCell ⟨w3.heap.size, 1, none⟩ (.int .u64 ql)).cell? ⟨w.heap.size + 1, 1, none⟩ = some (.int .u64 0) ∧ ((w5.setCell ⟨w3.heap.size, 0, none⟩ (.int .u64 qh)).setCell ⟨w3.heap.size, 1, none⟩ (.int .u64 ql)).cell? ⟨w.heap.size + 1, 2, none⟩ = some (.int .u8 0) ∧ ((w5.setCell ⟨w3.heap.size, 0, none⟩ (.int .u64 qh)).setCell ⟨w3.heap.size, 1, none⟩ (.int .u64 ql)).frozen? ⟨w.heap.size + 1, 0, none⟩ = false ∧ ((w5.setCell ⟨w3.heap.size, 0, none⟩ (.int .u64 qh)).setCell ⟨w3.heap.size, 1, none⟩ (.int .u64 ql)).frozen? ⟨w.heap.size + 1, 1, none⟩ = false ∧ ((w5.setCell ⟨w3.heap.size, 0, none⟩ (.int .u64 qh)).setCell ⟨w3.heap.size, 1, none⟩ (.int .u64 ql)).frozen? ⟨w.heap.size + 1, 2, none⟩ = false ∧ ((w5.setCell ⟨w3.heap.size, 0, none⟩ (.int .u64 qh)).setCell ⟨w3.heap.size, 1, none⟩ (.int .u64 ql)).cell? ⟨w3.heap.size, 0, none⟩ = some (.int .u64 qh) ∧ ((w5.setCell ⟨w3.heap.size, 0, none⟩ (.int .u64 qh)).setCell ⟨w3.heap.size, 1, none⟩ (.int .u64 ql)).cell? ⟨w3.heap.size, 1, none⟩ = some (.int .u64 ql) ∧ ((w5.setCell ⟨w3.heap.size, 0, none⟩ (.int .u64 qh)).setCell ⟨w3.heap.size, 1, none⟩ (.int .u64 ql)).cell? ⟨w3.heap.size, 2, none⟩ = some (.int .u8 0) ∧ ((w5.setCell ⟨w3.heap.size, 0, none⟩ (.int .u64 qh)).setCell ⟨w3.heap.size, 1, none⟩ (.int .u64 ql)).frozen? ⟨w3.heap.size, 0, none⟩ = false ∧ ((w5.setCell ⟨w3.heap.size, 0, none⟩ (.int .u64 qh)).setCell ⟨w3.heap.size, 1, none⟩ (.int .u64 ql)).frozen? ⟨w3.heap.size, 1, none⟩ = false ∧ ((w5.setCell ⟨w3.heap.size, 0, none⟩ (.int .u64 qh)).setCell ⟨w3.heap.size, 1, none⟩ (.int .u64 ql)).frozen? ⟨w3.heap.size, 2, none⟩ = false ∧ Below w.heap.size w ((w5.setCell ⟨w3.heap.size, 0, none⟩ (.int .u64 qh)).setCell ⟨w3.heap.size, 1, none⟩ (.int .u64 ql)) from ⟨by go_simp, by go_simp, by go_simp, by go_simp, by go_simp, by go_simp, by go_simp, by go_simp, by go_simp, by go_simp, by go_simp, by go_simp, by go_simp, ((kk.setCell (p := ⟨w3.heap.size, 0, none⟩) gX2 _).setCell (p := ⟨w3.heap.size, 1, none⟩) gX2 _)⟩)
  clear cX0_0 cX1_0 cX1_1 cX1_2 fX1_0 fX1_1 fX1_2 cX2_0 cX2_1 cX2_2 fX2_0 fX2_1 fX2_2 neX0 nfX0 neX1 nfX1 kk
  refine forget_at (fun W => W.cell? ⟨w.heap.size, 0, none⟩ = some (.int .u8 f) ∧ W.cell? ⟨w.heap.size + 1, 0, none⟩ = some (.int .u64 0) ∧ W.cell? ⟨w.heap.size + 1, 1, none⟩ = some (.int .u64 0) ∧ W.cell? ⟨w.heap.size + 1, 2, none⟩ = some (.int .u8 0) ∧ W.frozen? ⟨w.heap.size + 1, 0, none⟩ = false ∧ W.frozen? ⟨w.heap.size + 1, 1, none⟩ = false ∧ W.frozen? ⟨w.heap.size + 1, 2, none⟩ = false ∧ W.cell? ⟨w3.heap.size, 0, none⟩ = some (.int .u64 qh) ∧ W.cell? ⟨w3.heap.size, 1, none⟩ = some (.int .u64 ql) ∧ W.cell? ⟨w3.heap.size, 2, none⟩ = some (.int .u8 0) ∧ W.frozen? ⟨w3.heap.size, 0, none⟩ = false ∧ W.frozen? ⟨w3.heap.size, 1, none⟩ = false ∧ W.frozen? ⟨w3.heap.size, 2, none⟩ = false ∧ Below w.heap.size w W) KEY.out (fun w6 hz => ?_)
  obtain ⟨cX0_0, cX1_0, cX1_1, cX1_2, fX1_0, fX1_1, fX1_2, cX2_0, cX2_1, cX2_2, fX2_0, fX2_1, fX2_2, kk⟩ := hz
  clear KEY
  replace c0 := cL kk c00
  replace c1 := cL kk c01
  refine hK.out _ _ ⟨c0, c1, cX0_0, trivial⟩ (fun hHeld => ?_)
  clear hK K
  try simp only [zA, zB, zC, Act.put, zD, zE, zF]
  clear hHeld
  refine wpAnyH_done (by kernel_rfl) ?_ _
  refine NoPanic.normal ?_
  clear c0 c1
  replace sX0 : w.heap.size < w6.heap.size := bL cX0_0
  replace sX1 : w.heap.size + 1 < w6.heap.size ∧ w.heap.size < w6.heap.size := by have h : w.heap.size + 1 < w6.heap.size := bL cX1_0; exact ⟨h, by omega⟩
  replace sX2 : w3.heap.size < w6.heap.size := bL cX2_0
  have KEY : Hid (((((w6.setCell ⟨w3.heap.size, 2, none⟩ (.int .u8 1)).setCell ⟨w.heap.size + 1, 0, none⟩ (.int .u64 qh)).setCell ⟨w.heap.size + 1, 1, none⟩ (.int .u64 ql)).setCell ⟨w.heap.size + 1, 2, none⟩ (.int .u8 1)).cell? ⟨w.heap.size + 1, 0, none⟩ = some (.int .u64 qh) ∧ ((((w6.setCell ⟨w3.heap.size, 2, none⟩ (.int .u8 1)).setCell ⟨w.heap.size + 1, 0, none⟩ (.int .u64 qh)).setCell ⟨w.heap.size + 1, 1, none⟩ (.int .u64 ql)).setCell ⟨w.heap.size + 1, 2, none⟩ (.int .u8 1)).cell? ⟨w.heap.size + 1, 1, none⟩ = some (.int .u64 ql) ∧ ((((w6.setCell ⟨w3.heap.size, 2, none⟩ (.int .u8 1)).setCell ⟨w.heap.size + 1, 0, none⟩ (.int .u64 qh)).setCell ⟨w.heap.size + 1, 1, none⟩ (.int .u64 ql)).setCell ⟨w.heap.size + 1, 2, none⟩ (.int .u8 1)).cell? ⟨w.heap.size + 1, 2, none⟩ = some (.int .u8 1) ∧ Below w.heap.size w ((((w6.setCell ⟨w3.heap.size, 2, none⟩ (.int .u8 1)).setCell ⟨w.heap.size + 1, 0, none⟩ (.int .u64 qh)).setCell ⟨w.heap.size + 1, 1, none⟩ (.int .u64 ql)).setCell ⟨w.heap.size + 1, 2, none⟩ (.int .u8 1))) := lH ⟨by go_simp, by go_simp, by go_simp, ((((kk.setCell (p := ⟨w3.heap.size, 2, none⟩) gX2 _).setCell (p := ⟨w.heap.size + 1, 0, none⟩) gX1 _).setCell (p := ⟨w.heap.size + 1, 1, none⟩) gX1 _).setCell (p := ⟨w.heap.size + 1, 2, none⟩) gX1 _)⟩
  go_wp2_with fail
  obtain ⟨e0, e1, e2, kb⟩ := KEY.out
  clear KEY cX1_0 cX1_1 cX1_2 fX1_0 fX1_1 fX1_2
  refine bodyPost_ret (v := .tuple #[.agg #[.int .u64 qh, .int .u64 ql, .int .u8 1], .bool true]) ?_ rfl ⟨rfl, kb⟩
  simp [results, Tryz.results31, go_sem, e0, e1, e2]
theorem nan_pick_ff (f dh dl bh bl qh ql : Int) (a : Addr) (k : Nat) (ao : Option Addr) (n cap : Nat) (xs : List Int)
    (h0 : Hid (∀ w, FTab w → Calls Tryz.prog 15 #[.int .u8 f] w fun e w' => e = .returned (.bool true) ∧ Below w.heap.size w w'))
    (h2 : Hid (∀ w, FTab w → Calls Tryz.prog 78 #[.int .u8 f] w fun e w' => e = .returned (.agg #[.int .u64 dh, .int .u64 dl]) ∧ Below w.heap.size w w'))
    (h3 : Hid (∀ w, FTab w → Calls Tryz.prog 79 #[.int .u8 f, .agg #[.int .u64 bh, .int .u64 bl]] w fun e w' => e = .returned (.agg #[.int .u64 qh, .int .u64 ql]) ∧ Below w.heap.size w w'))
    (h4 : Hid (∀ w, FTab w → Bs w ao n cap xs → Calls Tryz.prog 21 #[.int .u8 f, .func (.func 80) #[] #[], .slice ao n cap] w fun e w' => e = .returned (.bool false) ∧ Below w.heap.size w w')) (ix : Hid (∀ bk w, FTab w → Bs w ao n cap xs → w.cell? ⟨bk, 0, none⟩ = some (.int .u8 f) → Calls Tryz.prog 76 #[.slice ao n cap, .func (.func 77) #[] #[.pointer (some ⟨bk, 0, none⟩)]] w fun e w' => e = .returned (.int .i64 (k : Int)) ∧ Below w.heap.size w w')) (ha : ao = some a) (g1 : decide ((k : Int) < 0) = false) (g2 : decide (0 ≤ (k : Int)) = true) (gk : decide ((k : Int) < (n : Int)) = true) (gn : k < n) (w : World) (ft : FTab w) (bs : Bs w ao n cap xs) (c00 : w.cell? (a.add (k * 2)) = some (.int .u64 bh)) (c01 : w.cell? ⟨(a.add (k * 2)).block, (a.add (k * 2)).off + 1, none⟩ = some (.int .u64 bl)) :
    Calls Tryz.prog 31 #[.int .u8 f, .bool false, .slice ao n cap] w fun e w' => e = .returned (.tuple #[.agg #[.int .u64 qh, .int .u64 ql, .int .u8 0], .bool true]) ∧ Below w.heap.size w w' := by
  subst ha
  have hmf : ∀ (fn : Fn) (first cap : Array Value) (w : World), (Instr.makeFunc fn first cap).run Tryz.prog w = .ok (.func fn first cap) w := fun _ _ _ _ => rfl
  go_enter Tryz.func31, Tryz.ntmps31
  go_wp2_with fail
  (with_reducible refine (h0.out _ (ft.later (bA (bA bR _) _))).mono ?_); rintro e w1 ⟨rfl, hb⟩
  have hz := bC (bA (bA bR _) _) hb
  have gX1 : w.heap.size ≤ w.heap.size + 1 := by omega
  have cX0_0 := cL hb (a := ⟨w.heap.size, 0, none⟩) (v := .int .u8 f) (by go_simp)
  have sX0 : w.heap.size < w1.heap.size := bL cX0_0
  have cX1_0 := cL hb (a := ⟨w.heap.size + 1, 0, none⟩) (v := .int .u64 0) (by go_simp)
  have cX1_1 := cL hb (a := ⟨w.heap.size + 1, 1, none⟩) (v := .int .u64 0) (by go_simp)
  have cX1_2 := cL hb (a := ⟨w.heap.size + 1, 2, none⟩) (v := .int .u8 0) (by go_simp)
  have sX1 : w.heap.size + 1 < w1.heap.size ∧ w.heap.size < w1.heap.size := by have h : w.heap.size + 1 < w1.heap.size := bL cX1_0; exact ⟨h, by omega⟩
  have fX1_0 := fL hb (a := ⟨w.heap.size + 1, 0, none⟩) (v := .int .u64 0) (by go_simp) (by go_simp)
  have fX1_1 := fL hb (a := ⟨w.heap.size + 1, 1, none⟩) (v := .int .u64 0) (by go_simp) (by go_simp)
  have fX1_2 := fL hb (a := ⟨w.heap.size + 1, 2, none⟩) (v := .int .u8 0) (by go_simp) (by go_simp)
  have kk := hz
  clear hb hz
  go_wp2_with fail
  (with_reducible refine (ix.out _ _ (ft.later kk) (bs.later kk) cX0_0).mono ?_); rintro e w2 ⟨rfl, hb⟩
  replace cX0_0 := cL hb cX0_0
  replace sX0 : w.heap.size < w2.heap.size := bL cX0_0
  replace fX1_0 := fL hb cX1_0 fX1_0; replace fX1_1 := fL hb cX1_1 fX1_1; replace fX1_2 := fL hb cX1_2 fX1_2
  replace cX1_0 := cL hb cX1_0; replace cX1_1 := cL hb cX1_1; replace cX1_2 := cL hb cX1_2
  replace sX1 : w.heap.size + 1 < w2.heap.size ∧ w.heap.size < w2.heap.size := by have h : w.heap.size + 1 < w2.heap.size := bL cX1_0; exact ⟨h, by omega⟩
  replace kk := bC kk hb
  clear hb
  go_wp2_with fail
  (with_reducible refine (h2.out _ (ft.later kk)).mono ?_); rintro e w3 ⟨rfl, hb⟩
  replace cX0_0 := cL hb cX0_0
  replace sX0 : w.heap.size < w3.heap.size := bL cX0_0
  replace fX1_0 := fL hb cX1_0 fX1_0; replace fX1_1 := fL hb cX1_1 fX1_1; replace fX1_2 := fL hb cX1_2 fX1_2
  replace cX1_0 := cL hb cX1_0; replace cX1_1 := cL hb cX1_1; replace cX1_2 := cL hb cX1_2
  replace sX1 : w.heap.size + 1 < w3.heap.size ∧ w.heap.size < w3.heap.size := by have h : w.heap.size + 1 < w3.heap.size := bL cX1_0; exact ⟨h, by omega⟩
  replace kk := bC kk hb
  clear hb
  go_wp2_with fail
  have nX0_X2 : w.heap.size < w3.heap.size := by omega
  have nX1_X2 : w.heap.size + 1 < w3.heap.size := by omega
  have gX2 : w.heap.size ≤ w3.heap.size := by have := kk.size; omega
  refine wp_forget (fun W => W.cell? ⟨w.heap.size, 0, none⟩ = some (.int .u8 f) ∧ W.cell? ⟨w.heap.size + 1, 0, none⟩ = some (.int .u64 0) ∧ W.cell? ⟨w.heap.size + 1, 1, none⟩ = some (.int .u64 0) ∧ W.cell? ⟨w.heap.size + 1, 2, none⟩ = some (.int .u8 0) ∧ W.cell? ⟨w3.heap.size, 0, none⟩ = some (.int .u64 dh) ∧ W.cell? ⟨w3.heap.size, 1, none⟩ = some (.int .u64 dl) ∧ W.cell? ⟨w3.heap.size, 2, none⟩ = some (.int .u8 0) ∧ W.frozen? ⟨w.heap.size + 1, 0, none⟩ = false ∧ W.frozen? ⟨w.heap.size + 1, 1, none⟩ = false ∧ W.frozen? ⟨w.heap.size + 1, 2, none⟩ = false ∧ W.frozen? ⟨w3.heap.size, 0, none⟩ = false ∧ W.frozen? ⟨w3.heap.size, 1, none⟩ = false ∧ W.frozen? ⟨w3.heap.size, 2, none⟩ = false ∧ Below w.heap.size w W) ⟨cL (bA bR _) cX0_0, cL (bA bR _) cX1_0, cL (bA bR _) cX1_1, cL (bA bR _) cX1_2, by go_simp, by go_simp, by go_simp, fL (bA bR _) cX1_0 fX1_0, fL (bA bR _) cX1_1 fX1_1, fL (bA bR _) cX1_2 fX1_2, by go_simp, by go_simp, by go_simp, bC kk (bA bR _)⟩ (fun w4 hst => ?_)
  clear cX0_0 sX0 cX1_0 cX1_1 cX1_2 sX1 fX1_0 fX1_1 fX1_2 kk
  obtain ⟨cX0_0, cX1_0, cX1_1, cX1_2, cX2_0, cX2_1, cX2_2, fX1_0, fX1_1, fX1_2, fX2_0, fX2_1, fX2_2, kk⟩ := hst
  have sX0 : w.heap.size < w4.heap.size := bL cX0_0
  have sX1 : w.heap.size + 1 < w4.heap.size ∧ w.heap.size < w4.heap.size := by have h : w.heap.size + 1 < w4.heap.size := bL cX1_0; exact ⟨h, by omega⟩
  have sX2 : w3.heap.size < w4.heap.size := bL cX2_0
  have c0 := cL kk c00
  have c1 := cL kk c01
  refine wp_region_noPanic ?_
  refine wp_region_held_drew (S := fun w' => w'.cell? (a.add (k * 2)) = some (.int .u64 bh) ∧ w'.cell? ⟨(a.add (k * 2)).block, (a.add (k * 2)).off + 1, none⟩ = some (.int .u64 bl) ∧ w'.cell? ⟨w.heap.size, 0, none⟩ = some (.int .u8 f) ∧ True) (by kernel_rfl) ⟨cL bR.drew c0, cL bR.drew c1, cL bR.drew cX0_0, trivial⟩ (fun hHeld => ?_)
  replace cX0_0 := cL bR.drew cX0_0
  replace fX1_0 := fL bR.drew cX1_0 fX1_0; replace fX1_1 := fL bR.drew cX1_1 fX1_1; replace fX1_2 := fL bR.drew cX1_2 fX1_2
  replace cX1_0 := cL bR.drew cX1_0; replace cX1_1 := cL bR.drew cX1_1; replace cX1_2 := cL bR.drew cX1_2
  replace fX2_0 := fL bR.drew cX2_0 fX2_0; replace fX2_1 := fL bR.drew cX2_1 fX2_1; replace fX2_2 := fL bR.drew cX2_2 fX2_2
  replace cX2_0 := cL bR.drew cX2_0; replace cX2_1 := cL bR.drew cX2_1; replace cX2_2 := cL bR.drew cX2_2
  replace kk := bC kk bR.drew
  replace c0 := cL kk c00; replace c1 := cL kk c01
  refine wpAnyH_take (i := 0) (v := ?vq7) rfl (by kernel_rfl) (by kernel_rfl) (by kernel_rfl) (fun _ _ _ h => h) (Or.inl ⟨by rfl, ?yq7⟩) hHeld ?rq7
  case yq7 => (intro wq hb; obtain ⟨lq0, lq1, lq2, _⟩ := hb; go_simp; try (with_reducible rfl))
  try simp only [zA, zB, zC, Act.put, zD, zE, zF]
  refine wpAnyH_take (i := 1) (v := ?vq8) rfl (by kernel_rfl) (by kernel_rfl) (by kernel_rfl) (fun _ _ _ h => h) (Or.inl ⟨by rfl, ?yq8⟩) hHeld ?rq8
  case yq8 => (intro wq hb; obtain ⟨lq0, lq1, lq2, _⟩ := hb; go_simp; try (with_reducible rfl))
  try simp only [zA, zB, zC, Act.put, zD, zE, zF]
  refine wpAnyH_take (i := 2) (v := ?vq9) rfl (by kernel_rfl) (by kernel_rfl) (by kernel_rfl) (fun _ _ _ h => h) (Or.inl ⟨by rfl, ?yq9⟩) hHeld ?rq9
  case yq9 => (intro wq hb; obtain ⟨lq0, lq1, lq2, _⟩ := hb; go_simp; try (with_reducible rfl))
  try simp only [zA, zB, zC, Act.put, zD, zE, zF]
  refine wpAnyH_take (i := 3) (v := ?vq10) rfl (by kernel_rfl) (by kernel_rfl) (by kernel_rfl) (fun _ _ _ h => h) (Or.inl ⟨by rfl, ?yq10⟩) hHeld ?rq10
  case yq10 => (intro wq hb; obtain ⟨lq0, lq1, lq2, _⟩ := hb; go_simp; try (with_reducible rfl))
  try simp only [zA, zB, zC, Act.put, zD, zE, zF]
  refine wpAnyH_take (i := 4) (v := ?vq11) rfl (by kernel_rfl) (by kernel_rfl) (by kernel_rfl) (fun _ _ _ h => h) (Or.inl ⟨by rfl, ?yq11⟩) hHeld ?rq11
  case yq11 => (intro wq hb; obtain ⟨lq0, lq1, lq2, _⟩ := hb; go_simp; try (with_reducible rfl))
  try simp only [zA, zB, zC, Act.put, zD, zE, zF]
  clear hHeld
  refine wpAnyH_ready (rs := [5]) (by kernel_rfl) (by simp) ?_
  refine AllReadyH.cons rfl (fun K hK => ?_) AllReadyH.nil
  go_simp
  (with_reducible refine (h3.out _ (ft.later kk)).mono ?_); rintro e w5 ⟨rfl, hb⟩
  replace cX0_0 := cL hb cX0_0
  replace fX1_0 := fL hb cX1_0 fX1_0; replace fX1_1 := fL hb cX1_1 fX1_1; replace fX1_2 := fL hb cX1_2 fX1_2
  replace cX1_0 := cL hb cX1_0; replace cX1_1 := cL hb cX1_1; replace cX1_2 := cL hb cX1_2
  replace fX2_0 := fL hb cX2_0 fX2_0; replace fX2_1 := fL hb cX2_1 fX2_1; replace fX2_2 := fL hb cX2_2 fX2_2
  replace cX2_0 := cL hb cX2_0; replace cX2_1 := cL hb cX2_1; replace cX2_2 := cL hb cX2_2
  replace kk := bC kk hb
  replace c0 := cL kk c00; replace c1 := cL kk c01
  clear hb
  refine hK.out _ _ ⟨c0, c1, cX0_0, trivial⟩ (fun hHeld => ?_)
  clear hK K
  try simp only [zA, zB, zC, Act.put, zD, zE, zF]
  refine wpAnyH_take (i := 6) (v := ?vq12) rfl (by kernel_rfl) (by kernel_rfl) (by kernel_rfl) (fun _ _ _ h => h) (Or.inl ⟨by rfl, ?yq12⟩) hHeld ?rq12
  case yq12 => (intro wq hb; obtain ⟨lq0, lq1, lq2, _⟩ := hb; go_simp; try (with_reducible rfl))
  try simp only [zA, zB, zC, Act.put, zD, zE, zF]
  clear hHeld
  refine wpAnyH_ready (rs := [7]) (by kernel_rfl) (by simp) ?_
  refine AllReadyH.cons rfl (fun K hK => ?_) AllReadyH.nil
  go_simp
  have neX0 : ¬ (w3.heap.size = w.heap.size) := by omega
  have nfX0 : ¬ (w.heap.size = w3.heap.size) := by omega
  have neX1 : ¬ (w3.heap.size = w.heap.size + 1) := by omega
  have nfX1 : ¬ (w.heap.size + 1 = w3.heap.size) := by omega
  have KEY := lH (show ((w5.setCell ⟨w3.heap.size, 0, none⟩ (.int .u64 qh)).setCell ⟨w3.heap.size, 1, none⟩ (.int .u64 ql)).cell? ⟨w.heap.size, 0, none⟩ = some (.int .u8 f) ∧ ((w5.setCell ⟨w3.heap.size, 0, none⟩ (.int .u64 qh)).setCell ⟨w3.heap.size, 1, none⟩ (.int .u64 ql)).cell? ⟨w.heap.size + 1, 0, none⟩ = some (.int .u64 0) ∧ ((w5.setCell ⟨w3.heap.size, 0, none⟩ (.int .u64 qh)).setCell ⟨w3.heap.size, 1, none⟩ (.int .u64 ql)).cell? ⟨w.heap.size + 1, 1, none⟩ = some (.int .u64 0) ∧ ((w5.setCell ⟨w3.heap.size, 0, none⟩ (.int .u64 qh)).setCell ⟨w3.heap.size, 1, none⟩ (.int .u64 ql)).cell? ⟨w.heap.size + 1, 2, none⟩ = some (.int .u8 0) ∧ ((w5.setCell ⟨w3.heap.size, 0, none⟩ (.int .u64 qh)).setCell ⟨w3.heap.size, 1, none⟩ (.int .u64 ql)).frozen? ⟨w.heap.size + 1, 0, none⟩ = false ∧ ((w5.setCell ⟨w3.heap.size, 0, none⟩ (.int .u64 qh)).setCell ⟨w3.heap.size, 1, none⟩ (.int .u64 ql)).frozen? ⟨w.heap.size + 1, 1, none⟩ = false ∧ ((w5.setCell ⟨w3.heap.size, 0, none⟩ (.int .u64 qh)).setCell ⟨w3.heap.size, 1, none⟩ (.int .u64 ql)).frozen? ⟨w.heap.size + 1, 2, none⟩ = false ∧ ((w5.setCell ⟨w3.heap.size, 0, none⟩ (.int .u64 qh)).setCell ⟨w3.heap.size, 1, none⟩ (.int .u64 ql)).cell? ⟨w3.heap.size, 0, none⟩ = some (.int .u64 qh) ∧ ((w5.setCell ⟨w3.heap.size, 0, none⟩ (.int .u64 qh)).setCell ⟨w3.heap.size, 1, none⟩ (.int .u64 ql)).cell? ⟨w3.heap.size, 1, none⟩ = some (.int .u64 ql) ∧ ((w5.setCell ⟨w3.heap.size, 0, none⟩ (.int .u64 qh)).setCell ⟨w3.heap.size, 1, none⟩ (.int .u64 ql)).cell? ⟨w3.heap.size, 2, none⟩ = some (.int .u8 0) ∧ ((w5.setCell ⟨w3.heap.size, 0, none⟩ (.int .u64 qh)).setCell ⟨w3.heap.size, 1, none⟩ (.int .u64 ql)).frozen? ⟨w3.heap.size, 0, none⟩ = false ∧ ((w5.setCell ⟨w3.heap.size, 0, none⟩ (.int .u64 qh)).setCell ⟨w3.heap.size, 1, none⟩ (.int .u64 ql)).frozen? ⟨w3.heap.size, 1, none⟩ = false ∧ ((w5.setCell ⟨w3.heap.size, 0, none⟩ (.int .u64 qh)).setCell ⟨w3.heap.size, 1, none⟩ (.int .u64 ql)).frozen? ⟨w3.heap.size, 2, none⟩ = false ∧ Below w.heap.size w ((w5.setCell ⟨w3.heap.size, 0, none⟩ (.int .u64 qh)).setCell ⟨w3.heap.size, 1, none⟩ (.int .u64 ql)) from ⟨by go_simp, by go_simp, by go_simp, by go_simp, by go_simp, by go_simp, by go_simp, by go_simp, by go_simp, by go_simp, by go_simp, by go_simp, by go_simp, ((kk.setCell (p := ⟨w3.heap.size, 0, none⟩) gX2 _).setCell (p := ⟨w3.heap.size, 1, none⟩) gX2 _)⟩)
  clear cX0_0 cX1_0 cX1_1 cX1_2 fX1_0 fX1_1 fX1_2 cX2_0 cX2_1 cX2_2 fX2_0 fX2_1 fX2_2 neX0 nfX0 neX1 nfX1 kk
  refine forget_at (fun W => W.cell? ⟨w.heap.size, 0, none⟩ = some (.int .u8 f) ∧ W.cell? ⟨w.heap.size + 1, 0, none⟩ = some (.int .u64 0) ∧ W.cell? ⟨w.heap.size + 1, 1, none⟩ = some (.int .u64 0) ∧ W.cell? ⟨w.heap.size + 1, 2, none⟩ = some (.int .u8 0) ∧ W.frozen? ⟨w.heap.size + 1, 0, none⟩ = false ∧ W.frozen? ⟨w.heap.size + 1, 1, none⟩ = false ∧ W.frozen? ⟨w.heap.size + 1, 2, none⟩ = false ∧ W.cell? ⟨w3.heap.size, 0, none⟩ = some (.int .u64 qh) ∧ W.cell? ⟨w3.heap.size, 1, none⟩ = some (.int .u64 ql) ∧ W.cell? ⟨w3.heap.size, 2, none⟩ = some (.int .u8 0) ∧ W.frozen? ⟨w3.heap.size, 0, none⟩ = false ∧ W.frozen? ⟨w3.heap.size, 1, none⟩ = false ∧ W.frozen? ⟨w3.heap.size, 2, none⟩ = false ∧ Below w.heap.size w W) KEY.out (fun w6 hz => ?_)
  obtain ⟨cX0_0, cX1_0, cX1_1, cX1_2, fX1_0, fX1_1, fX1_2, cX2_0, cX2_1, cX2_2, fX2_0, fX2_1, fX2_2, kk⟩ := hz
  clear KEY
  replace c0 := cL kk c00
  replace c1 := cL kk c01
  refine hK.out _ _ ⟨c0, c1, cX0_0, trivial⟩ (fun hHeld => ?_)
  clear hK K
  try simp only [zA, zB, zC, Act.put, zD, zE, zF]
  clear hHeld
  refine wpAnyH_done (by kernel_rfl) ?_ _
  refine NoPanic.normal ?_
  clear c0 c1
  replace sX0 : w.heap.size < w6.heap.size := bL cX0_0
  replace sX1 : w.heap.size + 1 < w6.heap.size ∧ w.heap.size < w6.heap.size := by have h : w.heap.size + 1 < w6.heap.size := bL cX1_0; exact ⟨h, by omega⟩
  replace sX2 : w3.heap.size < w6.heap.size := bL cX2_0
  go_wp2_with fail
  (with_reducible refine (h4.out _ (ft.later kk) (bs.later kk)).mono ?_); rintro e w7 ⟨rfl, hb⟩
  clear cX0_0 sX0
  replace fX1_0 := fL hb cX1_0 fX1_0; replace fX1_1 := fL hb cX1_1 fX1_1; replace fX1_2 := fL hb cX1_2 fX1_2
  replace cX1_0 := cL hb cX1_0; replace cX1_1 := cL hb cX1_1; replace cX1_2 := cL hb cX1_2
  replace sX1 : w.heap.size + 1 < w7.heap.size ∧ w.heap.size < w7.heap.size := by have h : w.heap.size + 1 < w7.heap.size := bL cX1_0; exact ⟨h, by omega⟩
  replace fX2_0 := fL hb cX2_0 fX2_0; replace fX2_1 := fL hb cX2_1 fX2_1; replace fX2_2 := fL hb cX2_2 fX2_2
  replace cX2_0 := cL hb cX2_0; replace cX2_1 := cL hb cX2_1; replace cX2_2 := cL hb cX2_2
  replace sX2 : w3.heap.size < w7.heap.size := bL cX2_0
  replace kk := bC kk hb
  clear hb
  have KEY : Hid ((((w7.setCell ⟨w.heap.size + 1, 0, none⟩ (.int .u64 qh)).setCell ⟨w.heap.size + 1, 1, none⟩ (.int .u64 ql)).setCell ⟨w.heap.size + 1, 2, none⟩ (.int .u8 0)).cell? ⟨w.heap.size + 1, 0, none⟩ = some (.int .u64 qh) ∧ (((w7.setCell ⟨w.heap.size + 1, 0, none⟩ (.int .u64 qh)).setCell ⟨w.heap.size + 1, 1, none⟩ (.int .u64 ql)).setCell ⟨w.heap.size + 1, 2, none⟩ (.int .u8 0)).cell? ⟨w.heap.size + 1, 1, none⟩ = some (.int .u64 ql) ∧ (((w7.setCell ⟨w.heap.size + 1, 0, none⟩ (.int .u64 qh)).setCell ⟨w.heap.size + 1, 1, none⟩ (.int .u64 ql)).setCell ⟨w.heap.size + 1, 2, none⟩ (.int .u8 0)).cell? ⟨w.heap.size + 1, 2, none⟩ = some (.int .u8 0) ∧ Below w.heap.size w (((w7.setCell ⟨w.heap.size + 1, 0, none⟩ (.int .u64 qh)).setCell ⟨w.heap.size + 1, 1, none⟩ (.int .u64 ql)).setCell ⟨w.heap.size + 1, 2, none⟩ (.int .u8 0))) := lH ⟨by go_simp, by go_simp, by go_simp, (((kk.setCell (p := ⟨w.heap.size + 1, 0, none⟩) gX1 _).setCell (p := ⟨w.heap.size + 1, 1, none⟩) gX1 _).setCell (p := ⟨w.heap.size + 1, 2, none⟩) gX1 _)⟩
  go_wp2_with fail
  obtain ⟨e0, e1, e2, kb⟩ := KEY.out
  clear KEY cX1_0 cX1_1 cX1_2 fX1_0 fX1_1 fX1_2
  refine bodyPost_ret (v := .tuple #[.agg #[.int .u64 qh, .int .u64 ql, .int .u8 0], .bool true]) ?_ rfl ⟨rfl, kb⟩
  simp [results, Tryz.results31, go_sem, e0, e1, e2]
theorem nan_pick_ft (f dh dl bh bl qh ql : Int) (a : Addr) (k : Nat) (ao : Option Addr) (n cap : Nat) (xs : List Int)
    (h0 : Hid (∀ w, FTab w → Calls Tryz.prog 15 #[.int .u8 f] w fun e w' => e = .returned (.bool true) ∧ Below w.heap.size w w'))
    (h2 : Hid (∀ w, FTab w → Calls Tryz.prog 78 #[.int .u8 f] w fun e w' => e = .returned (.agg #[.int .u64 dh, .int .u64 dl]) ∧ Below w.heap.size w w'))
    (h3 : Hid (∀ w, FTab w → Calls Tryz.prog 79 #[.int .u8 f, .agg #[.int .u64 bh, .int .u64 bl]] w fun e w' => e = .returned (.agg #[.int .u64 qh, .int .u64 ql]) ∧ Below w.heap.size w w'))
    (h4 : Hid (∀ w, FTab w → Bs w ao n cap xs → Calls Tryz.prog 21 #[.int .u8 f, .func (.func 80) #[] #[], .slice ao n cap] w fun e w' => e = .returned (.bool true) ∧ Below w.heap.size w w')) (ix : Hid (∀ bk w, FTab w → Bs w ao n cap xs → w.cell? ⟨bk, 0, none⟩ = some (.int .u8 f) → Calls Tryz.prog 76 #[.slice ao n cap, .func (.func 77) #[] #[.pointer (some ⟨bk, 0, none⟩)]] w fun e w' => e = .returned (.int .i64 (k : Int)) ∧ Below w.heap.size w w')) (ha : ao = some a) (g1 : decide ((k : Int) < 0) = false) (g2 : decide (0 ≤ (k : Int)) = true) (gk : decide ((k : Int) < (n : Int)) = true) (gn : k < n) (w : World) (ft : FTab w) (bs : Bs w ao n cap xs) (c00 : w.cell? (a.add (k * 2)) = some (.int .u64 bh)) (c01 : w.cell? ⟨(a.add (k * 2)).block, (a.add (k * 2)).off + 1, none⟩ = some (.int .u64 bl)) :
    Calls Tryz.prog 31 #[.int .u8 f, .bool false, .slice ao n cap] w fun e w' => e = .returned (.tuple #[.agg #[.int .u64 qh, .int .u64 ql, .int .u8 1], .bool true]) ∧ Below w.heap.size w w' := by
  subst ha
  have hmf : ∀ (fn : Fn) (first cap : Array Value) (w : World), (Instr.makeFunc fn first cap).run Tryz.prog w = .ok (.func fn first cap) w := fun _ _ _ _ => rfl
  go_enter Tryz.func31, Tryz.ntmps31
  go_wp2_with fail
  (with_reducible refine (h0.out _ (ft.later (bA (bA bR _) _))).mono ?_); rintro e w1 ⟨rfl, hb⟩
  have hz := bC (bA (bA bR _) _) hb
  have gX1 : w.heap.size ≤ w.heap.size + 1 := by omega
  have cX0_0 := cL hb (a := ⟨w.heap.size, 0, none⟩) (v := .int .u8 f) (by go_simp)
  have sX0 : w.heap.size < w1.heap.size := bL cX0_0
  have cX1_0 := cL hb (a := ⟨w.heap.size + 1, 0, none⟩) (v := .int .u64 0) (by go_simp)
  have cX1_1 := cL hb (a := ⟨w.heap.size + 1, 1, none⟩) (v := .int .u64 0) (by go_simp)
  have cX1_2 := cL hb (a := ⟨w.heap.size + 1, 2, none⟩) (v := .int .u8 0) (by go_simp)
  have sX1 : w.heap.size + 1 < w1.heap.size ∧ w.heap.size < w1.heap.size := by have h : w.heap.size + 1 < w1.heap.size := bL cX1_0; exact ⟨h, by omega⟩
  have fX1_0 := fL hb (a := ⟨w.heap.size + 1, 0, none⟩) (v := .int .u64 0) (by go_simp) (by go_simp)
  have fX1_1 := fL hb (a := ⟨w.heap.size + 1, 1, none⟩) (v := .int .u64 0) (by go_simp) (by go_simp)
  have fX1_2 := fL hb (a := ⟨w.heap.size + 1, 2, none⟩) (v := .int .u8 0) (by go_simp) (by go_simp)
  have kk := hz
  clear hb hz
  go_wp2_with fail
  (with_reducible refine (ix.out _ _ (ft.later kk) (bs.later kk) cX0_0).mono ?_); rintro e w2 ⟨rfl, hb⟩
  replace cX0_0 := cL hb cX0_0
  replace sX0 : w.heap.size < w2.heap.size := bL cX0_0
  replace fX1_0 := fL hb cX1_0 fX1_0; replace fX1_1 := fL hb cX1_1 fX1_1; replace fX1_2 := fL hb cX1_2 fX1_2
  replace cX1_0 := cL hb cX1_0; replace cX1_1 := cL hb cX1_1; replace cX1_2 := cL hb cX1_2
  replace sX1 : w.heap.size + 1 < w2.heap.size ∧ w.heap.size < w2.heap.size := by have h : w.heap.size + 1 < w2.heap.size := bL cX1_0; exact ⟨h, by omega⟩
  replace kk := bC kk hb
  clear hb
  go_wp2_with fail
  (with_reducible refine (h2.out _ (ft.later kk)).mono ?_); rintro e w3 ⟨rfl, hb⟩
  replace cX0_0 := cL hb cX0_0
  replace sX0 : w.heap.size < w3.heap.size := bL cX0_0
  replace fX1_0 := fL hb cX1_0 fX1_0; replace fX1_1 := fL hb cX1_1 fX1_1; replace fX1_2 := fL hb cX1_2 fX1_2
  replace cX1_0 := cL hb cX1_0; replace cX1_1 := cL hb cX1_1; replace cX1_2 := cL hb cX1_2
  replace sX1 : w.heap.size + 1 < w3.heap.size ∧ w.heap.size < w3.heap.size := by have h : w.heap.size + 1 < w3.heap.size := bL cX1_0; exact ⟨h, by omega⟩
  replace kk := bC kk hb
  clear hb
  go_wp2_with fail
  have nX0_X2 : w.heap.size < w3.heap.size := by omega
  have nX1_X2 : w.heap.size + 1 < w3.heap.size := by omega
  have gX2 : w.heap.size ≤ w3.heap.size := by have := kk.size; omega
  refine wp_forget (fun W => W.cell? ⟨w.heap.size, 0, none⟩ = some (.int .u8 f) ∧ W.cell? ⟨w.heap.size + 1, 0, none⟩ = some (.int .u64 0) ∧ W.cell? ⟨w.heap.size + 1, 1, none⟩ = some (.int .u64 0) ∧ W.cell? ⟨w.heap.size + 1, 2, none⟩ = some (.int .u8 0) ∧ W.cell? ⟨w3.heap.size, 0, none⟩ = some (.int .u64 dh) ∧ W.cell? ⟨w3.heap.size, 1, none⟩ = some (.int .u64 dl) ∧ W.cell? ⟨w3.heap.size, 2, none⟩ = some (.int .u8 0) ∧ W.frozen? ⟨w.heap.size + 1, 0, none⟩ = false ∧ W.frozen? ⟨w.heap.size + 1, 1, none⟩ = false ∧ W.frozen? ⟨w.heap.size + 1, 2, none⟩ = false ∧ W.frozen? ⟨w3.heap.size, 0, none⟩ = false ∧ W.frozen? ⟨w3.heap.size, 1, none⟩ = false ∧ W.frozen? ⟨w3.heap.size, 2, none⟩ = false ∧ Below w.heap.size w W) ⟨cL (bA bR _) cX0_0, cL (bA bR _) cX1_0, cL (bA bR _) cX1_1, cL (bA bR _) cX1_2, by go_simp, by go_simp, by go_simp, fL (bA bR _) cX1_0 fX1_0, fL (bA bR _) cX1_1 fX1_1, fL (bA bR _) cX1_2 fX1_2, by go_simp, by go_simp, by go_simp, bC kk (bA bR _)⟩ (fun w4 hst => ?_)
  clear cX0_0 sX0 cX1_0 cX1_1 cX1_2 sX1 fX1_0 fX1_1 fX1_2 kk
  obtain ⟨cX0_0, cX1_0, cX1_1, cX1_2, cX2_0, cX2_1, cX2_2, fX1_0, fX1_1, fX1_2, fX2_0, fX2_1, fX2_2, kk⟩ := hst
  have sX0 : w.heap.size < w4.heap.size := bL cX0_0
  have sX1 : w.heap.size + 1 < w4.heap.size ∧ w.heap.size < w4.heap.size := by have h : w.heap.size + 1 < w4.heap.size := bL cX1_0; exact ⟨h, by omega⟩
  have sX2 : w3.heap.size < w4.heap.size := bL cX2_0
  have c0 := cL kk c00
  have c1 := cL kk c01
  refine wp_region_noPanic ?_
  refine wp_region_held_drew (S := fun w' => w'.cell? (a.add (k * 2)) = some (.int .u64 bh) ∧ w'.cell? ⟨(a.add (k * 2)).block, (a.add (k * 2)).off + 1, none⟩ = some (.int .u64 bl) ∧ w'.cell? ⟨w.heap.size, 0, none⟩ = some (.int .u8 f) ∧ True) (by kernel_rfl) ⟨cL bR.drew c0, cL bR.drew c1, cL bR.drew cX0_0, trivial⟩ (fun hHeld => ?_)
  replace cX0_0 := cL bR.drew cX0_0
  replace fX1_0 := fL bR.drew cX1_0 fX1_0; replace fX1_1 := fL bR.drew cX1_1 fX1_1; replace fX1_2 := fL bR.drew cX1_2 fX1_2
  replace cX1_0 := cL bR.drew cX1_0; replace cX1_1 := cL bR.drew cX1_1; replace cX1_2 := cL bR.drew cX1_2
  replace fX2_0 := fL bR.drew cX2_0 fX2_0; replace fX2_1 := fL bR.drew cX2_1 fX2_1; replace fX2_2 := fL bR.drew cX2_2 fX2_2
  replace cX2_0 := cL bR.drew cX2_0; replace cX2_1 := cL bR.drew cX2_1; replace cX2_2 := cL bR.drew cX2_2
  replace kk := bC kk bR.drew
  replace c0 := cL kk c00; replace c1 := cL kk c01
  refine wpAnyH_take (i := 0) (v := ?vq13) rfl (by kernel_rfl) (by kernel_rfl) (by kernel_rfl) (fun _ _ _ h => h) (Or.inl ⟨by rfl, ?yq13⟩) hHeld ?rq13
  case yq13 => (intro wq hb; obtain ⟨lq0, lq1, lq2, _⟩ := hb; go_simp; try (with_reducible rfl))
  try simp only [zA, zB, zC, Act.put, zD, zE, zF]
  refine wpAnyH_take (i := 1) (v := ?vq14) rfl (by kernel_rfl) (by kernel_rfl) (by kernel_rfl) (fun _ _ _ h => h) (Or.inl ⟨by rfl, ?yq14⟩) hHeld ?rq14
  case yq14 => (intro wq hb; obtain ⟨lq0, lq1, lq2, _⟩ := hb; go_simp; try (with_reducible rfl))
  try simp only [zA, zB, zC, Act.put, zD, zE, zF]
  refine wpAnyH_take (i := 2) (v := ?vq15) rfl (by kernel_rfl) (by kernel_rfl) (by kernel_rfl) (fun _ _ _ h => h) (Or.inl ⟨by rfl, ?yq15⟩) hHeld ?rq15
  case yq15 => (intro wq hb; obtain ⟨lq0, lq1, lq2, _⟩ := hb; go_simp; try (with_reducible rfl))
  try simp only [zA, zB, zC, Act.put, zD, zE, zF]
  refine wpAnyH_take (i := 3) (v := ?vq16) rfl (by kernel_rfl) (by kernel_rfl) (by kernel_rfl) (fun _ _ _ h => h) (Or.inl ⟨by rfl, ?yq16⟩) hHeld ?rq16
  case yq16 => (intro wq hb; obtain ⟨lq0, lq1, lq2, _⟩ := hb; go_simp; try (with_reducible rfl))
  try simp only [zA, zB, zC, Act.put, zD, zE, zF]
  refine wpAnyH_take (i := 4) (v := ?vq17) rfl (by kernel_rfl) (by kernel_rfl) (by kernel_rfl) (fun _ _ _ h => h) (Or.inl ⟨by rfl, ?yq17⟩) hHeld ?rq17
  case yq17 => (intro wq hb; obtain ⟨lq0, lq1, lq2, _⟩ := hb; go_simp; try (with_reducible rfl))
  try simp only [zA, zB, zC, Act.put, zD, zE, zF]
  clear hHeld
  refine wpAnyH_ready (rs := [5]) (by kernel_rfl) (by simp) ?_
  refine AllReadyH.cons rfl (fun K hK => ?_) AllReadyH.nil
  go_simp
  (with_reducible refine (h3.out _ (ft.later kk)).mono ?_); rintro e w5 ⟨rfl, hb⟩
  replace cX0_0 := cL hb cX0_0
  replace fX1_0 := fL hb cX1_0 fX1_0; replace fX1_1 := fL hb cX1_1 fX1_1; replace fX1_2 := fL hb cX1_2 fX1_2
  replace cX1_0 := cL hb cX1_0; replace cX1_1 := cL hb cX1_1; replace cX1_2 := cL hb cX1_2
  replace fX2_0 := fL hb cX2_0 fX2_0; replace fX2_1 := fL hb cX2_1 fX2_1; replace fX2_2 := fL hb cX2_2 fX2_2
  replace cX2_0 := cL hb cX2_0; replace cX2_1 := cL hb cX2_1; replace cX2_2 := cL hb cX2_2
  replace kk := bC kk hb
  replace c0 := cL kk c00; replace c1 := cL kk c01
  clear hb
  refine hK.out _ _ ⟨c0, c1, cX0_0, trivial⟩ (fun hHeld => ?_)
  clear hK K
  try simp only [zA, zB, zC, Act.put, zD, zE, zF]
  refine wpAnyH_take (i := 6) (v := ?vq18) rfl (by kernel_rfl) (by kernel_rfl) (by kernel_rfl) (fun _ _ _ h => h) (Or.inl ⟨by rfl, ?yq18⟩) hHeld ?rq18
  case yq18 => (intro wq hb; obtain ⟨lq0, lq1, lq2, _⟩ := hb; go_simp; try (with_reducible rfl))
  try simp only [zA, zB, zC, Act.put, zD, zE, zF]
  clear hHeld
  refine wpAnyH_ready (rs := [7]) (by kernel_rfl) (by simp) ?_
  refine AllReadyH.cons rfl (fun K hK => ?_) AllReadyH.nil
  go_simp
  have neX0 : ¬ (w3.heap.size = w.heap.size) := by omega
  have nfX0 : ¬ (w.heap.size = w3.heap.size) := by omega
  have neX1 : ¬ (w3.heap.size = w.heap.size + 1) := by omega
  have nfX1 : ¬ (w.heap.size + 1 = w3.heap.size) := by omega
  have KEY := lH (show ((w5.setCell ⟨w3.heap.size, 0, none⟩ (.int .u64 qh)).setCell ⟨w3.heap.size, 1, none⟩ (.int .u64 ql)).cell? ⟨w.heap.size, 0, none⟩ = some (.int .u8 f) ∧ ((w5.setCell ⟨w3.heap.size, 0, none⟩ (.int .u64 qh)).setCell ⟨w3.heap.size, 1, none⟩ (.int .u64 ql)).cell? ⟨w.heap.size + 1, 0, none⟩ = some (.int .u64 0) ∧ ((w5.setCell ⟨w3.heap.size, 0, none⟩ (.int .u64 qh)).setCell ⟨w3.heap.size, 1, none⟩ (.int .u64 ql)).cell? ⟨w.heap.size + 1, 1, none⟩ = some (.int .u64 0) ∧ ((w5.setCell ⟨w3.heap.size, 0, none⟩ (.int .u64 qh)).setCell ⟨w3.heap.size, 1, none⟩ (.int .u64 ql)).cell? ⟨w.heap.size + 1, 2, none⟩ = some (.int .u8 0) ∧ ((w5.setCell ⟨w3.heap.size, 0, none⟩ (.int .u64 qh)).setCell ⟨w3.heap.size, 1, none⟩ (.int .u64 ql)).frozen? ⟨w.heap.size + 1, 0, none⟩ = false ∧ ((w5.setCell ⟨w3.heap.size, 0, none⟩ (.int .u64 qh)).setCell ⟨w3.heap.size, 1, none⟩ (.int .u64 ql)).frozen? ⟨w.heap.size + 1, 1, none⟩ = false ∧ ((w5.setCell ⟨w3.heap.size, 0, none⟩ (.int .u64 qh)).setCell ⟨w3.heap.size, 1, none⟩ (.int .u64 ql)).frozen? ⟨w.heap.size + 1, 2, none⟩ = false ∧ ((w5.setCell ⟨w3.heap.size, 0, none⟩ (.int .u64 qh)).setCell ⟨w3.heap.size, 1, none⟩ (.int .u64 ql)).cell? ⟨w3.heap.size, 0, none⟩ = some (.int .u64 qh) ∧ ((w5.setCell ⟨w3.heap.size, 0, none⟩ (.int .u64 qh)).setCell ⟨w3.heap.size, 1, none⟩ (.int .u64 ql)).cell? ⟨w3.heap.size, 1, none⟩ = some (.int .u64 ql) ∧ ((w5.setCell ⟨w3.heap.size, 0, none⟩ (.int .u64 qh)).setCell ⟨w3.heap.size, 1, none⟩ (.int .u64 ql)).cell? ⟨w3.heap.size, 2, none⟩ = some (.int .u8 0) ∧ ((w5.setCell ⟨w3.heap.size, 0, none⟩ (.int .u64 qh)).setCell ⟨w3.heap.size, 1, none⟩ (.int .u64 ql)).frozen? ⟨w3.heap.size, 0, none⟩ = false ∧ ((w5.setCell ⟨w3.heap.size, 0, none⟩ (.int .u64 qh)).setCell ⟨w3.heap.size, 1, none⟩ (.int .u64 ql)).frozen? ⟨w3.heap.size, 1, none⟩ = false ∧ ((w5.setCell ⟨w3.heap.size, 0, none⟩ (.int .u64 qh)).setCell ⟨w3.heap.size, 1, none⟩ (.int .u64 ql)).frozen? ⟨w3.heap.size, 2, none⟩ = false ∧ Below w.heap.size w ((w5.setCell ⟨w3.heap.size, 0, none⟩ (.int .u64 qh)).setCell ⟨w3.heap.size, 1, none⟩ (.int .u64 ql)) from ⟨by go_simp, by go_simp, by go_simp, by go_simp, by go_simp, by go_simp, by go_simp, by go_simp, by go_simp, by go_simp, by go_simp, by go_simp, by go_simp, ((kk.setCell (p := ⟨w3.heap.size, 0, none⟩) gX2 _).setCell (p := ⟨w3.heap.size, 1, none⟩) gX2 _)⟩)
  clear cX0_0 cX1_0 cX1_1 cX1_2 fX1_0 fX1_1 fX1_2 cX2_0 cX2_1 cX2_2 fX2_0 fX2_1 fX2_2 neX0 nfX0 neX1 nfX1 kk
  refine forget_at (fun W => W.cell? ⟨w.heap.size, 0, none⟩ = some (.int .u8 f) ∧ W.cell? ⟨w.heap.size + 1, 0, none⟩ = some (.int .u64 0) ∧ W.cell? ⟨w.heap.size + 1, 1, none⟩ = some (.int .u64 0) ∧ W.cell? ⟨w.heap.size + 1, 2, none⟩ = some (.int .u8 0) ∧ W.frozen? ⟨w.heap.size + 1, 0, none⟩ = false ∧ W.frozen? ⟨w.heap.size + 1, 1, none⟩ = false ∧ W.frozen? ⟨w.heap.size + 1, 2, none⟩ = false ∧ W.cell? ⟨w3.heap.size, 0, none⟩ = some (.int .u64 qh) ∧ W.cell? ⟨w3.heap.size, 1, none⟩ = some (.int .u64 ql) ∧ W.cell? ⟨w3.heap.size, 2, none⟩ = some (.int .u8 0) ∧ W.frozen? ⟨w3.heap.size, 0, none⟩ = false ∧ W.frozen? ⟨w3.heap.size, 1, none⟩ = false ∧ W.frozen? ⟨w3.heap.size, 2, none⟩ = false ∧ Below w.heap.size w W) KEY.out (fun w6 hz => ?_)
  obtain ⟨cX0_0, cX1_0, cX1_1, cX1_2, fX1_0, fX1_1, fX1_2, cX2_0, cX2_1, cX2_2, fX2_0, fX2_1, fX2_2, kk⟩ := hz
  clear KEY
  replace c0 := cL kk c00
  replace c1 := cL kk c01
  refine hK.out _ _ ⟨c0, c1, cX0_0, trivial⟩ (fun hHeld => ?_)
  clear hK K
  try simp only [zA, zB, zC, Act.put, zD, zE, zF]
  clear hHeld
  refine wpAnyH_done (by kernel_rfl) ?_ _
  refine NoPanic.normal ?_
  clear c0 c1
  replace sX0 : w.heap.size < w6.heap.size := bL cX0_0
  replace sX1 : w.heap.size + 1 < w6.heap.size ∧ w.heap.size < w6.heap.size := by have h : w.heap.size + 1 < w6.heap.size := bL cX1_0; exact ⟨h, by omega⟩
  replace sX2 : w3.heap.size < w6.heap.size := bL cX2_0
  go_wp2_with fail
  (with_reducible refine (h4.out _ (ft.later kk) (bs.later kk)).mono ?_); rintro e w7 ⟨rfl, hb⟩
  clear cX0_0 sX0
  replace fX1_0 := fL hb cX1_0 fX1_0; replace fX1_1 := fL hb cX1_1 fX1_1; replace fX1_2 := fL hb cX1_2 fX1_2
  replace cX1_0 := cL hb cX1_0; replace cX1_1 := cL hb cX1_1; replace cX1_2 := cL hb cX1_2
  replace sX1 : w.heap.size + 1 < w7.heap.size ∧ w.heap.size < w7.heap.size := by have h : w.heap.size + 1 < w7.heap.size := bL cX1_0; exact ⟨h, by omega⟩
  replace fX2_0 := fL hb cX2_0 fX2_0; replace fX2_1 := fL hb cX2_1 fX2_1; replace fX2_2 := fL hb cX2_2 fX2_2
  replace cX2_0 := cL hb cX2_0; replace cX2_1 := cL hb cX2_1; replace cX2_2 := cL hb cX2_2
  replace sX2 : w3.heap.size < w7.heap.size := bL cX2_0
  replace kk := bC kk hb
  clear hb
  have KEY : Hid (((((w7.setCell ⟨w3.heap.size, 2, none⟩ (.int .u8 1)).setCell ⟨w.heap.size + 1, 0, none⟩ (.int .u64 qh)).setCell ⟨w.heap.size + 1, 1, none⟩ (.int .u64 ql)).setCell ⟨w.heap.size + 1, 2, none⟩ (.int .u8 1)).cell? ⟨w.heap.size + 1, 0, none⟩ = some (.int .u64 qh) ∧ ((((w7.setCell ⟨w3.heap.size, 2, none⟩ (.int .u8 1)).setCell ⟨w.heap.size + 1, 0, none⟩ (.int .u64 qh)).setCell ⟨w.heap.size + 1, 1, none⟩ (.int .u64 ql)).setCell ⟨w.heap.size + 1, 2, none⟩ (.int .u8 1)).cell? ⟨w.heap.size + 1, 1, none⟩ = some (.int .u64 ql) ∧ ((((w7.setCell ⟨w3.heap.size, 2, none⟩ (.int .u8 1)).setCell ⟨w.heap.size + 1, 0, none⟩ (.int .u64 qh)).setCell ⟨w.heap.size + 1, 1, none⟩ (.int .u64 ql)).setCell ⟨w.heap.size + 1, 2, none⟩ (.int .u8 1)).cell? ⟨w.heap.size + 1, 2, none⟩ = some (.int .u8 1) ∧ Below w.heap.size w ((((w7.setCell ⟨w3.heap.size, 2, none⟩ (.int .u8 1)).setCell ⟨w.heap.size + 1, 0, none⟩ (.int .u64 qh)).setCell ⟨w.heap.size + 1, 1, none⟩ (.int .u64 ql)).setCell ⟨w.heap.size + 1, 2, none⟩ (.int .u8 1))) := lH ⟨by go_simp, by go_simp, by go_simp, ((((kk.setCell (p := ⟨w3.heap.size, 2, none⟩) gX2 _).setCell (p := ⟨w.heap.size + 1, 0, none⟩) gX1 _).setCell (p := ⟨w.heap.size + 1, 1, none⟩) gX1 _).setCell (p := ⟨w.heap.size + 1, 2, none⟩) gX1 _)⟩
  go_wp2_with fail
  obtain ⟨e0, e1, e2, kb⟩ := KEY.out
  clear KEY cX1_0 cX1_1 cX1_2 fX1_0 fX1_1 fX1_2
  refine bodyPost_ret (v := .tuple #[.agg #[.int .u64 qh, .int .u64 ql, .int .u8 1], .bool true]) ?_ rfl ⟨rfl, kb⟩
  simp [results, Tryz.results31, go_sem, e0, e1, e2]
end Go.Proofs.YtjdjonekoodalaaGreatDoor
namespace Go.Proofs.YtjdjonekoodalaaGreatDoor
open Go.RowKit
attribute [local go_sem ↓] Go.wp_at_zero Go.wp_at_succ
theorem nan_fun (f b : Int) (f0 : 0 ≤ f) (f1 : f ≤ 255) (bk : Nat) (w : World) (ft : FTab w) (c3 : w.cell? ⟨bk, 0, none⟩ = some (.int .u8 f)) :
    Calls Tryz.prog 77 #[.agg #[.int .u64 (hiOf b), .int .u64 (loOf b)], .pointer (some ⟨bk, 0, none⟩)] w fun e w' => e = .returned (.bool (nanF f (b % full))) ∧ Below w.heap.size w w' := by
  have H := lH (classOK.nan f b f0 f1)
  have FT := lH ft
  have q3 : bk < w.heap.size := bL c3
  obtain ⟨p, hp⟩ : ∃ p, nanF f (b % full) = p := ⟨_, rfl⟩
  rw [hp] at H ⊢
  clear ft f0 f1 hp
  go_enter Tryz.func77, Tryz.ntmps77
  go_wp2_with fail
  (with_reducible refine (H.out _ (FT.out.later (bA bR _))).mono ?_); rintro e w1 ⟨rfl, hb⟩
  have HB := lH (bC (bA bR _) hb)
  clear hb
  go_wp2_with fail
  go_ret
  exact ⟨rfl, HB.out⟩
theorem index_nan (p : Int → Bool) (bk : Nat) (ao : Option Addr) (n cap : Nat) (xs : List Int) (w : World) (x : Bs w ao n cap xs)
    (H : Hid (∀ b W, Below w.heap.size w W → Calls Tryz.prog 77 #[.agg #[.int .u64 (hiOf b), .int .u64 (loOf b)], .pointer (some ⟨bk, 0, none⟩)] W fun e W' => e = .returned (.bool (p b)) ∧ Below W.heap.size W W')) :
    Calls Tryz.prog 76 #[.slice ao n cap, .func (.func 77) #[] #[.pointer (some ⟨bk, 0, none⟩)]] w fun e w' => ∃ r : Int, e = .returned (.int .i64 r) ∧ ((r = -1 ∧ xs.any p = false) ∨ ∃ k : Nat, r = k ∧ k < n ∧ someB p xs k = false ∧ p (xs.getD k 0) = true) ∧ Below w.heap.size w w' := by
  have HX := lH x
  clear x
  go_enter Tryz.func76, Tryz.ntmps76
  go_wp2_with fail
  go_loopw [8] (fun i wr => ∃ k : Nat, k ≤ n ∧ i = .int .i64 k ∧ someB p xs k = false ∧ Below w.heap.size w wr) (fun i _ => n - (intOf i).toNat)
  case atStart => exact ⟨0, by omega, rfl, rfl, bR⟩
  case round =>
    obtain ⟨k, hk, rfl, hno, hb⟩ := hrel
    by_cases hlt : k < n
    · obtain ⟨a, hao, c0, c1⟩ := (HX.out.later hb).2.2.2 k hlt
      subst hao
      have su := someB_succ p xs k (HX.out.1 ▸ hlt)
      rw [hno, Bool.false_or] at su
      obtain ⟨y, hy⟩ : ∃ y, xs.getD k 0 = y := ⟨_, rfl⟩
      have HY := lH hy
      rw [hy] at c0 c1 su
      have gk : decide ((k : Int) < (n : Int)) = true := by simp; omega
      have inc : IntKind.i64.wrap ((k : Int) + 1) = ((k + 1 : Nat) : Int) := by have := HX.out.2.2.1.1; rw [IntKind.wrap_i64]; omega
      have HB := lH hb; have SU := lH su; have HK := lH (And.intro hk hlt); have HN := lH hno
      have HH := lH (H.out y _ hb)
      cases hv : p y
      · rw [hv] at SU HH
        clear hb su hno hk hy
        go_wp2_with fail
        (with_reducible refine (HH.out).mono ?_); rintro e w1 ⟨rfl, hb1⟩
        have K1 := lH (bC HB.out hb1)
        clear hb1 c0 c1
        go_wp2_with fail
        go_roundw
        case rel => exact ⟨k + 1, by have := HK.out; omega, by go_num, SU.out, K1.out⟩
        case measure => have := HK.out; simp [intOf]; omega
      · rw [hv] at SU HH
        have HV := lH hv
        clear hb su hno hk hy hv
        go_wp2_with fail
        (with_reducible refine (HH.out).mono ?_); rintro e w1 ⟨rfl, hb1⟩
        have K1 := lH (bC HB.out hb1)
        clear hb1 c0 c1
        go_wp2_with fail
        refine bodyPost_ret (v := .int .i64 k) (by simp [results, Tryz.results76, go_sem]) rfl ⟨_, rfl, .inr ⟨k, rfl, HK.out.2, HN.out, ?_⟩, K1.out⟩
        rw [HY.out]; exact HV.out
    · have gk : decide ((k : Int) < (n : Int)) = false := by simp; omega
      have e : k = n := by omega
      have HB := lH hb; have HE := lH (And.intro e hno)
      clear hb e hno
      go_wp2_with fail
      refine bodyPost_ret (v := .int .i64 (-1)) (by simp [results, Tryz.results76, go_sem]) rfl ⟨_, rfl, .inl ⟨rfl, ?_⟩, HB.out⟩
      rw [← someB_all p xs HX.out.1, ← HE.out.1, HE.out.2]
theorem index_one (f : Int) (f0 : 0 ≤ f) (f1 : f ≤ 255) (ao : Option Addr) (n cap : Nat) (xs : List Int) (hn : n = xs.length) :
    (anyN f xs = false ∧ ∀ bk w, FTab w → Bs w ao n cap xs → w.cell? ⟨bk, 0, none⟩ = some (.int .u8 f) → Calls Tryz.prog 76 #[.slice ao n cap, .func (.func 77) #[] #[.pointer (some ⟨bk, 0, none⟩)]] w fun e w' => e = .returned (.int .i64 (-1)) ∧ Below w.heap.size w w') ∨
    ∃ k : Nat, k < n ∧ nanF f (xs.getD k 0 % full) = true ∧ someB (fun b => nanF f (b % full)) xs k = false ∧ ∀ bk w, FTab w → Bs w ao n cap xs → w.cell? ⟨bk, 0, none⟩ = some (.int .u8 f) → Calls Tryz.prog 76 #[.slice ao n cap, .func (.func 77) #[] #[.pointer (some ⟨bk, 0, none⟩)]] w fun e w' => e = .returned (.int .i64 (k : Int)) ∧ Below w.heap.size w w' := by
  have once : ∀ r : Int, ((r = -1 ∧ xs.any (fun b => nanF f (b % full)) = false) ∨ ∃ k : Nat, r = k ∧ k < n ∧ someB (fun b => nanF f (b % full)) xs k = false ∧ nanF f (xs.getD k 0 % full) = true) → ∀ s : Int, ((s = -1 ∧ xs.any (fun b => nanF f (b % full)) = false) ∨ ∃ k : Nat, s = k ∧ k < n ∧ someB (fun b => nanF f (b % full)) xs k = false ∧ nanF f (xs.getD k 0 % full) = true) → r = s := by
    have yes : ∀ k : Nat, k < n → nanF f (xs.getD k 0 % full) = true → xs.any (fun b => nanF f (b % full)) = true := fun k hk h => by
      rw [List.any_eq_true]
      refine ⟨xs.getD k 0, ?_, h⟩
      rw [List.getD_eq_getElem?_getD, List.getElem?_eq_getElem (by omega)]
      exact List.getElem_mem _
    have lt : ∀ k j : Nat, k < n → j < k → nanF f (xs.getD j 0 % full) = true → someB (fun b => nanF f (b % full)) xs k = true := fun k j hk hj h => by
      unfold someB
      rw [List.any_eq_true]
      refine ⟨xs.getD j 0, ?_, h⟩
      rw [List.getD_eq_getElem?_getD, List.getElem?_eq_getElem (by omega)]
      rw [List.mem_take_iff_getElem]
      exact ⟨j, by omega, rfl⟩
    rintro r (⟨rfl, h⟩ | ⟨k, rfl, hk, h1, h2⟩) s (⟨rfl, g⟩ | ⟨j, rfl, hj, g1, g2⟩)
    · rfl
    · rw [yes j hj g2] at h; exact absurd h (by decide)
    · rw [yes k hk h2] at g; exact absurd g (by decide)
    · rcases Nat.lt_trichotomy k j with q | q | q
      · rw [lt j k hj q h2] at g1; exact absurd g1 (by decide)
      · rw [q]
      · rw [lt k j hk q g2] at h1; exact absurd h1 (by decide)
  have C : ∀ bk w, FTab w → Bs w ao n cap xs → w.cell? ⟨bk, 0, none⟩ = some (.int .u8 f) → _ := fun bk w ft x c => index_nan (fun b => nanF f (b % full)) bk ao n cap xs w x (lH fun b W hb => nan_fun f b f0 f1 bk W (ft.later hb) (cL hb c))
  have fix : ∀ r : Int, ((r = -1 ∧ xs.any (fun b => nanF f (b % full)) = false) ∨ ∃ k : Nat, r = k ∧ k < n ∧ someB (fun b => nanF f (b % full)) xs k = false ∧ nanF f (xs.getD k 0 % full) = true) → ∀ bk w, FTab w → Bs w ao n cap xs → w.cell? ⟨bk, 0, none⟩ = some (.int .u8 f) → Calls Tryz.prog 76 #[.slice ao n cap, .func (.func 77) #[] #[.pointer (some ⟨bk, 0, none⟩)]] w fun e w' => e = .returned (.int .i64 r) ∧ Below w.heap.size w w' := fun r hr bk w ft x c => by
    refine (C bk w ft x c).mono ?_
    rintro e w' ⟨s, rfl, hs, hb⟩
    rw [once r hr s hs]
    exact ⟨rfl, hb⟩
  by_cases h : xs.any (fun b => nanF f (b % full)) = true
  · right
    have e : ∃ k : Nat, k < n ∧ nanF f (xs.getD k 0 % full) = true := by
      rw [List.any_eq_true] at h
      obtain ⟨y, hy, hp⟩ := h
      obtain ⟨k, hk, he⟩ := List.mem_iff_getElem.1 hy
      refine ⟨k, by omega, ?_⟩
      rw [List.getD_eq_getElem?_getD, List.getElem?_eq_getElem hk, Option.getD_some, he]; exact hp
    obtain ⟨k, ⟨hk, hp⟩, hmin⟩ : ∃ k : Nat, (k < n ∧ nanF f (xs.getD k 0 % full) = true) ∧ ∀ j, j < k → ¬ (j < n ∧ nanF f (xs.getD j 0 % full) = true) := by
      obtain ⟨k, hk⟩ := e
      induction k using Nat.strongRecOn with
      | ind k ih =>
        by_cases c : ∃ j, j < k ∧ (j < n ∧ nanF f (xs.getD j 0 % full) = true)
        · obtain ⟨j, hj, hc⟩ := c; exact ih j hj hc
        · exact ⟨k, hk, fun j hj hc => c ⟨j, hj, hc⟩⟩
    have no : someB (fun b => nanF f (b % full)) xs k = false := by
      unfold someB
      rw [List.any_eq_false]
      intro y hy
      rw [List.mem_take_iff_getElem] at hy
      obtain ⟨j, hj, rfl⟩ := hy
      have := hmin j (by omega)
      rw [List.getD_eq_getElem?_getD, List.getElem?_eq_getElem (by omega), Option.getD_some] at this
      intro hc; exact this ⟨by omega, hc⟩
    exact ⟨k, hk, hp, no, fix k (.inr ⟨k, rfl, hk, no, hp⟩)⟩
  · left
    have h' : xs.any (fun b => nanF f (b % full)) = false := by simpa using h
    exact ⟨h', fix (-1) (.inl ⟨rfl, h'⟩)⟩
theorem first_at (f : Int) {xs : List Int} {k : Nat} (hk : k < xs.length) (h : nanF f (xs.getD k 0 % full) = true) (no : someB (fun b => nanF f (b % full)) xs k = false) : firstV f xs = quietF f (xs.getD k 0 % full) ∧ anyN f xs = true := by
  have e : xs.getD k 0 = xs[k] := by rw [List.getD_eq_getElem?_getD, List.getElem?_eq_getElem hk, Option.getD_some]
  have s : xs = xs.take k ++ xs[k] :: xs.drop (k + 1) := by rw [← List.drop_eq_getElem_cons hk, List.take_append_drop]
  have n0 : (xs.take k).find? (fun b => nanF f (b % full)) = none := by
    rw [List.find?_eq_none]
    unfold someB at no
    rw [List.any_eq_false] at no
    exact no
  have fd : xs.find? (fun b => nanF f (b % full)) = some xs[k] := by
    obtain ⟨v, hv⟩ : ∃ v, xs[k] = v := ⟨_, rfl⟩
    rw [hv] at s e ⊢
    rw [e] at h
    rw [s, List.find?_append, n0, Option.none_or, List.find?_cons_of_pos (p := fun b => nanF f (b % full)) h]
  constructor
  · unfold firstV; rw [fd, e]
  · unfold anyN; rw [List.any_eq_true]; exact ⟨xs[k], List.getElem_mem _, by rw [← e]; exact h⟩
end Go.Proofs.YtjdjonekoodalaaGreatDoor
namespace Go.Proofs.YtjdjonekoodalaaGreatDoor
open Go.RowKit
attribute [local go_sem ↓] Go.wp_at_zero Go.wp_at_succ
theorem nat_or_top (X k : Nat) : X ||| 2 ^ k = if 2 ^ k ≤ X % 2 ^ (k + 1) then X else X + 2 ^ k := by
  have e2 : 2 ^ (k + 1) = 2 * 2 ^ k := Nat.pow_succ'
  have d : X = 2 ^ (k + 1) * (X / 2 ^ (k + 1)) + X % 2 ^ (k + 1) := (Nat.div_add_mod X _).symm
  have m : X % 2 ^ (k + 1) < 2 ^ (k + 1) := Nat.mod_lt _ (Nat.two_pow_pos _)
  generalize X / 2 ^ (k + 1) = q at *
  generalize X % 2 ^ (k + 1) = r at *
  subst d
  split
  · rename_i h
    obtain ⟨s, rfl⟩ : ∃ s, r = 2 ^ k + s := ⟨r - 2 ^ k, by omega⟩
    have hs : s < 2 ^ k := by omega
    have e : 2 ^ k + s = 2 ^ k ||| s := by have := Nat.two_pow_add_eq_or_of_lt hs 1; simpa using this
    rw [Nat.two_pow_add_eq_or_of_lt m, e, Nat.or_assoc, Nat.or_assoc, Nat.or_comm s, ← Nat.or_assoc (2 ^ k) (2 ^ k), Nat.or_self]
  · rename_i h
    have hs : r < 2 ^ k := by omega
    have e : 2 ^ k + r = 2 ^ k ||| r := by have := Nat.two_pow_add_eq_or_of_lt hs 1; simpa using this
    rw [Nat.add_assoc, Nat.add_comm r, Nat.two_pow_add_eq_or_of_lt m, Nat.two_pow_add_eq_or_of_lt (show 2 ^ k + r < 2 ^ (k + 1) by omega), e, Nat.or_assoc, Nat.or_comm r]
theorem or_top {x : Int} (k : Nat) (hk : k < 128) (x0 : 0 ≤ x) (x1 : x < full) :
    bits .or .u64 (hiOf x) (hiOf (2 ^ k)) = hiOf (if 2 ^ k ≤ x % 2 ^ (k + 1) then x else x + 2 ^ k) ∧ bits .or .u64 (loOf x) (loOf (2 ^ k)) = loOf (if 2 ^ k ≤ x % 2 ^ (k + 1) then x else x + 2 ^ k) := by
  obtain ⟨X, rfl⟩ := Int.eq_ofNat_of_zero_le x0
  have hX : X < 340282366920938463463374607431768211456 := by unfold full at x1; omega
  have hp : (2 : Nat) ^ k < 2 ^ 128 := Nat.pow_lt_pow_right (by decide) hk
  have e : (if (2 : Int) ^ k ≤ (X : Int) % 2 ^ (k + 1) then (X : Int) else X + 2 ^ k) = ((X ||| 2 ^ k : Nat) : Int) := by
    rw [nat_or_top]
    have c : ((2 : Int) ^ k ≤ (X : Int) % 2 ^ (k + 1)) ↔ 2 ^ k ≤ X % 2 ^ (k + 1) := by
      rw [← Int.ofNat_le]; push_cast; exact Iff.rfl
    by_cases h : 2 ^ k ≤ X % 2 ^ (k + 1)
    · rw [if_pos h, if_pos (c.2 h)]
    · rw [if_neg h, if_neg (fun g => h (c.1 g))]; push_cast; rfl
  rw [e, show (2 : Int) ^ k = ((2 ^ k : Nat) : Int) by push_cast; rfl]
  exact or_nat_hl hX (by omega)
theorem quietedN {f x : Int} (h0 : 0 ≤ f) (h : f < 4) (x0 : 0 ≤ x) (x1 : x < full) (w : World) (ft : FTab w) : Calls Tryz.prog 125 #[.int .u8 f, .agg #[.int .u64 (hiOf (x)), .int .u64 (loOf (x))]] w fun e w' => e = .returned (.agg #[.int .u64 (hiOf (if (2 : Int) ^ (fP f - 2) ≤ fracF f x then x else x + 2 ^ (fP f - 2))), .int .u64 (loOf (if (2 : Int) ^ (fP f - 2) ≤ fracF f x then x else x + 2 ^ (fP f - 2)))]) ∧ Below w.heap.size w w' := by
  obtain ⟨p0, p1, p2, p3, p4, p5, p6, p7, p8⟩ := f_nums h0 h
  have L := leftB 1 ((fP f - 2 : Nat) : Int) (by omega) (by omega)
  rw [Int.toNat_natCast, Int.one_mul] at L
  obtain ⟨a1, a2⟩   := or_top (fP f - 2) (by omega) x0 x1
  rw [show fP f - 2 + 1 = fP f - 1 by omega] at a1 a2
  rw [show fracF f x = x % 2 ^ (fP f - 1) by unfold fracF; rw [if_pos h]]
  exact nan_quieted f _ _ (fP f) ((fP f - 2 : Nat) : Int) _ _ _ _ (lH (formOK.prec f h0 (by omega))) (lH L) (by rw [IntWalk.i64_in _ (by omega)]; omega) a1 a2 w ft
theorem quietN (f b : Int) (f0 : 0 ≤ f) (f1 : f ≤ 255) (w : World) (ft : FTab w) : Calls Tryz.prog 79 #[.int .u8 f, .agg #[.int .u64 (hiOf (b)), .int .u64 (loOf (b))]] w fun e w' => e = .returned (.agg #[.int .u64 (hiOf (quietF f (b % full))), .int .u64 (loOf (quietF f (b % full)))]) ∧ Below w.heap.size w w' := by
  obtain ⟨b0, b1⟩ := mod_f b
  have CU := formOK.cut f b f0 f1
  have CN := classOK.nan f (cutF f (b % full)) f0 f1
  have cr := cut_range (f := f) f0 b0
  rw [Int.emod_eq_of_lt (a := cutF f (b % full)) cr.1 (by omega)] at CN
  generalize b % full = B at *
  by_cases h : f < 4
  · have ce := cls_congr (exp_cut f0 h B) (frac_cut f0 h B)
    have ne : nanF f (cutF f B) = nanF f B := by unfold nanF; rw [ce]
    rw [ne] at CN
    by_cases hn : nanF f B = true
    · rw [hn] at CN
      have Q := quietedN (x := cutF f B) f0 h cr.1 (by omega)
      rw [frac_cut f0 h B] at Q
      have q : (if (2 : Int) ^ (fP f - 2) ≤ fracF f B then cutF f B else cutF f B + 2 ^ (fP f - 2)) = quietF f B := by
        unfold quietF
        by_cases hs : sigF f B = true
        · obtain ⟨_, _, _, lt⟩ := sig_parts hs
          rw [hs, if_pos rfl, if_neg (by omega)]
        · have hs' : sigF f B = false := by simpa using hs
          rw [hs', if_neg (show ¬ (false = true) by decide), Int.add_zero]
          by_cases g : (2 : Int) ^ (fP f - 2) ≤ fracF f B
          · rw [if_pos g]
          · exfalso
            unfold nanF at hn
            unfold sigF at hs'
            have n4 : 4 ≤ clsF f B := by simpa using hn
            have n5 : clsF f B ≠ 5 := by simpa using hs'
            have cg := cls_range f B
            have c4 : clsF f B = 4 := by omega
            unfold clsF at c4
            rw [if_pos h] at c4
            split at c4
            · split at c4 <;> omega
            · split at c4
              · split at c4
                · omega
                · first
                  | omega
                  | (split at c4 <;> first | contradiction | omega)
              · omega
      rw [q] at Q
      exact nan_quiet_yes f _ _ _ _ _ _ (lH CU) (lH CN) (lH Q) w ft
    · have hn' : nanF f B = false := by simpa using hn
      rw [hn'] at CN
      have hs : sigF f B = false := by
        cases hs : sigF f B
        · rfl
        · rw [sig_nan hs] at hn'; exact absurd hn' (by decide)
      rw [quiet_not hs]
      exact nan_quiet_no f _ _ _ _ (lH CU) (lH CN) w ft
  · have hn : nanF f (cutF f B) = false := by unfold nanF; rw [cls_no h]; rfl
    have hs : sigF f B = false := by unfold sigF; rw [cls_no h]; rfl
    rw [hn] at CN
    rw [quiet_not hs]
    exact nan_quiet_no f _ _ _ _ (lH CU) (lH CN) w ft
theorem defN (f : Int) (f0 : 0 ≤ f) (f1 : f ≤ 255) (w : World) (ft : FTab w) : Calls Tryz.prog 78 #[.int .u8 f] w fun e w' => e = .returned (.agg #[.int .u64 (hiOf (defF f)), .int .u64 (loOf (defF f))]) ∧ Below w.heap.size w w' := by
  have K := formOK.known f f0 f1
  by_cases h : f < 4
  · rw [show decide (f < 4) = true by simp [h]] at K
    obtain ⟨p0, p1, p2, p3, p4, p5, p6, p7, p8⟩ := f_nums f0 h
    have hp := two_pow_pos (fP f - 2)
    have n2 : (2 : Int) ^ (fP f - 1) = 2 * 2 ^ (fP f - 2) := by rw [← Int.pow_succ', show fP f - 2 + 1 = fP f - 1 by omega]
    obtain ⟨m1, m2, m3⟩ := make_fields f0 h false (2 * fE f + 1) 0
    have i0 : 0 ≤ infF f false ∧ infF f false < full := make_full f0 ..
    have Q := quietedN (x := infF f false) f0 h i0.1 i0.2
    have e : (if (2 : Int) ^ (fP f - 2) ≤ fracF f (infF f false) then infF f false else infF f false + 2 ^ (fP f - 2)) = defF f := by
      unfold infF
      rw [m2, Int.zero_emod, if_neg (by omega)]
      unfold defF makeF
      rw [if_pos h, if_pos h, Int.zero_emod, Int.emod_eq_of_lt (a := 2 ^ (fP f - 2)) (by omega) (by omega)]
      simp
    rw [e] at Q
    exact nan_default_yes f _ _ _ _ (lH K) (lH (formOK.inf f false f0 f1)) (lH Q) w ft
  · rw [show decide (f < 4) = false by simp [h]] at K
    rw [show defF f = 0 by unfold defF makeF; rw [if_neg h], hl_zero.1, hl_zero.2]
    exact nan_default_no f (lH K) w ft
theorem pickN (f : Int) (inv : Bool) (ao : Option Addr) (n cap : Nat) (xs : List Int) (f0 : 0 ≤ f) (f1 : f ≤ 255) (w : World) (ft : FTab w) (x : Bs w ao n cap xs) : Calls Tryz.prog 31 #[.int .u8 f, .bool inv, .slice ao n cap] w fun e w' => e = .returned (.tuple #[.agg #[.int .u64 (hiOf (pickV f inv xs)), .int .u64 (loOf (pickV f inv xs)), .int .u8 (pickF f inv xs)], .bool (pickK f inv xs)]) ∧ Below w.heap.size w w' := by
  have K := formOK.known f f0 f1
  by_cases h : f < 4
  · rw [show decide (f < 4) = true by simp [h]] at K
    have hn : n = xs.length := x.1
    have D := defN f f0 f1
    rcases index_one f f0 f1 ao n cap xs hn with ⟨no, IX⟩ | ⟨k, hk, hp, hno, IX⟩
    · have fd : firstV f xs = defF f := by
        unfold firstV
        have : xs.find? (fun b => nanF f (b % full)) = none := by
          rw [List.find?_eq_none]; unfold anyN at no; rw [List.any_eq_false] at no; exact no
        rw [this]
      cases inv
      · obtain ⟨v, g, o⟩ := pick_none xs no
        rw [v, g, o, hl_zero.1, hl_zero.2]
        exact nan_pick_none f ao n cap xs (lH K) (lH fun bk w ft bs c => IX bk w ft bs c) (by decide) w ft x
      · obtain ⟨v, g, o⟩ := pick_inv h xs
        rw [v, g, o, fd]
        exact nan_pick_inv f _ _ ao n cap xs (lH K) (lH D) (lH fun bk w ft bs c => IX bk w ft bs c) (by decide) (by decide) w ft x
    · obtain ⟨fv, ay⟩ := first_at f (by omega) hp hno
      obtain ⟨a, ha, c0, c1⟩ := x.2.2.2 k hk
      have Q := quietN f (xs.getD k 0) f0 f1
      have g1 : decide ((k : Int) < 0) = false := by simp
      have g2 : decide (0 ≤ (k : Int)) = true := by simp
      have gk : decide ((k : Int) < (n : Int)) = true := by simp; omega
      cases inv
      · obtain ⟨v, g, o⟩ := pick_nan h xs ay
        rw [v, g, o, fv]
        have S : ∀ w, FTab w → Bs w ao n cap xs → _ := fun w ft bs => anyOK.sig f ao n cap xs f0 f1 w ft bs
        rw [show (xs.any fun b => sigF f (b % full)) = anyS f xs from rfl] at S
        by_cases s : anyS f xs = true
        · rw [s] at S ⊢
          exact nan_pick_ft f _ _ _ _ _ _ a k ao n cap xs (lH K) (lH D) (lH Q) (lH S) (lH fun bk w ft bs c => IX bk w ft bs c) ha g1 g2 gk hk w ft x c0 c1
        · rw [show anyS f xs = false by simpa using s] at S ⊢
          exact nan_pick_ff f _ _ _ _ _ _ a k ao n cap xs (lH K) (lH D) (lH Q) (lH S) (lH fun bk w ft bs c => IX bk w ft bs c) ha g1 g2 gk hk w ft x c0 c1
      · obtain ⟨v, g, o⟩ := pick_inv h xs
        rw [v, g, o, fv]
        exact nan_pick_t f _ _ _ _ _ _ a k ao n cap xs (lH K) (lH D) (lH Q) (lH fun bk w ft bs c => IX bk w ft bs c) ha g1 g2 gk hk w ft x c0 c1
  · rw [show decide (f < 4) = false by simp [h]] at K
    obtain ⟨v, g, o⟩ := pick_no h inv xs
    rw [v, g, o, hl_zero.1, hl_zero.2]
    exact nan_pick_no f ao n cap xs inv (lH K) w ft
theorem nanOK : NanOK where
  quiet f b f0 f1 w ft := quietN f b f0 f1 w ft
  dflt f f0 f1 w ft := defN f f0 f1 w ft
  pick f inv ao n cap xs f0 f1 w ft x := pickN f inv ao n cap xs f0 f1 w ft x
end Go.Proofs.YtjdjonekoodalaaGreatDoor
