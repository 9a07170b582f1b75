import Derived.Laws.EntriesVeiled
import Derived.Test.YtbighggnfkdncaaGreatDoorGsB
set_option maxHeartbeats 8000000
set_option linter.unusedVariables false
set_option maxRecDepth 100000
namespace Go.Proofs.YtbighggnfkdncaaGreatDoor
def rt : Nat → Int → Int → Int
  | 0, _, r => r
  | k + 1, a, r => if (r + 2 ^ k) * (r + 2 ^ k) ≤ a then rt k a (r + 2 ^ k) else rt k a r
def rootN (a : Int) : Int := rt 128 a 0
theorem rt_spec (a : Int) : ∀ (k : Nat) (r : Int), RootAt a r k → RootAt a (rt k a r) 0 := by
  intro k
  induction k with
  | zero => intro r h; exact h
  | succ k ih =>
    intro r h
    unfold rt
    by_cases g : (r + 2 ^ k) * (r + 2 ^ k) ≤ a
    · rw [if_pos g]; exact ih _ (root_yes h g)
    · rw [if_neg g]; exact ih _ (root_no h (by omega))
theorem root_spec {a : Int} (h0 : 0 ≤ a) (h1 : a < wfull) : RootAt a (rootN a) 0 :=
  rt_spec a 128 0 ⟨by omega, by simpa using h0, by rw [Int.zero_add, show (2 : Int) ^ 128 * 2 ^ 128 = wfull from by decide +kernel]; exact h1⟩
theorem sq_le {r s : Int} (h0 : 0 ≤ r) (h : r ≤ s) : r * r ≤ s * s := Int.mul_le_mul h h h0 (by omega)
theorem root_mono' {a b r s : Int} (h : a ≤ b) (hr : RootAt a r 0) (hs : RootAt b s 0) : r ≤ s := by
  obtain ⟨r0, r1, r2⟩ := hr
  obtain ⟨s0, s1, s2⟩ := hs
  rcases Int.lt_or_le s r with g | g
  · exfalso
    have := sq_le (r := s + 2 ^ 0) (s := r) (by rw [Int.pow_zero]; omega) (by rw [Int.pow_zero]; omega)
    omega
  · exact g
theorem root_unique {a r s : Int} (hr : RootAt a r 0) (hs : RootAt a s 0) : r = s := by
  have h1 := root_mono' (Int.le_refl a) hr hs
  have h2 := root_mono' (Int.le_refl a) hs hr
  omega
theorem root_range {a : Int} (h0 : 0 ≤ a) (h1 : a < wfull) : 0 ≤ rootN a ∧ rootN a < full ∧ rootN a * rootN a ≤ a ∧ a < (rootN a + 1) * (rootN a + 1) := by
  obtain ⟨r0, r1, r2⟩ := root_spec h0 h1
  rw [Int.pow_zero] at r2
  refine ⟨r0, ?_, r1, r2⟩
  rcases Int.lt_or_le (rootN a) full with g | g
  · exact g
  · exfalso
    have h2 := sq_le (r := full) (by decide) g
    rw [show full * full = wfull from by decide +kernel] at h2
    omega
theorem sq_lt_w {r : Int} (h0 : 0 ≤ r) (h1 : r < full) : 0 ≤ r * r ∧ r * r < wfull ∧ r * r ≤ (full - 1) * (full - 1) := by
  have h2 := sq_le h0 (show r ≤ full - 1 by omega)
  have h3 : (full - 1) * (full - 1) < wfull := by decide +kernel
  exact ⟨Int.mul_nonneg h0 h0, by omega, h2⟩
def exactN (a : Int) : Bool := rootN a * rootN a == a
end Go.Proofs.YtbighggnfkdncaaGreatDoor
set_option linter.unusedSimpArgs false
namespace Go.Proofs.YtbighggnfkdncaaGreatDoor
open Go.RowKit
attribute [local go_sem ↓] Go.wp_at_zero Go.wp_at_succ
structure RootOK : Prop where
  root : ∀ n w, Calls Tryz.prog 82 #[.agg #[.int .u64 (wd0 (n)), .int .u64 (wd1 (n)), .int .u64 (wd2 (n)), .int .u64 (wd3 (n))]] w fun e w' => e = .returned (.tuple #[.agg #[.int .u64 (hiOf (rootN (n % wfull))), .int .u64 (loOf (rootN (n % wfull)))], .bool (exactN (n % wfull))]) ∧ Below w.heap.size w w'
end Go.Proofs.YtbighggnfkdncaaGreatDoor
namespace Go.Proofs.YtbighggnfkdncaaGreatDoor
open Go.RowKit Go.Shelf
attribute [local go_sem] Oper.semAt_some
theorem rowsIn_wide {n : Nat} {P : Program} {row : String} {args : Array Value} {w : World} {R : Value → World → Prop} (h : Rows P row args w R) : RowsIn Fence.wide n P row args w R :=
  fun c cs _ => let ⟨v, w', r, s⟩ := h c cs; ⟨v, w', r, stepsIn_wide.2 s⟩
def noDefers (ops : Array Oper) : Bool := ops.all fun o => match o.op with | .defer _ => false | _ => true
theorem noDefers_spec {ops : Array Oper} (h : noDefers ops = true) {o : Oper} {i : Nat} (ho : ops[i]? = some o) (c : Call) : o.op ≠ .defer c := by
  intro e
  have := Array.all_eq_true_iff_forall_mem.1 h o (Array.mem_of_getElem? ho)
  simp [e] at this
theorem wpOpIn_round_of {n : Nat} {P : Program} {ops : Array Oper} {Q : Exit → Act → World → Prop} (l : Nat) (hQ : ∀ a w, ¬ Q .outgrown a w) (hd : noDefers ops = true) {i : Nat} {K : Act → World → Prop} {a : Act} {w : World} (h : wpOp P ops Q i K a w) : wpOpIn (Fence.wide.inRound l) n P ops Q i K a w := by
  unfold wpOpIn
  unfold wpOp at h
  cases ho : ops[i]? with
  | none => rw [ho] at h; exact h
  | some o =>
    rw [ho] at h
    dsimp only at h ⊢
    split
    · rename_i hw
      rw [if_pos hw] at h
      rcases h with h | ⟨_, a', w', h⟩
      · refine ⟨fun _ _ => trivial, ?_⟩
        show o.uponIn (Fence.wide.inRound l) n P a K Q ((o.semAt (some l) a.eval).run P w)
        rw [Oper.semAt_eq (some l) _ _ (noDefers_spec hd ho)]
        unfold Oper.wp at h
        generalize (execOp a.eval o).run P w = r at *
        cases r with
        | ok x w' =>
          cases x with
          | value v => exact h
          | skip => exact h
          | defer d => exact h
          | enter f args => exact ⟨fun hs => (by cases hs), CallsIn.inRound l (callsIn_wide.2 h)⟩
          | row r args => exact ⟨fun hs => (by cases hs), rowsIn_wide h⟩
          | round => exact h.elim
          | _ => exact h.elim
        | halt x w' => cases x <;> exact h
      · exact (hQ _ _ h).elim
    · rename_i hw
      rw [if_neg hw] at h
      exact ⟨fun _ _ => trivial, h⟩
theorem wpAnyIn_round_of {n : Nat} {P : Program} {md : Region.Mode} {ops : Array Oper} {Q : Exit → Act → World → Prop} (l : Nat) (hQ : ∀ a w, ¬ Q .outgrown a w) (hd : noDefers ops = true) :
    ∀ (fuel : Nat) (listed : Array Bool) (a : Act) (w : World), wpAny P md ops Q fuel listed a w → wpAnyIn (Fence.wide.inRound l) n P md ops Q fuel listed a w := by
  intro fuel
  induction fuel with
  | zero => exact fun _ _ _ h => h
  | succ fuel ih => exact fun listed a w h => ⟨h.1, fun i hi => wpOpIn_round_of l hQ hd (wpOp_mono (fun a w => ih _ a w) (h.2 i hi))⟩
theorem wpIn_region_F {P : Program} {ops : Array Oper} {Q : Exit → Act → World → Prop} {n l id : Nat} {a : Act} {w : World} (sts ds : List Nat) (S : List Bool → List Value → World → Prop) {bs : List Bool} {vs : List Value} (hm : P.follows .mixedOrders = true) (hQ : ∀ a w, ¬ Q .outgrown a w) (hd : noDefers ops = true)
    (hb : stBits sts (Array.replicate ops.size false) = bs) (hv : dsVals ds a = vs) (hS : S bs vs w.drew)
    (h : wpF P .any ops Q sts ds S ops.size (Array.replicate ops.size false) a) : (Code.region id ops true).wpIn (Fence.wide.inRound l) n P Q a w :=
  wpIn_region_any hm (wpAnyIn_round_of l hQ hd _ _ _ _ (wpF_sound _ _ _ h _ (by subst hb hv; exact hS)))
theorem wpIn_forget {F : Fence} {n : Nat} {P : Program} {c : Code} {Q : Exit → Act → World → Prop} {a : Act} {w : World} (St : World → Prop) (h : St w) (k : ∀ W, St W → c.wpIn F n P Q a W) : c.wpIn F n P Q a w := k w h
theorem grownOf {w w' : World} (h : Below w.heap.size w w') : w.grownBy w' none := ⟨h.os, h.tape, h.output, h.size, fun k hk _ => h.block k hk⟩
def topR : Nat → List (Fin 128)
  | 0 => []
  | j + 1 => topR j ++ [Fin.ofNat 128 (127 - j)]
theorem topR_length (j : Nat) : (topR j).length = j := by
  induction j with
  | zero => rfl
  | succ j ih => simp [topR, ih]
def encP (x : Fin 128) : Array Value := #[.agg #[.int .u64 (hiOf (2 ^ x.val)), .int .u64 (loOf (2 ^ x.val))]]
theorem places_in (nn : Nat) (hn : 1 ≤ nn) (l : Nat)
    (J Jx : List (Fin 128) → World → Prop) (hJA : ∀ pre W W', J pre W → Below W.heap.size W W' → J pre W')
    (hY : ∀ pre x W, J pre W → pre.length < 128 → YieldAt Fence.wide (nn - 1) Tryz.prog l (encP x) W fun e W' =>
      (e = .returned (.bool true) ∧ J (pre ++ [x]) W' ∧ True) ∨ (e = .returned (.bool false) ∧ Jx (pre ++ [x]) W'))
    (W : World) (h0 : J [] W) :
    CallsIn Fence.wide nn Tryz.prog 134 #[.func (.yield l) #[] #[]] W fun e W' => (∃ v, e = .returned v) ∧
      ((∃ ys, ys = topR 128 ∧ J ys W') ∨ (∃ pre, True ∧ Jx pre W')) := by
  refine callsIn_of_wp Tryz.func134 rfl trivial ?_ rfl
  simp only [Tryz.ntmps134, List.size_toArray, List.length_cons, List.length_nil, Nat.reduceAdd, Nat.reduceSub, Array.replicate_succ, Array.replicate_zero, List.push_toArray, List.append_toArray, List.nil_append, List.cons_append]
  gi_wp2
  gi_loopw [2] (fun i wr => ∃ j : Nat, j ≤ 128 ∧ i = .int .i64 (127 - j) ∧ J (topR j) wr)
    (fun i _ => (intOf i + 1).toNat)
  case atStart => exact ⟨0, by omega, by simp, h0⟩
  case round =>
    obtain ⟨j, hj, rfl, hJ⟩ := hrel
    by_cases hjL : j = 128
    · have g1 : decide ((0 : Int) ≤ 127 - j) = false := by simp; omega
      gi_wp2
      go_end0
      exact ⟨⟨_, rfl⟩, .inl ⟨_, rfl, hjL ▸ hJ⟩⟩
    · obtain ⟨K, hK⟩ : ∃ K : Nat, (127 : Int) - j = K := ⟨127 - j, by omega⟩
      have hK2 : K < 128 := by omega
      rw [hK]
      have g1 : decide ((0 : Int) ≤ (K : Int)) = true := by simp
      have eK : topR (j + 1) = topR j ++ [⟨K, hK2⟩] := by
        show _ ++ _ = _
        congr 2
        refine Fin.ext ?_
        show (127 - j) % 128 = K
        omega
      have LB := lH (fun w => leftB 1 (K : Int) (by omega) (by omega) w)
      rw [show hiOf 1 = 0 from rfl, show loOf 1 = 1 from rfl, Int.toNat_natCast, Int.one_mul] at LB
      gi_wp2
      refine ⟨trivial, (callsIn_wide.2 (LB.out _)).mono ?_⟩
      rintro e W1 ⟨rfl, hb⟩
      obtain ⟨fn, tmps, assign, body, hy, hR⟩ := hY _ ⟨K, hK2⟩ W1 (hJA _ _ _ hJ hb) (by rw [topR_length]; omega)
      dsimp only [encP] at hy
      clear hY hJA LB
      have hm64 : IntKind.i64.wrap ((K : Int) - 1) = (K : Int) - 1 := IntWalk.i64_in _ (by omega)
      generalize hiOf (2 ^ K) = ph at *
      generalize loOf (2 ^ K) = pl at *
      gi_wp2
      refine hR.mono ?_
      rintro e W3 (⟨rfl, hJ3, _⟩ | ⟨rfl, hJx3⟩)
      · gi_wp2
        go_roundw
        case rel => exact ⟨j + 1, by omega, by rw [← hK]; congr 1; omega, by rw [eK]; exact hJ3⟩
        case measure => simp [intOf]
      · gi_wp2
        refine bodyPost_ret (results_none rfl _ _ _) rfl ?_
        exact ⟨⟨_, rfl⟩, .inr ⟨_, trivial, hJx3⟩⟩
theorem places_stops (nn : Nat) (hn : 1 ≤ nn) (w : World) :
    SeqStopsK Fence.wide nn Tryz.prog 134 #[] encP (fun _ _ => True) (fun ys => ys = topR 128) (fun _ => True) 128 w :=
  fun l J Jx W hW hJ hJx hY h0 =>
    places_in nn hn l J Jx (fun pre A B h hb => hJ pre A B none h (grownOf hb) (by simp)) hY W h0
end Go.Proofs.YtbighggnfkdncaaGreatDoor
namespace Go.Proofs.YtbighggnfkdncaaGreatDoor
open Go.RowKit Go.Shelf
attribute [local go_sem] Oper.semAt_some
def stepR (n r : Int) (x : Fin 128) : Int := if (r + 2 ^ x.val) % full * ((r + 2 ^ x.val) % full) ≤ n % wfull then r + 2 ^ x.val else r
def stR (n : Int) (pre : List (Fin 128)) : Int := pre.foldl (stepR n) 0
theorem stR_snoc (n : Int) (pre : List (Fin 128)) (x : Fin 128) : stR n (pre ++ [x]) = stepR n (stR n pre) x := by simp [stR]
theorem root_full {a r : Int} (h0 : 0 ≤ r) (h : r * r ≤ a) (h1 : a < wfull) : r < full := by
  rcases Int.lt_or_le r full with g | g
  · exact g
  · exfalso
    have h2 := sq_le (r := full) (by decide) g
    rw [show full * full = wfull from by decide +kernel] at h2
    omega
theorem stR_top (n : Int) : ∀ j k : Nat, j + k = 128 → RootAt (n % wfull) (stR n (topR j)) k ∧ ∃ q, stR n (topR j) = 2 ^ k * q := by
  have m := mod_w n
  intro j
  induction j with
  | zero =>
    intro k hk
    obtain rfl : k = 128 := by omega
    refine ⟨⟨Int.le_refl _, m.1, ?_⟩, 0, rfl⟩
    show n % wfull < (0 + 2 ^ 128) * (0 + 2 ^ 128)
    rw [Int.zero_add, show (2 : Int) ^ 128 * 2 ^ 128 = wfull from by decide +kernel]; exact m.2
  | succ j ih =>
    intro k hk
    obtain ⟨h, q, hq⟩ := ih (k + 1) (by omega)
    have kx : (Fin.ofNat 128 (127 - j)).val = k := by show (127 - j) % 128 = k; omega
    rw [show topR (j + 1) = topR j ++ [Fin.ofNat 128 (127 - j)] from rfl, stR_snoc]
    unfold stepR
    rw [kx]
    generalize stR n (topR j) = r at *
    have hp := two_pow_pos k
    have hr := root_full h.1 h.2.1 m.2
    have hs : 0 ≤ r + 2 ^ k ∧ r + 2 ^ k < full := by
      have e : full = 2 ^ (k + 1) * 2 ^ (127 - k) := by rw [← full_pow, ← Int.pow_add]; congr 1; omega
      have hq1 : q < 2 ^ (127 - k) := by
        rw [hq, e] at hr
        exact Int.lt_of_mul_lt_mul_left hr (by have := two_pow_pos (k + 1); omega)
      have hq2 := Int.mul_le_mul_of_nonneg_left (show q + 1 ≤ 2 ^ (127 - k) by omega) (show (0 : Int) ≤ 2 ^ (k + 1) by have := two_pow_pos (k + 1); omega)
      rw [← e, Int.mul_add, ← hq, Int.mul_one, Int.pow_succ] at hq2
      have := h.1
      omega
    rw [Int.emod_eq_of_lt hs.1 hs.2]
    by_cases g : (r + 2 ^ k) * (r + 2 ^ k) ≤ n % wfull
    · rw [if_pos g]
      exact ⟨root_yes h g, 2 * q + 1, by rw [hq, Int.pow_succ, Int.mul_add, Int.mul_one, Int.mul_assoc]⟩
    · rw [if_neg g]
      exact ⟨root_no h (by omega), 2 * q, by rw [hq, Int.pow_succ, Int.mul_assoc]⟩
theorem stR_root (n : Int) : stR n (topR 128) = rootN (n % wfull) :=
  root_unique (stR_top n 128 0 (by omega)).1 (root_spec (mod_w n).1 (mod_w n).2)
theorem cmpI_leq (a b : Int) : decide (cmpI a b ≤ 0) = decide (a ≤ b) := by
  unfold cmpI
  split
  · rename_i h; simp; omega
  · split <;> rename_i h1 h2 <;> simp <;> omega
def RI (w : World) (B : Nat) (n : Int) (pre : List (Fin 128)) (W : World) : Prop :=
  ((HB W w.heap.size 87 #[.int .u64 (wd0 n), .int .u64 (wd1 n), .int .u64 (wd2 n), .int .u64 (wd3 n)] ∧ HB W (w.heap.size + 1) 28 #[.int .u64 0, .int .u64 0]) ∧ HB W (w.heap.size + 1 + 1) 28 #[.int .u64 (hiOf (stR n pre)), .int .u64 (loOf (stR n pre))]) ∧
  (Below w.heap.size w W ∧ B ≤ W.heap.size)
theorem RI.later {w W V : World} {B : Nat} {n : Int} {pre pre' : List (Fin 128)} (hI : RI w B n pre W) (hb : Below W.heap.size W V) (h : stR n pre' = stR n pre) : RI w B n pre' V := by
  obtain ⟨⟨⟨g0, g1⟩, g2⟩, hB1, hle⟩ := hI
  refine ⟨⟨⟨g0.later hb, g1.later hb⟩, ?_⟩, bC hB1 hb, lZ hle hb.size⟩
  rw [h]; exact g2.later hb
theorem rend_no {w W V : World} {B : Nat} {n : Int} {pre pre' : List (Fin 128)} (hI : RI w B n pre W) (hb : Below W.heap.size W V) (h : stR n pre' = stR n pre) : KeepsFrom B W V ∧ True ∧ RI w B n pre' V :=
  ⟨KeepsFrom.of_grownBy (grownOf hb) (fun j e => by cases e), trivial, hI.later hb h⟩
theorem rend_yes {w W V : World} {B : Nat} {n t : Int} {pre pre' : List (Fin 128)} (hI : RI w B n pre W) (hb : Below W.heap.size W V) (h : stR n pre' = t) :
    KeepsFrom B W ((V.setCell ⟨w.heap.size + 1 + 1, 0, none⟩ (.int .u64 (hiOf t))).setCell ⟨w.heap.size + 1 + 1, 1, none⟩ (.int .u64 (loOf t))) ∧ True ∧ RI w B n pre' ((V.setCell ⟨w.heap.size + 1 + 1, 0, none⟩ (.int .u64 (hiOf t))).setCell ⟨w.heap.size + 1 + 1, 1, none⟩ (.int .u64 (loOf t))) := by
  subst h
  obtain ⟨⟨⟨g0, g1⟩, g2⟩, hB1, hle⟩ := hI.later hb rfl
  have ko := (KeepsOthers.setCell V ⟨w.heap.size + 1 + 1, 0, none⟩ (.int .u64 (hiOf (stR n pre')))).trans (KeepsOthers.setCell _ ⟨w.heap.size + 1 + 1, 1, none⟩ (.int .u64 (loOf (stR n pre'))))
  refine ⟨(KeepsFrom.of_grownBy (grownOf hb) (fun j e => by cases e)).trans (ko.from _), trivial, ⟨⟨(g0.other (by omega) _ _).other (by omega) _ _, (g1.other (by omega) _ _).other (by omega) _ _⟩, (g2.set 0 _).set 1 _⟩, ?_, lZ hle ko.1⟩
  exact (hB1.setCell (p := ⟨w.heap.size + 1 + 1, 0, none⟩) (by show w.heap.size ≤ w.heap.size + 1 + 1; omega) _).setCell (p := ⟨w.heap.size + 1 + 1, 1, none⟩) (by show w.heap.size ≤ w.heap.size + 1 + 1; omega) _
def RS (w : World) (D : Nat) (n R : Int) (bs : List Bool) (_ : List Value) (W : World) : Prop :=
  HB W w.heap.size 87 #[.int .u64 (wd0 n), .int .u64 (wd1 n), .int .u64 (wd2 n), .int .u64 (wd3 n)] ∧ HB W (w.heap.size + 1 + 1) 28 #[.int .u64 (hiOf R), .int .u64 (loOf R)] ∧
  Below w.heap.size w W ∧ W.heap[D]? = some (.deferred (some [])) ∧ (noBits bs → HB W (w.heap.size + 1) 28 #[.int .u64 0, .int .u64 0]) ∧ (¬ noBits bs → HB W (w.heap.size + 1) 28 #[.int .u64 (hiOf R), .int .u64 (loOf R)])
theorem RS.later {w W V : World} {D : Nat} {n R : Int} {bs : List Bool} {vs : List Value} (h : RS w D n R bs vs W) (hb : Below W.heap.size W V) : RS w D n R bs vs V := by
  obtain ⟨a, b, c, d, e, f⟩ := h
  exact ⟨a.later hb, b.later hb, bC c hb, (hb.block D (Array.getElem?_eq_some_iff.1 d).1).trans d, fun h => (e h).later hb, fun h => (f h).later hb⟩
theorem RS.drew {w W : World} {D : Nat} {n R : Int} {bs : List Bool} {vs : List Value} (h : RS w D n R bs vs W) : RS w D n R bs vs W.drew := h.later bR.drew
theorem RS.store {w W : World} {D : Nat} {n R : Int} {vs vs' : List Value} (hD : w.heap.size + 3 ≤ D) (h : RS w D n R [false] vs W) : RS w D n R [true] vs' ((W.setCell ⟨w.heap.size + 1, 0, none⟩ (.int .u64 (hiOf R))).setCell ⟨w.heap.size + 1, 1, none⟩ (.int .u64 (loOf R))) := by
  obtain ⟨a, b, c, d, e, f⟩ := h
  refine ⟨(a.other (by omega) _ _).other (by omega) _ _, (b.other (by omega) _ _).other (by omega) _ _, ?_, ?_, fun h => (bits_t h).elim, fun _ => ((e noBits_f).set 0 _).set 1 _⟩
  · exact (c.setCell (p := ⟨w.heap.size + 1, 0, none⟩) (by show w.heap.size ≤ w.heap.size + 1; omega) _).setCell (p := ⟨w.heap.size + 1, 1, none⟩) (by show w.heap.size ≤ w.heap.size + 1; omega) _
  · have n1 : D ≠ w.heap.size + 1 := by omega
    exact (Below.heap_setCell _ ⟨w.heap.size + 1, 1, none⟩ _ D n1).trans ((Below.heap_setCell _ ⟨w.heap.size + 1, 0, none⟩ _ D n1).trans d)
theorem RS.fin {w W : World} {D : Nat} {n R : Int} {vs : List Value} (hD : w.heap.size + 3 ≤ D) (h : RS w D n R [true] vs W) :
    HB (W.putObj D (.deferred none)) (w.heap.size + 1) 28 #[.int .u64 (hiOf R), .int .u64 (loOf R)] ∧ W.heap[D]? = some (.deferred (some [])) ∧ Below w.heap.size w (W.putObj D (.deferred none)) := by
  obtain ⟨a, b, c, d, e, f⟩ := h
  exact ⟨(World.putObj_heap_other (by omega)).trans (f bits_t), d, c.trans (belowK_b (w := w) (Nat.le_refl _) _ D _ _ (by omega) d rfl rfl)⟩
theorem root_in (nn : Nat) (hn : 3 ≤ nn) (n : Int) (w : World) :
    CallsIn Fence.wide nn Tryz.prog 82 #[.agg #[.int .u64 (wd0 n), .int .u64 (wd1 n), .int .u64 (wd2 n), .int .u64 (wd3 n)]] w fun e w' =>
      e = .returned (.tuple #[.agg #[.int .u64 (hiOf (rootN (n % wfull))), .int .u64 (loOf (rootN (n % wfull)))], .bool (exactN (n % wfull))]) ∧ Below w.heap.size w w' := by
  have h1 : 1 ≤ nn := by omega
  have hr := root_range (mod_w n).1 (mod_w n).2
  obtain ⟨RR, hRR⟩ : ∃ R, rootN (n % wfull) = R := ⟨_, rfl⟩
  obtain ⟨ex, hex⟩ : ∃ ex, exactN (n % wfull) = ex := ⟨_, rfl⟩
  rw [hRR] at hr
  rw [hRR, hex]
  refine callsIn_of_wp_marks Tryz.func82 rfl trivial ?_ rfl
  simp only [Tryz.ntmps82, List.size_toArray, List.length_cons, List.length_nil, Nat.reduceAdd, Nat.reduceSub, Array.replicate_succ, Array.replicate_zero, List.push_toArray, List.append_toArray, List.nil_append, List.cons_append]
  gi_wp2
  obtain ⟨W0, hW0⟩ : ∃ W0, ((w.alloc (.cells #[.int .u64 (wd0 n), .int .u64 (wd1 n), .int .u64 (wd2 n), .int .u64 (wd3 n)] 87)).alloc (.cells #[.int .u64 0, .int .u64 0] 28)).alloc (.cells #[.int .u64 0, .int .u64 0] 28) = W0 := ⟨_, rfl⟩
  have hI0 : RI w W0.heap.size n [] W0 := by
    subst hW0
    exact ⟨⟨⟨((HB.new w _ _).alloc _).alloc _, (HB.newAt (by simp) _ _).alloc _⟩, HB.newAt (by simp) _ _⟩, bA (bA (bA bR _) _) _, Nat.le_refl _⟩
  have hsz : W0.heap.size = w.heap.size + 3 := by subst hW0; simp
  rw [hW0]
  clear hW0
  refine wpIn_rangeFunc_ownH rfl h1 (gf := 134) (lb := #[]) rfl trivial (enters_of Tryz.func134 (by kernel_rfl) rfl)
    (places_stops (nn - 1) (by omega) W0) (fun _ _ => trivial) (fun _ _ _ _ _ _ _ _ => trivial) bR (fun _ => rfl)
    (RI w W0.heap.size n) (fun _ _ _ => False)
    (OwnFrom.and (OwnFrom.and (OwnFrom.and (Own.from (hb_own _ _ (fun _ => _)) _) (Own.from (hb_own _ _ (fun _ => _)) _)) (Own.from (hb_own _ _ _) _)) (OwnFrom.and (ownFrom_below (Nat.le_refl _) (by omega)) (fun _ X Y row hs hg hr => lZ hs hg.size)))
    (fun _ _ _ _ _ hs _ _ => hs)
    hI0
    (fun x a' W => ∃ Bx, w.heap.size + 3 ≤ Bx ∧ HB W Bx 28 #[.int .u64 (hiOf (2 ^ x.val)), .int .u64 (loOf (2 ^ x.val))] ∧ a' = { tmps := #[.agg #[.int .u64 (wd0 n), .int .u64 (wd1 n), .int .u64 (wd2 n), .int .u64 (wd3 n)], .pointer (some ⟨w.heap.size, 0, none⟩), .pointer (some ⟨w.heap.size + 1, 0, none⟩), .bool false, .pointer (some ⟨w.heap.size + 1 + 1, 0, none⟩), .pointer (some ⟨Bx, 0, none⟩), undef, undef, .agg #[.int .u64 (hiOf (2 ^ x.val)), .int .u64 (loOf (2 ^ x.val))],
      undef, undef, undef, undef, undef, undef, undef, undef, undef, undef, undef, undef, undef, undef, undef, undef, undef, undef, undef], defers := [] })
    (fun x a' _ X Y row hs hg hr => by obtain ⟨Bx, h1, h2, h3⟩ := hs; exact ⟨Bx, h1, hb_own Bx _ (fun (_ : Unit) => #[Value.int .u64 (hiOf (2 ^ x.val)), Value.int .u64 (loOf (2 ^ x.val))]) () X Y row h2 hg (fun r e => (hr r e).2), h3⟩)
    ?assign ?body ?done ?stop
  case assign =>
    rintro l pre x W K hI hK
    dsimp only [encP]
    gi_wp2
    exact hK _ _ ((KeepsOthers.alloc _ _).from _) trivial (hI.later (bR.alloc (Nat.le_refl _) _) rfl) ⟨W.heap.size, by have := hI.2.2; omega, HB.new W _ _, rfl⟩
  case body =>
    rintro l pre x a' W hl ⟨r, hr⟩ hI ⟨Bx, hBx, gX, rfl⟩ hlt
    have hmx : Tryz.prog.follows .mixedOrders = true := by kernel_rfl
    have hI2 := hI
    obtain ⟨⟨⟨g0, g1⟩, g2⟩, hB1, hle⟩ := hI2
    have key : stR n (pre ++ [x]) = if (stR n pre + 2 ^ x.val) % full * ((stR n pre + 2 ^ x.val) % full) ≤ n % wfull then stR n pre + 2 ^ x.val else stR n pre := stR_snoc n pre x
    have HI := lH hI
    have KEY := lH key
    obtain ⟨R, hR⟩ : ∃ R, stR n pre = R := ⟨_, rfl⟩
    obtain ⟨p, hp⟩ : ∃ p : Int, 2 ^ x.val = p := ⟨_, rfl⟩
    rw [hR] at g2
    rw [hp] at gX ⊢
    have x0 := gX.cell 0; have x1 := gX.cell 1; have r0 := g2.cell 0; have r1 := g2.cell 1; dsimp at x0 x1 r0 r1
    clear hI key gX hr
    gi_wp2
    refine ⟨trivial, fun _ => by omega, (CallsIn.inRound l (callsIn_wide.2 (addB R p _))).mono ?_⟩
    rintro e W1 ⟨rfl, hb⟩
    replace g0 := g0.later hb
    clear x0 x1 r0 r1
    gi_wp2
    refine wpIn_forget (fun V => Below W.heap.size W V ∧ HB V W1.heap.size 28 #[.int .u64 (hiOf (R + p)), .int .u64 (loOf (R + p))] ∧ HB V w.heap.size 87 #[.int .u64 (wd0 n), .int .u64 (wd1 n), .int .u64 (wd2 n), .int .u64 (wd3 n)]) ⟨bA hb _, HB.new _ _ _, g0.alloc _⟩ (fun V hst => ?_)
    obtain ⟨hV, gq, gn⟩ := hst
    have hlt2 := hlt
    clear hlt hb g0 g1 g2 hB1 hle
    generalize W1.heap.size = q at *
    have y0 := gq.cell 0; have y1 := gq.cell 1; have n0 := gn.cell 0; have n1 := gn.cell 1; have n2 := gn.cell 2; have n3 := gn.cell 3; dsimp at y0 y1 n0 n1 n2 n3
    refine wpIn_region_F [] [] (LS V (fun _ _ => True) (fun _ _ _ => True)) hmx (fun _ _ h => h) (by kernel_rfl) (bs := []) (vs := []) (by kernel_rfl) rfl (LS.before noBits_nil bR.drew trivial) ?_
    refine wpF_take (i := 0) (v := ?vq1) rfl (by kernel_rfl) (by kernel_rfl) (fun _ _ _ h => h) (LS.load (by rfl) ?yq1) ?rq1
    case yq1 => (intro wq hb; have ly0 := cL hb y0; have ly1 := cL hb y1; go_simp; try (with_reducible rfl))
    try simp only [zA, zB, zC, Act.put, zD, zE, zF]
    refine wpF_take (i := 1) (v := ?vq2) rfl (by kernel_rfl) (by kernel_rfl) (fun _ _ _ h => h) (LS.load (by rfl) ?yq2) ?rq2
    case yq2 => (intro wq hb; have ly0 := cL hb y0; have ly1 := cL hb y1; go_simp; try (with_reducible rfl))
    try simp only [zA, zB, zC, Act.put, zD, zE, zF]
    refine wpF_take (i := 2) (v := _) rfl (by kernel_rfl) (by kernel_rfl) (fun _ _ _ h => h) (LS.call lasts_true (by rfl) _ _ ?yq3 (fun W => mulW (R + p) (R + p) W)) ?rq3
    case yq3 => (intro wq; go_simp; try (with_reducible rfl))
    try simp only [zA, zB, zC, Act.put, zD, zE, zF]
    refine wpF_take (i := 3) (v := ?vq4) rfl (by kernel_rfl) (by kernel_rfl) (fun _ _ _ h => h) (LS.load (by rfl) ?yq4) ?rq4
    case yq4 => (intro wq hb; have ln0 := cL hb n0; have ln1 := cL hb n1; have ln2 := cL hb n2; have ln3 := cL hb n3; go_simp; try (with_reducible rfl))
    try simp only [zA, zB, zC, Act.put, zD, zE, zF]
    refine wpF_take (i := 4) (v := _) rfl (by kernel_rfl) (by kernel_rfl) (fun _ _ _ h => h) (LS.call lasts_true (by rfl) _ _ ?yq5 (fun W => cmpW ((R + p) % full * ((R + p) % full)) n W)) ?rq5
    case yq5 => (intro wq; go_simp; try (with_reducible rfl))
    try simp only [zA, zB, zC, Act.put, zD, zE, zF]
    refine wpF_yield (i := 5) (v := ?vq6) rfl (by kernel_rfl) (by kernel_rfl) (fun _ _ _ h => h) (Or.inl ⟨by rfl, ?yq6⟩) ?rq6
    case yq6 => (intro wq; go_simp; try (with_reducible rfl))
    try simp only [zA, zB, zC, Act.put, zD, zE, zF]
    refine wpF_done (bs := []) (vs := []) (by kernel_rfl) (by kernel_rfl) rfl (fun V2 hS => ?_) _
    obtain ⟨hb, _⟩ := hS.1 noBits_nil
    have gm := (mod_f (R + p))
    have g2 := sq_lt_w gm.1 gm.2
    have em : (R + p) % full * ((R + p) % full) % wfull = (R + p) % full * ((R + p) % full) := Int.emod_eq_of_lt g2.1 g2.2.1
    have ec := cmpI_leq ((R + p) % full * ((R + p) % full) % wfull) (n % wfull)
    rw [em] at ec
    rw [em]
    have hb2 := bC hV hb
    replace y0 := cL hb y0; replace y1 := cL hb y1
    have z0 := (show RI w W0.heap.size n pre V2 from HI.out.later hb2 rfl).1.2
    rw [hR] at z0
    have t0 := z0.cell 0; have t1 := z0.cell 1; have f0 := z0.frozen 0; have f1 := z0.frozen 1; dsimp at t0 t1
    by_cases hg : (R + p) % full * ((R + p) % full) ≤ n % wfull
    · have hk := KEY.out
      rw [hR, hp, if_pos hg] at hk
      have E := lH (rend_yes HI.out hb2 hk)
      have ed := ec.trans (decide_eq_true hg)
      clear n0 n1 n2 n3 hg ec hk em g2 gm hb2 z0 hS gn gq hb hV
      generalize cmpI ((R + p) % full * ((R + p) % full)) (n % wfull) = cc at *
      rw [ed]
      gi_wp2
      exact E.out
    · have hk := KEY.out
      rw [hR, hp, if_neg hg] at hk
      have E := lH (rend_no HI.out hb2 (hk.trans hR.symm))
      have ed := ec.trans (decide_eq_false hg)
      clear n0 n1 n2 n3 hg ec hk em g2 gm hb2 z0 hS gn gq hb hV
      generalize cmpI ((R + p) % full * ((R + p) % full)) (n % wfull) = cc at *
      rw [ed]
      gi_wp2
      exact E.out
  case done =>
    rintro D zs W hD rfl hI hK
    have hmx : Tryz.prog.follows .mixedOrders = true := by kernel_rfl
    have hS0 : RS w D n RR [false] [] W := by
      obtain ⟨⟨⟨g0, g1⟩, g2⟩, hB1, hle⟩ := hI
      rw [stR_root, hRR] at g2
      exact ⟨g0, g2, hB1, hK, fun _ => g1, fun h => (h noBits_f).elim⟩
    have EQ : ∀ w, (binOp .eql 87 (.agg #[.int .u64 (wd0 (RR % full * (RR % full))), .int .u64 (wd1 (RR % full * (RR % full))), .int .u64 (wd2 (RR % full * (RR % full))), .int .u64 (wd3 (RR % full * (RR % full)))]) (.agg #[.int .u64 (wd0 n), .int .u64 (wd1 n), .int .u64 (wd2 n), .int .u64 (wd3 n)])).run Tryz.prog w = .ok (.bool ex) w := fun w => by
      rw [eql_wide, ← hex]
      congr 2
      obtain ⟨m0, m1, m2, m3⟩ := wd_mod n
      rw [← m0, ← m1, ← m2, ← m3, Int.emod_eq_of_lt hr.1 hr.2.1]
      have sq := sq_lt_w hr.1 hr.2.1
      have inj := wd_inj sq.1 sq.2.1 (mod_w n).1 (mod_w n).2
      unfold exactN
      rw [hRR]
      rw [Bool.eq_iff_iff]
      simp only [Bool.and_eq_true, beq_iff_eq]
      constructor
      · rintro h; exact inj.1 (by simpa [and_assoc] using h)
      · intro h; have := inj.2 h; simpa [and_assoc] using this
    clear hI hK hex
    gi_wp2
    refine wpIn_mono (Q := NoPanic _) ?_ NoPanic.imp
    refine wpIn_wide.2 ?_
    refine wp_region_F [6] [] (RS w D n RR) hmx (bs := [false]) (vs := []) (by kernel_rfl) rfl hS0.drew ?_
    clear hS0
    refine wpF_takeAny (i := 0) (v := ?v0) rfl (by kernel_rfl) (by kernel_rfl) (fun _ _ _ h => h) (Gives.value (by rfl) ?y0) ?r0
    case y0 => (intro bs vs wq _ hS; have z0 := hS.2.1.cell 0; have z1 := hS.2.1.cell 1; dsimp at z0 z1; clear hS; go_simp; try (with_reducible rfl))
    try simp only [zA, zB, zC, Act.put, zD, zE, zF]
    refine wpF_takeAny (i := 1) (v := ?v1) rfl (by kernel_rfl) (by kernel_rfl) (fun _ _ _ h => h) (Gives.value (by rfl) ?y1) ?r1
    case y1 => (intro bs vs wq _ hS; have z0 := hS.2.1.cell 0; have z1 := hS.2.1.cell 1; dsimp at z0 z1; clear hS; go_simp; try (with_reducible rfl))
    try simp only [zA, zB, zC, Act.put, zD, zE, zF]
    refine wpF_takeAny (i := 2) (v := ?v2) rfl (by kernel_rfl) (by kernel_rfl) (fun _ _ _ h => h) (Gives.value (by rfl) ?y2) ?r2
    case y2 => (intro bs vs wq _ hS; have z0 := hS.2.1.cell 0; have z1 := hS.2.1.cell 1; dsimp at z0 z1; clear hS; go_simp; try (with_reducible rfl))
    try simp only [zA, zB, zC, Act.put, zD, zE, zF]
    refine wpF_takeAny (i := 3) (v := _) rfl (by kernel_rfl) (by kernel_rfl) (fun _ _ _ h => h) (Gives.call (by rfl) _ _ ?y3 (fun bs vs wq _ hS => (mulW RR RR wq).mono fun e w' h => ⟨h.1, hS.later h.2⟩)) ?r3
    case y3 => (intro wq; go_simp; try (with_reducible rfl))
    try simp only [zA, zB, zC, Act.put, zD, zE, zF]
    refine wpF_takeAny (i := 4) (v := ?v4) rfl (by kernel_rfl) (by kernel_rfl) (fun _ _ _ h => h) (Gives.value (by rfl) ?y4) ?r4
    case y4 => (intro bs vs wq _ hS; have z0 := hS.1.cell 0; have z1 := hS.1.cell 1; have z2 := hS.1.cell 2; have z3 := hS.1.cell 3; dsimp at z0 z1 z2 z3; clear hS; go_simp; try (with_reducible rfl))
    try simp only [zA, zB, zC, Act.put, zD, zE, zF]
    refine wpF_yield (i := 5) (v := .bool ex) rfl (by kernel_rfl) (by kernel_rfl) (fun _ _ _ h => h) (Or.inl ⟨by rfl, ?y5⟩) ?r5
    case y5 => (intro wq; go_simp; try (with_reducible rfl))
    try simp only [zA, zB, zC, Act.put, zD, zE, zF]
    refine wpF_step (i := 6) (bs := [false]) (bs' := [true]) (vs := []) (by kernel_rfl) rfl (by kernel_rfl) rfl (by kernel_rfl) (fun wq hS K hK => ?_)
    have Z := lH (hS.store (vs' := []) (by omega))
    have hf := hS.2.2.2.2.1 noBits_f
    have z0 := hf.cell 0; have z1 := hf.cell 1; have f0 := hf.frozen 0; have f1 := hf.frozen 1; dsimp at z0 z1
    clear hf hS
    go_simp
    refine hK.out _ _ Z.out ?_
    clear hK Z z0 z1 f0 f1
    try simp only [zA, zB, zC, Act.put, zD, zE, zF]
    refine wpF_yield (i := 7) (v := ?v7) rfl (by kernel_rfl) (by kernel_rfl) (fun _ _ _ h => h) (Or.inl ⟨by rfl, ?y7⟩) ?r7
    case y7 => (intro wq; go_simp; try (with_reducible rfl))
    try simp only [zA, zB, zC, Act.put, zD, zE, zF]
    refine wpF_done (bs := [true]) (vs := []) (by kernel_rfl) (by kernel_rfl) rfl (fun V hS => ?_) _
    refine NoPanic.normal ?_
    obtain ⟨k1, k2, k3⟩ := hS.fin (by omega)
    have KEY := lH (And.intro k1 (And.intro k2 k3))
    clear k1 k2 k3 hS
    gi_wp2
    try simp only [zA, zB, zC, Act.put, zD, zE, zF]
    obtain ⟨k1, k2, k3⟩ := KEY.out
    have a0 := k1.cell 0
    have a1 := k1.cell 1
    dsimp at a0 a1
    refine ⟨by simp, .inl ⟨_, _, rfl, run_takeDeferred k2, ?_⟩⟩
    refine ⟨.tuple #[.agg #[.int .u64 (hiOf RR), .int .u64 (loOf RR)], .bool ex], ?_, rfl, k3⟩
    clear k1 k2 k3 KEY
    simp [results, Tryz.results82, go_sem, a0, a1]
  case stop =>
    rintro D c pre W _ _ h _
    exact h.elim
theorem rootOK : RootOK := ⟨fun n w => (callsIn_wide (n := 3)).1 (root_in 3 (by omega) n w)⟩
end Go.Proofs.YtbighggnfkdncaaGreatDoor
