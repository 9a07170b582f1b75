/-
  Package root's iterator over the powers of 2 that may be bits of a root, from the greatest down; and a region that draws, within a round.
-/
import Derived.Laws.EntriesVeiled
import Derived.Test.YtbibinmjipcdjaaGsB
import Derived.Test.YtbibinmjipcdjaaGaB
import Derived.Test.YtbibinmjipcdjaaRootP
set_option linter.unusedVariables false
set_option linter.unusedSimpArgs false
set_option maxRecDepth 100000
namespace Go.Proofs.Ytbibinmjipcdjaa
open Go.RowKit Go.Shelf
attribute [local go_sem] Oper.semAt_some

/-! ### A region that draws, within a round: as anywhere -/
theorem rowsIn_wide {n : Nat} {P : Program} {row : String} {args : Array Value} {w : World} {R : Value → World → Prop} (h : Rows P row args w R) : RowsIn Fence.wide n P row args w R :=
  fun c cs _ => let ⟨v, w', r, s⟩ := h c cs; ⟨v, w', r, stepsIn_wide.2 s⟩
def noDefers (ops : Array Oper) : Bool := ops.all fun o => match o.op with | .defer _ => false | _ => true
theorem noDefers_spec {ops : Array Oper} (h : noDefers ops = true) {o : Oper} {i : Nat} (ho : ops[i]? = some o) (c : Call) : o.op ≠ .defer c := by
  intro e
  have := Array.all_eq_true_iff_forall_mem.1 h o (Array.mem_of_getElem? ho)
  simp [e] at this
theorem wpOpIn_round_of {n : Nat} {P : Program} {ops : Array Oper} {Q : Exit → Act → World → Prop} (l : Nat) (hQ : ∀ a w, ¬ Q .outgrown a w) (hd : noDefers ops = true) {i : Nat} {K : Act → World → Prop} {a : Act} {w : World} (h : wpOp P ops Q i K a w) : wpOpIn (Fence.wide.inRound l) n P ops Q i K a w := by
  unfold wpOpIn
  unfold wpOp at h
  cases ho : ops[i]? with
  | none => rw [ho] at h; exact h
  | some o =>
    rw [ho] at h
    dsimp only at h ⊢
    split
    · rename_i hw
      rw [if_pos hw] at h
      rcases h with h | ⟨_, a', w', h⟩
      · refine ⟨fun _ _ => trivial, ?_⟩
        show o.uponIn (Fence.wide.inRound l) n P a K Q ((o.semAt (some l) a.eval).run P w)
        rw [Oper.semAt_eq (some l) _ _ (noDefers_spec hd ho)]
        unfold Oper.wp at h
        generalize (execOp a.eval o).run P w = r at *
        cases r with
        | ok x w' =>
          cases x with
          | value v => exact h
          | skip => exact h
          | defer d => exact h
          | enter f args => exact ⟨fun hs => (by cases hs), CallsIn.inRound l (callsIn_wide.2 h)⟩
          | row r args => exact ⟨fun hs => (by cases hs), rowsIn_wide h⟩
          | round => exact h.elim
          | _ => exact h.elim
        | halt x w' => cases x <;> exact h
      · exact (hQ _ _ h).elim
    · rename_i hw
      rw [if_neg hw] at h
      exact ⟨fun _ _ => trivial, h⟩
theorem wpAnyIn_round_of {n : Nat} {P : Program} {md : Region.Mode} {ops : Array Oper} {Q : Exit → Act → World → Prop} (l : Nat) (hQ : ∀ a w, ¬ Q .outgrown a w) (hd : noDefers ops = true) :
    ∀ (fuel : Nat) (listed : Array Bool) (a : Act) (w : World), wpAny P md ops Q fuel listed a w → wpAnyIn (Fence.wide.inRound l) n P md ops Q fuel listed a w := by
  intro fuel
  induction fuel with
  | zero => exact fun _ _ _ h => h
  | succ fuel ih => exact fun listed a w h => ⟨h.1, fun i hi => wpOpIn_round_of l hQ hd (wpOp_mono (fun a w => ih _ a w) (h.2 i hi))⟩
theorem wpIn_region_F {P : Program} {ops : Array Oper} {Q : Exit → Act → World → Prop} {n l id : Nat} {a : Act} {w : World} (sts ds : List Nat) (S : List Bool → List Value → World → Prop) {bs : List Bool} {vs : List Value} (hm : P.follows .mixedOrders = true) (hQ : ∀ a w, ¬ Q .outgrown a w) (hd : noDefers ops = true)
    (hb : stBits sts (Array.replicate ops.size false) = bs) (hv : dsVals ds a = vs) (hS : S bs vs w.drew)
    (h : wpF P .any ops Q sts ds S ops.size (Array.replicate ops.size false) a) : (Code.region id ops true).wpIn (Fence.wide.inRound l) n P Q a w :=
  wpIn_region_any hm (wpAnyIn_round_of l hQ hd _ _ _ _ (wpF_sound _ _ _ h _ (by subst hb hv; exact hS)))
theorem wpIn_forget {F : Fence} {n : Nat} {P : Program} {c : Code} {Q : Exit → Act → World → Prop} {a : Act} {w : World} (St : World → Prop) (h : St w) (k : ∀ W, St W → c.wpIn F n P Q a W) : c.wpIn F n P Q a w := k w h
theorem grownOf {w w' : World} (h : Below w.heap.size w w') : w.grownBy w' none := ⟨h.os, h.tape, h.output, h.size, fun k hk _ => h.block k hk⟩

/-- The bits from the top: the first j of them. -/
def topR : Nat → List (Fin 128)
  | 0 => []
  | j + 1 => topR j ++ [Fin.ofNat 128 (127 - j)]
theorem topR_length (j : Nat) : (topR j).length = j := by
  induction j with
  | zero => rfl
  | succ j ih => simp [topR, ih]
/-- What is handed to a round. -/
def encP (x : Fin 128) : Array Value := #[.agg #[.int .u64 (hiOf (2 ^ x.val)), .int .u64 (loOf (2 ^ x.val))]]

set_option maxRecDepth 100000 in
set_option maxHeartbeats 8000000 in
theorem places_in (nn : Nat) (hn : 1 ≤ nn) (l : Nat)
    (J Jx : List (Fin 128) → World → Prop) (hJA : ∀ pre W W', J pre W → Below W.heap.size W W' → J pre W')
    (hY : ∀ pre x W, J pre W → pre.length < 128 → YieldAt Fence.wide (nn - 1) Try.prog l (encP x) W fun e W' =>
      (e = .returned (.bool true) ∧ J (pre ++ [x]) W' ∧ True) ∨ (e = .returned (.bool false) ∧ Jx (pre ++ [x]) W'))
    (W : World) (h0 : J [] W) :
    CallsIn Fence.wide nn Try.prog 22 #[.func (.yield l) #[] #[]] W fun e W' => (∃ v, e = .returned v) ∧
      ((∃ ys, ys = topR 128 ∧ J ys W') ∨ (∃ pre, True ∧ Jx pre W')) := by
  refine callsIn_of_wp Try.func22 rfl trivial ?_ rfl
  simp only [Try.ntmps22, List.size_toArray, List.length_cons, List.length_nil, Nat.reduceAdd, Nat.reduceSub, Array.replicate_succ, Array.replicate_zero, List.push_toArray, List.append_toArray, List.nil_append, List.cons_append]
  gi_wp2
  gi_loopw [2] (fun i wr => ∃ j : Nat, j ≤ 128 ∧ i = .int .i64 (127 - j) ∧ J (topR j) wr)
    (fun i _ => (intOf i + 1).toNat)
  case atStart => exact ⟨0, by omega, by simp, h0⟩
  case round =>
    obtain ⟨j, hj, rfl, hJ⟩ := hrel
    by_cases hjL : j = 128
    · have g1 : decide ((0 : Int) ≤ 127 - j) = false := by simp; omega
      gi_wp2
      go_end0
      exact ⟨⟨_, rfl⟩, .inl ⟨_, rfl, hjL ▸ hJ⟩⟩
    · obtain ⟨K, hK⟩ : ∃ K : Nat, (127 : Int) - j = K := ⟨127 - j, by omega⟩
      have hK2 : K < 128 := by omega
      rw [hK]
      have g1 : decide ((0 : Int) ≤ (K : Int)) = true := by simp
      have eK : topR (j + 1) = topR j ++ [⟨K, hK2⟩] := by
        show _ ++ _ = _
        congr 2
        refine Fin.ext ?_
        show (127 - j) % 128 = K
        omega
      have LB := Lib.hid (fun w => leftB 1 (K : Int) (by omega) (by omega) w)
      rw [show hiOf 1 = 0 from rfl, show loOf 1 = 1 from rfl, Int.toNat_natCast, Int.one_mul] at LB
      gi_wp2
      refine ⟨trivial, (callsIn_wide.2 (LB.out _)).mono ?_⟩
      rintro e W1 ⟨rfl, hb⟩
      obtain ⟨fn, tmps, assign, body, hy, hR⟩ := hY _ ⟨K, hK2⟩ W1 (hJA _ _ _ hJ hb) (by rw [topR_length]; omega)
      dsimp only [encP] at hy
      clear hY hJA LB
      have hm64 : IntKind.i64.wrap ((K : Int) - 1) = (K : Int) - 1 := IntWalk.i64_in _ (by omega)
      generalize hiOf (2 ^ K) = ph at *
      generalize loOf (2 ^ K) = pl at *
      gi_wp2
      refine hR.mono ?_
      rintro e W3 (⟨rfl, hJ3, _⟩ | ⟨rfl, hJx3⟩)
      · gi_wp2
        go_roundw
        case rel => exact ⟨j + 1, by omega, by rw [← hK]; congr 1; omega, by rw [eK]; exact hJ3⟩
        case measure => simp [intOf]
      · gi_wp2
        refine bodyPost_ret (results_none rfl _ _ _) rfl ?_
        exact ⟨⟨_, rfl⟩, .inr ⟨_, trivial, hJx3⟩⟩

theorem places_stops (nn : Nat) (hn : 1 ≤ nn) (w : World) :
    SeqStopsK Fence.wide nn Try.prog 22 #[] encP (fun _ _ => True) (fun ys => ys = topR 128) (fun _ => True) 128 w :=
  fun l J Jx W hW hJ hJx hY h0 =>
    places_in nn hn l J Jx (fun pre A B h hb => hJ pre A B none h (grownOf hb) (by simp)) hY W h0

end Go.Proofs.Ytbibinmjipcdjaa
