/-
  Regions that draw their order: calls that leave what lies there as it was, and loads, may be taken first; what is known of the world is forgotten but for one condition. Nothing of the program in sight.
-/
import Derived.OrdersHeld
import Derived.Deep.RegionHeld
import Derived.Test.YtkhcbioohoeegaaDoorBoxes
set_option linter.unusedVariables false
set_option maxRecDepth 100000
namespace Go.Proofs.YtkhcbioohoeegaaDoor
open Go.RowKit

section
variable {P : Program} {ops : Array Oper} {Q : Exit → Act → World → Prop} {md : Region.Mode} {sts ds : List Nat} {S : List Bool → List Value → World → Prop}

/-- Which of the region's stores have come up. -/
def stBits (sts : List Nat) (L : Array Bool) : List Bool := sts.map fun k => L.getD k false
/-- What lies in the slots of the variables that the region makes. -/
def dsVals (ds : List Nat) (a : Act) : List Value := ds.map fun d => a.tmps.getD d undef

theorem stBits_set {i : Nat} {L : Array Bool} : ∀ {sts : List Nat}, i ∉ sts → stBits sts (L.setIfInBounds i true) = stBits sts L
  | [], _ => rfl
  | k :: ks, h => by
    have h1 : i ≠ k := fun e => h (e ▸ List.mem_cons_self)
    have h2 := stBits_set (L := L) (sts := ks) fun h' => h (List.mem_cons_of_mem _ h')
    show (_ :: stBits ks _) = (_ :: stBits ks _)
    rw [h2]; simp only [getD_set_ne false h1]
theorem dsVals_put {d : Option Tmp} {v : Value} {a : Act} : ∀ {ds : List Nat}, (∀ t, d = some t → t ∉ ds) → dsVals ds (a.put d v) = dsVals ds a
  | [], _ => rfl
  | k :: ks, h => by
    have h2 := dsVals_put (d := d) (v := v) (a := a) (ds := ks) fun t ht h' => h t ht (List.mem_cons_of_mem _ h')
    show (_ :: dsVals ks _) = (_ :: dsVals ks _)
    rw [h2]
    cases d with
    | none => rfl
    | some t =>
      have hne : t ≠ k := fun e => h t rfl (e ▸ List.mem_cons_self)
      simp [Act.put, Array.getElem?_setIfInBounds_ne hne]

/-- Whatever order is picked from here on, in whatever world that meets the condition; and it is met behind each operation. -/
def wpF (P : Program) (md : Region.Mode) (ops : Array Oper) (Q : Exit → Act → World → Prop) (sts ds : List Nat) (S : List Bool → List Value → World → Prop) : Nat → Array Bool → Act → Prop
  | 0, L, a => Region.ready md ops L = [] ∧ ∀ w, S (stBits sts L) (dsVals ds a) w → Q .normal a w
  | fuel + 1, L, a => (Region.ready md ops L = [] → ∀ w, S (stBits sts L) (dsVals ds a) w → Q .normal a w) ∧
    ∀ i ∈ Region.ready md ops L, ∀ w, S (stBits sts L) (dsVals ds a) w →
      wpOp P ops Q i (fun a' w' => S (stBits sts (L.setIfInBounds i true)) (dsVals ds a') w' ∧ wpF P md ops Q sts ds S fuel (L.setIfInBounds i true) a') a w

theorem wpF_sound : ∀ (fuel : Nat) (L : Array Bool) (a : Act), wpF P md ops Q sts ds S fuel L a → ∀ w, S (stBits sts L) (dsVals ds a) w → wpAny P md ops Q fuel L a w
  | 0, _, _, h, w, hS => ⟨h.1, h.2 w hS⟩
  | fuel + 1, _, _, h, w, hS => ⟨fun h0 => h.1 h0 w hS, fun i hi => wpOp_mono (fun a' w' h' => wpF_sound fuel _ a' h'.2 w' h'.1) (h.2 i hi w hS)⟩

/-- The operation's run gives 'v', and a world that meets 'T'. -/
def RunsTo (P : Program) (n : Sem Next) (w : World) (v : Value) (T : World → Prop) : Prop :=
  match n.run P w with
  | .ok (.value u) w' => u = v ∧ T w'
  | .ok (.enter f args) w' => Calls P f args w' fun e w'' => e = .returned v ∧ T w''
  | _ => False

/-- In state 'a' operation 'o' gives 'v', in every world that meets the condition (under bits that 'B' allows), and the condition is met behind it. -/
def Gives (P : Program) (ops : Array Oper) (S : List Bool → List Value → World → Prop) (B : List Bool → Prop) (o : Oper) (v : Value) (a : Act) : Prop :=
  (Region.wanted o (yielded ops a.tmps) = true ∧ ∀ bs vs w, B bs → S bs vs w → RunsTo P (execOp a.eval o) w v (S bs vs)) ∨
  (Region.wanted o (yielded ops a.tmps) = false ∧ v = undef)

theorem Gives.of_same {B : List Bool → Prop} {o : Oper} {v : Value} {a a' : Act} (hy : Gives P ops S B o v a) (he : execOp a'.eval o = execOp a.eval o)
    (hw : Region.wanted o (yielded ops a'.tmps) = Region.wanted o (yielded ops a.tmps)) : Gives P ops S B o v a' := by
  unfold Gives at *
  rw [he, hw]
  exact hy

theorem Gives.wpOp {B : List Bool → Prop} {i : Nat} {o : Oper} {v : Value} {a : Act} (hi : ops[i]? = some o) (hy : Gives P ops S B o v a) {bs : List Bool} {vs : List Value}
    {K : Act → World → Prop} {w : World} (hB : B bs) (hS : S bs vs w) (h : ∀ w', S bs vs w' → K (a.put o.dst v) w') : wpOp P ops Q i K a w := by
  unfold Go.wpOp
  simp only [hi]
  rcases hy with ⟨hw, hv⟩ | ⟨hw, rfl⟩
  · simp only [hw, if_true]
    left
    have h1 := hv bs vs w hB hS
    unfold RunsTo at h1
    unfold Oper.wp
    generalize (execOp a.eval o).run P w = r at *
    cases r with
    | ok n w' =>
      cases n <;> simp only [Oper.upon] at h1 ⊢
      case value u => rw [h1.1]; exact h _ h1.2
      case enter f args => exact Calls.mono h1 fun e w'' he => by rw [he.1]; exact h _ he.2
    | halt x w' => exact h1.elim
  · simp only [hw, Bool.false_eq_true, if_false]; exact h _ hS

/-- One operation 'oj', apart from 'oi'. -/
theorem wpOp_putG {B : List Bool → Prop} {j : Nat} {oi oj : Oper} {v : Value} (hj : ops[j]? = some oj) (hap : oi.apart ops oj = true)
    (hsi : ∀ cs b, oi.op ≠ .select cs b) (hsj : ∀ cs b, oj.op ≠ .select cs b)
    (hQ : ∀ c a w, Q (.panic c) (a.put oi.dst v) w → Q (.panic c) a w) {K : Act → World → Prop} {a : Act} {w : World}
    (hy : Gives P ops S B oi v a) (h : wpOp P ops Q j K (a.put oi.dst v) w) :
    wpOp P ops Q j (fun a' w' => Gives P ops S B oi v a' ∧ K (a'.put oi.dst v) w') a w := by
  obtain ⟨h1, h2, h3⟩ := Oper.apart_spec hap
  have keep : ∀ (a : Act), Gives P ops S B oi v a → ∀ u, Gives P ops S B oi v (a.put oj.dst u) := fun a hy u =>
    hy.of_same (execOp_put oi hsi a oj.dst u h3) (wanted_put oi a oj.dst u h3)
  have keepD : ∀ d, Gives P ops S B oi v { a with defers := d :: a.defers } := fun d => hy.of_same rfl rfl
  unfold wpOp at *
  simp only [hj] at *
  rw [wanted_put oj a oi.dst v h1] at h
  split
  · rename_i hw
    simp only [hw, if_true] at h
    rcases h with h | ⟨hasks, hlets⟩
    case inr => exact .inr ⟨by unfold Oper.asks at *; rw [execOp_put oj hsj a oi.dst v h1] at hasks; exact hasks, hlets⟩
    refine .inl ?_
    unfold Oper.wp at *
    rw [execOp_put oj hsj a oi.dst v h1] at h
    generalize (execOp a.eval oj).run P w = r at *
    cases r with
    | ok n w' =>
      cases n <;> simp only [Oper.upon] at h ⊢
      case value u => exact ⟨keep a hy u, by rw [← Act.put_comm a v u h2]; exact h⟩
      case skip => exact ⟨keep a hy _, by rw [← Act.put_comm a v undef h2]; exact h⟩
      case defer d =>
        refine ⟨keep _ (keepD d) _, ?_⟩
        rw [← Act.put_comm _ v undef h2, ← Act.put_defers]
        exact h
      case enter f args =>
        refine Calls.mono h fun e w'' he => ?_
        cases e with
        | returned u => exact ⟨keep a hy u, by rw [← Act.put_comm a v u h2]; exact he⟩
        | panicked c => exact hQ _ _ _ he
        | outgrown => exact he
      case row row args => exact Rows.mono h fun u w'' he => ⟨keep a hy u, by rw [← Act.put_comm a v u h2]; exact he⟩
    | halt x w' =>
      cases x <;> simp only [Oper.upon] at h ⊢
      case panic u => exact hQ _ _ _ h
  · rename_i hw
    simp only [hw] at h
    exact ⟨keep a hy _, by rw [← Act.put_comm a v undef h2]; exact h⟩

/-- An operation that may come up now may be taken first. -/
theorem wpF_first {B : List Bool → Prop} {i : Nat} {oi : Oper} {v : Value} (hi : ops[i]? = some oi) (hsel : ∀ (j : Nat) (o : Oper) cs b, ops[j]? = some o → o.op ≠ .select cs b)
    (hQ : ∀ c a w, Q (.panic c) (a.put oi.dst v) w → Q (.panic c) a w) (his : i ∉ sts) (hid : ∀ t, oi.dst = some t → t ∉ ds)
    (hBs : ∀ (j : Nat) (oj : Oper) (L : Array Bool), ops[j]? = some oj → j ≠ i → (∀ e ∈ oj.after, Region.binds md e = true → e.on ≠ i) → B (stBits sts L) → B (stBits sts (L.setIfInBounds j true))) :
    ∀ (fuel : Nat) (L : Array Bool) (a : Act),
      (∀ j oj, ops[j]? = some oj → j ≠ i → L.getD j true = false → (∀ e ∈ oj.after, Region.binds md e = true → e.on ≠ i) → oi.apart ops oj = true) →
      i ∈ Region.ready md ops L → B (stBits sts L) → Gives P ops S B oi v a →
      wpF P md ops Q sts ds S fuel (L.setIfInBounds i true) (a.put oi.dst v) → wpF P md ops Q sts ds S (fuel + 1) L a := by
  intro fuel
  induction fuel with
  | zero =>
    intro L a _ hr hB hy H
    refine ⟨fun h => (by rw [h] at hr; cases hr), fun j hj w hS => ?_⟩
    by_cases hji : j = i
    · subst hji; exact hy.wpOp hi hB hS fun w' hS' => ⟨by rw [stBits_set his, dsVals_put hid]; exact hS', H⟩
    · have := ready_mono hj hji
      rw [H.1] at this
      cases this
  | succ fuel ih =>
    intro L a hfree hr hB hy H
    refine ⟨fun h => (by rw [h] at hr; cases hr), fun j hj w hS => ?_⟩
    by_cases hji : j = i
    · subst hji; exact hy.wpOp hi hB hS fun w' hS' => ⟨by rw [stBits_set his, dsVals_put hid]; exact hS', H⟩
    · have h1 := H.2 j (ready_mono hj hji) w (by rw [stBits_set his, dsVals_put hid]; exact hS)
      obtain ⟨hjun, oj, hoj, hall⟩ := mem_ready.1 hj
      have hnot : ∀ e ∈ oj.after, Region.binds md e = true → e.on ≠ i := fun e he hb heq => by
        have h1 := hall e he hb
        have h0 := (mem_ready.1 hr).1
        rw [heq] at h1
        rcases Nat.lt_or_ge i L.size with h' | h'
        · simp [h'] at h0 h1; rw [h0] at h1; cases h1
        · simp [Array.getElem?_eq_none h'] at h1
      have h2 := wpOp_putG hoj (hfree j oj hoj hji hjun hnot) (fun cs b => hsel i oi cs b hi) (fun cs b => hsel j oj cs b hoj) hQ hy h1
      have hfree' : ∀ k ok, ops[k]? = some ok → k ≠ i → (L.setIfInBounds j true).getD k true = false →
          (∀ e ∈ ok.after, Region.binds md e = true → e.on ≠ i) → oi.apart ops ok = true := fun k ok hk hki hun hno => by
        refine hfree k ok hk hki ?_ hno
        by_cases hjk : j = k
        · subst hjk; exact hjun
        · rw [getD_set_ne true hjk] at hun; exact hun
      refine wpOp_mono (fun a' w' h3 => ?_) h2
      have hc : (L.setIfInBounds i true).setIfInBounds j true = (L.setIfInBounds j true).setIfInBounds i true := Array.setIfInBounds_comm _ _ (Ne.symm hji)
      have h4 := h3.2
      rw [hc, stBits_set his, dsVals_put hid] at h4
      exact ⟨h4.1, ih (L.setIfInBounds j true) a' hfree' (ready_mono hr (Ne.symm hji)) (hBs j oj L hoj hji hnot hB) h3.1 h4.2⟩

/-! ### The moves -/

/-- Does each of 'sts' wait for 'i'? -/
def waitAll (md : Region.Mode) (ops : Array Oper) (sts : List Nat) (i : Nat) : Bool :=
  sts.all fun k => k != i && match ops[k]? with
    | some o => o.after.any (fun e => Region.binds md e && e.on == i)
    | none => false
def noBits (bs : List Bool) : Prop := ∀ b ∈ bs, b = false
def slotFree (ds : List Nat) (d : Option Tmp) : Bool := match d with | some t => !ds.contains t | none => true
theorem slotFree_spec {ds : List Nat} {d : Option Tmp} (h : slotFree ds d = true) (t : Tmp) (ht : d = some t) : t ∉ ds := by
  subst ht
  simpa [slotFree] using h

/-- A load, or a call that leaves what lies there as it was: all stores of the region wait for it. -/
theorem wpF_take {i : Nat} {oi : Oper} {v : Value} {fuel : Nat} {L : Array Bool} {a : Act} (hi : ops[i]? = some oi) (hs : Region.noSelect ops = true)
    (hf : (Region.free md ops L i && (Region.ready md ops L).contains i && waitAll md ops sts i && (stBits sts L).all (! ·) && slotFree ds oi.dst) = true)
    (hQ : ∀ c a w, Q (.panic c) (a.put oi.dst v) w → Q (.panic c) a w) (hy : Gives P ops S noBits oi v a)
    (h : wpF P md ops Q sts ds S fuel (L.setIfInBounds i true) (a.put oi.dst v)) : wpF P md ops Q sts ds S (fuel + 1) L a := by
  simp only [Bool.and_eq_true] at hf
  obtain ⟨⟨⟨⟨h1, h2⟩, h3⟩, h4⟩, h5⟩ := hf
  have hno : i ∉ sts := fun hm => by
    have := List.all_eq_true.1 h3 i hm
    simp at this
  refine wpF_first (B := noBits) hi (Region.noSelect_spec hs) hQ hno (slotFree_spec h5) ?_ fuel L a (Region.free_spec hi h1) (by simpa using h2) ?_ hy h
  · intro j oj L' hj hji hnw hB
    have hj' : j ∉ sts := fun hm => by
      have h := List.all_eq_true.1 h3 j hm
      simp only [Bool.and_eq_true, hj, Array.any_eq_true] at h
      obtain ⟨_, k, hk, h⟩ := h
      simp only [beq_iff_eq] at h
      exact hnw _ (Array.getElem_mem hk) h.1 h.2
    rw [stBits_set hj']; exact hB
  · intro b hb
    have := List.all_eq_true.1 h4 b hb
    simpa using this

/-- An operation that hangs on no world. -/
theorem wpF_yield {i : Nat} {oi : Oper} {v : Value} {fuel : Nat} {L : Array Bool} {a : Act} (hi : ops[i]? = some oi) (hs : Region.noSelect ops = true)
    (hf : (Region.free md ops L i && (Region.ready md ops L).contains i && !sts.contains i && slotFree ds oi.dst) = true)
    (hQ : ∀ c a w, Q (.panic c) (a.put oi.dst v) w → Q (.panic c) a w) (hy : Yields P ops oi v a)
    (h : wpF P md ops Q sts ds S fuel (L.setIfInBounds i true) (a.put oi.dst v)) : wpF P md ops Q sts ds S (fuel + 1) L a := by
  simp only [Bool.and_eq_true] at hf
  obtain ⟨⟨⟨h1, h2⟩, h3⟩, h5⟩ := hf
  refine wpF_first (B := fun _ => True) hi (Region.noSelect_spec hs) hQ (by simpa using h3) (slotFree_spec h5) (fun _ _ _ _ _ _ _ => trivial) fuel L a (Region.free_spec hi h1) (by simpa using h2) trivial ?_ h
  rcases hy with ⟨hw, hv⟩ | hy
  · exact Or.inl ⟨hw, fun bs vs w _ hS => by unfold RunsTo; rw [hv w]; exact ⟨rfl, hS⟩⟩
  · exact Or.inr hy

/-- The one that comes up next, alone. -/
theorem wpF_step {i : Nat} {o : Oper} {fuel : Nat} {L : Array Bool} {a : Act} {bs bs' : List Bool} {vs : List Value} (hr : Region.ready md ops L = [i]) (ho : ops[i]? = some o)
    (hb : stBits sts L = bs) (hv : dsVals ds a = vs) (hb' : stBits sts (L.setIfInBounds i true) = bs')
    (h : ∀ w, S bs vs w → ∀ K' : Act → World → Prop, Shut (∀ a' w', S bs' (dsVals ds a') w' → wpF P md ops Q sts ds S fuel (L.setIfInBounds i true) a' → K' a' w') →
      if Region.wanted o (yielded ops a.tmps) = true then Oper.wp P o a w K' Q else K' (a.put o.dst undef) w) : wpF P md ops Q sts ds S (fuel + 1) L a := by
  subst hb hv hb'
  refine ⟨fun h0 => (by rw [hr] at h0; cases h0), fun j hj w hS => ?_⟩
  rw [hr] at hj
  obtain rfl := List.mem_singleton.1 hj
  exact wpOp_step ho (fun K' hK => h w hS K' (fun a w hS hW => hK a w ⟨hS, hW⟩))

/-- All have come up. -/
theorem wpF_done {L : Array Bool} {a : Act} {bs : List Bool} {vs : List Value} (hr : Region.ready md ops L = []) (hb : stBits sts L = bs) (hv : dsVals ds a = vs) (h : ∀ w, S bs vs w → Q .normal a w) :
    ∀ fuel, wpF P md ops Q sts ds S fuel L a
  | 0 => ⟨hr, by subst hb hv; exact h⟩
  | _ + 1 => ⟨fun _ => by subst hb hv; exact h, by rw [hr]; simp⟩

theorem wp_region_F {id : Nat} {a : Act} {w : World} (sts ds : List Nat) (S : List Bool → List Value → World → Prop) {bs : List Bool} {vs : List Value} (hm : P.follows .mixedOrders = true) (hb : stBits sts (Array.replicate ops.size false) = bs) (hv : dsVals ds a = vs) (hS : S bs vs w.drew)
    (h : wpF P .any ops Q sts ds S ops.size (Array.replicate ops.size false) a) : (Code.region id ops true).wp P Q a w :=
  wp_region_any hm (wpF_sound _ _ _ h _ (by subst hb hv; exact hS))

/-- A call's contract, as the region takes it. -/
theorem Gives.call {B : List Bool → Prop} {o : Oper} {v : Value} {a : Act} (hw : Region.wanted o (yielded ops a.tmps) = true) (f : FuncId) (args : Array Value)
    (he : ∀ w, (execOp a.eval o).run P w = .ok (.enter f args) w) (h : ∀ bs vs w, B bs → S bs vs w → Calls P f args w fun e w' => e = .returned v ∧ S bs vs w') : Gives P ops S B o v a :=
  Or.inl ⟨hw, fun bs vs w hB hS => by unfold RunsTo; rw [he w]; exact h bs vs w hB hS⟩
/-- A load. -/
theorem Gives.value {B : List Bool → Prop} {o : Oper} {v : Value} {a : Act} (hw : Region.wanted o (yielded ops a.tmps) = true)
    (h : ∀ bs vs w, B bs → S bs vs w → (execOp a.eval o).run P w = .ok (.value v) w) : Gives P ops S B o v a :=
  Or.inl ⟨hw, fun bs vs w hB hS => by unfold RunsTo; rw [h bs vs w hB hS]; exact ⟨rfl, hS⟩⟩
end

/-- The condition: all that lay there in W is as it was, and A holds of the variables made; behind the first store: Z. -/
def LS (W : World) (A : List Value → World → Prop) (Z : List Bool → List Value → World → Prop) (bs : List Bool) (vs : List Value) (w : World) : Prop :=
  (noBits bs → Below W.heap.size W w ∧ A vs w) ∧ (¬ noBits bs → Z bs vs w)
theorem LS.before {W : World} {A : List Value → World → Prop} {Z : List Bool → List Value → World → Prop} {bs : List Bool} {vs : List Value} {w : World} (hb : noBits bs) (h1 : Below W.heap.size W w) (h2 : A vs w) : LS W A Z bs vs w :=
  ⟨fun _ => ⟨h1, h2⟩, fun h => (h hb).elim⟩
theorem LS.behind {W : World} {A : List Value → World → Prop} {Z : List Bool → List Value → World → Prop} {bs : List Bool} {vs : List Value} {w : World} (hb : ¬ noBits bs) (h : Z bs vs w) : LS W A Z bs vs w :=
  ⟨fun h' => (hb h').elim, fun _ => h⟩
theorem no_ptr {p : Option Addr} {l l' : List Value} (h : undef :: l = .pointer p :: l') : False := by
  unfold undef at h; cases h
theorem noBits_nil : noBits [] := fun _ h => by cases h
theorem noBits_f : noBits [false] := by simp [noBits]
theorem noBits_ff : noBits [false, false] := by simp [noBits]
theorem bits_t : ¬ noBits [true] := by simp [noBits]
theorem bits_tf : ¬ noBits [true, false] := by simp [noBits]
theorem bits_tt : ¬ noBits [true, true] := by simp [noBits]
/-- A holds on over whatever leaves what lies there as it was. -/
def Lasts (A : List Value → World → Prop) : Prop := ∀ vs w w', A vs w → Below w.heap.size w w' → A vs w'
theorem lasts_true : Lasts fun _ _ => True := fun _ _ _ _ _ => trivial
theorem LS.call {P : Program} {ops : Array Oper} {W : World} {A : List Value → World → Prop} {Z : List Bool → List Value → World → Prop} {o : Oper} {v : Value} {a : Act} (hA : Lasts A) (hw : Region.wanted o (yielded ops a.tmps) = true) (f : FuncId) (args : Array Value)
    (he : ∀ w, (execOp a.eval o).run P w = .ok (.enter f args) w) (h : ∀ w, Calls P f args w fun e w' => e = .returned v ∧ Below w.heap.size w w') : Gives P ops (LS W A Z) noBits o v a :=
  Gives.call hw f args he fun bs vs w hB hS => (h w).mono fun e w' ⟨h1, h2⟩ => ⟨h1, LS.before hB (bC (hS.1 hB).1 h2) (hA _ _ _ (hS.1 hB).2 h2)⟩
theorem LS.callW {P : Program} {ops : Array Oper} {W : World} {A : List Value → World → Prop} {Z : List Bool → List Value → World → Prop} {o : Oper} {v : Value} {a : Act} (hA : Lasts A) (hw : Region.wanted o (yielded ops a.tmps) = true) (f : FuncId) (args : Array Value)
    (he : ∀ w, (execOp a.eval o).run P w = .ok (.enter f args) w) (h : ∀ w, Below W.heap.size W w → Calls P f args w fun e w' => e = .returned v ∧ Below w.heap.size w w') : Gives P ops (LS W A Z) noBits o v a :=
  Gives.call hw f args he fun bs vs w hB hS => (h w (hS.1 hB).1).mono fun e w' ⟨h1, h2⟩ => ⟨h1, LS.before hB (bC (hS.1 hB).1 h2) (hA _ _ _ (hS.1 hB).2 h2)⟩
theorem LS.load {P : Program} {ops : Array Oper} {W : World} {A : List Value → World → Prop} {Z : List Bool → List Value → World → Prop} {o : Oper} {v : Value} {a : Act} (hw : Region.wanted o (yielded ops a.tmps) = true)
    (h : ∀ w, Below W.heap.size W w → (execOp a.eval o).run P w = .ok (.value v) w) : Gives P ops (LS W A Z) noBits o v a :=
  Gives.value hw fun bs vs w hB hS => h w (hS.1 hB).1
end Go.Proofs.YtkhcbioohoeegaaDoor
