/-
  Regions that draw their order and make two variables of four digits. Nothing of the program in sight.
-/
import Derived.Test.YtidppeaianpojaaKinds
set_option linter.unusedVariables false
namespace Go.Proofs.Ytidppeaianpojaa
open Go.RowKit

section
variable {P : Program} {ops : Array Oper} {Q : Exit → Act → World → Prop} {md : Region.Mode} {sts ds : List Nat} {S : List Bool → List Value → World → Prop}
/-- Two that may come up next, the one or the other. -/
theorem wpF_two {i j : Nat} {oi oj : Oper} {fuel : Nat} {L : Array Bool} {a : Act} {bs bi bj : List Bool} {vs : List Value} (hr : Region.ready md ops L = [i, j]) (hoi : ops[i]? = some oi) (hoj : ops[j]? = some oj)
    (hb : stBits sts L = bs) (hv : dsVals ds a = vs) (hbi : stBits sts (L.setIfInBounds i true) = bi) (hbj : stBits sts (L.setIfInBounds j true) = bj)
    (h1 : ∀ w, S bs vs w → ∀ K' : Act → World → Prop, Shut (∀ a' w', S bi (dsVals ds a') w' → wpF P md ops Q sts ds S fuel (L.setIfInBounds i true) a' → K' a' w') →
      if Region.wanted oi (yielded ops a.tmps) = true then Oper.wp P oi a w K' Q else K' (a.put oi.dst undef) w)
    (h2 : ∀ w, S bs vs w → ∀ K' : Act → World → Prop, Shut (∀ a' w', S bj (dsVals ds a') w' → wpF P md ops Q sts ds S fuel (L.setIfInBounds j true) a' → K' a' w') →
      if Region.wanted oj (yielded ops a.tmps) = true then Oper.wp P oj a w K' Q else K' (a.put oj.dst undef) w) : wpF P md ops Q sts ds S (fuel + 1) L a := by
  subst hb hv hbi hbj
  refine ⟨fun h0 => (by rw [hr] at h0; cases h0), fun k hk w hS => ?_⟩
  rw [hr] at hk
  rcases List.mem_cons.1 hk with rfl | hk
  · exact wpOp_step hoi (fun K' hK => h1 w hS K' (fun a w hS hW => hK a w ⟨hS, hW⟩))
  · obtain rfl := List.mem_singleton.1 hk
    exact wpOp_step hoj (fun K' hK => h2 w hS K' (fun a w hS hW => hK a w ⟨hS, hW⟩))
/-- An operation that may come up now may be taken first. -/
theorem wpF_first2 {B : List Bool → Prop} {i : Nat} {oi : Oper} {v : Value} (hi : ops[i]? = some oi) (hsel : ∀ (j : Nat) (o : Oper) cs b, ops[j]? = some o → o.op ≠ .select cs b)
    (hQ : ∀ c a w, Q (.panic c) (a.put oi.dst v) w → Q (.panic c) a w) (his : i ∉ sts) (hid : ∀ t, oi.dst = some t → t ∉ ds)
    (hBs : ∀ (j : Nat) (oj : Oper) (L : Array Bool), ops[j]? = some oj → j ≠ i → (∀ e ∈ oj.after, Region.binds md e = true → e.on ≠ i) → (∀ e ∈ oj.after, Region.binds md e = true → L.getD e.on false = true) → B (stBits sts L) → B (stBits sts (L.setIfInBounds j true))) :
    ∀ (fuel : Nat) (L : Array Bool) (a : Act),
      (∀ j oj, ops[j]? = some oj → j ≠ i → L.getD j true = false → (∀ e ∈ oj.after, Region.binds md e = true → e.on ≠ i) → oi.apart ops oj = true) →
      i ∈ Region.ready md ops L → B (stBits sts L) → Gives P ops S B oi v a →
      wpF P md ops Q sts ds S fuel (L.setIfInBounds i true) (a.put oi.dst v) → wpF P md ops Q sts ds S (fuel + 1) L a := by
  intro fuel
  induction fuel with
  | zero =>
    intro L a _ hr hB hy H
    refine ⟨fun h => (by rw [h] at hr; cases hr), fun j hj w hS => ?_⟩
    by_cases hji : j = i
    · subst hji; exact hy.wpOp hi hB hS fun w' hS' => ⟨by rw [stBits_set his, dsVals_put hid]; exact hS', H⟩
    · have := ready_mono hj hji
      rw [H.1] at this
      cases this
  | succ fuel ih =>
    intro L a hfree hr hB hy H
    refine ⟨fun h => (by rw [h] at hr; cases hr), fun j hj w hS => ?_⟩
    by_cases hji : j = i
    · subst hji; exact hy.wpOp hi hB hS fun w' hS' => ⟨by rw [stBits_set his, dsVals_put hid]; exact hS', H⟩
    · have h1 := H.2 j (ready_mono hj hji) w (by rw [stBits_set his, dsVals_put hid]; exact hS)
      obtain ⟨hjun, oj, hoj, hall⟩ := mem_ready.1 hj
      have hnot : ∀ e ∈ oj.after, Region.binds md e = true → e.on ≠ i := fun e he hb heq => by
        have h1 := hall e he hb
        have h0 := (mem_ready.1 hr).1
        rw [heq] at h1
        rcases Nat.lt_or_ge i L.size with h' | h'
        · simp [h'] at h0 h1; rw [h0] at h1; cases h1
        · simp [Array.getElem?_eq_none h'] at h1
      have h2 := wpOp_putG hoj (hfree j oj hoj hji hjun hnot) (fun cs b => hsel i oi cs b hi) (fun cs b => hsel j oj cs b hoj) hQ hy h1
      have hfree' : ∀ k ok, ops[k]? = some ok → k ≠ i → (L.setIfInBounds j true).getD k true = false →
          (∀ e ∈ ok.after, Region.binds md e = true → e.on ≠ i) → oi.apart ops ok = true := fun k ok hk hki hun hno => by
        refine hfree k ok hk hki ?_ hno
        by_cases hjk : j = k
        · subst hjk; exact hjun
        · rw [getD_set_ne true hjk] at hun; exact hun
      refine wpOp_mono (fun a' w' h3 => ?_) h2
      have hc : (L.setIfInBounds i true).setIfInBounds j true = (L.setIfInBounds j true).setIfInBounds i true := Array.setIfInBounds_comm _ _ (Ne.symm hji)
      have h4 := h3.2
      rw [hc, stBits_set his, dsVals_put hid] at h4
      exact ⟨h4.1, ih (L.setIfInBounds j true) a' hfree' (ready_mono hr (Ne.symm hji)) (hBs j oj L hoj hji hnot hall hB) h3.1 h4.2⟩


/-- Does each of 'sts' wait for 'i', or for another of them? -/
def waitSome (md : Region.Mode) (ops : Array Oper) (sts : List Nat) (i : Nat) : Bool :=
  sts.all fun k => k != i && match ops[k]? with
    | some o => o.after.any (fun e => Region.binds md e && (e.on == i || sts.contains e.on))
    | none => false
theorem wpF_take2 {i : Nat} {oi : Oper} {v : Value} {fuel : Nat} {L : Array Bool} {a : Act} (hi : ops[i]? = some oi) (hs : Region.noSelect ops = true)
    (hf : (Region.free md ops L i && (Region.ready md ops L).contains i && waitSome md ops sts i && (stBits sts L).all (! ·) && slotFree ds oi.dst) = true)
    (hQ : ∀ c a w, Q (.panic c) (a.put oi.dst v) w → Q (.panic c) a w) (hy : Gives P ops S noBits oi v a)
    (h : wpF P md ops Q sts ds S fuel (L.setIfInBounds i true) (a.put oi.dst v)) : wpF P md ops Q sts ds S (fuel + 1) L a := by
  simp only [Bool.and_eq_true] at hf
  obtain ⟨⟨⟨⟨h1, h2⟩, h3⟩, h4⟩, h5⟩ := hf
  have hno : i ∉ sts := fun hm => by
    have := List.all_eq_true.1 h3 i hm
    simp at this
  refine wpF_first2 (B := noBits) hi (Region.noSelect_spec hs) hQ hno (slotFree_spec h5) ?_ fuel L a (Region.free_spec hi h1) (by simpa using h2) ?_ hy h
  · intro j oj L' hj hji hnw hall hB
    have hj' : j ∉ sts := fun hm => by
      have h := List.all_eq_true.1 h3 j hm
      simp only [Bool.and_eq_true, hj, Array.any_eq_true, Bool.or_eq_true] at h
      obtain ⟨_, k, hk, h, h'⟩ := h
      rcases h' with h' | h'
      · simp only [beq_iff_eq] at h'
        exact hnw _ (Array.getElem_mem hk) h h'
      · have h6 : oj.after[k].on ∈ sts := by simpa using h'
        have h7 := hB (L'.getD oj.after[k].on false) (List.mem_map.2 ⟨_, h6, rfl⟩)
        rw [hall _ (Array.getElem_mem hk) h] at h7
        cases h7
    rw [stBits_set hj']; exact hB
  · intro b hb
    have := List.all_eq_true.1 h4 b hb
    simpa using this
/-- A load of what no store of the region turns. -/
theorem wpF_takeAny {i : Nat} {oi : Oper} {v : Value} {fuel : Nat} {L : Array Bool} {a : Act} (hi : ops[i]? = some oi) (hs : Region.noSelect ops = true)
    (hf : (Region.free md ops L i && (Region.ready md ops L).contains i && !sts.contains i && slotFree ds oi.dst) = true)
    (hQ : ∀ c a w, Q (.panic c) (a.put oi.dst v) w → Q (.panic c) a w) (hy : Gives P ops S (fun _ => True) oi v a)
    (h : wpF P md ops Q sts ds S fuel (L.setIfInBounds i true) (a.put oi.dst v)) : wpF P md ops Q sts ds S (fuel + 1) L a := by
  simp only [Bool.and_eq_true] at hf
  obtain ⟨⟨⟨h1, h2⟩, h3⟩, h5⟩ := hf
  exact wpF_first (B := fun _ => True) hi (Region.noSelect_spec hs) hQ (by simpa using h3) (slotFree_spec h5) (fun _ _ _ _ _ _ _ => trivial) fuel L a (Region.free_spec hi h1) (by simpa using h2) trivial hy h
end

def Fresh4 (W : World) (p : Nat) (w : World) : Prop := W.heap.size ≤ p ∧ WBox w p 0 0 0 0 ∧ WFree w p
theorem Fresh4.later {W w w' : World} {p : Nat} (h : Fresh4 W p w) (hb : Below w.heap.size w w') : Fresh4 W p w' := ⟨h.1, h.2.1.later hb, h.2.2.later h.2.1.1 hb⟩
/-- The two variables, as far as they are made. -/
def AWW (W : World) (vs : List Value) (w : World) : Prop := ∃ x y, vs = [x, y] ∧
  (x = undef ∨ ∃ p, x = .pointer (some ⟨p, 0, none⟩) ∧ Fresh4 W p w) ∧ (y = undef ∨ ∃ q, y = .pointer (some ⟨q, 0, none⟩) ∧ Fresh4 W q w) ∧
  ∀ p q, x = .pointer (some ⟨p, 0, none⟩) → y = .pointer (some ⟨q, 0, none⟩) → p ≠ q
theorem AWW.lasts (W : World) : Lasts (AWW W) := fun vs w w' h hb => by
  obtain ⟨x, y, e, hx, hy, hn⟩ := h
  refine ⟨x, y, e, ?_, ?_, hn⟩
  · rcases hx with rfl | ⟨p, rfl, hp⟩
    · exact .inl rfl
    · exact .inr ⟨p, rfl, hp.later hb⟩
  · rcases hy with rfl | ⟨p, rfl, hp⟩
    · exact .inl rfl
    · exact .inr ⟨p, rfl, hp.later hb⟩
theorem und_ptr {p : Option Addr} (h : undef = .pointer p) : False := by unfold undef at h; cases h
theorem AWW.start (W w : World) : AWW W [undef, undef] w := ⟨_, _, rfl, .inl rfl, .inl rfl, fun p q h _ => (und_ptr h).elim⟩
theorem Fresh4.new {W w : World} (hb : Below W.heap.size W w) (t : TypeId) : Fresh4 W w.heap.size (w.alloc (wbx 0 0 0 0 t)) := ⟨hb.size, WBox.new _ _ _ _ _ _, WFree.new _ _ _ _ _ _⟩
theorem ptr_inj {p q : Nat} (h : Value.pointer (some ⟨p, 0, none⟩) = .pointer (some ⟨q, 0, none⟩)) : p = q := by
  simpa using h
theorem AWW.first {W w : World} (hb : Below W.heap.size W w) (t : TypeId) {vs : List Value} (hv : vs = [.pointer (some ⟨w.heap.size, 0, none⟩), undef]) : AWW W vs (w.alloc (wbx 0 0 0 0 t)) :=
  ⟨_, _, hv, .inr ⟨_, rfl, Fresh4.new hb t⟩, .inl rfl, fun p q _ h => (und_ptr h).elim⟩
theorem AWW.first' {W w : World} (hb : Below W.heap.size W w) (t : TypeId) {vs : List Value} (hv : vs = [undef, .pointer (some ⟨w.heap.size, 0, none⟩)]) : AWW W vs (w.alloc (wbx 0 0 0 0 t)) :=
  ⟨_, _, hv, .inl rfl, .inr ⟨_, rfl, Fresh4.new hb t⟩, fun p q h _ => (und_ptr h).elim⟩
theorem AWW.second {W w : World} {p : Nat} (hb : Below W.heap.size W w) (h : AWW W [.pointer (some ⟨p, 0, none⟩), undef] w) (t : TypeId) {vs : List Value} (hv : vs = [.pointer (some ⟨p, 0, none⟩), .pointer (some ⟨w.heap.size, 0, none⟩)]) : AWW W vs (w.alloc (wbx 0 0 0 0 t)) := by
  obtain ⟨x, y, e, hx, hy, hn⟩ := h
  obtain ⟨rfl, rfl⟩ : x = .pointer (some ⟨p, 0, none⟩) ∧ y = undef := by simpa [eq_comm] using e
  rcases hx with h | ⟨p', h, hp⟩
  · exact (und_ptr h.symm).elim
  obtain rfl := ptr_inj h
  refine ⟨_, _, hv, .inr ⟨_, rfl, hp.later (bA (Below.refl _ _) _)⟩, .inr ⟨_, rfl, Fresh4.new hb t⟩, fun a b ha hb' => ?_⟩
  have h1 := ptr_inj ha; have h2 := ptr_inj hb'
  have := hp.2.1.1; omega
theorem AWW.second' {W w : World} {q : Nat} (hb : Below W.heap.size W w) (h : AWW W [undef, .pointer (some ⟨q, 0, none⟩)] w) (t : TypeId) {vs : List Value} (hv : vs = [.pointer (some ⟨w.heap.size, 0, none⟩), .pointer (some ⟨q, 0, none⟩)]) : AWW W vs (w.alloc (wbx 0 0 0 0 t)) := by
  obtain ⟨x, y, e, hx, hy, hn⟩ := h
  obtain ⟨rfl, rfl⟩ : x = undef ∧ y = .pointer (some ⟨q, 0, none⟩) := by simpa [eq_comm] using e
  rcases hy with h | ⟨p', h, hp⟩
  · exact (und_ptr h.symm).elim
  obtain rfl := ptr_inj h
  refine ⟨_, _, hv, .inr ⟨_, rfl, Fresh4.new hb t⟩, .inr ⟨_, rfl, hp.later (bA (Below.refl _ _) _)⟩, fun a b ha hb' => ?_⟩
  have h1 := ptr_inj ha; have h2 := ptr_inj hb'
  have := hp.2.1.1; omega
theorem AWW.both {W w : World} {p q : Nat} (h : AWW W [.pointer (some ⟨p, 0, none⟩), .pointer (some ⟨q, 0, none⟩)] w) : Fresh4 W p w ∧ Fresh4 W q w ∧ p ≠ q := by
  obtain ⟨x, y, e, hx, hy, hn⟩ := h
  obtain ⟨rfl, rfl⟩ : x = .pointer (some ⟨p, 0, none⟩) ∧ y = .pointer (some ⟨q, 0, none⟩) := by simpa [eq_comm] using e
  refine ⟨?_, ?_, hn p q rfl rfl⟩
  · rcases hx with h | ⟨p', h, hp⟩
    · exact (und_ptr h.symm).elim
    · obtain rfl := ptr_inj h; exact hp
  · rcases hy with h | ⟨p', h, hp⟩
    · exact (und_ptr h.symm).elim
    · obtain rfl := ptr_inj h; exact hp
/-- Behind the first store, and behind both. -/
def ZWW (W : World) (d0 d1 d2 d3 e0 e1 e2 e3 : Int) (bs : List Bool) (vs : List Value) (w : World) : Prop :=
  ∃ p q, vs = [.pointer (some ⟨p, 0, none⟩), .pointer (some ⟨q, 0, none⟩)] ∧ W.heap.size ≤ p ∧ W.heap.size ≤ q ∧ p ≠ q ∧ WBox w p d0 d1 d2 d3 ∧ WFree w p ∧ WFree w q ∧
    (bs = [true, false] → WBox w q 0 0 0 0) ∧ (bs = [true, true] → WBox w q e0 e1 e2 e3) ∧ Below W.heap.size W w
theorem ZWW.one {W w : World} {p q : Nat} (hb : Below W.heap.size W w) (h : AWW W [.pointer (some ⟨p, 0, none⟩), .pointer (some ⟨q, 0, none⟩)] w) (d0 d1 d2 d3 e0 e1 e2 e3 : Int) :
    ZWW W d0 d1 d2 d3 e0 e1 e2 e3 [true, false] [.pointer (some ⟨p, 0, none⟩), .pointer (some ⟨q, 0, none⟩)] (set4 w p d0 d1 d2 d3) := by
  obtain ⟨⟨p0, p1, p2⟩, ⟨q0, q1, q2⟩, hn⟩ := h.both
  exact ⟨p, q, rfl, p0, q0, hn, wbox_put4 p1 _ _ _ _, p2.set4 _ _ _ _ _, q2.set4 _ _ _ _ _, fun _ => q1.set4 hn _ _ _ _, fun h => by simp at h, below_set4 hb p0 _ _ _ _⟩
theorem ZWW.cells {W w : World} {d0 d1 d2 d3 e0 e1 e2 e3 : Int} {p q : Nat} (h : ZWW W d0 d1 d2 d3 e0 e1 e2 e3 [true, false] [.pointer (some ⟨p, 0, none⟩), .pointer (some ⟨q, 0, none⟩)] w) : WBox w q 0 0 0 0 ∧ WFree w q := by
  obtain ⟨p', q', e, g0, g1, hn, hp, f1, f2, h1, h2, hb⟩ := h
  obtain ⟨rfl, rfl⟩ : p = p' ∧ q = q' := by simpa using e
  exact ⟨h1 rfl, f2⟩
theorem ZWW.two {W w : World} {d0 d1 d2 d3 e0 e1 e2 e3 : Int} {p q : Nat} (h : ZWW W d0 d1 d2 d3 e0 e1 e2 e3 [true, false] [.pointer (some ⟨p, 0, none⟩), .pointer (some ⟨q, 0, none⟩)] w) :
    ZWW W d0 d1 d2 d3 e0 e1 e2 e3 [true, true] [.pointer (some ⟨p, 0, none⟩), .pointer (some ⟨q, 0, none⟩)] (set4 w q e0 e1 e2 e3) := by
  obtain ⟨p', q', e, g0, g1, hn, hp, f1, f2, h1, h2, hb⟩ := h
  obtain ⟨rfl, rfl⟩ : p = p' ∧ q = q' := by simpa using e
  exact ⟨p, q, rfl, g0, g1, hn, hp.set4 (Ne.symm hn) _ _ _ _, f1.set4 _ _ _ _ _, f2.set4 _ _ _ _ _, fun h => by simp at h, fun _ => wbox_put4 (h1 rfl) _ _ _ _, below_set4 hb g1 _ _ _ _⟩
theorem ZWW.done {W w : World} {d0 d1 d2 d3 e0 e1 e2 e3 : Int} {p q : Nat} (h : ZWW W d0 d1 d2 d3 e0 e1 e2 e3 [true, true] [.pointer (some ⟨p, 0, none⟩), .pointer (some ⟨q, 0, none⟩)] w) :
    W.heap.size ≤ p ∧ W.heap.size ≤ q ∧ p ≠ q ∧ WBox w p d0 d1 d2 d3 ∧ WFree w p ∧ WBox w q e0 e1 e2 e3 ∧ WFree w q ∧ Below W.heap.size W w := by
  obtain ⟨p', q', e, g0, g1, hn, hp, f1, f2, h1, h2, hb⟩ := h
  obtain ⟨rfl, rfl⟩ : p = p' ∧ q = q' := by simpa using e
  exact ⟨g0, g1, hn, hp, f1, h2 rfl, f2, hb⟩
theorem LS.loadAny {P : Program} {ops : Array Oper} {W : World} {A : List Value → World → Prop} {Z : List Bool → List Value → World → Prop} (hZ : ∀ bs vs w, Z bs vs w → Below W.heap.size W w) {o : Oper} {v : Value} {a : Act} (hw : Region.wanted o (yielded ops a.tmps) = true)
    (h : ∀ w, Below W.heap.size W w → (execOp a.eval o).run P w = .ok (.value v) w) : Gives P ops (LS W A Z) (fun _ => True) o v a :=
  Gives.value hw fun bs vs w _ hS => h w (by
    by_cases hb : noBits bs
    · exact (hS.1 hb).1
    · exact hZ _ _ _ (hS.2 hb))
theorem ZWW.below {W : World} {d0 d1 d2 d3 e0 e1 e2 e3 : Int} (bs : List Bool) (vs : List Value) (w : World) (h : ZWW W d0 d1 d2 d3 e0 e1 e2 e3 bs vs w) : Below W.heap.size W w := by
  obtain ⟨p', q', e, g0, g1, hn, hp, f1, f2, h1, h2, hb⟩ := h
  exact hb
theorem bits_tf' : ¬ noBits [true, false] := by simp [noBits]
theorem bits_tt' : ¬ noBits [true, true] := by simp [noBits]

end Go.Proofs.Ytidppeaianpojaa
