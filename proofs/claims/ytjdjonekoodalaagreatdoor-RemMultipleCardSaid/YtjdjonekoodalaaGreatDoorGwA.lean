import Derived.Deep.DeepCutAuto
import Derived.Deep.DrawnRows
import Derived.Laws.CopyOwn
import Derived.LoopIn
import Derived.LoopNIn
import Derived.OwnWalkIn
import Derived.RangeFuncBound
import Derived.RangeFuncNested
import Derived.Shelf.RegionOpen
import Derived.Test.YtjdjonekoodalaaGreatDoorGaA
set_option linter.unusedVariables false
set_option maxRecDepth 100000
namespace Go.Proofs.YtjdjonekoodalaaGreatDoor
open Go.RowKit
abbrev Ca (f : FuncId) (args : Array Value) (w : World) (v : Value) : Prop := Calls Tryz.prog f args w fun e w' => e = .returned v ∧ Below w.heap.size w w'
abbrev U2 (a b : Int) : Value := .agg #[.int .u64 a, .int .u64 b]
abbrev U4 (a b c d : Int) : Value := .agg #[.int .u64 a, .int .u64 b, .int .u64 c, .int .u64 d]
abbrev T5 (e a b c d : Int) : Value := .agg #[.int .i64 e, .int .u64 a, .int .u64 b, .int .u64 c, .int .u64 d]
section
variable {P : Program} {f : FuncId} {args : Array Value} {w : World} {Q : Ending → World → Prop}
theorem vM {v : Value} (c : Calls P f args w fun e w' => e = .returned v ∧ Below w.heap.size w w') (h : ∀ w', Below w.heap.size w w' → Q (.returned v) w') : Calls P f args w Q :=
  c.mono fun e w' hh => by obtain ⟨rfl, hb⟩ := hh; exact h w' hb
theorem vE {α : Type} {g : α → Value} {N : α → World → Prop} (c : Calls P f args w fun e w' => ∃ v, e = .returned (g v) ∧ N v w' ∧ Below w.heap.size w w') (h : ∀ v w', N v w' → Below w.heap.size w w' → Q (.returned (g v)) w') : Calls P f args w Q :=
  c.mono fun e w' hh => by obtain ⟨v, rfl, nv, hb⟩ := hh; exact h v w' nv hb
end
theorem vW {α : Type} {K : α → World → Prop} {v : α} {w0 : World} (S : World → Prop) (h0 : S w0) (h : ∀ W, S W → K v W) : K v w0 := h w0 h0
theorem HB.o {W : World} {p : Nat} {t : TypeId} {vs : Array Value} (h : HB W p t vs) : (∀ k, W.cell? ⟨p, k, none⟩ = vs[k]?) ∧ (∀ k, W.frozen? ⟨p, k, none⟩ = false) ∧ p < W.heap.size := ⟨h.cell, h.frozen, h.lt⟩
def Off (ps : List Nat) (W w : World) : Prop := ∀ (b : Nat) (o : Obj), b ∉ ps → W.heap[b]? = some o → w.heap[b]? = some o
theorem Off.hb {ps : List Nat} {W w : World} {p : Nat} {t : TypeId} {vs : Array Value} (h : Off ps W w) (x : HB W p t vs) (hp : p ∉ ps) : HB w p t vs := h p _ hp x
theorem Off.cell {ps : List Nat} {W w : World} {p k : Nat} {v : Value} (h : Off ps W w) (x : W.cell? ⟨p, k, none⟩ = some v) (hp : p ∉ ps) : w.cell? ⟨p, k, none⟩ = some v := by
  cases hh : W.heap[p]? with
  | none => simp [World.cell?, hh] at x
  | some o => simpa [World.cell?, hh, h p o hp hh] using x
theorem Off.drew {ps : List Nat} {W : World} : Off ps W W.drew := fun _ _ _ h => h
theorem Off.later {ps : List Nat} {W w w' : World} (h : Off ps W w) (hb : Below w.heap.size w w') : Off ps W w' := fun b o hp hW => by
  have h1 := h b o hp hW
  have hlt : b < w.heap.size := (Array.getElem?_eq_some_iff.1 h1).1
  exact (hb.block b hlt).trans h1
theorem Off.ofB {W w : World} (h : Below W.heap.size W w) : Off [] W w := fun b o _ hW => (h.block b (Array.getElem?_eq_some_iff.1 hW).1).trans hW
section
variable {P : Program} {ops : Array Oper} {Q : Exit → Act → World → Prop} {md : Region.Mode} {S : World → Prop} {fuel : Nat} {listed : Array Bool} {a a' : Act} {w : World} {oi : Oper} {v : Value}
theorem vT (i : Nat) (hS : S w) (h : wpAnyH P md ops Q S fuel (listed.setIfInBounds i true) a' w) (hi : ops[i]? = some oi := by rfl) (hs : Region.noSelect ops = true := by kernel_rfl)
    (hf : Region.free md ops listed i = true := by kernel_rfl) (hr : (Region.ready md ops listed).contains i = true := by kernel_rfl) (hw : Region.wanted oi (yielded ops a.tmps) = true := by rfl)
    (hy : ∀ w, S w → (execOp a.eval oi).run P w = .ok (.value v) w := by (intro wq hb; go_simp; try (with_reducible rfl)))
    (ha : a.put oi.dst v = a' := by (simp only [List.getElem_toArray, List.getElem_cons_zero, List.getElem_cons_succ, Act.put, List.setIfInBounds_toArray, List.set_cons_zero, List.set_cons_succ] <;> exact rfl))
    (hQ : ∀ c a w, Q (.panic c) (a.put oi.dst v) w → Q (.panic c) a w := by exact fun _ _ _ h => h) : wpAnyH P md ops Q S (fuel + 1) listed a w := by
  subst ha
  exact wpAnyH_take hi hs hf hr hQ (Or.inl ⟨hw, hy⟩) hS h
theorem vN (i : Nat) (hS : S w) (h : wpAnyH P md ops Q S fuel (listed.setIfInBounds i true) a' w) (hv : v = undef := by rfl) (hi : ops[i]? = some oi := by rfl) (hs : Region.noSelect ops = true := by kernel_rfl)
    (hf : Region.free md ops listed i = true := by kernel_rfl) (hr : (Region.ready md ops listed).contains i = true := by kernel_rfl) (hw : Region.wanted oi (yielded ops a.tmps) = false := by rfl)
    (ha : a.put oi.dst v = a' := by (simp only [List.getElem_toArray, List.getElem_cons_zero, List.getElem_cons_succ, Act.put, List.setIfInBounds_toArray, List.set_cons_zero, List.set_cons_succ] <;> exact rfl))
    (hQ : ∀ c a w, Q (.panic c) (a.put oi.dst v) w → Q (.panic c) a w := by exact fun _ _ _ h => h) : wpAnyH P md ops Q S (fuel + 1) listed a w := by
  subst ha
  exact wpAnyH_take hi hs hf hr hQ (Or.inr ⟨hw, hv⟩) hS h
def Stp (P : Program) (md : Region.Mode) (ops : Array Oper) (Q : Exit → Act → World → Prop) (S : World → Prop) (fuel : Nat) (listed : Array Bool) (a : Act) (w : World) (i : Nat) : Prop :=
  wpOp P ops Q i (fun a' w' => S w' ∧ wpAnyH P md ops Q S fuel (listed.setIfInBounds i true) a' w') a w
theorem vY1 {i : Nat} (h : Stp P md ops Q S fuel listed a w i) (hr : Region.ready md ops listed = [i] := by kernel_rfl) : wpAnyH P md ops Q S (fuel + 1) listed a w :=
  wpAnyH_ready hr (by simp) fun k hk => by obtain rfl := List.mem_singleton.1 hk; exact h
theorem vY2 {i j : Nat} (h : Stp P md ops Q S fuel listed a w i) (h2 : Stp P md ops Q S fuel listed a w j) (hr : Region.ready md ops listed = [i, j] := by kernel_rfl) : wpAnyH P md ops Q S (fuel + 1) listed a w :=
  wpAnyH_ready hr (by simp) fun k hk => by
    rcases List.mem_cons.1 hk with rfl | hk
    · exact h
    · obtain rfl := List.mem_singleton.1 hk; exact h2
theorem vY3 {i j l : Nat} (h : Stp P md ops Q S fuel listed a w i) (h2 : Stp P md ops Q S fuel listed a w j) (h3 : Stp P md ops Q S fuel listed a w l) (hr : Region.ready md ops listed = [i, j, l] := by kernel_rfl) : wpAnyH P md ops Q S (fuel + 1) listed a w :=
  wpAnyH_ready hr (by simp) fun k hk => by
    rcases List.mem_cons.1 hk with rfl | hk
    · exact h
    · rcases List.mem_cons.1 hk with rfl | hk
      · exact h2
      · obtain rfl := List.mem_singleton.1 hk; exact h3
theorem vO (i : Nat) (h : ∀ K : Act → World → Prop, Shut (∀ a w, S w → (S w → wpAnyH P md ops Q S fuel (listed.setIfInBounds i true) a w) → K a w) → Oper.wp P oi a w K Q) (hi : ops[i]? = some oi := by rfl)
    (hw : Region.wanted oi (yielded ops a.tmps) = true := by rfl) : Stp P md ops Q S fuel listed a w i :=
  wpOp_step hi fun K hK => by rw [if_pos hw]; exact h K (fun a w hS hW => hK a w ⟨hS, hW hS⟩)
theorem vC (i : Nat) {f : FuncId} {args : Array Value} (hS : S w) (c : Calls P f args w fun e w' => e = .returned v ∧ Below w.heap.size w w') (hK : ∀ w w', S w → Below w.heap.size w w' → S w')
    (h : ∀ w', Below w.heap.size w w' → S w' → wpAnyH P md ops Q S fuel (listed.setIfInBounds i true) a' w') (hi : ops[i]? = some oi := by rfl) (hw : Region.wanted oi (yielded ops a.tmps) = true := by rfl)
    (hy : ∀ w, (execOp a.eval oi).run P w = .ok (.enter f args) w := by (intro wq; go_simp; try (with_reducible rfl)))
    (ha : a.put oi.dst v = a' := by (simp only [List.getElem_toArray, List.getElem_cons_zero, List.getElem_cons_succ, Act.put, List.setIfInBounds_toArray, List.set_cons_zero, List.set_cons_succ] <;> exact rfl)) : Stp P md ops Q S fuel listed a w i := by
  subst ha
  refine vO i (fun K hK' => ?_) hi hw
  unfold Oper.wp
  rw [hy w]
  simp only [Oper.upon]
  exact vM c fun w' hb => hK'.out _ _ (hK _ _ hS hb) fun hS' => h w' hb hS'
theorem vCE (i : Nat) {α : Type} {g : α → Value} {N : α → World → Prop} {a' : α → Act} {f : FuncId} {args : Array Value} (hS : S w) (c : Calls P f args w fun e w' => ∃ v, e = .returned (g v) ∧ N v w' ∧ Below w.heap.size w w') (hK : ∀ w w', S w → Below w.heap.size w w' → S w')
    (h : ∀ v w', N v w' → Below w.heap.size w w' → S w' → wpAnyH P md ops Q S fuel (listed.setIfInBounds i true) (a' v) w') (hi : ops[i]? = some oi := by rfl) (hw : Region.wanted oi (yielded ops a.tmps) = true := by rfl)
    (hy : ∀ w, (execOp a.eval oi).run P w = .ok (.enter f args) w := by (intro wq; go_simp; try (with_reducible rfl)))
    (ha : ∀ x, a.put oi.dst (g x) = a' x := by (intro x; simp only [List.getElem_toArray, List.getElem_cons_zero, List.getElem_cons_succ, Act.put, List.setIfInBounds_toArray, List.set_cons_zero, List.set_cons_succ] <;> exact rfl)) : Stp P md ops Q S fuel listed a w i := by
  refine vO i (fun K hK' => ?_) hi hw
  unfold Oper.wp
  rw [hy w]
  simp only [Oper.upon]
  exact vE c fun v w' nv hb => hK'.out _ _ (hK _ _ hS hb) fun hS' => by rw [ha]; exact h v w' nv hb hS'
theorem vA (i : Nat) {t : TypeId} {z : Array Value} {a' : Nat → Act} (hS : S w) (hK : ∀ w w', S w → Below w.heap.size w w' → S w')
    (h : ∀ w' p, w.heap.size ≤ p → HB w' p t z → Below w.heap.size w w' → S w' → wpAnyH P md ops Q S fuel (listed.setIfInBounds i true) (a' p) w') (hi : ops[i]? = some oi := by rfl) (hw : Region.wanted oi (yielded ops a.tmps) = true := by rfl)
    (hy : (execOp a.eval oi).run P w = .ok (.value (.pointer (some ⟨w.heap.size, 0, none⟩))) (w.alloc (.cells z t)) := by (go_simp; try (with_reducible rfl)))
    (ha : ∀ p, a.put oi.dst (.pointer (some ⟨p, 0, none⟩)) = a' p := by (intro x; simp only [List.getElem_toArray, List.getElem_cons_zero, List.getElem_cons_succ, Act.put, List.setIfInBounds_toArray, List.set_cons_zero, List.set_cons_succ] <;> exact rfl)) : Stp P md ops Q S fuel listed a w i := by
  refine vO i (fun K hK' => ?_) hi hw
  unfold Oper.wp
  rw [hy]
  simp only [Oper.upon]
  exact hK'.out _ _ (hK _ _ hS (bA bR _)) fun hS' => by rw [ha]; exact h _ _ (Nat.le_refl _) (HB.new _ _ _) (bA bR _) hS'
theorem vB (i : Nat) {t : TypeId} {z : Array Value} {n : Nat} {a' : Nat → Act} (hS : S w) (hK : ∀ w w', S w → Below w.heap.size w w' → S w')
    (h : ∀ w' p, w.heap.size ≤ p → HB w' p t z → Below w.heap.size w w' → S w' → wpAnyH P md ops Q S fuel (listed.setIfInBounds i true) (a' p) w') (hi : ops[i]? = some oi := by rfl) (hw : Region.wanted oi (yielded ops a.tmps) = true := by rfl)
    (hy : (execOp a.eval oi).run P w = .ok (.value (.slice (some ⟨w.heap.size, 0, none⟩) n n)) (w.alloc (.cells z t)) := by (go_simp; try (with_reducible rfl)))
    (ha : ∀ p, a.put oi.dst (.slice (some ⟨p, 0, none⟩) n n) = a' p := by (intro x; simp only [List.getElem_toArray, List.getElem_cons_zero, List.getElem_cons_succ, Act.put, List.setIfInBounds_toArray, List.set_cons_zero, List.set_cons_succ] <;> exact rfl)) : Stp P md ops Q S fuel listed a w i := by
  refine vO i (fun K hK' => ?_) hi hw
  unfold Oper.wp
  rw [hy]
  simp only [Oper.upon]
  exact hK'.out _ _ (hK _ _ hS (bA bR _)) fun hS' => by rw [ha]; exact h _ _ (Nat.le_refl _) (HB.new _ _ _) (bA bR _) hS'
section
variable {ps : List Nat} {W1 : World}
theorem cC (i : Nat) {f : FuncId} {args : Array Value} (hS : Off ps W1 w) (c : Calls P f args w fun e w' => e = .returned v ∧ Below w.heap.size w w')
    (h : ∀ w', Below w.heap.size w w' → wpAnyH P md ops Q (Off ps W1) fuel (listed.setIfInBounds i true) a' w') (hi : ops[i]? = some oi := by rfl) (hw : Region.wanted oi (yielded ops a.tmps) = true := by rfl)
    (hy : ∀ w, (execOp a.eval oi).run P w = .ok (.enter f args) w := by (intro wq; go_simp; try (with_reducible rfl)))
    (ha : a.put oi.dst v = a' := by (simp only [List.getElem_toArray, List.getElem_cons_zero, List.getElem_cons_succ, Act.put, List.setIfInBounds_toArray, List.set_cons_zero, List.set_cons_succ] <;> exact rfl)) : Stp P md ops Q (Off ps W1) fuel listed a w i :=
  vC i hS c (fun _ _ => Off.later) (fun w' hb _ => h w' hb) hi hw hy ha
theorem cE (i : Nat) {α : Type} {g : α → Value} {N : α → World → Prop} {a' : α → Act} {f : FuncId} {args : Array Value} (hS : Off ps W1 w) (c : Calls P f args w fun e w' => ∃ v, e = .returned (g v) ∧ N v w' ∧ Below w.heap.size w w')
    (h : ∀ v w', N v w' → Below w.heap.size w w' → wpAnyH P md ops Q (Off ps W1) fuel (listed.setIfInBounds i true) (a' v) w') (hi : ops[i]? = some oi := by rfl) (hw : Region.wanted oi (yielded ops a.tmps) = true := by rfl)
    (hy : ∀ w, (execOp a.eval oi).run P w = .ok (.enter f args) w := by (intro wq; go_simp; try (with_reducible rfl)))
    (ha : ∀ x, a.put oi.dst (g x) = a' x := by (intro x; simp only [List.getElem_toArray, List.getElem_cons_zero, List.getElem_cons_succ, Act.put, List.setIfInBounds_toArray, List.set_cons_zero, List.set_cons_succ] <;> exact rfl)) : Stp P md ops Q (Off ps W1) fuel listed a w i :=
  vCE i hS c (fun _ _ => Off.later) (fun v w' nv hb _ => h v w' nv hb) hi hw hy ha
theorem cA (i : Nat) {t : TypeId} {z : Array Value} {a' : Nat → Act} (hS : Off ps W1 w)
    (h : ∀ w' p, w.heap.size ≤ p → HB w' p t z → Below w.heap.size w w' → wpAnyH P md ops Q (Off ps W1) fuel (listed.setIfInBounds i true) (a' p) w') (hi : ops[i]? = some oi := by rfl) (hw : Region.wanted oi (yielded ops a.tmps) = true := by rfl)
    (hy : (execOp a.eval oi).run P w = .ok (.value (.pointer (some ⟨w.heap.size, 0, none⟩))) (w.alloc (.cells z t)) := by (go_simp; try (with_reducible rfl)))
    (ha : ∀ p, a.put oi.dst (.pointer (some ⟨p, 0, none⟩)) = a' p := by (intro x; simp only [List.getElem_toArray, List.getElem_cons_zero, List.getElem_cons_succ, Act.put, List.setIfInBounds_toArray, List.set_cons_zero, List.set_cons_succ] <;> exact rfl)) : Stp P md ops Q (Off ps W1) fuel listed a w i :=
  vA i hS (fun _ _ => Off.later) (fun w' p hp hx hb _ => h w' p hp hx hb) hi hw hy ha
theorem cB (i : Nat) {t : TypeId} {z : Array Value} {n : Nat} {a' : Nat → Act} (hS : Off ps W1 w)
    (h : ∀ w' p, w.heap.size ≤ p → HB w' p t z → Below w.heap.size w w' → wpAnyH P md ops Q (Off ps W1) fuel (listed.setIfInBounds i true) (a' p) w') (hi : ops[i]? = some oi := by rfl) (hw : Region.wanted oi (yielded ops a.tmps) = true := by rfl)
    (hy : (execOp a.eval oi).run P w = .ok (.value (.slice (some ⟨w.heap.size, 0, none⟩) n n)) (w.alloc (.cells z t)) := by (go_simp; try (with_reducible rfl)))
    (ha : ∀ p, a.put oi.dst (.slice (some ⟨p, 0, none⟩) n n) = a' p := by (intro x; simp only [List.getElem_toArray, List.getElem_cons_zero, List.getElem_cons_succ, Act.put, List.setIfInBounds_toArray, List.set_cons_zero, List.set_cons_succ] <;> exact rfl)) : Stp P md ops Q (Off ps W1) fuel listed a w i :=
  vB i hS (fun _ _ => Off.later) (fun w' p hp hx hb _ => h w' p hp hx hb) hi hw hy ha
end
theorem vP (h : wpAnyH P md ops Q S fuel listed a' w) (ha : a = a' := by (first | (simp only [List.getElem_toArray, List.getElem_cons_zero, List.getElem_cons_succ, Act.put, List.setIfInBounds_toArray, List.set_cons_zero, List.set_cons_succ] <;> exact rfl) | exact rfl)) : wpAnyH P md ops Q S fuel listed a w := by
  subst ha; exact h
theorem vD (h : Q .normal a w) (hr : Region.ready md ops listed = [] := by kernel_rfl) : wpAnyH P md ops (NoPanic Q) S fuel listed a w := wpAnyH_done hr (NoPanic.normal h) fuel
end
theorem Off.far {ps : List Nat} {W w : World} {p k : Nat} {v : Value} (hp : W.heap.size ≤ p) (h : Off ps W w) : Off ps W (w.setCell ⟨p, k, none⟩ v) := fun b o hb hW =>
  (Below.heap_setCell _ _ _ b (fun e => by have := (Array.getElem?_eq_some_iff.1 hW).1; have e2 : b = p := by rw [e]
                                           omega)).trans (h b o hb hW)
theorem Off.set {ps : List Nat} {W w : World} {p k : Nat} {v : Value} (hp : p ∈ ps) (h : Off ps W w) : Off ps W (w.setCell ⟨p, k, none⟩ v) := fun b o hb hW =>
  (Below.heap_setCell _ _ _ b (fun e => hb (by rw [e]; exact hp))).trans (h b o hb hW)
section
variable {P : Program} {Q : Exit → Act → World → Prop} {ops : Array Oper} {a : Act} {w : World} {c : Code}
theorem vR {id : Nat} (ps : List Nat) (h : ∀ w', Below w.heap.size w w' → Off ps w w' → wpAnyH P .any ops (NoPanic Q) (Off ps w) ops.size (Array.replicate ops.size false) a w') (hm : P.follows .mixedOrders = true := by kernel_rfl) : (Code.region id ops true).wp P Q a w :=
  wp_region_noPanic (wp_region_held_drew hm Off.drew (h _ bR.drew))
variable {t1 t2 t3 t4 t5 t6 : TypeId} {v1 v2 v3 v4 v5 v6 : Array Value}
theorem vF1 (h : ∀ W, Below w.heap.size w W → HB W w.heap.size t1 v1 → c.wp P Q a W) : c.wp P Q a (w.alloc (.cells v1 t1)) :=
  h _ (bA bR _) (HB.newAt (by simp) _ _)
theorem vF2 (h : ∀ W, Below w.heap.size w W → HB W w.heap.size t1 v1 → HB W (w.heap.size + 1) t2 v2 → c.wp P Q a W) : c.wp P Q a ((w.alloc (.cells v1 t1)).alloc (.cells v2 t2)) :=
  h _ (bA (bA bR _) _) ((HB.newAt (by simp) _ _).alloc _) (HB.newAt (by simp) _ _)
theorem vF3 (h : ∀ W, Below w.heap.size w W → HB W w.heap.size t1 v1 → HB W (w.heap.size + 1) t2 v2 → HB W (w.heap.size + 1 + 1) t3 v3 → c.wp P Q a W) : c.wp P Q a (((w.alloc (.cells v1 t1)).alloc (.cells v2 t2)).alloc (.cells v3 t3)) :=
  h _ (bA (bA (bA bR _) _) _) (((HB.newAt (by simp) _ _).alloc _).alloc _) ((HB.newAt (by simp) _ _).alloc _) (HB.newAt (by simp) _ _)
end
end Go.Proofs.YtjdjonekoodalaaGreatDoor
namespace Go.Proofs.YtjdjonekoodalaaGreatDoor
open Go.RowKit
variable {P : Program} {ops : Array Oper} {Q : Exit → Act → World → Prop} {md : Region.Mode} {S : World → Prop} {fuel : Nat} {listed : Array Bool} {a a' : Act} {w : World} {oi : Oper} {v : Value}
theorem vY4 {i j l n : Nat} (h : Stp P md ops Q S fuel listed a w i) (h2 : Stp P md ops Q S fuel listed a w j) (h3 : Stp P md ops Q S fuel listed a w l) (h4 : Stp P md ops Q S fuel listed a w n) (hr : Region.ready md ops listed = [i, j, l, n] := by kernel_rfl) : wpAnyH P md ops Q S (fuel + 1) listed a w :=
  wpAnyH_ready hr (by simp) fun k hk => by
    rcases List.mem_cons.1 hk with rfl | hk
    · exact h
    · rcases List.mem_cons.1 hk with rfl | hk
      · exact h2
      · rcases List.mem_cons.1 hk with rfl | hk
        · exact h3
        · obtain rfl := List.mem_singleton.1 hk; exact h4
end Go.Proofs.YtjdjonekoodalaaGreatDoor
namespace Go.Proofs.YtjdjonekoodalaaGreatDoor
open Go.RowKit
variable {P : Program} {ops : Array Oper} {Q : Exit → Act → World → Prop} {md : Region.Mode} {S : World → Prop} {fuel : Nat} {listed : Array Bool} {a a' : Act} {w : World} {oi : Oper} {v : Value}
theorem uT (i : Nat) (hS : S w) (h : wpAnyH P md ops Q S fuel (listed.setIfInBounds i true) a' w) (hi : ops[i]? = some oi := by rfl) (hs : Region.noSelect ops = true := by (as_aux_lemma => kernel_rfl))
    (hf : Region.free md ops listed i = true := by (as_aux_lemma => kernel_rfl)) (hr : (Region.ready md ops listed).contains i = true := by (as_aux_lemma => kernel_rfl)) (hw : Region.wanted oi (yielded ops a.tmps) = true := by rfl)
    (hy : ∀ w, S w → (execOp a.eval oi).run P w = .ok (.value v) w := by (intro wq hb; go_simp; try (with_reducible rfl)))
    (ha : a.put oi.dst v = a' := by (simp only [List.getElem_toArray, List.getElem_cons_zero, List.getElem_cons_succ, Act.put, List.setIfInBounds_toArray, List.set_cons_zero, List.set_cons_succ] <;> exact rfl))
    (hQ : ∀ c a w, Q (.panic c) (a.put oi.dst v) w → Q (.panic c) a w := by exact fun _ _ _ h => h) : wpAnyH P md ops Q S (fuel + 1) listed a w := by
  subst ha
  exact wpAnyH_take hi hs hf hr hQ (Or.inl ⟨hw, hy⟩) hS h
theorem uY1 {i : Nat} (h : Stp P md ops Q S fuel listed a w i) (hr : Region.ready md ops listed = [i] := by (as_aux_lemma => kernel_rfl)) : wpAnyH P md ops Q S (fuel + 1) listed a w :=
  wpAnyH_ready hr (by simp) fun k hk => by obtain rfl := List.mem_singleton.1 hk; exact h
theorem uY2 {i j : Nat} (h : Stp P md ops Q S fuel listed a w i) (h2 : Stp P md ops Q S fuel listed a w j) (hr : Region.ready md ops listed = [i, j] := by (as_aux_lemma => kernel_rfl)) : wpAnyH P md ops Q S (fuel + 1) listed a w :=
  wpAnyH_ready hr (by simp) fun k hk => by
    rcases List.mem_cons.1 hk with rfl | hk
    · exact h
    · obtain rfl := List.mem_singleton.1 hk; exact h2
theorem uY3 {i j l : Nat} (h : Stp P md ops Q S fuel listed a w i) (h2 : Stp P md ops Q S fuel listed a w j) (h3 : Stp P md ops Q S fuel listed a w l) (hr : Region.ready md ops listed = [i, j, l] := by (as_aux_lemma => kernel_rfl)) : wpAnyH P md ops Q S (fuel + 1) listed a w :=
  wpAnyH_ready hr (by simp) fun k hk => by
    rcases List.mem_cons.1 hk with rfl | hk
    · exact h
    · rcases List.mem_cons.1 hk with rfl | hk
      · exact h2
      · obtain rfl := List.mem_singleton.1 hk; exact h3
end Go.Proofs.YtjdjonekoodalaaGreatDoor
namespace Go.Proofs.YtjdjonekoodalaaGreatDoor
open Go.RowKit
theorem cV {P : Program} {ops : Array Oper} {Q : Exit → Act → World → Prop} {md : Region.Mode} {S : World → Prop} {fuel : Nat} {listed : Array Bool} {a a' : Act} {w : World} {oi : Oper} {v : Value} (i : Nat) (hS : S w)
    (h : wpAnyH P md ops Q S fuel (listed.setIfInBounds i true) a' w) (hi : ops[i]? = some oi := by rfl) (hw : Region.wanted oi (yielded ops a.tmps) = true := by rfl)
    (hy : (execOp a.eval oi).run P w = .ok (.value v) w := by (go_simp; try (with_reducible rfl)))
    (ha : a.put oi.dst v = a' := by (simp only [List.getElem_toArray, List.getElem_cons_zero, List.getElem_cons_succ, Act.put, List.setIfInBounds_toArray, List.set_cons_zero, List.set_cons_succ] <;> exact rfl)) : Stp P md ops Q S fuel listed a w i := by
  subst ha
  refine vO i (fun K hK' => ?_) hi hw
  unfold Oper.wp
  rw [hy]
  simp only [Oper.upon]
  exact hK'.out _ _ hS fun _ => h
structure Mut (p : Nat) (w w' : World) : Prop where
  os : w'.os = w.os
  tape : w'.tape = w.tape
  output : w'.output = w.output
  size : w.heap.size ≤ w'.heap.size
  block : ∀ k, k < w.heap.size → k ≠ p → w'.heap[k]? = w.heap[k]?
theorem Mut.of {p : Nat} {w w' : World} (h : Below w.heap.size w w') : Mut p w w' := ⟨h.os, h.tape, h.output, h.size, fun k hk _ => h.block k hk⟩
theorem Mut.set {p : Nat} {w W : World} (h : Mut p w W) (k : Nat) (u : Value) : Mut p w (W.setCell ⟨p, k, none⟩ u) := by
  have b := Below.setCell (Below.refl 0 W) (p := ⟨p, k, none⟩) (Nat.zero_le _) u
  exact ⟨b.os.trans h.os, b.tape.trans h.tape, b.output.trans h.output, lZ h.size b.size, fun j hj hne => (Below.heap_setCell _ _ _ j (fun e => hne e)).trans (h.block j hj hne)⟩
theorem Mut.far {p : Nat} {w W : World} (h : Mut p w W) {q : Nat} (hq : w.heap.size ≤ q) (k : Nat) (u : Value) : Mut p w (W.setCell ⟨q, k, none⟩ u) := by
  have b := Below.setCell (Below.refl 0 W) (p := ⟨q, k, none⟩) (Nat.zero_le _) u
  exact ⟨b.os.trans h.os, b.tape.trans h.tape, b.output.trans h.output, lZ h.size b.size, fun j hj hne => (Below.heap_setCell _ _ _ j (fun e => by have e2 : j = q := e; omega)).trans (h.block j hj hne)⟩
theorem HB.mut {p q : Nat} {w w' : World} {t : TypeId} {vs : Array Value} (x : HB w q t vs) (hne : ¬ (q = p)) (h : Mut p w w') : HB w' q t vs := (h.block q x.lt hne).trans x
theorem Below.mut {B p : Nat} {w W W' : World} (h : Below B w W) (hp : B ≤ p) (m : Mut p W W') (hB : B ≤ w.heap.size := by simp) : Below B w W' :=
  ⟨m.os.trans h.os, m.tape.trans h.tape, m.output.trans h.output, lZ h.size m.size, fun k hk => (m.block k (by have := h.size; omega) (by omega)).trans (h.block k hk)⟩
theorem vU {P : Program} {f : FuncId} {args : Array Value} {w : World} {Q : Ending → World → Prop} {v : Value} {p : Nat} {t : TypeId} {vs : Array Value} (c : Calls P f args w fun e w' => e = .returned v ∧ HB w' p t vs ∧ Mut p w w')
    (h : ∀ w', HB w' p t vs → Mut p w w' → Q (.returned v) w') : Calls P f args w Q :=
  c.mono fun e w' hh => by obtain ⟨rfl, x, m⟩ := hh; exact h w' x m
end Go.Proofs.YtjdjonekoodalaaGreatDoor
