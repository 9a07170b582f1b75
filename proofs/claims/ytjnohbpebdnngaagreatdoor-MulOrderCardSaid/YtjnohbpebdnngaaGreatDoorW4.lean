/-
  Short steps for written walks, whose checks are lemmas of their own (the kernel's memory).
-/
import Derived.Test.YtjnohbpebdnngaaGreatDoorW3
set_option linter.unusedVariables false
set_option maxRecDepth 100000
namespace Go.Proofs.YtjnohbpebdnngaaGreatDoor
open Go.RowKit

variable {P : Program} {ops : Array Oper} {Q : Exit → Act → World → Prop} {md : Region.Mode} {S : World → Prop} {fuel : Nat} {listed : Array Bool} {a a' : Act} {w : World} {oi : Oper} {v : Value}
theorem uT (i : Nat) (hS : S w) (h : wpAnyH P md ops Q S fuel (listed.setIfInBounds i true) a' w) (hi : ops[i]? = some oi := by rfl) (hs : Region.noSelect ops = true := by (as_aux_lemma => kernel_rfl))
    (hf : Region.free md ops listed i = true := by (as_aux_lemma => kernel_rfl)) (hr : (Region.ready md ops listed).contains i = true := by (as_aux_lemma => kernel_rfl)) (hw : Region.wanted oi (yielded ops a.tmps) = true := by rfl)
    (hy : ∀ w, S w → (execOp a.eval oi).run P w = .ok (.value v) w := by (intro wq hb; go_simp; try (with_reducible rfl)))
    (ha : a.put oi.dst v = a' := by (simp only [List.getElem_toArray, List.getElem_cons_zero, List.getElem_cons_succ, Act.put, List.setIfInBounds_toArray, List.set_cons_zero, List.set_cons_succ] <;> exact rfl))
    (hQ : ∀ c a w, Q (.panic c) (a.put oi.dst v) w → Q (.panic c) a w := by exact fun _ _ _ h => h) : wpAnyH P md ops Q S (fuel + 1) listed a w := by
  subst ha
  exact wpAnyH_take hi hs hf hr hQ (Or.inl ⟨hw, hy⟩) hS h
theorem uN (i : Nat) (hS : S w) (h : wpAnyH P md ops Q S fuel (listed.setIfInBounds i true) a' w) (hv : v = undef := by rfl) (hi : ops[i]? = some oi := by rfl) (hs : Region.noSelect ops = true := by (as_aux_lemma => kernel_rfl))
    (hf : Region.free md ops listed i = true := by (as_aux_lemma => kernel_rfl)) (hr : (Region.ready md ops listed).contains i = true := by (as_aux_lemma => kernel_rfl)) (hw : Region.wanted oi (yielded ops a.tmps) = false := by rfl)
    (ha : a.put oi.dst v = a' := by (simp only [List.getElem_toArray, List.getElem_cons_zero, List.getElem_cons_succ, Act.put, List.setIfInBounds_toArray, List.set_cons_zero, List.set_cons_succ] <;> exact rfl))
    (hQ : ∀ c a w, Q (.panic c) (a.put oi.dst v) w → Q (.panic c) a w := by exact fun _ _ _ h => h) : wpAnyH P md ops Q S (fuel + 1) listed a w := by
  subst ha
  exact wpAnyH_take hi hs hf hr hQ (Or.inr ⟨hw, hv⟩) hS h
theorem uY1 {i : Nat} (h : Stp P md ops Q S fuel listed a w i) (hr : Region.ready md ops listed = [i] := by (as_aux_lemma => kernel_rfl)) : wpAnyH P md ops Q S (fuel + 1) listed a w :=
  wpAnyH_ready hr (by simp) fun k hk => by obtain rfl := List.mem_singleton.1 hk; exact h
theorem uY2 {i j : Nat} (h : Stp P md ops Q S fuel listed a w i) (h2 : Stp P md ops Q S fuel listed a w j) (hr : Region.ready md ops listed = [i, j] := by (as_aux_lemma => kernel_rfl)) : wpAnyH P md ops Q S (fuel + 1) listed a w :=
  wpAnyH_ready hr (by simp) fun k hk => by
    rcases List.mem_cons.1 hk with rfl | hk
    · exact h
    · obtain rfl := List.mem_singleton.1 hk; exact h2
theorem uY3 {i j l : Nat} (h : Stp P md ops Q S fuel listed a w i) (h2 : Stp P md ops Q S fuel listed a w j) (h3 : Stp P md ops Q S fuel listed a w l) (hr : Region.ready md ops listed = [i, j, l] := by (as_aux_lemma => kernel_rfl)) : wpAnyH P md ops Q S (fuel + 1) listed a w :=
  wpAnyH_ready hr (by simp) fun k hk => by
    rcases List.mem_cons.1 hk with rfl | hk
    · exact h
    · rcases List.mem_cons.1 hk with rfl | hk
      · exact h2
      · obtain rfl := List.mem_singleton.1 hk; exact h3
theorem uY4 {i j l n : Nat} (h : Stp P md ops Q S fuel listed a w i) (h2 : Stp P md ops Q S fuel listed a w j) (h3 : Stp P md ops Q S fuel listed a w l) (h4 : Stp P md ops Q S fuel listed a w n) (hr : Region.ready md ops listed = [i, j, l, n] := by (as_aux_lemma => kernel_rfl)) : wpAnyH P md ops Q S (fuel + 1) listed a w :=
  wpAnyH_ready hr (by simp) fun k hk => by
    rcases List.mem_cons.1 hk with rfl | hk
    · exact h
    · rcases List.mem_cons.1 hk with rfl | hk
      · exact h2
      · rcases List.mem_cons.1 hk with rfl | hk
        · exact h3
        · obtain rfl := List.mem_singleton.1 hk; exact h4

end Go.Proofs.YtjnohbpebdnngaaGreatDoor
