/-
  The walk of ClassKnown.
-/
import Derived.Test.YtdlmnnnnnjgkiaaDoorForm7T
import Derived.Test.YtdlmnnnnnjgkiaaDoorGaA
import Derived.Test.YtdlmnnnnnjgkiaaDoorRef8
set_option linter.unusedVariables false
set_option linter.unusedSimpArgs false
set_option maxRecDepth 100000
namespace Go.Proofs.YtdlmnnnnnjgkiaaDoor
open Go.RowKit
attribute [local go_sem ↓] Go.wp_at_zero Go.wp_at_succ

/-- A list of seven is made. -/
def ZS (W : World) (cs : Array Value) (_ : List Bool) (vs : List Value) (w : World) : Prop := ∃ p, vs = [.slice (some ⟨p, 0, none⟩) 7 7] ∧ W.heap.size ≤ p ∧ HB w p 25 cs ∧ Below W.heap.size W w
theorem ZS.new {W w : World} {cs : Array Value} (hb : Below W.heap.size W w) (bs : List Bool) {vs : List Value} (hv : vs = [.slice (some ⟨w.heap.size, 0, none⟩) 7 7]) : ZS W cs bs vs (w.alloc (.cells cs 25)) :=
  ⟨_, hv, hb.size, HB.new _ _ _, bA hb _⟩

def Round8 (f : Int) : Prop := ∃ E P x2 tp pq h0 l0 h2 l2 h3 l3 h4 l4 h5 l5 sh sl h6 l6 : Int, IntKind.i64.wrap (2 * E) = x2 ∧ IntKind.i64.wrap (x2 + 1) = tp ∧ wrap64 (x2 + 1) = tp ∧ IntKind.i64.wrap (P - 2) = pq ∧ (∀ w, FTab w → Calls Tryd.prog 28 #[.int .u8 f] w fun e w' => e = .returned (.int .i64 E) ∧ Below w.heap.size w w') ∧ (∀ w, FTab w → Calls Tryd.prog 29 #[.int .u8 f] w fun e w' => e = .returned (.int .i64 P) ∧ Below w.heap.size w w') ∧ (∀ w, FTab w → Calls Tryd.prog 30 #[.int .u8 f, .bool true] w fun e w' => e = .returned (.agg #[.int .u64 h0, .int .u64 l0]) ∧ Below w.heap.size w w') ∧ (∀ w, FTab w → Calls Tryd.prog 27 #[.int .u8 f, .bool true, .int .i64 1, .agg #[.int .u64 0, .int .u64 1]] w fun e w' => e = .returned (.agg #[.int .u64 h2, .int .u64 l2]) ∧ Below w.heap.size w w') ∧ (∀ w, FTab w → Calls Tryd.prog 31 #[.int .u8 f, .bool false] w fun e w' => e = .returned (.agg #[.int .u64 h3, .int .u64 l3]) ∧ Below w.heap.size w w') ∧ (∀ w, FTab w → Calls Tryd.prog 24 #[.int .u8 f, .bool true] w fun e w' => e = .returned (.agg #[.int .u64 h4, .int .u64 l4]) ∧ Below w.heap.size w w') ∧ (∀ w, FTab w → Calls Tryd.prog 27 #[.int .u8 f, .bool false, .int .i64 tp, .agg #[.int .u64 0, .int .u64 1]] w fun e w' => e = .returned (.agg #[.int .u64 h5, .int .u64 l5]) ∧ Below w.heap.size w w') ∧ (∀ w, Calls Tryd.prog 21 #[.agg #[.int .u64 0, .int .u64 1], .int .i64 pq] w fun e w' => e = .returned (.agg #[.int .u64 sh, .int .u64 sl]) ∧ Below w.heap.size w w') ∧ (∀ w, FTab w → Calls Tryd.prog 27 #[.int .u8 f, .bool true, .int .i64 tp, .agg #[.int .u64 sh, .int .u64 sl]] w fun e w' => e = .returned (.agg #[.int .u64 h6, .int .u64 l6]) ∧ Below w.heap.size w w') ∧ (∀ w, FTab w → Calls Tryd.prog 9 #[.int .u8 f, .agg #[.int .u64 h0, .int .u64 l0]] w fun e w' => e = .returned (.tuple #[.int .u8 0, .bool true]) ∧ Below w.heap.size w w') ∧ (∀ w, FTab w → Calls Tryd.prog 9 #[.int .u8 f, .agg #[.int .u64 0, .int .u64 1]] w fun e w' => e = .returned (.tuple #[.int .u8 1, .bool false]) ∧ Below w.heap.size w w') ∧ (∀ w, FTab w → Calls Tryd.prog 9 #[.int .u8 f, .agg #[.int .u64 h2, .int .u64 l2]] w fun e w' => e = .returned (.tuple #[.int .u8 2, .bool true]) ∧ Below w.heap.size w w') ∧ (∀ w, FTab w → Calls Tryd.prog 9 #[.int .u8 f, .agg #[.int .u64 h3, .int .u64 l3]] w fun e w' => e = .returned (.tuple #[.int .u8 2, .bool false]) ∧ Below w.heap.size w w') ∧ (∀ w, FTab w → Calls Tryd.prog 9 #[.int .u8 f, .agg #[.int .u64 h4, .int .u64 l4]] w fun e w' => e = .returned (.tuple #[.int .u8 3, .bool true]) ∧ Below w.heap.size w w') ∧ (∀ w, FTab w → Calls Tryd.prog 9 #[.int .u8 f, .agg #[.int .u64 h5, .int .u64 l5]] w fun e w' => e = .returned (.tuple #[.int .u8 5, .bool false]) ∧ Below w.heap.size w w') ∧ (∀ w, FTab w → Calls Tryd.prog 9 #[.int .u8 f, .agg #[.int .u64 h6, .int .u64 l6]] w fun e w' => e = .returned (.tuple #[.int .u8 4, .bool true]) ∧ Below w.heap.size w w')

set_option maxHeartbeats 8000000 in
set_option maxRecDepth 100000 in
theorem known8_core (RD : Hid (∀ f, 0 ≤ f → f < 4 → Round8 f))
    (HO : Hid (∀ w, FTab w → Calls Tryd.prog 9 #[.int .u8 4, .agg #[.int .u64 0, .int .u64 5]] w fun e w' => e = .returned (.tuple #[.int .u8 0, .bool false]) ∧ Below w.heap.size w w')) (HN : Hid (∀ w, FTab w → Calls Tryd.prog 11 #[.int .u8 4, .agg #[.int .u64 0, .int .u64 0]] w fun e w' => e = .returned (.bool false) ∧ Below w.heap.size w w')) (HF : Hid (∀ w, FTab w → Calls Tryd.prog 15 #[.int .u8 4, .agg #[.int .u64 0, .int .u64 0]] w fun e w' => e = .returned (.bool false) ∧ Below w.heap.size w w')) (HA : Hid (∀ w, FTab w → Calls Tryd.prog 17 #[.int .u8 0, .func (.func 11) #[] #[], .slice none 0 0] w fun e w' => e = .returned (.bool false) ∧ Below w.heap.size w w')) (G : Hid (∀ w, FTab w → Calls Tryd.prog 16 #[] w fun e w' => e = .returned (.bool true) ∧ Below w.heap.size w w')) (w : World) (ft : FTab w) :
    Calls Tryd.prog 8 #[] w fun e w' => e = .returned (.bool true) ∧ Below w.heap.size w w' := by
  go_enter Tryd.func8, Tryd.ntmps8
  go_wp2_with fail
  go_loopw [1] (fun fv wr => ∃ k : Nat, k ≤ 4 ∧ fv = .int .u8 k ∧ Below w.heap.size w wr) (fun fv _ => (5 - intOf fv).toNat)
  case atStart => exact ⟨0, by omega, rfl, Below.refl _ _⟩
  case round =>
    obtain ⟨k, hk, rfl, kk⟩ := hrel
    by_cases hk4 : k = 4
    · subst hk4
      have g : decide (((4 : Nat) : Int) ≤ 3) = false := by decide
      clear hk
      go_wp2_with fail
      (with_reducible refine (HO.out _ (ft.later kk)).mono ?_); rintro e w1 ⟨rfl, hb⟩
      replace kk := bC kk hb; clear hb
      go_wp2_with fail
      (with_reducible refine (HN.out _ (ft.later kk)).mono ?_); rintro e w2 ⟨rfl, hb⟩
      replace kk := bC kk hb; clear hb
      go_wp2_with fail
      (with_reducible refine (HF.out _ (ft.later kk)).mono ?_); rintro e w3 ⟨rfl, hb⟩
      replace kk := bC kk hb; clear hb
      go_wp2_with fail
      (with_reducible refine (HA.out _ (ft.later kk)).mono ?_); rintro e w4 ⟨rfl, hb⟩
      replace kk := bC kk hb; clear hb
      go_wp2_with fail
      (with_reducible refine (G.out _ (ft.later kk)).mono ?_); rintro e w5 ⟨rfl, hb⟩
      replace kk := bC kk hb; clear hb
      go_wp2_with fail
      go_ret
      exact ⟨rfl, kk⟩
    · have hk3 : (k : Int) ≤ 3 := by omega
      have g : decide ((k : Int) ≤ 3) = true := by simp; omega
      obtain ⟨E, P, x2, tp, pq, h0, l0, h2, l2, h3, l3, h4, l4, h5, l5, sh, sl, h6, l6, e0, e1, e1x, e2, cE, cP, N0, M2, X3, I4, M5, SH, M6, O0, O1, O2, O3, O4, O5, O6⟩ := RD.out (k : Int) (by omega) (by omega)
      replace cE := Lib.hid cE
      replace cP := Lib.hid cP
      replace N0 := Lib.hid N0
      replace M2 := Lib.hid M2
      replace X3 := Lib.hid X3
      replace I4 := Lib.hid I4
      replace M5 := Lib.hid M5
      replace SH := Lib.hid SH
      replace M6 := Lib.hid M6
      replace O0 := Lib.hid O0
      replace O1 := Lib.hid O1
      replace O2 := Lib.hid O2
      replace O3 := Lib.hid O3
      replace O4 := Lib.hid O4
      replace O5 := Lib.hid O5
      replace O6 := Lib.hid O6
      have KF := Lib.hid (And.intro hk3 (And.intro hk hk4))
      clear hk hk4 hk3
      go_wp2_with fail
      (with_reducible refine (cE.out _ (ft.later (bA kk _))).mono ?_); rintro e W1 ⟨rfl, hb⟩
      replace kk := bC (bA kk _) hb
      have xb := (HB.new wr 25 #[.int .u64 0, .int .u64 1]).later hb
      have b0 := xb.cell 0; have b1 := xb.cell 1; dsimp at b0 b1
      clear hb xb
      go_wp2_with fail
      refine wp_region_noPanic ?_
      refine wp_region_F [22] [42] (LS W1 (fun _ _ => True) (ZS W1 #[.int .u64 h0, .int .u64 l0, .int .u64 0, .int .u64 1, .int .u64 h2, .int .u64 l2, .int .u64 h3, .int .u64 l3, .int .u64 h4, .int .u64 l4, .int .u64 h5, .int .u64 l5, .int .u64 h6, .int .u64 l6])) (by kernel_rfl) (bs := [false]) (vs := _) (by kernel_rfl) rfl (LS.before noBits_f (Below.refl _ _).drew trivial) ?_
      refine wpF_yield (i := 0) (v := ?vq1) rfl (by kernel_rfl) (by kernel_rfl) (fun _ _ _ h => h) (Or.inl ⟨by rfl, ?yq1⟩) ?rq1
      case yq1 => (intro wq; go_simp; try (with_reducible rfl))
      try simp only [List.getElem_toArray, List.getElem_cons_zero, List.getElem_cons_succ, Act.put, List.setIfInBounds_toArray, List.set_cons_zero, List.set_cons_succ]
      refine wpF_take3 (i := 1) (v := _) rfl (by kernel_rfl) (by kernel_rfl) (fun _ _ _ h => h) (LS.callW lasts_true (by rfl) _ _ ?yq2 (fun W hb => N0.out W (ft.later (bC kk hb)))) ?rq2
      case yq2 => (intro wq; go_simp; try (with_reducible rfl))
      try simp only [List.getElem_toArray, List.getElem_cons_zero, List.getElem_cons_succ, Act.put, List.setIfInBounds_toArray, List.set_cons_zero, List.set_cons_succ]
      refine wpF_take3 (i := 2) (v := ?vq3) rfl (by kernel_rfl) (by kernel_rfl) (fun _ _ _ h => h) (LS.load (by rfl) ?yq3) ?rq3
      case yq3 => (intro wq hb; have lb0 := cell_later hb b0; have lb1 := cell_later hb b1; go_simp; try (with_reducible rfl))
      try simp only [List.getElem_toArray, List.getElem_cons_zero, List.getElem_cons_succ, Act.put, List.setIfInBounds_toArray, List.set_cons_zero, List.set_cons_succ]
      refine wpF_yield (i := 3) (v := ?vq4) rfl (by kernel_rfl) (by kernel_rfl) (fun _ _ _ h => h) (Or.inl ⟨by rfl, ?yq4⟩) ?rq4
      case yq4 => (intro wq; go_simp; try (with_reducible rfl))
      try simp only [List.getElem_toArray, List.getElem_cons_zero, List.getElem_cons_succ, Act.put, List.setIfInBounds_toArray, List.set_cons_zero, List.set_cons_succ]
      refine wpF_take3 (i := 4) (v := ?vq5) rfl (by kernel_rfl) (by kernel_rfl) (fun _ _ _ h => h) (LS.load (by rfl) ?yq5) ?rq5
      case yq5 => (intro wq hb; have lb0 := cell_later hb b0; have lb1 := cell_later hb b1; go_simp; try (with_reducible rfl))
      try simp only [List.getElem_toArray, List.getElem_cons_zero, List.getElem_cons_succ, Act.put, List.setIfInBounds_toArray, List.set_cons_zero, List.set_cons_succ]
      refine wpF_take3 (i := 5) (v := _) rfl (by kernel_rfl) (by kernel_rfl) (fun _ _ _ h => h) (LS.callW lasts_true (by rfl) _ _ ?yq6 (fun W hb => M2.out W (ft.later (bC kk hb)))) ?rq6
      case yq6 => (intro wq; go_simp; try (with_reducible rfl))
      try simp only [List.getElem_toArray, List.getElem_cons_zero, List.getElem_cons_succ, Act.put, List.setIfInBounds_toArray, List.set_cons_zero, List.set_cons_succ]
      refine wpF_yield (i := 6) (v := ?vq7) rfl (by kernel_rfl) (by kernel_rfl) (fun _ _ _ h => h) (Or.inl ⟨by rfl, ?yq7⟩) ?rq7
      case yq7 => (intro wq; go_simp; try (with_reducible rfl))
      try simp only [List.getElem_toArray, List.getElem_cons_zero, List.getElem_cons_succ, Act.put, List.setIfInBounds_toArray, List.set_cons_zero, List.set_cons_succ]
      refine wpF_take3 (i := 7) (v := _) rfl (by kernel_rfl) (by kernel_rfl) (fun _ _ _ h => h) (LS.callW lasts_true (by rfl) _ _ ?yq8 (fun W hb => X3.out W (ft.later (bC kk hb)))) ?rq8
      case yq8 => (intro wq; go_simp; try (with_reducible rfl))
      try simp only [List.getElem_toArray, List.getElem_cons_zero, List.getElem_cons_succ, Act.put, List.setIfInBounds_toArray, List.set_cons_zero, List.set_cons_succ]
      refine wpF_yield (i := 8) (v := ?vq9) rfl (by kernel_rfl) (by kernel_rfl) (fun _ _ _ h => h) (Or.inl ⟨by rfl, ?yq9⟩) ?rq9
      case yq9 => (intro wq; go_simp; try (with_reducible rfl))
      try simp only [List.getElem_toArray, List.getElem_cons_zero, List.getElem_cons_succ, Act.put, List.setIfInBounds_toArray, List.set_cons_zero, List.set_cons_succ]
      refine wpF_take3 (i := 9) (v := _) rfl (by kernel_rfl) (by kernel_rfl) (fun _ _ _ h => h) (LS.callW lasts_true (by rfl) _ _ ?yq10 (fun W hb => I4.out W (ft.later (bC kk hb)))) ?rq10
      case yq10 => (intro wq; go_simp; try (with_reducible rfl))
      try simp only [List.getElem_toArray, List.getElem_cons_zero, List.getElem_cons_succ, Act.put, List.setIfInBounds_toArray, List.set_cons_zero, List.set_cons_succ]
      refine wpF_yield (i := 10) (v := ?vq11) rfl (by kernel_rfl) (by kernel_rfl) (fun _ _ _ h => h) (Or.inl ⟨by rfl, ?yq11⟩) ?rq11
      case yq11 => (intro wq; go_simp; try (with_reducible rfl))
      try simp only [List.getElem_toArray, List.getElem_cons_zero, List.getElem_cons_succ, Act.put, List.setIfInBounds_toArray, List.set_cons_zero, List.set_cons_succ]
      refine wpF_yield (i := 11) (v := ?vq12) rfl (by kernel_rfl) (by kernel_rfl) (fun _ _ _ h => h) (Or.inl ⟨by rfl, ?yq12⟩) ?rq12
      case yq12 => (intro wq; go_simp; try (with_reducible rfl))
      try simp only [List.getElem_toArray, List.getElem_cons_zero, List.getElem_cons_succ, Act.put, List.setIfInBounds_toArray, List.set_cons_zero, List.set_cons_succ]
      refine wpF_take3 (i := 12) (v := ?vq13) rfl (by kernel_rfl) (by kernel_rfl) (fun _ _ _ h => h) (LS.load (by rfl) ?yq13) ?rq13
      case yq13 => (intro wq hb; have lb0 := cell_later hb b0; have lb1 := cell_later hb b1; go_simp; try (with_reducible rfl))
      try simp only [List.getElem_toArray, List.getElem_cons_zero, List.getElem_cons_succ, Act.put, List.setIfInBounds_toArray, List.set_cons_zero, List.set_cons_succ]
      refine wpF_take3 (i := 13) (v := _) rfl (by kernel_rfl) (by kernel_rfl) (fun _ _ _ h => h) (LS.callW lasts_true (by rfl) _ _ ?yq14 (fun W hb => M5.out W (ft.later (bC kk hb)))) ?rq14
      case yq14 => (intro wq; go_simp; try (with_reducible rfl))
      try simp only [List.getElem_toArray, List.getElem_cons_zero, List.getElem_cons_succ, Act.put, List.setIfInBounds_toArray, List.set_cons_zero, List.set_cons_succ]
      refine wpF_yield (i := 14) (v := ?vq15) rfl (by kernel_rfl) (by kernel_rfl) (fun _ _ _ h => h) (Or.inl ⟨by rfl, ?yq15⟩) ?rq15
      case yq15 => (intro wq; go_simp; try (with_reducible rfl))
      try simp only [List.getElem_toArray, List.getElem_cons_zero, List.getElem_cons_succ, Act.put, List.setIfInBounds_toArray, List.set_cons_zero, List.set_cons_succ]
      refine wpF_yield (i := 15) (v := ?vq16) rfl (by kernel_rfl) (by kernel_rfl) (fun _ _ _ h => h) (Or.inl ⟨by rfl, ?yq16⟩) ?rq16
      case yq16 => (intro wq; go_simp; try (with_reducible rfl))
      try simp only [List.getElem_toArray, List.getElem_cons_zero, List.getElem_cons_succ, Act.put, List.setIfInBounds_toArray, List.set_cons_zero, List.set_cons_succ]
      refine wpF_take3 (i := 16) (v := ?vq17) rfl (by kernel_rfl) (by kernel_rfl) (fun _ _ _ h => h) (LS.load (by rfl) ?yq17) ?rq17
      case yq17 => (intro wq hb; have lb0 := cell_later hb b0; have lb1 := cell_later hb b1; go_simp; try (with_reducible rfl))
      try simp only [List.getElem_toArray, List.getElem_cons_zero, List.getElem_cons_succ, Act.put, List.setIfInBounds_toArray, List.set_cons_zero, List.set_cons_succ]
      refine wpF_yield (i := 17) (v := ?vq18) rfl (by kernel_rfl) (by kernel_rfl) (fun _ _ _ h => h) (Or.inl ⟨by rfl, ?yq18⟩) ?rq18
      case yq18 => (intro wq; go_simp; try (with_reducible rfl))
      try simp only [List.getElem_toArray, List.getElem_cons_zero, List.getElem_cons_succ, Act.put, List.setIfInBounds_toArray, List.set_cons_zero, List.set_cons_succ]
      refine wpF_take3 (i := 18) (v := _) rfl (by kernel_rfl) (by kernel_rfl) (fun _ _ _ h => h) (LS.callW lasts_true (by rfl) _ _ ?yq19 (fun W hb => cP.out W (ft.later (bC kk hb)))) ?rq19
      case yq19 => (intro wq; go_simp; try (with_reducible rfl))
      try simp only [List.getElem_toArray, List.getElem_cons_zero, List.getElem_cons_succ, Act.put, List.setIfInBounds_toArray, List.set_cons_zero, List.set_cons_succ]
      refine wpF_yield (i := 19) (v := ?vq20) rfl (by kernel_rfl) (by kernel_rfl) (fun _ _ _ h => h) (Or.inl ⟨by rfl, ?yq20⟩) ?rq20
      case yq20 => (intro wq; go_simp; try (with_reducible rfl))
      try simp only [List.getElem_toArray, List.getElem_cons_zero, List.getElem_cons_succ, Act.put, List.setIfInBounds_toArray, List.set_cons_zero, List.set_cons_succ]
      refine wpF_take3 (i := 20) (v := _) rfl (by kernel_rfl) (by kernel_rfl) (fun _ _ _ h => h) (LS.call lasts_true (by rfl) _ _ ?yq21 (fun W => SH.out W)) ?rq21
      case yq21 => (intro wq; go_simp; try (with_reducible rfl))
      try simp only [List.getElem_toArray, List.getElem_cons_zero, List.getElem_cons_succ, Act.put, List.setIfInBounds_toArray, List.set_cons_zero, List.set_cons_succ]
      refine wpF_take3 (i := 21) (v := _) rfl (by kernel_rfl) (by kernel_rfl) (fun _ _ _ h => h) (LS.callW lasts_true (by rfl) _ _ ?yq22 (fun W hb => M6.out W (ft.later (bC kk hb)))) ?rq22
      case yq22 => (intro wq; go_simp; try (with_reducible rfl))
      try simp only [List.getElem_toArray, List.getElem_cons_zero, List.getElem_cons_succ, Act.put, List.setIfInBounds_toArray, List.set_cons_zero, List.set_cons_succ]
      refine wpF_step (i := 22) (bs := [false]) (bs' := [true]) (vs := _) (by kernel_rfl) rfl (by kernel_rfl) rfl (by kernel_rfl) (fun wq hS K hK => ?_)
      obtain ⟨hb, _⟩ := hS.1 noBits_f
      go_simp
      refine hK.out _ _ (LS.behind bits_t (ZS.new hb _ rfl)) ?_
      clear hK hb hS
      generalize wq.heap.size = pp at *
      try simp only [List.getElem_toArray, List.getElem_cons_zero, List.getElem_cons_succ, Act.put, List.setIfInBounds_toArray, List.set_cons_zero, List.set_cons_succ]
      refine wpF_yield (i := 23) (v := ?vq23) rfl (by kernel_rfl) (by kernel_rfl) (fun _ _ _ h => h) (Or.inl ⟨by rfl, ?yq23⟩) ?rq23
      case yq23 => (intro wq; go_simp; try (with_reducible rfl))
      try simp only [List.getElem_toArray, List.getElem_cons_zero, List.getElem_cons_succ, Act.put, List.setIfInBounds_toArray, List.set_cons_zero, List.set_cons_succ]
      refine wpF_done (bs := [true]) (vs := [.slice (some ⟨pp, 0, none⟩) 7 7]) (by kernel_rfl) (by kernel_rfl) rfl (fun W3 hS => ?_) _
      refine NoPanic.normal ?_
      obtain ⟨p2, hp2, hp, xs, hb⟩ := hS.2 bits_t
      obtain rfl : pp = p2 := by simpa using hp2
      replace kk := bC kk hb
      clear hb hp2 hS b0 b1 e0 e1 e1x e2 cE cP N0 M2 X3 I4 M5 SH M6
      go_wp2_with fail
      go_loopw [6] (fun iv wi => (iv = .int .i64 0 ∨ iv = .int .i64 1 ∨ iv = .int .i64 2 ∨ iv = .int .i64 3 ∨ iv = .int .i64 4 ∨ iv = .int .i64 5 ∨ iv = .int .i64 6 ∨ iv = .int .i64 7) ∧ HB wi pp 25 #[.int .u64 h0, .int .u64 l0, .int .u64 0, .int .u64 1, .int .u64 h2, .int .u64 l2, .int .u64 h3, .int .u64 l3, .int .u64 h4, .int .u64 l4, .int .u64 h5, .int .u64 l5, .int .u64 h6, .int .u64 l6] ∧ HB wi W3.heap.size 26 #[.int .u8 0, .int .u8 1, .int .u8 2, .int .u8 2, .int .u8 3, .int .u8 5, .int .u8 4] ∧ Below w.heap.size w wi) (fun iv _ => 7 - (intOf iv).toNat)
      case atStart => exact ⟨.inl rfl, xs.alloc _, HB.new _ _ _, bA kk _⟩
      case round =>
        obtain ⟨hi, ys, ws, kr⟩ := hrel
        clear kk xs
        rcases hi with rfl | rfl | rfl | rfl | rfl | rfl | rfl | rfl
        · have c0 := ys.cell 0; have c1 := ys.cell 1; have d0 := ws.cell 0; dsimp at c0 c1 d0
          go_wp2_with fail
          (with_reducible refine (O0.out _ (ft.later kr)).mono ?_); rintro e w4 ⟨rfl, hb⟩
          replace kr := bC kr hb; replace ys := ys.later hb; replace ws := ws.later hb
          have d0 := ws.cell 0; dsimp at d0
          clear c0 c1 hb
          go_wp2_with fail
          go_roundw
          case rel => exact ⟨by simp, ys, ws, kr⟩
          case measure => simp [intOf]
        · have c0 := ys.cell 2; have c1 := ys.cell 3; have d0 := ws.cell 1; dsimp at c0 c1 d0
          go_wp2_with fail
          (with_reducible refine (O1.out _ (ft.later kr)).mono ?_); rintro e w4 ⟨rfl, hb⟩
          replace kr := bC kr hb; replace ys := ys.later hb; replace ws := ws.later hb
          have d0 := ws.cell 1; dsimp at d0
          clear c0 c1 hb
          go_wp2_with fail
          go_roundw
          case rel => exact ⟨by simp, ys, ws, kr⟩
          case measure => simp [intOf]
        · have c0 := ys.cell 4; have c1 := ys.cell 5; have d0 := ws.cell 2; dsimp at c0 c1 d0
          go_wp2_with fail
          (with_reducible refine (O2.out _ (ft.later kr)).mono ?_); rintro e w4 ⟨rfl, hb⟩
          replace kr := bC kr hb; replace ys := ys.later hb; replace ws := ws.later hb
          have d0 := ws.cell 2; dsimp at d0
          clear c0 c1 hb
          go_wp2_with fail
          go_roundw
          case rel => exact ⟨by simp, ys, ws, kr⟩
          case measure => simp [intOf]
        · have c0 := ys.cell 6; have c1 := ys.cell 7; have d0 := ws.cell 3; dsimp at c0 c1 d0
          go_wp2_with fail
          (with_reducible refine (O3.out _ (ft.later kr)).mono ?_); rintro e w4 ⟨rfl, hb⟩
          replace kr := bC kr hb; replace ys := ys.later hb; replace ws := ws.later hb
          have d0 := ws.cell 3; dsimp at d0
          clear c0 c1 hb
          go_wp2_with fail
          go_roundw
          case rel => exact ⟨by simp, ys, ws, kr⟩
          case measure => simp [intOf]
        · have c0 := ys.cell 8; have c1 := ys.cell 9; have d0 := ws.cell 4; dsimp at c0 c1 d0
          go_wp2_with fail
          (with_reducible refine (O4.out _ (ft.later kr)).mono ?_); rintro e w4 ⟨rfl, hb⟩
          replace kr := bC kr hb; replace ys := ys.later hb; replace ws := ws.later hb
          have d0 := ws.cell 4; dsimp at d0
          clear c0 c1 hb
          go_wp2_with fail
          go_roundw
          case rel => exact ⟨by simp, ys, ws, kr⟩
          case measure => simp [intOf]
        · have c0 := ys.cell 10; have c1 := ys.cell 11; have d0 := ws.cell 5; dsimp at c0 c1 d0
          go_wp2_with fail
          (with_reducible refine (O5.out _ (ft.later kr)).mono ?_); rintro e w4 ⟨rfl, hb⟩
          replace kr := bC kr hb; replace ys := ys.later hb; replace ws := ws.later hb
          have d0 := ws.cell 5; dsimp at d0
          clear c0 c1 hb
          go_wp2_with fail
          go_roundw
          case rel => exact ⟨by simp, ys, ws, kr⟩
          case measure => simp [intOf]
        · have c0 := ys.cell 12; have c1 := ys.cell 13; have d0 := ws.cell 6; dsimp at c0 c1 d0
          go_wp2_with fail
          (with_reducible refine (O6.out _ (ft.later kr)).mono ?_); rintro e w4 ⟨rfl, hb⟩
          replace kr := bC kr hb; replace ys := ys.later hb; replace ws := ws.later hb
          have d0 := ws.cell 6; dsimp at d0
          clear c0 c1 hb
          go_wp2_with fail
          go_roundw
          case rel => exact ⟨by simp, ys, ws, kr⟩
          case measure => simp [intOf]
        · obtain ⟨h3, hk, hk4⟩ := KF.out
          have ew : IntKind.u8.wrap ((k : Int) + 1) = (k : Int) + 1 := by rw [IntKind.wrap_u8]; exact Int.emod_eq_of_lt (by omega) (by omega)
          have KR := Lib.hid kr
          clear ys ws kr h3 hk hk4
          go_wp2_with fail
          go_roundw
          case rel =>
            obtain ⟨h3, hk, hk4⟩ := KF.out
            exact ⟨k + 1, by omega, by simp, KR.out⟩
          case measure =>
            obtain ⟨h3, hk, hk4⟩ := KF.out
            simp [intOf]; omega

end Go.Proofs.YtdlmnnnnnjgkiaaDoor
