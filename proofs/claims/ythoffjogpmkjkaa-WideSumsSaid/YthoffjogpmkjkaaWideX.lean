/-
  The contract of the program's wide.Mul.
-/
import Derived.Test.YthoffjogpmkjkaaWideB
import Derived.Test.YthoffjogpmkjkaaKinds
set_option linter.unusedVariables false
namespace Go.Proofs.Ythoffjogpmkjkaa
open Go.RowKit
attribute [local go_sem ↓] Go.wp_at_zero Go.wp_at_succ

/-- What lies at the head of a statement of Mul. -/
def MulAt (w wx : World) (ah al bh bl : Int) : Prop :=
  Box wx w.heap.size ah al ∧ Box wx (w.heap.size + 1) bh bl ∧ WBox wx (w.heap.size + 1 + 1) 0 0 0 0 ∧ WFree wx (w.heap.size + 1 + 1) ∧ Below w.heap.size w wx
theorem MulAt.later {w wx w' : World} {ah al bh bl : Int} (h : MulAt w wx ah al bh bl) (hb : Below wx.heap.size wx w') : MulAt w w' ah al bh bl :=
  ⟨h.1.later hb, h.2.1.later hb, h.2.2.1.later hb, h.2.2.2.1.later h.2.2.1.1 hb, bC h.2.2.2.2 hb⟩
theorem mulAt_new (w : World) (ah al bh bl : Int) : MulAt w (((w.alloc (bx ah al 36)).alloc (bx bh bl 36)).alloc (wbx 0 0 0 0 24)) ah al bh bl :=
  ⟨((Box.new w ah al _).alloc _).alloc _, (Box.newAt (by simp) bh bl _).alloc _, WBox.newAt (by simp) 0 0 0 0 _, by have h := WFree.new ((w.alloc (bx ah al 36)).alloc (bx bh bl 36)) 0 0 0 0 24; simpa using h, bA (bA (bA (Below.refl _ _) _) _) _⟩

theorem Box.set4 {w : World} {b p : Nat} {h l : Int} (x : Box w b h l) (hne : p ≠ b) (d0 d1 d2 d3 : Int) : Box (set4 w p d0 d1 d2 d3) b h l := by
  obtain ⟨x0, x1, x2⟩ := x
  refine ⟨by simpa using x0, ?_, ?_⟩
  · exact (World.cell?_setCell_far _ _ _ _ hne).trans ((World.cell?_setCell_far _ _ _ _ hne).trans ((World.cell?_setCell_far _ _ _ _ hne).trans ((World.cell?_setCell_far _ _ _ _ hne).trans x1)))
  · exact (World.cell?_setCell_far _ _ _ _ hne).trans ((World.cell?_setCell_far _ _ _ _ hne).trans ((World.cell?_setCell_far _ _ _ _ hne).trans ((World.cell?_setCell_far _ _ _ _ hne).trans x2)))
theorem MulAt.store {w wx : World} {ah al bh bl x0 x1 x2 x3 : Int} {p : Nat} (h : MulAt w wx ah al bh bl) (hp : w.heap.size + 1 + 1 < p) (x : WBox wx p x0 x1 x2 x3) (y0 y1 y2 y3 : Int) :
    WBox (set4 wx p y0 y1 y2 y3) p y0 y1 y2 y3 ∧ MulAt w (set4 wx p y0 y1 y2 y3) ah al bh bl :=
  ⟨(((x.set0 y0).set1 y1).set2 y2).set3 y3, h.1.set4 (by omega) _ _ _ _, h.2.1.set4 (by omega) _ _ _ _, h.2.2.1.set4 (by omega) _ _ _ _, (((h.2.2.2.1.set _ _).set _ _).set _ _).set _ _,
    (((h.2.2.2.2.setCell (p := ⟨p, 0, none⟩) (by simp; omega) _).setCell (p := ⟨p, 1, none⟩) (by simp; omega) _).setCell (p := ⟨p, 2, none⟩) (by simp; omega) _).setCell (p := ⟨p, 3, none⟩) (by simp; omega) _⟩

set_option linter.unusedSimpArgs false
set_option maxHeartbeats 4000000 in
set_option maxRecDepth 100000 in
theorem wmul_core (ah al bh bl p0 p1 q0 q1 r0 r1 s0 s1 x0 x1 x2 x3 y0 y1 y2 y3 : Int) (c1 c2 : Bool)
    (m1 : Hid (∀ w, Calls Try.prog 61 #[.int .u64 ah, .int .u64 bh] w fun e w' => e = .returned (.agg #[.int .u64 p1, .int .u64 p0]) ∧ Below w.heap.size w w')) (m2 : Hid (∀ w, Calls Try.prog 61 #[.int .u64 al, .int .u64 bl] w fun e w' => e = .returned (.agg #[.int .u64 q1, .int .u64 q0]) ∧ Below w.heap.size w w'))
    (m3 : Hid (∀ w, Calls Try.prog 61 #[.int .u64 ah, .int .u64 bl] w fun e w' => e = .returned (.agg #[.int .u64 r1, .int .u64 r0]) ∧ Below w.heap.size w w')) (m4 : Hid (∀ w, Calls Try.prog 61 #[.int .u64 al, .int .u64 bh] w fun e w' => e = .returned (.agg #[.int .u64 s1, .int .u64 s0]) ∧ Below w.heap.size w w'))
    (A1 : Hid (∀ w, Calls Try.prog 17 #[.agg #[.int .u64 q0, .int .u64 q1, .int .u64 p0, .int .u64 p1], .agg #[.int .u64 0, .int .u64 r0, .int .u64 r1, .int .u64 0]] w fun e w' => e = .returned (.tuple #[.agg #[.int .u64 x0, .int .u64 x1, .int .u64 x2, .int .u64 x3], .bool c1]) ∧ Below w.heap.size w w'))
    (A2 : Hid (∀ w, Calls Try.prog 17 #[.agg #[.int .u64 x0, .int .u64 x1, .int .u64 x2, .int .u64 x3], .agg #[.int .u64 0, .int .u64 s0, .int .u64 s1, .int .u64 0]] w fun e w' => e = .returned (.tuple #[.agg #[.int .u64 y0, .int .u64 y1, .int .u64 y2, .int .u64 y3], .bool c2]) ∧ Below w.heap.size w w')) (w : World) :
    Calls Try.prog 29 #[.agg #[.int .u64 ah, .int .u64 al], .agg #[.int .u64 bh, .int .u64 bl]] w fun e w' => e = .returned (.agg #[.int .u64 y0, .int .u64 y1, .int .u64 y2, .int .u64 y3]) ∧ Below w.heap.size w w' := by
  have J1 := Lib.hid (join_any p1 p0 q1 q0)
  have M1 := Lib.hid (mid_any r1 r0)
  have M2 := Lib.hid (mid_any s1 s0)
  go_enter Try.func29, Try.ntmps29
  go_wp2_with fail
  have kk := mulAt_new w ah al bh bl
  obtain ⟨⟨sA, cA0, cA1⟩, ⟨sB, cB0, cB1⟩, ⟨sR, _⟩, _, _⟩ := id kk
  generalize ((w.alloc (bx ah al 36)).alloc (bx bh bl 36)).alloc (wbx 0 0 0 0 24) = W at *
  refine wp_region_noPanic ?_
  refine wp_region_F [12] [5] (LS W (fun vs w => ∀ p, vs = [.pointer (some ⟨p, 0, none⟩)] → W.heap.size ≤ p ∧ WBox w p 0 0 0 0 ∧ WFree w p) (fun _ vs wx => ∃ p, vs = [.pointer (some ⟨p, 0, none⟩)] ∧ WBox wx p q0 q1 p0 p1 ∧ WFree wx p ∧ w.heap.size + 1 + 1 < p ∧ MulAt w wx ah al bh bl)) (by kernel_rfl) (bs := [false]) (vs := [undef]) (by kernel_rfl) rfl (LS.before noBits_f (Below.refl _ _).drew (fun p hp => (no_ptr hp).elim)) ?_
  refine wpF_yield (i := 0) (v := ?vq1) rfl (by kernel_rfl) (by kernel_rfl) (fun _ _ _ h => h) (Or.inl ⟨by rfl, ?yq1⟩) ?rq1
  case yq1 => (intro wq; go_simp; try (with_reducible rfl))
  try simp only [List.getElem_toArray, List.getElem_cons_zero, List.getElem_cons_succ, Act.put, List.setIfInBounds_toArray, List.set_cons_zero, List.set_cons_succ]
  refine wpF_take (i := 1) (v := ?vq2) rfl (by kernel_rfl) (by kernel_rfl) (fun _ _ _ h => h) (LS.load (by rfl) ?yq2) ?rq2
  case yq2 => (intro wq hb; have lcA0 := cell_later hb cA0; have lcA1 := cell_later hb cA1; have lcB0 := cell_later hb cB0; have lcB1 := cell_later hb cB1; go_simp; try (with_reducible rfl))
  try simp only [List.getElem_toArray, List.getElem_cons_zero, List.getElem_cons_succ, Act.put, List.setIfInBounds_toArray, List.set_cons_zero, List.set_cons_succ]
  refine wpF_yield (i := 2) (v := ?vq3) rfl (by kernel_rfl) (by kernel_rfl) (fun _ _ _ h => h) (Or.inl ⟨by rfl, ?yq3⟩) ?rq3
  case yq3 => (intro wq; go_simp; try (with_reducible rfl))
  try simp only [List.getElem_toArray, List.getElem_cons_zero, List.getElem_cons_succ, Act.put, List.setIfInBounds_toArray, List.set_cons_zero, List.set_cons_succ]
  refine wpF_take (i := 3) (v := ?vq4) rfl (by kernel_rfl) (by kernel_rfl) (fun _ _ _ h => h) (LS.load (by rfl) ?yq4) ?rq4
  case yq4 => (intro wq hb; have lcA0 := cell_later hb cA0; have lcA1 := cell_later hb cA1; have lcB0 := cell_later hb cB0; have lcB1 := cell_later hb cB1; go_simp; try (with_reducible rfl))
  try simp only [List.getElem_toArray, List.getElem_cons_zero, List.getElem_cons_succ, Act.put, List.setIfInBounds_toArray, List.set_cons_zero, List.set_cons_succ]
  refine wpF_take (i := 4) (v := _) rfl (by kernel_rfl) (by kernel_rfl) (fun _ _ _ h => h) (LS.call (fun vs w w' h hb p hp => ⟨(h p hp).1, (h p hp).2.1.later hb, (h p hp).2.2.later (h p hp).2.1.1 hb⟩) (by rfl) _ _ ?yq5 (m1.out)) ?rq5
  case yq5 => (intro wq; go_simp; try (with_reducible rfl))
  try simp only [List.getElem_toArray, List.getElem_cons_zero, List.getElem_cons_succ, Act.put, List.setIfInBounds_toArray, List.set_cons_zero, List.set_cons_succ]
  refine wpF_yield (i := 5) (v := ?vq6) rfl (by kernel_rfl) (by kernel_rfl) (fun _ _ _ h => h) (Or.inl ⟨by rfl, ?yq6⟩) ?rq6
  case yq6 => (intro wq; go_simp; try (with_reducible rfl))
  try simp only [List.getElem_toArray, List.getElem_cons_zero, List.getElem_cons_succ, Act.put, List.setIfInBounds_toArray, List.set_cons_zero, List.set_cons_succ]
  refine wpF_take (i := 6) (v := ?vq7) rfl (by kernel_rfl) (by kernel_rfl) (fun _ _ _ h => h) (LS.load (by rfl) ?yq7) ?rq7
  case yq7 => (intro wq hb; have lcA0 := cell_later hb cA0; have lcA1 := cell_later hb cA1; have lcB0 := cell_later hb cB0; have lcB1 := cell_later hb cB1; go_simp; try (with_reducible rfl))
  try simp only [List.getElem_toArray, List.getElem_cons_zero, List.getElem_cons_succ, Act.put, List.setIfInBounds_toArray, List.set_cons_zero, List.set_cons_succ]
  refine wpF_yield (i := 7) (v := ?vq8) rfl (by kernel_rfl) (by kernel_rfl) (fun _ _ _ h => h) (Or.inl ⟨by rfl, ?yq8⟩) ?rq8
  case yq8 => (intro wq; go_simp; try (with_reducible rfl))
  try simp only [List.getElem_toArray, List.getElem_cons_zero, List.getElem_cons_succ, Act.put, List.setIfInBounds_toArray, List.set_cons_zero, List.set_cons_succ]
  refine wpF_take (i := 8) (v := ?vq9) rfl (by kernel_rfl) (by kernel_rfl) (fun _ _ _ h => h) (LS.load (by rfl) ?yq9) ?rq9
  case yq9 => (intro wq hb; have lcA0 := cell_later hb cA0; have lcA1 := cell_later hb cA1; have lcB0 := cell_later hb cB0; have lcB1 := cell_later hb cB1; go_simp; try (with_reducible rfl))
  try simp only [List.getElem_toArray, List.getElem_cons_zero, List.getElem_cons_succ, Act.put, List.setIfInBounds_toArray, List.set_cons_zero, List.set_cons_succ]
  refine wpF_take (i := 9) (v := _) rfl (by kernel_rfl) (by kernel_rfl) (fun _ _ _ h => h) (LS.call (fun vs w w' h hb p hp => ⟨(h p hp).1, (h p hp).2.1.later hb, (h p hp).2.2.later (h p hp).2.1.1 hb⟩) (by rfl) _ _ ?yq10 (m2.out)) ?rq10
  case yq10 => (intro wq; go_simp; try (with_reducible rfl))
  try simp only [List.getElem_toArray, List.getElem_cons_zero, List.getElem_cons_succ, Act.put, List.setIfInBounds_toArray, List.set_cons_zero, List.set_cons_succ]
  refine wpF_take (i := 10) (v := _) rfl (by kernel_rfl) (by kernel_rfl) (fun _ _ _ h => h) (LS.call (fun vs w w' h hb p hp => ⟨(h p hp).1, (h p hp).2.1.later hb, (h p hp).2.2.later (h p hp).2.1.1 hb⟩) (by rfl) _ _ ?yq11 (J1.out)) ?rq11
  case yq11 => (intro wq; go_simp; try (with_reducible rfl))
  try simp only [List.getElem_toArray, List.getElem_cons_zero, List.getElem_cons_succ, Act.put, List.setIfInBounds_toArray, List.set_cons_zero, List.set_cons_succ]
  refine wpF_step (i := 11) (bs := [false]) (bs' := [false]) (vs := [undef]) (by kernel_rfl) rfl (by kernel_rfl) rfl (by kernel_rfl) (fun wq hS K hK => ?_)
  obtain ⟨hb, hA⟩ := hS.1 noBits_f
  have hle := hb.size
  go_simp
  refine hK.out _ _ (LS.before noBits_f (bA hb _) ?_) ?_
  · intro p hp
    simp [dsVals] at hp
    subst hp
    exact ⟨hle, WBox.new _ _ _ _ _ _, WFree.new _ _ _ _ _ _⟩
  clear hK hA hb hS
  generalize wq.heap.size = p at *
  try simp only [List.getElem_toArray, List.getElem_cons_zero, List.getElem_cons_succ, Act.put, List.setIfInBounds_toArray, List.set_cons_zero, List.set_cons_succ]
  refine wpF_step (i := 12) (bs := [false]) (bs' := [true]) (vs := [.pointer (some ⟨p, 0, none⟩)]) (by kernel_rfl) rfl (by kernel_rfl) rfl (by kernel_rfl) (fun wq hS K hK => ?_)
  obtain ⟨hb, hA⟩ := hS.1 noBits_f
  obtain ⟨hp, x, f⟩ := hA _ rfl
  have MS := Lib.hid ((kk.later hb).store (by omega) x q0 q1 p0 p1)
  have FS := Lib.hid (WFree.set4 f p q0 q1 p0 p1)
  obtain ⟨_, z0, z1, z2, z3⟩ := x
  obtain ⟨f0, f1, f2, f3⟩ := f
  go_simp
  refine hK.out _ _ (LS.behind bits_t ⟨_, rfl, (MS.out).1, FS.out, by omega, (MS.out).2⟩) ?_
  clear hK hA hb MS FS z0 z1 z2 z3 f0 f1 f2 f3 hS
  try simp only [List.getElem_toArray, List.getElem_cons_zero, List.getElem_cons_succ, Act.put, List.setIfInBounds_toArray, List.set_cons_zero, List.set_cons_succ]
  refine wpF_done (bs := [true]) (vs := [.pointer (some ⟨p, 0, none⟩)]) (by kernel_rfl) (by kernel_rfl) rfl (fun W2 hS => ?_) _
  refine NoPanic.normal ?_
  obtain ⟨p', hpp, pP, fP, hlt, kk2⟩ := hS.2 bits_t
  obtain rfl : p = p' := by simpa using hpp
  clear hpp hS kk m1 m2 J1 cA0 cA1 cB0 cB1 sA sB sR
  try clear hle
  go_wp2_with fail
  obtain ⟨⟨sA, cA0, cA1⟩, ⟨sB, cB0, cB1⟩, ⟨sR, _⟩, _, _⟩ := id kk2
  obtain ⟨sP, cP0, cP1, cP2, cP3⟩ := pP
  have kk := kk2
  refine wp_region_noPanic ?_
  refine wp_region_F [12] [6] (LS W2 (fun vs w => ∀ p, vs = [.pointer (some ⟨p, 0, none⟩)] → W2.heap.size ≤ p ∧ WBox w p 0 0 0 0 ∧ WFree w p) (fun _ vs wx => ∃ p, vs = [.pointer (some ⟨p, 0, none⟩)] ∧ WBox wx p x0 x1 x2 x3 ∧ WFree wx p ∧ w.heap.size + 1 + 1 < p ∧ MulAt w wx ah al bh bl)) (by kernel_rfl) (bs := [false]) (vs := [undef]) (by kernel_rfl) rfl (LS.before noBits_f (Below.refl _ _).drew (fun p hp => (no_ptr hp).elim)) ?_
  refine wpF_take (i := 0) (v := ?vq12) rfl (by kernel_rfl) (by kernel_rfl) (fun _ _ _ h => h) (LS.load (by rfl) ?yq12) ?rq12
  case yq12 => (intro wq hb; have lcA0 := cell_later hb cA0; have lcA1 := cell_later hb cA1; have lcB0 := cell_later hb cB0; have lcB1 := cell_later hb cB1; have lcP0 := cell_later hb cP0; have lcP1 := cell_later hb cP1; have lcP2 := cell_later hb cP2; have lcP3 := cell_later hb cP3; go_simp; try (with_reducible rfl))
  try simp only [List.getElem_toArray, List.getElem_cons_zero, List.getElem_cons_succ, Act.put, List.setIfInBounds_toArray, List.set_cons_zero, List.set_cons_succ]
  refine wpF_yield (i := 1) (v := ?vq13) rfl (by kernel_rfl) (by kernel_rfl) (fun _ _ _ h => h) (Or.inl ⟨by rfl, ?yq13⟩) ?rq13
  case yq13 => (intro wq; go_simp; try (with_reducible rfl))
  try simp only [List.getElem_toArray, List.getElem_cons_zero, List.getElem_cons_succ, Act.put, List.setIfInBounds_toArray, List.set_cons_zero, List.set_cons_succ]
  refine wpF_take (i := 2) (v := ?vq14) rfl (by kernel_rfl) (by kernel_rfl) (fun _ _ _ h => h) (LS.load (by rfl) ?yq14) ?rq14
  case yq14 => (intro wq hb; have lcA0 := cell_later hb cA0; have lcA1 := cell_later hb cA1; have lcB0 := cell_later hb cB0; have lcB1 := cell_later hb cB1; have lcP0 := cell_later hb cP0; have lcP1 := cell_later hb cP1; have lcP2 := cell_later hb cP2; have lcP3 := cell_later hb cP3; go_simp; try (with_reducible rfl))
  try simp only [List.getElem_toArray, List.getElem_cons_zero, List.getElem_cons_succ, Act.put, List.setIfInBounds_toArray, List.set_cons_zero, List.set_cons_succ]
  refine wpF_yield (i := 3) (v := ?vq15) rfl (by kernel_rfl) (by kernel_rfl) (fun _ _ _ h => h) (Or.inl ⟨by rfl, ?yq15⟩) ?rq15
  case yq15 => (intro wq; go_simp; try (with_reducible rfl))
  try simp only [List.getElem_toArray, List.getElem_cons_zero, List.getElem_cons_succ, Act.put, List.setIfInBounds_toArray, List.set_cons_zero, List.set_cons_succ]
  refine wpF_take (i := 4) (v := ?vq16) rfl (by kernel_rfl) (by kernel_rfl) (fun _ _ _ h => h) (LS.load (by rfl) ?yq16) ?rq16
  case yq16 => (intro wq hb; have lcA0 := cell_later hb cA0; have lcA1 := cell_later hb cA1; have lcB0 := cell_later hb cB0; have lcB1 := cell_later hb cB1; have lcP0 := cell_later hb cP0; have lcP1 := cell_later hb cP1; have lcP2 := cell_later hb cP2; have lcP3 := cell_later hb cP3; go_simp; try (with_reducible rfl))
  try simp only [List.getElem_toArray, List.getElem_cons_zero, List.getElem_cons_succ, Act.put, List.setIfInBounds_toArray, List.set_cons_zero, List.set_cons_succ]
  refine wpF_take (i := 5) (v := _) rfl (by kernel_rfl) (by kernel_rfl) (fun _ _ _ h => h) (LS.call (fun vs w w' h hb p hp => ⟨(h p hp).1, (h p hp).2.1.later hb, (h p hp).2.2.later (h p hp).2.1.1 hb⟩) (by rfl) _ _ ?yq17 (m3.out)) ?rq17
  case yq17 => (intro wq; go_simp; try (with_reducible rfl))
  try simp only [List.getElem_toArray, List.getElem_cons_zero, List.getElem_cons_succ, Act.put, List.setIfInBounds_toArray, List.set_cons_zero, List.set_cons_succ]
  refine wpF_take (i := 6) (v := _) rfl (by kernel_rfl) (by kernel_rfl) (fun _ _ _ h => h) (LS.call (fun vs w w' h hb p hp => ⟨(h p hp).1, (h p hp).2.1.later hb, (h p hp).2.2.later (h p hp).2.1.1 hb⟩) (by rfl) _ _ ?yq18 (M1.out)) ?rq18
  case yq18 => (intro wq; go_simp; try (with_reducible rfl))
  try simp only [List.getElem_toArray, List.getElem_cons_zero, List.getElem_cons_succ, Act.put, List.setIfInBounds_toArray, List.set_cons_zero, List.set_cons_succ]
  refine wpF_take (i := 7) (v := _) rfl (by kernel_rfl) (by kernel_rfl) (fun _ _ _ h => h) (LS.call (fun vs w w' h hb p hp => ⟨(h p hp).1, (h p hp).2.1.later hb, (h p hp).2.2.later (h p hp).2.1.1 hb⟩) (by rfl) _ _ ?yq19 (A1.out)) ?rq19
  case yq19 => (intro wq; go_simp; try (with_reducible rfl))
  try simp only [List.getElem_toArray, List.getElem_cons_zero, List.getElem_cons_succ, Act.put, List.setIfInBounds_toArray, List.set_cons_zero, List.set_cons_succ]
  refine wpF_yield (i := 8) (v := ?vq20) rfl (by kernel_rfl) (by kernel_rfl) (fun _ _ _ h => h) (Or.inl ⟨by rfl, ?yq20⟩) ?rq20
  case yq20 => (intro wq; go_simp; try (with_reducible rfl))
  try simp only [List.getElem_toArray, List.getElem_cons_zero, List.getElem_cons_succ, Act.put, List.setIfInBounds_toArray, List.set_cons_zero, List.set_cons_succ]
  refine wpF_yield (i := 9) (v := ?vq21) rfl (by kernel_rfl) (by kernel_rfl) (fun _ _ _ h => h) (Or.inl ⟨by rfl, ?yq21⟩) ?rq21
  case yq21 => (intro wq; go_simp; try (with_reducible rfl))
  try simp only [List.getElem_toArray, List.getElem_cons_zero, List.getElem_cons_succ, Act.put, List.setIfInBounds_toArray, List.set_cons_zero, List.set_cons_succ]
  refine wpF_yield (i := 10) (v := ?vq22) rfl (by kernel_rfl) (by kernel_rfl) (fun _ _ _ h => h) (Or.inl ⟨by rfl, ?yq22⟩) ?rq22
  case yq22 => (intro wq; go_simp; try (with_reducible rfl))
  try simp only [List.getElem_toArray, List.getElem_cons_zero, List.getElem_cons_succ, Act.put, List.setIfInBounds_toArray, List.set_cons_zero, List.set_cons_succ]
  refine wpF_step (i := 11) (bs := [false]) (bs' := [false]) (vs := [undef]) (by kernel_rfl) rfl (by kernel_rfl) rfl (by kernel_rfl) (fun wq hS K hK => ?_)
  obtain ⟨hb, hA⟩ := hS.1 noBits_f
  have hle := hb.size
  go_simp
  refine hK.out _ _ (LS.before noBits_f (bA hb _) ?_) ?_
  · intro p hp
    simp [dsVals] at hp
    subst hp
    exact ⟨hle, WBox.new _ _ _ _ _ _, WFree.new _ _ _ _ _ _⟩
  clear hK hA hb hS
  generalize wq.heap.size = p2 at *
  try simp only [List.getElem_toArray, List.getElem_cons_zero, List.getElem_cons_succ, Act.put, List.setIfInBounds_toArray, List.set_cons_zero, List.set_cons_succ]
  refine wpF_step (i := 12) (bs := [false]) (bs' := [true]) (vs := [.pointer (some ⟨p2, 0, none⟩)]) (by kernel_rfl) rfl (by kernel_rfl) rfl (by kernel_rfl) (fun wq hS K hK => ?_)
  obtain ⟨hb, hA⟩ := hS.1 noBits_f
  obtain ⟨hp, x, f⟩ := hA _ rfl
  have MS := Lib.hid ((kk.later hb).store (by omega) x x0 x1 x2 x3)
  have FS := Lib.hid (WFree.set4 f p2 x0 x1 x2 x3)
  obtain ⟨_, z0, z1, z2, z3⟩ := x
  obtain ⟨f0, f1, f2, f3⟩ := f
  go_simp
  refine hK.out _ _ (LS.behind bits_t ⟨_, rfl, (MS.out).1, FS.out, by omega, (MS.out).2⟩) ?_
  clear hK hA hb MS FS z0 z1 z2 z3 f0 f1 f2 f3 hS
  try simp only [List.getElem_toArray, List.getElem_cons_zero, List.getElem_cons_succ, Act.put, List.setIfInBounds_toArray, List.set_cons_zero, List.set_cons_succ]
  refine wpF_yield (i := 13) (v := ?vq23) rfl (by kernel_rfl) (by kernel_rfl) (fun _ _ _ h => h) (Or.inl ⟨by rfl, ?yq23⟩) ?rq23
  case yq23 => (intro wq; go_simp; try (with_reducible rfl))
  try simp only [List.getElem_toArray, List.getElem_cons_zero, List.getElem_cons_succ, Act.put, List.setIfInBounds_toArray, List.set_cons_zero, List.set_cons_succ]
  refine wpF_done (bs := [true]) (vs := [.pointer (some ⟨p2, 0, none⟩)]) (by kernel_rfl) (by kernel_rfl) rfl (fun W3 hS => ?_) _
  refine NoPanic.normal ?_
  obtain ⟨p', hpp, pP, fP, hlt2, kk3⟩ := hS.2 bits_t
  obtain rfl : p2 = p' := by simpa using hpp
  clear hpp hS kk kk2 m3 M1 A1 cA0 cA1 cB0 cB1 cP0 cP1 cP2 cP3 sA sB sR
  try clear hle
  go_wp2_with fail
  obtain ⟨⟨sA, cA0, cA1⟩, ⟨sB, cB0, cB1⟩, ⟨sR, _⟩, _, _⟩ := id kk3
  obtain ⟨_, cP0, cP1, cP2, cP3⟩ := id pP
  refine wp_region_noPanic ?_
  refine wp_region_F [11] [] (LS W3 (fun _ _ => True) (fun _ _ wx => WBox wx p2 y0 y1 y2 y3 ∧ MulAt w wx ah al bh bl)) (by kernel_rfl) (bs := [false]) (vs := []) (by kernel_rfl) rfl (LS.before noBits_f (Below.refl _ _).drew trivial) ?_
  refine wpF_take (i := 0) (v := ?vq24) rfl (by kernel_rfl) (by kernel_rfl) (fun _ _ _ h => h) (LS.load (by rfl) ?yq24) ?rq24
  case yq24 => (intro wq hb; have lcA0 := cell_later hb cA0; have lcA1 := cell_later hb cA1; have lcB0 := cell_later hb cB0; have lcB1 := cell_later hb cB1; have lcP0 := cell_later hb cP0; have lcP1 := cell_later hb cP1; have lcP2 := cell_later hb cP2; have lcP3 := cell_later hb cP3; go_simp; try (with_reducible rfl))
  try simp only [List.getElem_toArray, List.getElem_cons_zero, List.getElem_cons_succ, Act.put, List.setIfInBounds_toArray, List.set_cons_zero, List.set_cons_succ]
  refine wpF_yield (i := 1) (v := ?vq25) rfl (by kernel_rfl) (by kernel_rfl) (fun _ _ _ h => h) (Or.inl ⟨by rfl, ?yq25⟩) ?rq25
  case yq25 => (intro wq; go_simp; try (with_reducible rfl))
  try simp only [List.getElem_toArray, List.getElem_cons_zero, List.getElem_cons_succ, Act.put, List.setIfInBounds_toArray, List.set_cons_zero, List.set_cons_succ]
  refine wpF_take (i := 2) (v := ?vq26) rfl (by kernel_rfl) (by kernel_rfl) (fun _ _ _ h => h) (LS.load (by rfl) ?yq26) ?rq26
  case yq26 => (intro wq hb; have lcA0 := cell_later hb cA0; have lcA1 := cell_later hb cA1; have lcB0 := cell_later hb cB0; have lcB1 := cell_later hb cB1; have lcP0 := cell_later hb cP0; have lcP1 := cell_later hb cP1; have lcP2 := cell_later hb cP2; have lcP3 := cell_later hb cP3; go_simp; try (with_reducible rfl))
  try simp only [List.getElem_toArray, List.getElem_cons_zero, List.getElem_cons_succ, Act.put, List.setIfInBounds_toArray, List.set_cons_zero, List.set_cons_succ]
  refine wpF_yield (i := 3) (v := ?vq27) rfl (by kernel_rfl) (by kernel_rfl) (fun _ _ _ h => h) (Or.inl ⟨by rfl, ?yq27⟩) ?rq27
  case yq27 => (intro wq; go_simp; try (with_reducible rfl))
  try simp only [List.getElem_toArray, List.getElem_cons_zero, List.getElem_cons_succ, Act.put, List.setIfInBounds_toArray, List.set_cons_zero, List.set_cons_succ]
  refine wpF_take (i := 4) (v := ?vq28) rfl (by kernel_rfl) (by kernel_rfl) (fun _ _ _ h => h) (LS.load (by rfl) ?yq28) ?rq28
  case yq28 => (intro wq hb; have lcA0 := cell_later hb cA0; have lcA1 := cell_later hb cA1; have lcB0 := cell_later hb cB0; have lcB1 := cell_later hb cB1; have lcP0 := cell_later hb cP0; have lcP1 := cell_later hb cP1; have lcP2 := cell_later hb cP2; have lcP3 := cell_later hb cP3; go_simp; try (with_reducible rfl))
  try simp only [List.getElem_toArray, List.getElem_cons_zero, List.getElem_cons_succ, Act.put, List.setIfInBounds_toArray, List.set_cons_zero, List.set_cons_succ]
  refine wpF_take (i := 5) (v := _) rfl (by kernel_rfl) (by kernel_rfl) (fun _ _ _ h => h) (LS.call lasts_true (by rfl) _ _ ?yq29 (m4.out)) ?rq29
  case yq29 => (intro wq; go_simp; try (with_reducible rfl))
  try simp only [List.getElem_toArray, List.getElem_cons_zero, List.getElem_cons_succ, Act.put, List.setIfInBounds_toArray, List.set_cons_zero, List.set_cons_succ]
  refine wpF_take (i := 6) (v := _) rfl (by kernel_rfl) (by kernel_rfl) (fun _ _ _ h => h) (LS.call lasts_true (by rfl) _ _ ?yq30 (M2.out)) ?rq30
  case yq30 => (intro wq; go_simp; try (with_reducible rfl))
  try simp only [List.getElem_toArray, List.getElem_cons_zero, List.getElem_cons_succ, Act.put, List.setIfInBounds_toArray, List.set_cons_zero, List.set_cons_succ]
  refine wpF_take (i := 7) (v := _) rfl (by kernel_rfl) (by kernel_rfl) (fun _ _ _ h => h) (LS.call lasts_true (by rfl) _ _ ?yq31 (A2.out)) ?rq31
  case yq31 => (intro wq; go_simp; try (with_reducible rfl))
  try simp only [List.getElem_toArray, List.getElem_cons_zero, List.getElem_cons_succ, Act.put, List.setIfInBounds_toArray, List.set_cons_zero, List.set_cons_succ]
  refine wpF_yield (i := 8) (v := ?vq32) rfl (by kernel_rfl) (by kernel_rfl) (fun _ _ _ h => h) (Or.inl ⟨by rfl, ?yq32⟩) ?rq32
  case yq32 => (intro wq; go_simp; try (with_reducible rfl))
  try simp only [List.getElem_toArray, List.getElem_cons_zero, List.getElem_cons_succ, Act.put, List.setIfInBounds_toArray, List.set_cons_zero, List.set_cons_succ]
  refine wpF_yield (i := 9) (v := ?vq33) rfl (by kernel_rfl) (by kernel_rfl) (fun _ _ _ h => h) (Or.inl ⟨by rfl, ?yq33⟩) ?rq33
  case yq33 => (intro wq; go_simp; try (with_reducible rfl))
  try simp only [List.getElem_toArray, List.getElem_cons_zero, List.getElem_cons_succ, Act.put, List.setIfInBounds_toArray, List.set_cons_zero, List.set_cons_succ]
  refine wpF_yield (i := 10) (v := ?vq34) rfl (by kernel_rfl) (by kernel_rfl) (fun _ _ _ h => h) (Or.inl ⟨by rfl, ?yq34⟩) ?rq34
  case yq34 => (intro wq; go_simp; try (with_reducible rfl))
  try simp only [List.getElem_toArray, List.getElem_cons_zero, List.getElem_cons_succ, Act.put, List.setIfInBounds_toArray, List.set_cons_zero, List.set_cons_succ]
  refine wpF_step (i := 11) (bs := [false]) (bs' := [true]) (vs := []) (by kernel_rfl) rfl (by kernel_rfl) rfl (by kernel_rfl) (fun wq hS K hK => ?_)
  obtain ⟨hb, _⟩ := hS.1 noBits_f
  have MS := Lib.hid ((kk3.later hb).store hlt2 (pP.later hb) y0 y1 y2 y3)
  obtain ⟨_, z0, z1, z2, z3⟩ := pP.later hb
  obtain ⟨f0, f1, f2, f3⟩ := fP.later pP.1 hb
  clear cP0 cP1 cP2 cP3
  go_simp
  refine hK.out _ _ (LS.behind bits_t MS.out) ?_
  clear hK hb MS z0 z1 z2 z3 f0 f1 f2 f3 hS
  try simp only [List.getElem_toArray, List.getElem_cons_zero, List.getElem_cons_succ, Act.put, List.setIfInBounds_toArray, List.set_cons_zero, List.set_cons_succ]
  refine wpF_done (bs := [true]) (vs := []) (by kernel_rfl) (by kernel_rfl) rfl (fun W4 hS => ?_) _
  refine NoPanic.normal ?_
  obtain ⟨⟨sP4, cP0, cP1, cP2, cP3⟩, kk⟩ := hS.2 bits_t
  obtain ⟨_, _, pR, fR, kb⟩ := kk
  clear hS kk3 pP fP
  have KEY := Lib.hid (wstore y0 y1 y2 y3 pR fR kb (by omega))
  obtain ⟨s0, z0, z1, z2, z3⟩ := pR
  obtain ⟨f0, f1, f2, f3⟩ := fR
  clear m4 A2 M2 kb
  go_wp2_with fail
  obtain ⟨⟨_, e0, e1, e2, e3⟩, kb⟩ := KEY.out
  refine bodyPost_ret (v := .agg #[.int .u64 y0, .int .u64 y1, .int .u64 y2, .int .u64 y3]) ?_ rfl ⟨rfl, kb⟩
  clear z0 z1 z2 z3
  simp [results, Try.results29, go_sem, e0, e1, e2, e3]

theorem wsum_eq {ah al bh bl : Int} (u1 : U64 ah) (u2 : U64 al) (u3 : U64 bh) (u4 : U64 bl) :
    wval (loOf (al * bl)) (hiOf (al * bl)) (loOf (ah * bh)) (hiOf (ah * bh)) + wval 0 (loOf (ah * bl)) (hiOf (ah * bl)) 0 = al * bl + (ah * bh) * 340282366920938463463374607431768211456 + (ah * bl) * 18446744073709551616 := by
  have h1 := mul_small u1 u3; have h2 := mul_small u2 u4; have h3 := mul_small u1 u4
  have e1 := hilo_of (ah * bh) h1.1 (by unfold full; omega); have e2 := hilo_of (al * bl) h2.1 (by unfold full; omega); have e3 := hilo_of (ah * bl) h3.1 (by unfold full; omega)
  generalize hiOf (ah * bh) = a1 at *; generalize loOf (ah * bh) = a2 at *; generalize hiOf (al * bl) = a3 at *; generalize loOf (al * bl) = a4 at *; generalize hiOf (ah * bl) = a5 at *; generalize loOf (ah * bl) = a6 at *
  unfold wval; omega
theorem wprod_sum {ah al bh bl : Int} (u1 : U64 ah) (u2 : U64 al) (u3 : U64 bh) (u4 : U64 bl) (X : Int)
    (hX : X = wval (loOf (al * bl)) (hiOf (al * bl)) (loOf (ah * bh)) (hiOf (ah * bh)) + wval 0 (loOf (ah * bl)) (hiOf (ah * bl)) 0) :
    wval (wd0 X) (wd1 X) (wd2 X) (wd3 X) + wval 0 (loOf (al * bh)) (hiOf (al * bh)) 0 = val ah al * val bh bl := by
  rw [wsum_eq u1 u2 u3 u4] at hX
  have h1 := mul_small u1 u3; have h2 := mul_small u2 u4; have h3 := mul_small u1 u4; have h4 := mul_small u2 u3
  rw [wval_wd (by omega) (by unfold wfull; omega), val_prod]
  have e4 := hilo_of (al * bh) h4.1 (by unfold full; omega)
  generalize hiOf (al * bh) = a5 at *; generalize loOf (al * bh) = a6 at *
  unfold wval; omega

theorem wmul_any (ah al bh bl : Int) (u1 : U64 ah) (u2 : U64 al) (u3 : U64 bh) (u4 : U64 bl) (w : World) :
    Calls Try.prog 29 #[.agg #[.int .u64 ah, .int .u64 al], .agg #[.int .u64 bh, .int .u64 bl]] w fun e w' => e = .returned (.agg #[.int .u64 (wd0 (val ah al * val bh bl)), .int .u64 (wd1 (val ah al * val bh bl)), .int .u64 (wd2 (val ah al * val bh bl)), .int .u64 (wd3 (val ah al * val bh bl))]) ∧ Below w.heap.size w w' := by
  have h := wprod_sum u1 u2 u3 u4 _ rfl
  have h1 := fun w => mul_any ah bh u1 u3 w
  have h2 := fun w => mul_any al bl u2 u4 w
  have h3 := fun w => mul_any ah bl u1 u4 w
  have h4 := fun w => mul_any al bh u2 u3 w
  have A1 := fun w => wadd_any (loOf (al * bl)) (hiOf (al * bl)) (loOf (ah * bh)) (hiOf (ah * bh)) 0 (loOf (ah * bl)) (hiOf (ah * bl)) 0 (loOf_u _) (hiOf_u _) (loOf_u _) (hiOf_u _) u0 (loOf_u _) (hiOf_u _) u0 w
  have A2 := fun w => wadd_any (wd0 (wval (loOf (al * bl)) (hiOf (al * bl)) (loOf (ah * bh)) (hiOf (ah * bh)) + wval 0 (loOf (ah * bl)) (hiOf (ah * bl)) 0)) (wd1 (wval (loOf (al * bl)) (hiOf (al * bl)) (loOf (ah * bh)) (hiOf (ah * bh)) + wval 0 (loOf (ah * bl)) (hiOf (ah * bl)) 0)) (wd2 (wval (loOf (al * bl)) (hiOf (al * bl)) (loOf (ah * bh)) (hiOf (ah * bh)) + wval 0 (loOf (ah * bl)) (hiOf (ah * bl)) 0)) (wd3 (wval (loOf (al * bl)) (hiOf (al * bl)) (loOf (ah * bh)) (hiOf (ah * bh)) + wval 0 (loOf (ah * bl)) (hiOf (ah * bl)) 0)) 0 (loOf (al * bh)) (hiOf (al * bh)) 0 (wd0_u _) (wd1_u _) (wd2_u _) (wd3_u _) u0 (loOf_u _) (hiOf_u _) u0 w
  rw [h] at A2
  exact wmul_core ah al bh bl _ _ _ _ _ _ _ _ _ _ _ _ _ _ _ _ _ _ h1 h2 h3 h4 A1 A2 w

end Go.Proofs.Ythoffjogpmkjkaa
