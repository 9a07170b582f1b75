/-
  The document's answer of stage 5: Div.
-/
import Derived.Test.YtlmgebanfjclcaaGnB
import Derived.Test.YtlmgebanfjclcaaGsB
set_option linter.unusedVariables false
set_option linter.unusedSimpArgs false
set_option maxRecDepth 100000
namespace Go.Proofs.Ytlmgebanfjclcaa
open Go.RowKit
attribute [local go_sem ↓] Go.wp_at_zero Go.wp_at_succ

theorem wbox_far2 {w : World} {p y : Nat} {a b c d : Int} (x : WBox w p a b c d) (hne : p ≠ y) (h l : Int) : WBox (set2 w y h l) p a b c d := by
  obtain ⟨x0, y0, y1, y2, y3⟩ := x
  exact ⟨by simpa using x0, cell_far2 y0 (by exact Ne.symm hne) h l, cell_far2 y1 (by exact Ne.symm hne) h l, cell_far2 y2 (by exact Ne.symm hne) h l, cell_far2 y3 (by exact Ne.symm hne) h l⟩
theorem boxF_far4 {w : World} {b p : Nat} {h l : Int} (x : BoxF w b h l) (hne : b ≠ p) (d0 d1 d2 d3 : Int) : BoxF (set4 w p d0 d1 d2 d3) b h l := by
  obtain ⟨⟨x0, x1, x2⟩, f0, f1⟩ := x
  exact ⟨⟨by simpa using x0, cell_far4 x1 (by exact Ne.symm hne) d0 d1 d2 d3, cell_far4 x2 (by exact Ne.symm hne) d0 d1 d2 d3⟩, by simpa using f0, by simpa using f1⟩
theorem div5_at (w : World) (n0 n1 n2 n3 dh dl : Int) :
    WBox ((((w.alloc (wbx n0 n1 n2 n3 24)).alloc (bx dh dl 26)).alloc (wbx 0 0 0 0 24)).alloc (bx 0 0 26)) w.heap.size n0 n1 n2 n3 ∧
    Box ((((w.alloc (wbx n0 n1 n2 n3 24)).alloc (bx dh dl 26)).alloc (wbx 0 0 0 0 24)).alloc (bx 0 0 26)) (w.heap.size + 1) dh dl ∧
    WBox ((((w.alloc (wbx n0 n1 n2 n3 24)).alloc (bx dh dl 26)).alloc (wbx 0 0 0 0 24)).alloc (bx 0 0 26)) (w.heap.size + 1 + 1) 0 0 0 0 ∧
    WFree ((((w.alloc (wbx n0 n1 n2 n3 24)).alloc (bx dh dl 26)).alloc (wbx 0 0 0 0 24)).alloc (bx 0 0 26)) (w.heap.size + 1 + 1) ∧
    BoxF ((((w.alloc (wbx n0 n1 n2 n3 24)).alloc (bx dh dl 26)).alloc (wbx 0 0 0 0 24)).alloc (bx 0 0 26)) (w.heap.size + 1 + 1 + 1) 0 0 ∧
    Below w.heap.size w ((((w.alloc (wbx n0 n1 n2 n3 24)).alloc (bx dh dl 26)).alloc (wbx 0 0 0 0 24)).alloc (bx 0 0 26)) := by
  have h4 : WFree (((w.alloc (wbx n0 n1 n2 n3 24)).alloc (bx dh dl 26)).alloc (wbx 0 0 0 0 24)) (w.heap.size + 1 + 1) := by
    have := WFree.new ((w.alloc (wbx n0 n1 n2 n3 24)).alloc (bx dh dl 26)) 0 0 0 0 24
    simpa using this
  have h3 : WBox (((w.alloc (wbx n0 n1 n2 n3 24)).alloc (bx dh dl 26)).alloc (wbx 0 0 0 0 24)) (w.heap.size + 1 + 1) 0 0 0 0 := WBox.newAt (by simp) _ _ _ _ _
  have h5 : BoxF ((((w.alloc (wbx n0 n1 n2 n3 24)).alloc (bx dh dl 26)).alloc (wbx 0 0 0 0 24)).alloc (bx 0 0 26)) (w.heap.size + 1 + 1 + 1) 0 0 := by
    have := BoxF.new (((w.alloc (wbx n0 n1 n2 n3 24)).alloc (bx dh dl 26)).alloc (wbx 0 0 0 0 24)) 0 0 26
    simpa using this
  exact ⟨(((WBox.new w n0 n1 n2 n3 _).alloc _).alloc _).alloc _, ((Box.newAt (by simp) dh dl _).alloc _).alloc _, h3.alloc _, h4.later h3.1 (bA (Below.refl _ _) _), h5, bA (bA (bA (bA (Below.refl _ _) _) _) _) _⟩
theorem half5 (d : Int) : Half (d % full) := by
  have h1 : bp 4 ≤ bp 90000 := bp_le (by decide)
  have h2 : bp 4 = full := rfl
  have h3 := (mod_f d).2
  unfold Half; omega
theorem div5 {w : World} {v v' : Value} {n d : Int} (x : IsNum w v (n % wfull)) (y : IsNum w v' (d % full)) (hd : d % full ≠ 0) :
    Calls Try.prog 33 #[v, v'] w fun e w' => ∃ vq vr, e = .returned (.tuple #[vq, vr]) ∧ IsNum w' vq (n % wfull / (d % full)) ∧ IsNum w' vr (n % wfull % (d % full)) ∧ Below w.heap.size w w' :=
  div_num x y (by have : 0 ≤ d % full := by unfold full; omega
                  omega) (by
    have h1 : bp 8 ≤ bp 90000 := bp_le (by decide)
    have h2 : bp 8 = wfull := by decide +kernel
    have h3 := (mod_w n).2
    omega) (half5 d)
set_option maxHeartbeats 8000000 in
theorem ref5_div (n d : Int) (hd : d % full ≠ 0) (w : World) : Calls Try.prog 11 #[.agg #[.int .u64 (wd0 (n)), .int .u64 (wd1 (n)), .int .u64 (wd2 (n)), .int .u64 (wd3 (n))], .agg #[.int .u64 (hiOf (d)), .int .u64 (loOf (d))]] w fun e w' => e = .returned (.tuple #[.agg #[.int .u64 (wd0 (n % wfull / (d % full))), .int .u64 (wd1 (n % wfull / (d % full))), .int .u64 (wd2 (n % wfull / (d % full))), .int .u64 (wd3 (n % wfull / (d % full)))], .agg #[.int .u64 (hiOf (n % wfull % (d % full))), .int .u64 (loOf (n % wfull % (d % full)))], .bool true]) ∧ Below w.heap.size w w' := by
  have hne : ¬ (hiOf d = 0 ∧ loOf d = 0) := fun h => hd (by rw [← val_hiLo_mod, h.1, h.2]; rfl)
  have WN := Lib.hid (wideN n)
  have BN := Lib.hid (bigN d)
  have DN := Lib.hid (fun w v v' (x : IsNum w v (n % wfull)) (y : IsNum w v' (d % full)) => div5 x y hd)
  clear hd
  generalize hiOf d = dh at *
  generalize loOf d = dl at *
  by_cases h1 : dh = 0
  · have h2 : (dl == 0) = false := by simp; exact fun h => hne ⟨h1, h⟩
    subst h1
    clear hne
    go_enter Try.func11, Try.ntmps11
    go_wp2_with fail
    refine wp_forget (fun W => WBox W w.heap.size (wd0 n) (wd1 n) (wd2 n) (wd3 n) ∧ Box W (w.heap.size + 1) 0 dl ∧ WBox W (w.heap.size + 1 + 1) 0 0 0 0 ∧ WFree W (w.heap.size + 1 + 1) ∧ BoxF W (w.heap.size + 1 + 1 + 1) 0 0 ∧ Below w.heap.size w W) (div5_at w (wd0 n) (wd1 n) (wd2 n) (wd3 n) 0 dl) (fun W hst => ?_)
    obtain ⟨⟨_, cN0, cN1, cN2, cN3⟩, ⟨_, cD0, cD1⟩, pr, fr, br, kk⟩ := hst
    refine wp_region_noPanic ?_
    refine wp_region_held_drew (S := fun w' => w'.cell? ⟨w.heap.size, 0, none⟩ = some (.int .u64 (wd0 n)) ∧ w'.cell? ⟨w.heap.size, 1, none⟩ = some (.int .u64 (wd1 n)) ∧ w'.cell? ⟨w.heap.size, 2, none⟩ = some (.int .u64 (wd2 n)) ∧ w'.cell? ⟨w.heap.size, 3, none⟩ = some (.int .u64 (wd3 n)) ∧ w'.cell? ⟨w.heap.size + 1, 0, none⟩ = some (.int .u64 0) ∧ w'.cell? ⟨w.heap.size + 1, 1, none⟩ = some (.int .u64 dl) ∧ True) (by kernel_rfl) ⟨cell_later (Below.refl _ _).drew cN0, cell_later (Below.refl _ _).drew cN1, cell_later (Below.refl _ _).drew cN2, cell_later (Below.refl _ _).drew cN3, cell_later (Below.refl _ _).drew cD0, cell_later (Below.refl _ _).drew cD1, trivial⟩ (fun hHeld => ?_)
    replace cN0 := cell_later (Below.refl _ _).drew cN0; replace cN1 := cell_later (Below.refl _ _).drew cN1; replace cN2 := cell_later (Below.refl _ _).drew cN2; replace cN3 := cell_later (Below.refl _ _).drew cN3; replace cD0 := cell_later (Below.refl _ _).drew cD0; replace cD1 := cell_later (Below.refl _ _).drew cD1
    replace fr := fr.later pr.1 (Below.refl _ _).drew; replace pr := pr.later (Below.refl _ _).drew; replace br := br.later (Below.refl _ _).drew; replace kk := bC kk (Below.refl _ _).drew
    refine wpAnyH_take (i := 0) (v := ?vq1) rfl (by kernel_rfl) (by kernel_rfl) (by kernel_rfl) (fun _ _ _ h => h) (Or.inl ⟨by rfl, ?yq1⟩) hHeld ?rq1
    case yq1 => (intro wq hb; obtain ⟨lq0, lq1, lq2, lq3, lq4, lq5, _⟩ := hb; go_simp; try (with_reducible rfl))
    try simp only [List.getElem_toArray, List.getElem_cons_zero, List.getElem_cons_succ, Act.put, List.setIfInBounds_toArray, List.set_cons_zero, List.set_cons_succ]
    refine wpAnyH_take (i := 2) (v := ?vq2) rfl (by kernel_rfl) (by kernel_rfl) (by kernel_rfl) (fun _ _ _ h => h) (Or.inl ⟨by rfl, ?yq2⟩) hHeld ?rq2
    case yq2 => (intro wq hb; obtain ⟨lq0, lq1, lq2, lq3, lq4, lq5, _⟩ := hb; go_simp; try (with_reducible rfl))
    try simp only [List.getElem_toArray, List.getElem_cons_zero, List.getElem_cons_succ, Act.put, List.setIfInBounds_toArray, List.set_cons_zero, List.set_cons_succ]
    clear hHeld
    refine wpAnyH_ready (rs := [1]) (by kernel_rfl) (by simp) ?_
    refine AllReadyH.cons rfl (fun K hK => ?_) AllReadyH.nil
    go_simp
    (with_reducible refine (WN.out _).mono ?_); rintro e w1 ⟨va, rfl, nva, hb⟩
    replace cN0 := cell_later hb cN0; replace cN1 := cell_later hb cN1; replace cN2 := cell_later hb cN2; replace cN3 := cell_later hb cN3; replace cD0 := cell_later hb cD0; replace cD1 := cell_later hb cD1
    replace fr := fr.later pr.1 hb; replace pr := pr.later hb; replace br := br.later hb; replace kk := bC kk hb
    clear hb
    refine hK.out _ _ ⟨cN0, cN1, cN2, cN3, cD0, cD1, trivial⟩ (fun hHeld => ?_)
    clear hK K
    try simp only [List.getElem_toArray, List.getElem_cons_zero, List.getElem_cons_succ, Act.put, List.setIfInBounds_toArray, List.set_cons_zero, List.set_cons_succ]
    clear hHeld
    refine wpAnyH_ready (rs := [3]) (by kernel_rfl) (by simp) ?_
    refine AllReadyH.cons rfl (fun K hK => ?_) AllReadyH.nil
    go_simp
    (with_reducible refine (BN.out _).mono ?_); rintro e w2 ⟨vb, rfl, nvb, hb⟩
    replace cN0 := cell_later hb cN0; replace cN1 := cell_later hb cN1; replace cN2 := cell_later hb cN2; replace cN3 := cell_later hb cN3; replace cD0 := cell_later hb cD0; replace cD1 := cell_later hb cD1
    replace fr := fr.later pr.1 hb; replace pr := pr.later hb; replace br := br.later hb; replace kk := bC kk hb
    replace nva := nva.later hb
    clear hb
    refine hK.out _ _ ⟨cN0, cN1, cN2, cN3, cD0, cD1, trivial⟩ (fun hHeld => ?_)
    clear hK K
    try simp only [List.getElem_toArray, List.getElem_cons_zero, List.getElem_cons_succ, Act.put, List.setIfInBounds_toArray, List.set_cons_zero, List.set_cons_succ]
    clear hHeld
    refine wpAnyH_ready (rs := [4]) (by kernel_rfl) (by simp) ?_
    refine AllReadyH.cons rfl (fun K hK => ?_) AllReadyH.nil
    go_simp
    (with_reducible refine (DN.out _ _ _ nva nvb).mono ?_); rintro e w3 ⟨vq, vr, rfl, nq, nr, hb⟩
    replace cN0 := cell_later hb cN0; replace cN1 := cell_later hb cN1; replace cN2 := cell_later hb cN2; replace cN3 := cell_later hb cN3; replace cD0 := cell_later hb cD0; replace cD1 := cell_later hb cD1
    replace fr := fr.later pr.1 hb; replace pr := pr.later hb; replace br := br.later hb; replace kk := bC kk hb
    clear hb nva nvb
    refine hK.out _ _ ⟨cN0, cN1, cN2, cN3, cD0, cD1, trivial⟩ (fun hHeld => ?_)
    clear hK K
    try simp only [List.getElem_toArray, List.getElem_cons_zero, List.getElem_cons_succ, Act.put, List.setIfInBounds_toArray, List.set_cons_zero, List.set_cons_succ]
    refine wpAnyH_take (i := 5) (v := ?vq3) rfl (by kernel_rfl) (by kernel_rfl) (by kernel_rfl) (fun _ _ _ h => h) (Or.inl ⟨by rfl, ?yq3⟩) hHeld ?rq3
    case yq3 => (intro wq hb; obtain ⟨lq0, lq1, lq2, lq3, lq4, lq5, _⟩ := hb; go_simp; try (with_reducible rfl))
    try simp only [List.getElem_toArray, List.getElem_cons_zero, List.getElem_cons_succ, Act.put, List.setIfInBounds_toArray, List.set_cons_zero, List.set_cons_succ]
    refine wpAnyH_take (i := 6) (v := ?vq4) rfl (by kernel_rfl) (by kernel_rfl) (by kernel_rfl) (fun _ _ _ h => h) (Or.inl ⟨by rfl, ?yq4⟩) hHeld ?rq4
    case yq4 => (intro wq hb; obtain ⟨lq0, lq1, lq2, lq3, lq4, lq5, _⟩ := hb; go_simp; try (with_reducible rfl))
    try simp only [List.getElem_toArray, List.getElem_cons_zero, List.getElem_cons_succ, Act.put, List.setIfInBounds_toArray, List.set_cons_zero, List.set_cons_succ]
    refine wpAnyH_take (i := 7) (v := ?vq5) rfl (by kernel_rfl) (by kernel_rfl) (by kernel_rfl) (fun _ _ _ h => h) (Or.inl ⟨by rfl, ?yq5⟩) hHeld ?rq5
    case yq5 => (intro wq hb; obtain ⟨lq0, lq1, lq2, lq3, lq4, lq5, _⟩ := hb; go_simp; try (with_reducible rfl))
    try simp only [List.getElem_toArray, List.getElem_cons_zero, List.getElem_cons_succ, Act.put, List.setIfInBounds_toArray, List.set_cons_zero, List.set_cons_succ]
    refine wpAnyH_take (i := 8) (v := ?vq6) rfl (by kernel_rfl) (by kernel_rfl) (by kernel_rfl) (fun _ _ _ h => h) (Or.inl ⟨by rfl, ?yq6⟩) hHeld ?rq6
    case yq6 => (intro wq hb; obtain ⟨lq0, lq1, lq2, lq3, lq4, lq5, _⟩ := hb; go_simp; try (with_reducible rfl))
    try simp only [List.getElem_toArray, List.getElem_cons_zero, List.getElem_cons_succ, Act.put, List.setIfInBounds_toArray, List.set_cons_zero, List.set_cons_succ]
    refine wpAnyH_take (i := 9) (v := ?vq7) rfl (by kernel_rfl) (by kernel_rfl) (by kernel_rfl) (fun _ _ _ h => h) (Or.inl ⟨by rfl, ?yq7⟩) hHeld ?rq7
    case yq7 => (intro wq hb; obtain ⟨lq0, lq1, lq2, lq3, lq4, lq5, _⟩ := hb; go_simp; try (with_reducible rfl))
    try simp only [List.getElem_toArray, List.getElem_cons_zero, List.getElem_cons_succ, Act.put, List.setIfInBounds_toArray, List.set_cons_zero, List.set_cons_succ]
    clear hHeld
    refine wpAnyH_done (by kernel_rfl) ?_ _
    refine NoPanic.normal ?_
    clear cN0 cN1 cN2 cN3 cD0 cD1 WN BN DN
    go_wp2_with fail
    (with_reducible refine (low_num nq).mono ?_); rintro e w4 ⟨rfl, hb⟩
    replace fr := fr.later pr.1 hb; replace pr := pr.later hb; replace br := br.later hb; replace kk := bC kk hb; replace nr := nr.later hb
    clear hb
    go_wp2_with fail
    (with_reducible refine (bits_num2 nr).mono ?_); rintro e w5 ⟨rfl, hb⟩
    replace fr := fr.later pr.1 hb; replace pr := pr.later hb; replace br := br.later hb; replace kk := bC kk hb
    clear hb nq nr
    have KEY := Lib.hid (And.intro (wbox_far2 (wbox_put4 pr (wd0 (n % wfull / (d % full))) (wd1 (n % wfull / (d % full))) (wd2 (n % wfull / (d % full))) (wd3 (n % wfull / (d % full)))) (show w.heap.size + 1 + 1 ≠ w.heap.size + 1 + 1 + 1 by omega) (hiOf (n % wfull % (d % full))) (loOf (n % wfull % (d % full)))) (And.intro ((boxF_far4 br (show w.heap.size + 1 + 1 + 1 ≠ w.heap.size + 1 + 1 by omega) (wd0 (n % wfull / (d % full))) (wd1 (n % wfull / (d % full))) (wd2 (n % wfull / (d % full))) (wd3 (n % wfull / (d % full)))).set (hiOf (n % wfull % (d % full))) (loOf (n % wfull % (d % full)))) (bS (below_set4 kk (by omega : w.heap.size ≤ w.heap.size + 1 + 1) (wd0 (n % wfull / (d % full))) (wd1 (n % wfull / (d % full))) (wd2 (n % wfull / (d % full))) (wd3 (n % wfull / (d % full)))) (by omega : w.heap.size ≤ w.heap.size + 1 + 1 + 1) (hiOf (n % wfull % (d % full))) (loOf (n % wfull % (d % full))))))
    obtain ⟨_, c0, c1, c2, c3⟩ := pr
    obtain ⟨f0, f1, f2, f3⟩ := fr
    obtain ⟨⟨_, b0, b1⟩, g0, g1⟩ := br
    clear kk
    go_wp2_with fail
    obtain ⟨⟨_, e0, e1, e2, e3⟩, ⟨⟨_, e4, e5⟩, _, _⟩, kb⟩ := KEY.out
    refine bodyPost_ret (v := .tuple #[.agg #[.int .u64 (wd0 (n % wfull / (d % full))), .int .u64 (wd1 (n % wfull / (d % full))), .int .u64 (wd2 (n % wfull / (d % full))), .int .u64 (wd3 (n % wfull / (d % full)))], .agg #[.int .u64 (hiOf (n % wfull % (d % full))), .int .u64 (loOf (n % wfull % (d % full)))], .bool true]) ?_ rfl ⟨rfl, kb⟩
    clear c0 c1 c2 c3 f0 f1 f2 f3 b0 b1 g0 g1 kb
    simp [results, Try.results11, go_sem, e0, e1, e2, e3, e4, e5]
  · have h2 : (dh == 0) = false := by simp [h1]
    clear hne h1
    go_enter Try.func11, Try.ntmps11
    go_wp2_with fail
    refine wp_forget (fun W => WBox W w.heap.size (wd0 n) (wd1 n) (wd2 n) (wd3 n) ∧ Box W (w.heap.size + 1) dh dl ∧ WBox W (w.heap.size + 1 + 1) 0 0 0 0 ∧ WFree W (w.heap.size + 1 + 1) ∧ BoxF W (w.heap.size + 1 + 1 + 1) 0 0 ∧ Below w.heap.size w W) (div5_at w (wd0 n) (wd1 n) (wd2 n) (wd3 n) dh dl) (fun W hst => ?_)
    obtain ⟨⟨_, cN0, cN1, cN2, cN3⟩, ⟨_, cD0, cD1⟩, pr, fr, br, kk⟩ := hst
    refine wp_region_noPanic ?_
    refine wp_region_held_drew (S := fun w' => w'.cell? ⟨w.heap.size, 0, none⟩ = some (.int .u64 (wd0 n)) ∧ w'.cell? ⟨w.heap.size, 1, none⟩ = some (.int .u64 (wd1 n)) ∧ w'.cell? ⟨w.heap.size, 2, none⟩ = some (.int .u64 (wd2 n)) ∧ w'.cell? ⟨w.heap.size, 3, none⟩ = some (.int .u64 (wd3 n)) ∧ w'.cell? ⟨w.heap.size + 1, 0, none⟩ = some (.int .u64 dh) ∧ w'.cell? ⟨w.heap.size + 1, 1, none⟩ = some (.int .u64 dl) ∧ True) (by kernel_rfl) ⟨cell_later (Below.refl _ _).drew cN0, cell_later (Below.refl _ _).drew cN1, cell_later (Below.refl _ _).drew cN2, cell_later (Below.refl _ _).drew cN3, cell_later (Below.refl _ _).drew cD0, cell_later (Below.refl _ _).drew cD1, trivial⟩ (fun hHeld => ?_)
    replace cN0 := cell_later (Below.refl _ _).drew cN0; replace cN1 := cell_later (Below.refl _ _).drew cN1; replace cN2 := cell_later (Below.refl _ _).drew cN2; replace cN3 := cell_later (Below.refl _ _).drew cN3; replace cD0 := cell_later (Below.refl _ _).drew cD0; replace cD1 := cell_later (Below.refl _ _).drew cD1
    replace fr := fr.later pr.1 (Below.refl _ _).drew; replace pr := pr.later (Below.refl _ _).drew; replace br := br.later (Below.refl _ _).drew; replace kk := bC kk (Below.refl _ _).drew
    refine wpAnyH_take (i := 0) (v := ?vQ1) rfl (by kernel_rfl) (by kernel_rfl) (by kernel_rfl) (fun _ _ _ h => h) (Or.inl ⟨by rfl, ?yQ1⟩) hHeld ?rQ1
    case yQ1 => (intro wq hb; obtain ⟨lq0, lq1, lq2, lq3, lq4, lq5, _⟩ := hb; go_simp; try (with_reducible rfl))
    try simp only [List.getElem_toArray, List.getElem_cons_zero, List.getElem_cons_succ, Act.put, List.setIfInBounds_toArray, List.set_cons_zero, List.set_cons_succ]
    refine wpAnyH_take (i := 2) (v := ?vQ2) rfl (by kernel_rfl) (by kernel_rfl) (by kernel_rfl) (fun _ _ _ h => h) (Or.inl ⟨by rfl, ?yQ2⟩) hHeld ?rQ2
    case yQ2 => (intro wq hb; obtain ⟨lq0, lq1, lq2, lq3, lq4, lq5, _⟩ := hb; go_simp; try (with_reducible rfl))
    try simp only [List.getElem_toArray, List.getElem_cons_zero, List.getElem_cons_succ, Act.put, List.setIfInBounds_toArray, List.set_cons_zero, List.set_cons_succ]
    clear hHeld
    refine wpAnyH_ready (rs := [1]) (by kernel_rfl) (by simp) ?_
    refine AllReadyH.cons rfl (fun K hK => ?_) AllReadyH.nil
    go_simp
    (with_reducible refine (WN.out _).mono ?_); rintro e w1 ⟨va, rfl, nva, hb⟩
    replace cN0 := cell_later hb cN0; replace cN1 := cell_later hb cN1; replace cN2 := cell_later hb cN2; replace cN3 := cell_later hb cN3; replace cD0 := cell_later hb cD0; replace cD1 := cell_later hb cD1
    replace fr := fr.later pr.1 hb; replace pr := pr.later hb; replace br := br.later hb; replace kk := bC kk hb
    clear hb
    refine hK.out _ _ ⟨cN0, cN1, cN2, cN3, cD0, cD1, trivial⟩ (fun hHeld => ?_)
    clear hK K
    try simp only [List.getElem_toArray, List.getElem_cons_zero, List.getElem_cons_succ, Act.put, List.setIfInBounds_toArray, List.set_cons_zero, List.set_cons_succ]
    clear hHeld
    refine wpAnyH_ready (rs := [3]) (by kernel_rfl) (by simp) ?_
    refine AllReadyH.cons rfl (fun K hK => ?_) AllReadyH.nil
    go_simp
    (with_reducible refine (BN.out _).mono ?_); rintro e w2 ⟨vb, rfl, nvb, hb⟩
    replace cN0 := cell_later hb cN0; replace cN1 := cell_later hb cN1; replace cN2 := cell_later hb cN2; replace cN3 := cell_later hb cN3; replace cD0 := cell_later hb cD0; replace cD1 := cell_later hb cD1
    replace fr := fr.later pr.1 hb; replace pr := pr.later hb; replace br := br.later hb; replace kk := bC kk hb
    replace nva := nva.later hb
    clear hb
    refine hK.out _ _ ⟨cN0, cN1, cN2, cN3, cD0, cD1, trivial⟩ (fun hHeld => ?_)
    clear hK K
    try simp only [List.getElem_toArray, List.getElem_cons_zero, List.getElem_cons_succ, Act.put, List.setIfInBounds_toArray, List.set_cons_zero, List.set_cons_succ]
    clear hHeld
    refine wpAnyH_ready (rs := [4]) (by kernel_rfl) (by simp) ?_
    refine AllReadyH.cons rfl (fun K hK => ?_) AllReadyH.nil
    go_simp
    (with_reducible refine (DN.out _ _ _ nva nvb).mono ?_); rintro e w3 ⟨vq, vr, rfl, nq, nr, hb⟩
    replace cN0 := cell_later hb cN0; replace cN1 := cell_later hb cN1; replace cN2 := cell_later hb cN2; replace cN3 := cell_later hb cN3; replace cD0 := cell_later hb cD0; replace cD1 := cell_later hb cD1
    replace fr := fr.later pr.1 hb; replace pr := pr.later hb; replace br := br.later hb; replace kk := bC kk hb
    clear hb nva nvb
    refine hK.out _ _ ⟨cN0, cN1, cN2, cN3, cD0, cD1, trivial⟩ (fun hHeld => ?_)
    clear hK K
    try simp only [List.getElem_toArray, List.getElem_cons_zero, List.getElem_cons_succ, Act.put, List.setIfInBounds_toArray, List.set_cons_zero, List.set_cons_succ]
    refine wpAnyH_take (i := 5) (v := ?vQ3) rfl (by kernel_rfl) (by kernel_rfl) (by kernel_rfl) (fun _ _ _ h => h) (Or.inl ⟨by rfl, ?yQ3⟩) hHeld ?rQ3
    case yQ3 => (intro wq hb; obtain ⟨lq0, lq1, lq2, lq3, lq4, lq5, _⟩ := hb; go_simp; try (with_reducible rfl))
    try simp only [List.getElem_toArray, List.getElem_cons_zero, List.getElem_cons_succ, Act.put, List.setIfInBounds_toArray, List.set_cons_zero, List.set_cons_succ]
    refine wpAnyH_take (i := 6) (v := ?vQ4) rfl (by kernel_rfl) (by kernel_rfl) (by kernel_rfl) (fun _ _ _ h => h) (Or.inl ⟨by rfl, ?yQ4⟩) hHeld ?rQ4
    case yQ4 => (intro wq hb; obtain ⟨lq0, lq1, lq2, lq3, lq4, lq5, _⟩ := hb; go_simp; try (with_reducible rfl))
    try simp only [List.getElem_toArray, List.getElem_cons_zero, List.getElem_cons_succ, Act.put, List.setIfInBounds_toArray, List.set_cons_zero, List.set_cons_succ]
    refine wpAnyH_take (i := 7) (v := ?vQ5) rfl (by kernel_rfl) (by kernel_rfl) (by kernel_rfl) (fun _ _ _ h => h) (Or.inl ⟨by rfl, ?yQ5⟩) hHeld ?rQ5
    case yQ5 => (intro wq hb; obtain ⟨lq0, lq1, lq2, lq3, lq4, lq5, _⟩ := hb; go_simp; try (with_reducible rfl))
    try simp only [List.getElem_toArray, List.getElem_cons_zero, List.getElem_cons_succ, Act.put, List.setIfInBounds_toArray, List.set_cons_zero, List.set_cons_succ]
    refine wpAnyH_take (i := 8) (v := ?vQ6) rfl (by kernel_rfl) (by kernel_rfl) (by kernel_rfl) (fun _ _ _ h => h) (Or.inl ⟨by rfl, ?yQ6⟩) hHeld ?rQ6
    case yQ6 => (intro wq hb; obtain ⟨lq0, lq1, lq2, lq3, lq4, lq5, _⟩ := hb; go_simp; try (with_reducible rfl))
    try simp only [List.getElem_toArray, List.getElem_cons_zero, List.getElem_cons_succ, Act.put, List.setIfInBounds_toArray, List.set_cons_zero, List.set_cons_succ]
    refine wpAnyH_take (i := 9) (v := ?vQ7) rfl (by kernel_rfl) (by kernel_rfl) (by kernel_rfl) (fun _ _ _ h => h) (Or.inl ⟨by rfl, ?yQ7⟩) hHeld ?rQ7
    case yQ7 => (intro wq hb; obtain ⟨lq0, lq1, lq2, lq3, lq4, lq5, _⟩ := hb; go_simp; try (with_reducible rfl))
    try simp only [List.getElem_toArray, List.getElem_cons_zero, List.getElem_cons_succ, Act.put, List.setIfInBounds_toArray, List.set_cons_zero, List.set_cons_succ]
    clear hHeld
    refine wpAnyH_done (by kernel_rfl) ?_ _
    refine NoPanic.normal ?_
    clear cN0 cN1 cN2 cN3 cD0 cD1 WN BN DN
    go_wp2_with fail
    (with_reducible refine (low_num nq).mono ?_); rintro e w4 ⟨rfl, hb⟩
    replace fr := fr.later pr.1 hb; replace pr := pr.later hb; replace br := br.later hb; replace kk := bC kk hb; replace nr := nr.later hb
    clear hb
    go_wp2_with fail
    (with_reducible refine (bits_num2 nr).mono ?_); rintro e w5 ⟨rfl, hb⟩
    replace fr := fr.later pr.1 hb; replace pr := pr.later hb; replace br := br.later hb; replace kk := bC kk hb
    clear hb nq nr
    have KEY := Lib.hid (And.intro (wbox_far2 (wbox_put4 pr (wd0 (n % wfull / (d % full))) (wd1 (n % wfull / (d % full))) (wd2 (n % wfull / (d % full))) (wd3 (n % wfull / (d % full)))) (show w.heap.size + 1 + 1 ≠ w.heap.size + 1 + 1 + 1 by omega) (hiOf (n % wfull % (d % full))) (loOf (n % wfull % (d % full)))) (And.intro ((boxF_far4 br (show w.heap.size + 1 + 1 + 1 ≠ w.heap.size + 1 + 1 by omega) (wd0 (n % wfull / (d % full))) (wd1 (n % wfull / (d % full))) (wd2 (n % wfull / (d % full))) (wd3 (n % wfull / (d % full)))).set (hiOf (n % wfull % (d % full))) (loOf (n % wfull % (d % full)))) (bS (below_set4 kk (by omega : w.heap.size ≤ w.heap.size + 1 + 1) (wd0 (n % wfull / (d % full))) (wd1 (n % wfull / (d % full))) (wd2 (n % wfull / (d % full))) (wd3 (n % wfull / (d % full)))) (by omega : w.heap.size ≤ w.heap.size + 1 + 1 + 1) (hiOf (n % wfull % (d % full))) (loOf (n % wfull % (d % full))))))
    obtain ⟨_, c0, c1, c2, c3⟩ := pr
    obtain ⟨f0, f1, f2, f3⟩ := fr
    obtain ⟨⟨_, b0, b1⟩, g0, g1⟩ := br
    clear kk
    go_wp2_with fail
    obtain ⟨⟨_, e0, e1, e2, e3⟩, ⟨⟨_, e4, e5⟩, _, _⟩, kb⟩ := KEY.out
    refine bodyPost_ret (v := .tuple #[.agg #[.int .u64 (wd0 (n % wfull / (d % full))), .int .u64 (wd1 (n % wfull / (d % full))), .int .u64 (wd2 (n % wfull / (d % full))), .int .u64 (wd3 (n % wfull / (d % full)))], .agg #[.int .u64 (hiOf (n % wfull % (d % full))), .int .u64 (loOf (n % wfull % (d % full)))], .bool true]) ?_ rfl ⟨rfl, kb⟩
    clear c0 c1 c2 c3 f0 f1 f2 f3 b0 b1 g0 g1 kb
    simp [results, Try.results11, go_sem, e0, e1, e2, e3, e4, e5]


end Go.Proofs.Ytlmgebanfjclcaa
