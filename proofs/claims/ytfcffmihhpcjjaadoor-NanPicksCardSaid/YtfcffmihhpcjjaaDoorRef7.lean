/-
  The document's answers of layer 7: widths, cuts, fields, over numbers.
-/
import Derived.Test.YtfcffmihhpcjjaaDoorGnB
import Derived.Test.YtfcffmihhpcjjaaDoorGnA
import Derived.Test.YtfcffmihhpcjjaaDoorForm7M
import Derived.Test.YtfcffmihhpcjjaaDoorGsB
import Derived.Test.YtfcffmihhpcjjaaDoorGcA
set_option linter.unusedVariables false
set_option linter.unusedSimpArgs false
set_option maxRecDepth 100000
namespace Go.Proofs.YtfcffmihhpcjjaaDoor
open Go.RowKit
attribute [local go_sem ↓] Go.wp_at_zero Go.wp_at_succ

theorem nil_num (w : World) : IsNum w (.slice none 0 0) 0 := ⟨none, 0, 0, [], rfl, ⟨rfl, Nat.le_refl _, by decide, fun d h => (by cases h), fun h => absurd h (by decide)⟩, rfl, norm_nil⟩

theorem ref7_width (f : Int) (f0 : 0 ≤ f) (f1 : f ≤ 255) (w : World) : Calls Tryd.prog 56 #[.int .u8 f] w fun e w' => e = .returned (.int .i64 (fW f)) ∧ w = w' := by
  by_cases h0 : f = 0
  · subst h0
    go_enter Tryd.func56, Tryd.ntmps56
    go_wp2
    go_ret
    exact ⟨rfl, rfl⟩
  · by_cases h1 : f = 1
    · subst h1
      go_enter Tryd.func56, Tryd.ntmps56
      go_wp2
      go_ret
      exact ⟨rfl, rfl⟩
    · by_cases h2 : f = 2
      · subst h2
        go_enter Tryd.func56, Tryd.ntmps56
        go_wp2
        go_ret
        exact ⟨rfl, rfl⟩
      · by_cases h3 : f = 3
        · subst h3
          go_enter Tryd.func56, Tryd.ntmps56
          go_wp2
          go_ret
          exact ⟨rfl, rfl⟩
        · rw [show fW f = 0 from fW_no (by omega)]
          have g0 : (f == 0) = false := by simp; omega
          have g1 : (f == 1) = false := by simp; omega
          have g2 : (f == 2) = false := by simp; omega
          have g3 : (f == 3) = false := by simp; omega
          clear h0 h1 h2 h3
          go_enter Tryd.func56, Tryd.ntmps56
          go_wp2
          go_ret
          exact ⟨rfl, rfl⟩

theorem ref7_prec (f : Int) (f0 : 0 ≤ f) (f1 : f ≤ 255) (w : World) : Calls Tryd.prog 32 #[.int .u8 f] w fun e w' => e = .returned (.int .i64 (fP f)) ∧ w = w' := by
  by_cases h0 : f = 0
  · subst h0
    go_enter Tryd.func32, Tryd.ntmps32
    go_wp2
    go_ret
    exact ⟨rfl, rfl⟩
  · by_cases h1 : f = 1
    · subst h1
      go_enter Tryd.func32, Tryd.ntmps32
      go_wp2
      go_ret
      exact ⟨rfl, rfl⟩
    · by_cases h2 : f = 2
      · subst h2
        go_enter Tryd.func32, Tryd.ntmps32
        go_wp2
        go_ret
        exact ⟨rfl, rfl⟩
      · by_cases h3 : f = 3
        · subst h3
          go_enter Tryd.func32, Tryd.ntmps32
          go_wp2
          go_ret
          exact ⟨rfl, rfl⟩
        · rw [show fP f = 0 from fP_no (by omega)]
          have g0 : (f == 0) = false := by simp; omega
          have g1 : (f == 1) = false := by simp; omega
          have g2 : (f == 2) = false := by simp; omega
          have g3 : (f == 3) = false := by simp; omega
          clear h0 h1 h2 h3
          go_enter Tryd.func32, Tryd.ntmps32
          go_wp2
          go_ret
          exact ⟨rfl, rfl⟩

theorem ref7_emax (f : Int) (f0 : 0 ≤ f) (f1 : f ≤ 255) (w : World) : Calls Tryd.prog 36 #[.int .u8 f] w fun e w' => e = .returned (.int .i64 (fE f)) ∧ w = w' := by
  by_cases h0 : f = 0
  · subst h0
    go_enter Tryd.func36, Tryd.ntmps36
    go_wp2
    go_ret
    exact ⟨rfl, rfl⟩
  · by_cases h1 : f = 1
    · subst h1
      go_enter Tryd.func36, Tryd.ntmps36
      go_wp2
      go_ret
      exact ⟨rfl, rfl⟩
    · by_cases h2 : f = 2
      · subst h2
        go_enter Tryd.func36, Tryd.ntmps36
        go_wp2
        go_ret
        exact ⟨rfl, rfl⟩
      · by_cases h3 : f = 3
        · subst h3
          go_enter Tryd.func36, Tryd.ntmps36
          go_wp2
          go_ret
          exact ⟨rfl, rfl⟩
        · rw [show fE f = 0 from fE_no (by omega)]
          have g0 : (f == 0) = false := by simp; omega
          have g1 : (f == 1) = false := by simp; omega
          have g2 : (f == 2) = false := by simp; omega
          have g3 : (f == 3) = false := by simp; omega
          clear h0 h1 h2 h3
          go_enter Tryd.func36, Tryd.ntmps36
          go_wp2
          go_ret
          exact ⟨rfl, rfl⟩

theorem small_mod (b : Int) : Small (b % full) := small_full (by have := (mod_f b).2; omega)
theorem small_cut (f b : Int) : Small (cutF f (b % full)) := small_full (by
  have h := (mod_f b)
  have h2 := Int.emod_lt_of_pos (b % full) (two_pow_pos (fW f))
  have h3 : cutF f (b % full) ≤ b % full := by
    unfold cutF
    have := Int.emod_add_mul_ediv (b % full) (2 ^ fW f)
    have : 0 ≤ 2 ^ fW f * (b % full / 2 ^ fW f) := Int.mul_nonneg (by have := two_pow_pos (fW f); omega) (Int.ediv_nonneg h.1 (by have := two_pow_pos (fW f); omega))
    omega
  omega)
theorem fW_le (f : Int) : fW f ≤ 128 := by unfold fW; split <;> (try split) <;> (try split) <;> (try split) <;> omega

theorem ref7_cut (f b : Int) (f0 : 0 ≤ f) (f1 : f ≤ 255) (w : World) : Calls Tryd.prog 28 #[.int .u8 f, .agg #[.int .u64 (hiOf (b)), .int .u64 (loOf (b))]] w (RetNum w (cutF f (b % full))) := by
  have WF := Lib.hid (fun w => ref7_width f f0 f1 w)
  have BN := Lib.hid (bigN b)
  have SM := Lib.hid (small_mod b)
  have HW := Lib.hid (show fW f < 3200000 by have := fW_le f; omega)
  show Calls _ _ _ _ (RetNum w (b % full % 2 ^ fW f))
  generalize b % full = B at *
  generalize hiOf b = bh at *
  generalize loOf b = bl at *
  go_enter Tryd.func28, Tryd.ntmps28
  go_wp2_with fail
  (with_reducible refine (BN.out _).mono ?_); rintro e w1 ⟨vn1, rfl, n1, hb⟩
  have kk := bC (bA (Below.refl _ _) _) hb
  clear hb
  go_wp2_with fail
  (with_reducible refine (WF.out _).mono ?_); rintro e wz ⟨rfl, rfl⟩
  go_wp2_with fail
  (with_reducible refine (cut_num n1 SM.out _ HW.out).mono ?_); rintro e w2 ⟨vn3, rfl, n3, hb⟩
  replace n1 := n1.later hb
  replace kk := bC kk hb
  clear hb
  go_wp2_with fail
  go_ret
  exact ⟨_, rfl, n3, kk⟩

theorem ref7_split_no (f bh bl : Int) (f0 : 0 ≤ f) (f1 : f ≤ 255) (h4 : ¬ f < 4) (w : World) : Calls Tryd.prog 75 #[.int .u8 f, .agg #[.int .u64 (bh), .int .u64 (bl)]] w fun e w' => e = .returned (.tuple #[.bool false, .int .i64 0, .slice none 0 0]) ∧ Below w.heap.size w w' := by
  have WF := Lib.hid (fun w => ref7_width f f0 f1 w)
  rw [show fW f = 0 from fW_no h4] at WF
  clear f0 f1 h4
  go_enter Tryd.func75, Tryd.ntmps75
  go_wp2_with fail
  (with_reducible refine (WF.out _).mono ?_); rintro e wz ⟨rfl, rfl⟩
  go_wp2_with fail
  exact bodyPost_ret (v := .tuple #[.bool false, .int .i64 0, .slice none 0 0]) (by simp [results, Tryd.results75, go_sem]) rfl ⟨rfl, bA (Below.refl _ _) _⟩

/-- What Split leaves: the sign, the exponent field, and a number: the fraction. -/
def RetSplit (w : World) (f B : Int) (e : Ending) (w' : World) : Prop := ∃ v, e = .returned (.tuple #[.bool (negF f B), .int .i64 (expF f B), v]) ∧ IsNum w' v (fracF f B) ∧ Below w.heap.size w w'
set_option maxHeartbeats 4000000 in
set_option maxRecDepth 100000 in
theorem ref7_split_core (f bh bl N R : Int) (W1 P1 wi pi : Int) (sg : Bool) (Q : Int) (fr eh el ex : Int)
    (WF : Hid (∀ w, Calls Tryd.prog 56 #[.int .u8 f] w fun e w' => e = .returned (.int .i64 wi) ∧ w = w')) (PF : Hid (∀ w, Calls Tryd.prog 32 #[.int .u8 f] w fun e w' => e = .returned (.int .i64 pi) ∧ w = w'))
    (CT : Hid (∀ w, Calls Tryd.prog 28 #[.int .u8 f, .agg #[.int .u64 (bh), .int .u64 (bl)]] w (RetNum w N))) (kw kp : Nat) (hw : IntKind.i64.wrap (wi - 1) = (kw : Int)) (hp : IntKind.i64.wrap (pi - 1) = (kp : Int)) (g0 : (wi == 0) = false)
    (SN : Hid (Small N)) (SR : Hid (Small R)) (HW1 : Hid (kw < 3200000)) (HP1 : Hid ((kp : Int) ≤ 9223372036854775807)) (HP2 : Hid (kp < 3200000)) (HI0 : Hid (-9223372036854775808 ≤ (kw : Int))) (HI1 : Hid ((kw : Int) ≤ 9223372036854775807))
    (eR : N % 2 ^ kw = R) (eE : R / 2 ^ kp = Q) (eh_ : hiOf Q = eh) (el_ : loOf Q = el) (eX : IntKind.i64.wrap el = ex) (eS : bitN N kw = sg) (eF : R % 2 ^ kp = fr) (w : World) :
    Calls Tryd.prog 75 #[.int .u8 f, .agg #[.int .u64 (bh), .int .u64 (bl)]] w fun e w' => ∃ v, e = .returned (.tuple #[.bool sg, .int .i64 ex, v]) ∧ IsNum w' v fr ∧ Below w.heap.size w w' := by
  go_enter Tryd.func75, Tryd.ntmps75
  go_wp2_with fail
  (with_reducible refine (WF.out _).mono ?_); rintro e wz ⟨rfl, rfl⟩
  go_wp2_with fail
  (with_reducible refine (CT.out _).mono ?_); rintro e w1 ⟨vnn, rfl, nn, hb⟩
  have xb : HB w1 (w.heap.size) 25 #[.int .u64 bh, .int .u64 bl] := (HB.newAt (by simp) _ _).later hb
  have kk := bC (bA (Below.refl _ _) _) hb
  clear hb
  clear xb
  go_wp2_with fail
  (with_reducible refine (WF.out _).mono ?_); rintro e wz ⟨rfl, rfl⟩
  go_wp2_with fail
  (with_reducible refine (cut_num nn SN.out _ HW1.out).mono ?_); rintro e w2 ⟨vnr, rfl, nr, hb⟩
  replace nn := nn.later hb
  replace kk := bC kk hb
  clear hb
  rw [eR] at nr
  go_wp2_with fail
  (with_reducible refine (PF.out _).mono ?_); rintro e wz ⟨rfl, rfl⟩
  go_wp2_with fail
  (with_reducible refine (shr_num nr _ HP1.out).mono ?_); rintro e w3 ⟨vne, rfl, ne, hb⟩
  replace nn := nn.later hb
  replace nr := nr.later hb
  replace kk := bC kk hb
  clear hb
  go_wp2_with fail
  (with_reducible refine (bits_num2 ne).mono ?_); rintro e w4 ⟨rfl, hb⟩
  replace nn := nn.later hb
  replace nr := nr.later hb
  replace ne := ne.later hb
  replace kk := bC kk hb
  clear hb
  clear ne
  go_wp2_with fail
  refine wp_forget (fun W => HB W w4.heap.size 25 #[.int .u64 eh, .int .u64 el] ∧ IsNum W vnn N ∧ IsNum W vnr R ∧ Below w.heap.size w W) ⟨HB.new _ _ _, nn.later (bA (Below.refl _ _) _), nr.later (bA (Below.refl _ _) _), bA kk _⟩ (fun W hst => ?_)
  clear nn nr kk
  obtain ⟨xt, nn, nr, kk⟩ := hst
  have l0 := xt.cell 0; have l1 := xt.cell 1; dsimp at l0 l1; clear xt
  refine wp_region_noPanic ?_
  refine wp_region_held_drew (S := fun w' => w'.cell? ⟨w4.heap.size, 0, none⟩ = some (.int .u64 eh) ∧ w'.cell? ⟨w4.heap.size, 1, none⟩ = some (.int .u64 el) ∧ True) (by kernel_rfl) ⟨cell_later (Below.refl _ _).drew l0, cell_later (Below.refl _ _).drew l1, trivial⟩ (fun hHeld => ?_)
  replace l0 := cell_later (Below.refl _ _).drew l0; replace l1 := cell_later (Below.refl _ _).drew l1
  replace kk := bC kk (Below.refl _ _).drew
  replace nn := nn.later (Below.refl _ _).drew
  replace nr := nr.later (Below.refl _ _).drew
  refine wpAnyH_take (i := 0) (v := ?vq1) rfl (by kernel_rfl) (by kernel_rfl) (by kernel_rfl) (fun _ _ _ h => h) (Or.inl ⟨by rfl, ?yq1⟩) hHeld ?rq1
  case yq1 => (intro wq hb; obtain ⟨lq0, lq1, _⟩ := hb; go_simp; try (with_reducible rfl))
  try simp only [List.getElem_toArray, List.getElem_cons_zero, List.getElem_cons_succ, Act.put, List.setIfInBounds_toArray, List.set_cons_zero, List.set_cons_succ]
  refine wpAnyH_take (i := 1) (v := ?vq2) rfl (by kernel_rfl) (by kernel_rfl) (by kernel_rfl) (fun _ _ _ h => h) (Or.inl ⟨by rfl, ?yq2⟩) hHeld ?rq2
  case yq2 => (intro wq hb; obtain ⟨lq0, lq1, _⟩ := hb; go_simp; try (with_reducible rfl))
  try simp only [List.getElem_toArray, List.getElem_cons_zero, List.getElem_cons_succ, Act.put, List.setIfInBounds_toArray, List.set_cons_zero, List.set_cons_succ]
  refine wpAnyH_take (i := 5) (v := ?vq3) rfl (by kernel_rfl) (by kernel_rfl) (by kernel_rfl) (fun _ _ _ h => h) (Or.inl ⟨by rfl, ?yq3⟩) hHeld ?rq3
  case yq3 => (intro wq hb; obtain ⟨lq0, lq1, _⟩ := hb; go_simp; try (with_reducible rfl))
  try simp only [List.getElem_toArray, List.getElem_cons_zero, List.getElem_cons_succ, Act.put, List.setIfInBounds_toArray, List.set_cons_zero, List.set_cons_succ]
  refine wpAnyH_take (i := 6) (v := ?vq4) rfl (by kernel_rfl) (by kernel_rfl) (by kernel_rfl) (fun _ _ _ h => h) (Or.inl ⟨by rfl, ?yq4⟩) hHeld ?rq4
  case yq4 => (intro wq hb; obtain ⟨lq0, lq1, _⟩ := hb; go_simp; try (with_reducible rfl))
  try simp only [List.getElem_toArray, List.getElem_cons_zero, List.getElem_cons_succ, Act.put, List.setIfInBounds_toArray, List.set_cons_zero, List.set_cons_succ]
  refine wpAnyH_take (i := 7) (v := ?vq5) rfl (by kernel_rfl) (by kernel_rfl) (by kernel_rfl) (fun _ _ _ h => h) (Or.inl ⟨by rfl, ?yq5⟩) hHeld ?rq5
  case yq5 => (intro wq hb; obtain ⟨lq0, lq1, _⟩ := hb; go_simp; try (with_reducible rfl))
  try simp only [List.getElem_toArray, List.getElem_cons_zero, List.getElem_cons_succ, Act.put, List.setIfInBounds_toArray, List.set_cons_zero, List.set_cons_succ]
  refine wpAnyH_take (i := 8) (v := ?vq6) rfl (by kernel_rfl) (by kernel_rfl) (by kernel_rfl) (fun _ _ _ h => h) (Or.inl ⟨by rfl, ?yq6⟩) hHeld ?rq6
  case yq6 => (intro wq hb; obtain ⟨lq0, lq1, _⟩ := hb; go_simp; try (with_reducible rfl))
  try simp only [List.getElem_toArray, List.getElem_cons_zero, List.getElem_cons_succ, Act.put, List.setIfInBounds_toArray, List.set_cons_zero, List.set_cons_succ]
  refine wpAnyH_take (i := 9) (v := ?vq7) rfl (by kernel_rfl) (by kernel_rfl) (by kernel_rfl) (fun _ _ _ h => h) (Or.inl ⟨by rfl, ?yq7⟩) hHeld ?rq7
  case yq7 => (intro wq hb; obtain ⟨lq0, lq1, _⟩ := hb; go_simp; try (with_reducible rfl))
  try simp only [List.getElem_toArray, List.getElem_cons_zero, List.getElem_cons_succ, Act.put, List.setIfInBounds_toArray, List.set_cons_zero, List.set_cons_succ]
  clear hHeld
  refine wpAnyH_ready (rs := [2]) (by kernel_rfl) (by simp) ?_
  refine AllReadyH.cons rfl (fun K hK => ?_) AllReadyH.nil
  go_simp
  (with_reducible refine (WF.out _).mono ?_); rintro e wz ⟨rfl, rfl⟩
  refine hK.out _ _ ⟨l0, l1, trivial⟩ (fun hHeld => ?_)
  clear hK K
  try simp only [List.getElem_toArray, List.getElem_cons_zero, List.getElem_cons_succ, Act.put, List.setIfInBounds_toArray, List.set_cons_zero, List.set_cons_succ]
  refine wpAnyH_take (i := 3) (v := ?vq8) rfl (by kernel_rfl) (by kernel_rfl) (by kernel_rfl) (fun _ _ _ h => h) (Or.inl ⟨by rfl, ?yq8⟩) hHeld ?rq8
  case yq8 => (intro wq hb; obtain ⟨lq0, lq1, _⟩ := hb; go_simp; try (with_reducible rfl))
  try simp only [List.getElem_toArray, List.getElem_cons_zero, List.getElem_cons_succ, Act.put, List.setIfInBounds_toArray, List.set_cons_zero, List.set_cons_succ]
  clear hHeld
  refine wpAnyH_ready (rs := [4]) (by kernel_rfl) (by simp) ?_
  refine AllReadyH.cons rfl (fun K hK => ?_) AllReadyH.nil
  go_simp
  (with_reducible refine (bit_num nn _ HI0.out HI1.out).mono ?_); rintro e y1 ⟨rfl, hb⟩
  replace l0 := cell_later hb l0; replace l1 := cell_later hb l1
  replace kk := bC kk hb
  replace nr := nr.later hb
  clear hb nn
  refine hK.out _ _ ⟨l0, l1, trivial⟩ (fun hHeld => ?_)
  clear hK K
  try simp only [List.getElem_toArray, List.getElem_cons_zero, List.getElem_cons_succ, Act.put, List.setIfInBounds_toArray, List.set_cons_zero, List.set_cons_succ]
  clear hHeld
  refine wpAnyH_ready (rs := [10]) (by kernel_rfl) (by simp) ?_
  refine AllReadyH.cons rfl (fun K hK => ?_) AllReadyH.nil
  go_simp
  (with_reducible refine (PF.out _).mono ?_); rintro e wz ⟨rfl, rfl⟩
  refine hK.out _ _ ⟨l0, l1, trivial⟩ (fun hHeld => ?_)
  clear hK K
  try simp only [List.getElem_toArray, List.getElem_cons_zero, List.getElem_cons_succ, Act.put, List.setIfInBounds_toArray, List.set_cons_zero, List.set_cons_succ]
  refine wpAnyH_take (i := 11) (v := ?vq9) rfl (by kernel_rfl) (by kernel_rfl) (by kernel_rfl) (fun _ _ _ h => h) (Or.inl ⟨by rfl, ?yq9⟩) hHeld ?rq9
  case yq9 => (intro wq hb; obtain ⟨lq0, lq1, _⟩ := hb; go_simp; try (with_reducible rfl))
  try simp only [List.getElem_toArray, List.getElem_cons_zero, List.getElem_cons_succ, Act.put, List.setIfInBounds_toArray, List.set_cons_zero, List.set_cons_succ]
  clear hHeld
  refine wpAnyH_ready (rs := [12]) (by kernel_rfl) (by simp) ?_
  refine AllReadyH.cons rfl (fun K hK => ?_) AllReadyH.nil
  go_simp
  (with_reducible refine (cut_num nr SR.out _ HP2.out).mono ?_); rintro e y2 ⟨vf, rfl, nf, hb⟩
  replace l0 := cell_later hb l0; replace l1 := cell_later hb l1
  replace kk := bC kk hb
  clear hb nr
  refine hK.out _ _ ⟨l0, l1, trivial⟩ (fun hHeld => ?_)
  clear hK K
  try simp only [List.getElem_toArray, List.getElem_cons_zero, List.getElem_cons_succ, Act.put, List.setIfInBounds_toArray, List.set_cons_zero, List.set_cons_succ]
  refine wpAnyH_take (i := 13) (v := ?vq10) rfl (by kernel_rfl) (by kernel_rfl) (by kernel_rfl) (fun _ _ _ h => h) (Or.inl ⟨by rfl, ?yq10⟩) hHeld ?rq10
  case yq10 => (intro wq hb; obtain ⟨lq0, lq1, _⟩ := hb; go_simp; try (with_reducible rfl))
  try simp only [List.getElem_toArray, List.getElem_cons_zero, List.getElem_cons_succ, Act.put, List.setIfInBounds_toArray, List.set_cons_zero, List.set_cons_succ]
  refine wpAnyH_take (i := 14) (v := ?vq11) rfl (by kernel_rfl) (by kernel_rfl) (by kernel_rfl) (fun _ _ _ h => h) (Or.inl ⟨by rfl, ?yq11⟩) hHeld ?rq11
  case yq11 => (intro wq hb; obtain ⟨lq0, lq1, _⟩ := hb; go_simp; try (with_reducible rfl))
  try simp only [List.getElem_toArray, List.getElem_cons_zero, List.getElem_cons_succ, Act.put, List.setIfInBounds_toArray, List.set_cons_zero, List.set_cons_succ]
  refine wpAnyH_take (i := 15) (v := ?vq12) rfl (by kernel_rfl) (by kernel_rfl) (by kernel_rfl) (fun _ _ _ h => h) (Or.inl ⟨by rfl, ?yq12⟩) hHeld ?rq12
  case yq12 => (intro wq hb; obtain ⟨lq0, lq1, _⟩ := hb; go_simp; try (with_reducible rfl))
  try simp only [List.getElem_toArray, List.getElem_cons_zero, List.getElem_cons_succ, Act.put, List.setIfInBounds_toArray, List.set_cons_zero, List.set_cons_succ]
  clear hHeld
  refine wpAnyH_done (by kernel_rfl) ?_ _
  refine NoPanic.normal ?_
  rw [eF] at nf
  go_wp2_with fail
  refine bodyPost_ret (v := .tuple #[.bool sg, .int .i64 ex, vf]) ?_ rfl ⟨vf, rfl, nf, kk⟩
  simp [results, Tryd.results75, go_sem]

theorem mod_mod_pow (x : Int) {a b : Nat} (h : a ≤ b) : x % 2 ^ b % 2 ^ a = x % 2 ^ a := Int.emod_emod_of_dvd x (by rw [pow_split2 h]; exact Int.dvd_mul_right ..)
theorem mod_bit (x : Int) (k : Nat) : x % 2 ^ (k + 1) / 2 ^ k % 2 = x / 2 ^ k % 2 := by
  have hp := two_pow_pos k
  rw [Int.pow_succ, Int.emod_def x (2 ^ k * 2), Int.mul_assoc, Int.sub_eq_add_neg, ← Int.mul_neg, Int.add_mul_ediv_left _ _ (by omega)]
  generalize x / 2 ^ k = y
  rw [← Int.mul_neg]
  generalize -(x / (2 ^ k * 2)) = z
  omega
theorem mod_lt_self {x : Int} (h : 0 ≤ x) (k : Nat) : 0 ≤ x % 2 ^ k ∧ x % 2 ^ k ≤ x ∧ x % 2 ^ k < 2 ^ k := by
  have hp := two_pow_pos k
  have e := Int.emod_add_mul_ediv x (2 ^ k)
  have : 0 ≤ 2 ^ k * (x / 2 ^ k) := Int.mul_nonneg (by omega) (Int.ediv_nonneg h (by omega))
  exact ⟨Int.emod_nonneg _ (by omega), by omega, Int.emod_lt_of_pos _ hp⟩
theorem exp_range {f B : Int} (h0 : 0 ≤ f) (h : f < 4) (hB : 0 ≤ B) : 0 ≤ expF f B ∧ expF f B < 2 ^ (fW f - fP f) ∧ expF f B ≤ 2 * fE f + 1 ∧ expF f B ≤ 32767 := by
  obtain ⟨p0, p1, p2, p3, p4, p5, p6, _⟩ := f_nums h0 h
  obtain ⟨r0, r1, r2⟩ := mod_lt_self hB (fW f - 1)
  have hp := two_pow_pos (fP f - 1)
  have e : (2 : Int) ^ (fW f - 1) = 2 ^ (fP f - 1) * 2 ^ (fW f - fP f) := by rw [← Int.pow_add, show fP f - 1 + (fW f - fP f) = fW f - 1 by omega]
  have x0 : 0 ≤ B % 2 ^ (fW f - 1) / 2 ^ (fP f - 1) := Int.ediv_nonneg r0 (by omega)
  have x1 : B % 2 ^ (fW f - 1) / 2 ^ (fP f - 1) < 2 ^ (fW f - fP f) := Int.ediv_lt_of_lt_mul hp (by rw [Int.mul_comm, ← e]; exact r2)
  unfold expF; rw [if_pos h]
  omega
/-- The document's Split, of a format. -/
theorem ref7_split (f b : Int) (f0 : 0 ≤ f) (h4 : f < 4) (w : World) : Calls Tryd.prog 75 #[.int .u8 f, .agg #[.int .u64 (hiOf (b)), .int .u64 (loOf (b))]] w (RetSplit w f (b % full)) := by
  obtain ⟨p0, p1, p2, p3, p4, p5, p6, p7, p8⟩ := f_nums f0 h4
  obtain ⟨B0, B1⟩ := mod_f b
  have CT := Lib.hid (ref7_cut f b f0 (by omega))
  have SN := small_cut f b
  obtain ⟨c0, c1, c2⟩ := mod_lt_self B0 (fW f - 1)
  have eR : cutF f (b % full) % 2 ^ (fW f - 1) = b % full % 2 ^ (fW f - 1) := mod_mod_pow _ (by omega)
  have SR := Lib.hid (show Small (b % full % 2 ^ (fW f - 1)) from small_full (by omega))
  obtain ⟨x0, x1, x2, x3⟩ := exp_range (B := b % full) f0 h4 B0
  have lx : loOf (expF f (b % full)) = expF f (b % full) := by unfold loOf; omega
  have eS : bitN (cutF f (b % full)) ((fW f - 1 : Nat) : Int) = negF f (b % full) := by
    rw [bitN_at]
    unfold negF cutF
    rw [show decide (f < 4) = true by simp [h4], Bool.and_true]
    have t := mod_bit (b % full) (fW f - 1)
    rw [show fW f - 1 + 1 = fW f by omega] at t
    rw [t]
  have eF : b % full % 2 ^ (fW f - 1) % 2 ^ (fP f - 1) = fracF f (b % full) := by
    rw [mod_mod_pow _ (by omega)]; unfold fracF; rw [if_pos h4]
  have eE : b % full % 2 ^ (fW f - 1) / 2 ^ (fP f - 1) = expF f (b % full) := by unfold expF; rw [if_pos h4]
  exact ref7_split_core f _ _ _ _ 0 0 _ _ _ (expF f (b % full)) _ _ _ _ (Lib.hid (ref7_width f f0 (by omega))) (Lib.hid (ref7_prec f f0 (by omega))) CT (fW f - 1) (fP f - 1) (by rw [IntWalk.i64_in _ (by omega)]; omega) (by rw [IntWalk.i64_in _ (by omega)]; omega) (by simp; omega)
    (Lib.hid SN) SR (Lib.hid (by omega)) (Lib.hid (by omega)) (Lib.hid (by omega)) (Lib.hid (by omega)) (Lib.hid (by omega)) eR eE rfl rfl (by rw [lx]; exact IntWalk.i64_in _ (by omega)) eS eF w

theorem ref7_make_no (f e : Int) (neg : Bool) (v : Value) (f0 : 0 ≤ f) (f1 : f ≤ 255) (h4 : ¬ f < 4) (w : World) : Calls Tryd.prog 35 #[.int .u8 f, .bool neg, .int .i64 e, v] w fun e w' => e = .returned (.agg #[.int .u64 (0), .int .u64 (0)]) ∧ Below w.heap.size w w' := by
  have WF := Lib.hid (fun w => ref7_width f f0 f1 w)
  rw [show fW f = 0 from fW_no h4] at WF
  clear f0 f1 h4
  go_enter Tryd.func35, Tryd.ntmps35
  go_wp2_with fail
  (with_reducible refine (WF.out _).mono ?_); rintro e wz ⟨rfl, rfl⟩
  go_wp2_with fail
  exact bodyPost_ret (v := .agg #[.int .u64 (0), .int .u64 (0)]) (by simp [results, Tryd.results35, go_sem]) rfl ⟨rfl, bA (Below.refl _ _) _⟩

set_option maxHeartbeats 4000000 in
theorem ref7_make_lt_pos (f ex wi pi m e1_ e2_ fr s1 Z : Int) (kd kp kw : Nat) (v : Value) (d1 : decide (ex < 0) = true)
    (WF : Hid (∀ w, Calls Tryd.prog 56 #[.int .u8 f] w fun e w' => e = .returned (.int .i64 wi) ∧ w = w')) (PF : Hid (∀ w, Calls Tryd.prog 32 #[.int .u8 f] w fun e w' => e = .returned (.int .i64 pi) ∧ w = w')) (g0 : (wi == 0) = false)
    (OF : Hid (∀ w, Calls Tryd.prog 61 #[.int .u64 0] w (RetNum w 0)))
    (hd : IntKind.i64.wrap (wi - pi) = (kd : Int)) (hp : IntKind.i64.wrap (pi - 1) = (kp : Int)) (hw : IntKind.i64.wrap (wi - 1) = (kw : Int)) (H1 : Hid (kd < 3200000)) (H2 : Hid (kp < 3200000)) (H3 : Hid (kw < 3200000))
    (S1 : Hid (Small 0)) (S2 : Hid (Small e1_)) (S3 : Hid (Small m)) (S4 : Hid (Small e2_)) (S5 : Hid (Small fr)) (S6 : Hid (Small s1)) (S7 : Hid (Small (2 ^ kw)))
    (E1 : 0 % 2 ^ kd = e1_) (E2 : e1_ * 2 ^ kp = e2_) (E3 : m % 2 ^ kp = fr) (E4 : e2_ + fr = Z)  (w : World) (nm : IsNum w v m) :
    Calls Tryd.prog 35 #[.int .u8 f, .bool false, .int .i64 ex, v] w fun e w' => e = .returned (.agg #[.int .u64 (hiOf (Z)), .int .u64 (loOf (Z))]) ∧ Below w.heap.size w w' := by
  go_enter Tryd.func35, Tryd.ntmps35
  go_wp2_with fail
  (with_reducible refine (WF.out _).mono ?_); rintro e wz ⟨rfl, rfl⟩
  go_wp2_with fail
  (with_reducible refine (OF.out _).mono ?_); rintro e w1 ⟨vn1, rfl, n1, hb⟩
  have xr : HB w1 (w.heap.size) 25 #[.int .u64 0, .int .u64 0] := (HB.newAt (by simp) _ _).later hb
  replace nm := (nm.later ((bA (Below.refl _ _) _))).later hb
  have kk := bC (bA (Below.refl _ _) _) hb
  clear hb
  go_wp2_with fail
  (with_reducible refine (WF.out _).mono ?_); rintro e wz ⟨rfl, rfl⟩
  go_wp2_with fail
  (with_reducible refine (PF.out _).mono ?_); rintro e wz ⟨rfl, rfl⟩
  go_wp2_with fail
  (with_reducible refine (cut_num n1 S1.out _ H1.out).mono ?_); rintro e w2 ⟨vn2, rfl, n2, hb⟩
  replace xr := xr.later hb
  replace nm := nm.later hb
  replace n1 := n1.later hb
  replace kk := bC kk hb
  clear hb
  clear n1
  rw [E1] at n2
  go_wp2_with fail
  (with_reducible refine (PF.out _).mono ?_); rintro e wz ⟨rfl, rfl⟩
  go_wp2_with fail
  (with_reducible refine (shl_num n2 S2.out _ H2.out).mono ?_); rintro e w3 ⟨vn3, rfl, n3, hb⟩
  replace xr := xr.later hb
  replace nm := nm.later hb
  replace n2 := n2.later hb
  replace kk := bC kk hb
  clear hb
  clear n2
  rw [E2] at n3
  go_wp2_with fail
  (with_reducible refine (PF.out _).mono ?_); rintro e wz ⟨rfl, rfl⟩
  go_wp2_with fail
  (with_reducible refine (cut_num nm S3.out _ H2.out).mono ?_); rintro e w4 ⟨vn4, rfl, n4, hb⟩
  replace xr := xr.later hb
  replace nm := nm.later hb
  replace n3 := n3.later hb
  replace kk := bC kk hb
  clear hb
  clear nm
  rw [E3] at n4
  go_wp2_with fail
  (with_reducible refine (add_num n3 n4 S4.out S5.out).mono ?_); rintro e w5 ⟨vn5, rfl, n5, hb⟩
  replace xr := xr.later hb
  replace n3 := n3.later hb
  replace n4 := n4.later hb
  replace kk := bC kk hb
  clear hb
  clear n3 n4
  rw [E4] at n5
  go_wp2_with fail
  (with_reducible refine (bits_num2 n5).mono ?_); rintro e w6 ⟨rfl, hb⟩
  replace xr := xr.later hb
  replace n5 := n5.later hb
  replace kk := bC kk hb
  clear hb
  clear n5
  have KEY := Lib.hid (show HB ((w6.setCell ⟨w.heap.size, 0, none⟩ (.int .u64 (hiOf Z))).setCell ⟨w.heap.size, 1, none⟩ (.int .u64 (loOf Z))) w.heap.size 25 #[.int .u64 (hiOf Z), .int .u64 (loOf Z)] ∧ Below w.heap.size w ((w6.setCell ⟨w.heap.size, 0, none⟩ (.int .u64 (hiOf Z))).setCell ⟨w.heap.size, 1, none⟩ (.int .u64 (loOf Z))) from
    ⟨(xr.set 0 _).set 1 _, (kk.setCell (p := ⟨w.heap.size, 0, none⟩) (Nat.le_refl _) _).setCell (p := ⟨w.heap.size, 1, none⟩) (Nat.le_refl _) _⟩)
  have q0 := xr.cell 0; have q1 := xr.cell 1; have g0 := xr.frozen 0; have g1 := xr.frozen 1; have hl := xr.lt; dsimp at q0 q1
  clear xr kk
  go_wp2_with fail
  obtain ⟨hE, kb⟩ := KEY.out
  have e0 := hE.cell 0; have e1 := hE.cell 1
  dsimp at e0 e1
  refine bodyPost_ret (v := .agg #[.int .u64 (hiOf (Z)), .int .u64 (loOf (Z))]) ?_ rfl ⟨rfl, kb⟩
  clear kb hE q0 q1 g0 g1
  simp [results, Tryd.results35, go_sem, e0, e1]

set_option maxHeartbeats 4000000 in
theorem ref7_make_lt_neg (f ex wi pi m e1_ e2_ fr s1 Z : Int) (kd kp kw : Nat) (v : Value) (d1 : decide (ex < 0) = true)
    (WF : Hid (∀ w, Calls Tryd.prog 56 #[.int .u8 f] w fun e w' => e = .returned (.int .i64 wi) ∧ w = w')) (PF : Hid (∀ w, Calls Tryd.prog 32 #[.int .u8 f] w fun e w' => e = .returned (.int .i64 pi) ∧ w = w')) (g0 : (wi == 0) = false)
    (OF : Hid (∀ w, Calls Tryd.prog 61 #[.int .u64 0] w (RetNum w 0)))
    (hd : IntKind.i64.wrap (wi - pi) = (kd : Int)) (hp : IntKind.i64.wrap (pi - 1) = (kp : Int)) (hw : IntKind.i64.wrap (wi - 1) = (kw : Int)) (H1 : Hid (kd < 3200000)) (H2 : Hid (kp < 3200000)) (H3 : Hid (kw < 3200000))
    (S1 : Hid (Small 0)) (S2 : Hid (Small e1_)) (S3 : Hid (Small m)) (S4 : Hid (Small e2_)) (S5 : Hid (Small fr)) (S6 : Hid (Small s1)) (S7 : Hid (Small (2 ^ kw)))
    (E1 : 0 % 2 ^ kd = e1_) (E2 : e1_ * 2 ^ kp = e2_) (E3 : m % 2 ^ kp = fr) (E4 : e2_ + fr = s1) (E5 : s1 + 2 ^ kw = Z) (w : World) (nm : IsNum w v m) :
    Calls Tryd.prog 35 #[.int .u8 f, .bool true, .int .i64 ex, v] w fun e w' => e = .returned (.agg #[.int .u64 (hiOf (Z)), .int .u64 (loOf (Z))]) ∧ Below w.heap.size w w' := by
  go_enter Tryd.func35, Tryd.ntmps35
  go_wp2_with fail
  (with_reducible refine (WF.out _).mono ?_); rintro e wz ⟨rfl, rfl⟩
  go_wp2_with fail
  (with_reducible refine (OF.out _).mono ?_); rintro e w1 ⟨vn1, rfl, n1, hb⟩
  have xr : HB w1 (w.heap.size) 25 #[.int .u64 0, .int .u64 0] := (HB.newAt (by simp) _ _).later hb
  replace nm := (nm.later ((bA (Below.refl _ _) _))).later hb
  have kk := bC (bA (Below.refl _ _) _) hb
  clear hb
  go_wp2_with fail
  (with_reducible refine (WF.out _).mono ?_); rintro e wz ⟨rfl, rfl⟩
  go_wp2_with fail
  (with_reducible refine (PF.out _).mono ?_); rintro e wz ⟨rfl, rfl⟩
  go_wp2_with fail
  (with_reducible refine (cut_num n1 S1.out _ H1.out).mono ?_); rintro e w2 ⟨vn2, rfl, n2, hb⟩
  replace xr := xr.later hb
  replace nm := nm.later hb
  replace n1 := n1.later hb
  replace kk := bC kk hb
  clear hb
  clear n1
  rw [E1] at n2
  go_wp2_with fail
  (with_reducible refine (PF.out _).mono ?_); rintro e wz ⟨rfl, rfl⟩
  go_wp2_with fail
  (with_reducible refine (shl_num n2 S2.out _ H2.out).mono ?_); rintro e w3 ⟨vn3, rfl, n3, hb⟩
  replace xr := xr.later hb
  replace nm := nm.later hb
  replace n2 := n2.later hb
  replace kk := bC kk hb
  clear hb
  clear n2
  rw [E2] at n3
  go_wp2_with fail
  (with_reducible refine (PF.out _).mono ?_); rintro e wz ⟨rfl, rfl⟩
  go_wp2_with fail
  (with_reducible refine (cut_num nm S3.out _ H2.out).mono ?_); rintro e w4 ⟨vn4, rfl, n4, hb⟩
  replace xr := xr.later hb
  replace nm := nm.later hb
  replace n3 := n3.later hb
  replace kk := bC kk hb
  clear hb
  clear nm
  rw [E3] at n4
  go_wp2_with fail
  (with_reducible refine (add_num n3 n4 S4.out S5.out).mono ?_); rintro e w5 ⟨vn5, rfl, n5, hb⟩
  replace xr := xr.later hb
  replace n3 := n3.later hb
  replace n4 := n4.later hb
  replace kk := bC kk hb
  clear hb
  clear n3 n4
  rw [E4] at n5
  go_wp2_with fail
  (with_reducible refine (WF.out _).mono ?_); rintro e wz ⟨rfl, rfl⟩
  go_wp2_with fail
  (with_reducible refine (fullN kw H3.out _).mono ?_); rintro e w6 ⟨vn6, rfl, n6, hb⟩
  replace xr := xr.later hb
  replace n5 := n5.later hb
  replace kk := bC kk hb
  clear hb
  go_wp2_with fail
  (with_reducible refine (add_num n5 n6 S6.out S7.out).mono ?_); rintro e w7 ⟨vn7, rfl, n7, hb⟩
  replace xr := xr.later hb
  replace n5 := n5.later hb
  replace n6 := n6.later hb
  replace kk := bC kk hb
  clear hb
  clear n5 n6
  rw [E5] at n7
  go_wp2_with fail
  (with_reducible refine (bits_num2 n7).mono ?_); rintro e w8 ⟨rfl, hb⟩
  replace xr := xr.later hb
  replace n7 := n7.later hb
  replace kk := bC kk hb
  clear hb
  clear n7
  have KEY := Lib.hid (show HB ((w8.setCell ⟨w.heap.size, 0, none⟩ (.int .u64 (hiOf Z))).setCell ⟨w.heap.size, 1, none⟩ (.int .u64 (loOf Z))) w.heap.size 25 #[.int .u64 (hiOf Z), .int .u64 (loOf Z)] ∧ Below w.heap.size w ((w8.setCell ⟨w.heap.size, 0, none⟩ (.int .u64 (hiOf Z))).setCell ⟨w.heap.size, 1, none⟩ (.int .u64 (loOf Z))) from
    ⟨(xr.set 0 _).set 1 _, (kk.setCell (p := ⟨w.heap.size, 0, none⟩) (Nat.le_refl _) _).setCell (p := ⟨w.heap.size, 1, none⟩) (Nat.le_refl _) _⟩)
  have q0 := xr.cell 0; have q1 := xr.cell 1; have g0 := xr.frozen 0; have g1 := xr.frozen 1; have hl := xr.lt; dsimp at q0 q1
  clear xr kk
  go_wp2_with fail
  obtain ⟨hE, kb⟩ := KEY.out
  have e0 := hE.cell 0; have e1 := hE.cell 1
  dsimp at e0 e1
  refine bodyPost_ret (v := .agg #[.int .u64 (hiOf (Z)), .int .u64 (loOf (Z))]) ?_ rfl ⟨rfl, kb⟩
  clear kb hE q0 q1 g0 g1
  simp [results, Tryd.results35, go_sem, e0, e1]

set_option maxHeartbeats 4000000 in
theorem ref7_make_gt_pos (f ex wi pi m e1_ e2_ fr s1 Z : Int) (kd kp kw : Nat) (v : Value) (d1 : decide (ex < 0) = false) (d2 : decide (1048576 < ex) = true)
    (WF : Hid (∀ w, Calls Tryd.prog 56 #[.int .u8 f] w fun e w' => e = .returned (.int .i64 wi) ∧ w = w')) (PF : Hid (∀ w, Calls Tryd.prog 32 #[.int .u8 f] w fun e w' => e = .returned (.int .i64 pi) ∧ w = w')) (g0 : (wi == 0) = false)
    (OF : Hid (∀ w, Calls Tryd.prog 61 #[.int .u64 0] w (RetNum w 0)))
    (hd : IntKind.i64.wrap (wi - pi) = (kd : Int)) (hp : IntKind.i64.wrap (pi - 1) = (kp : Int)) (hw : IntKind.i64.wrap (wi - 1) = (kw : Int)) (H1 : Hid (kd < 3200000)) (H2 : Hid (kp < 3200000)) (H3 : Hid (kw < 3200000))
    (S1 : Hid (Small 0)) (S2 : Hid (Small e1_)) (S3 : Hid (Small m)) (S4 : Hid (Small e2_)) (S5 : Hid (Small fr)) (S6 : Hid (Small s1)) (S7 : Hid (Small (2 ^ kw)))
    (E1 : 0 % 2 ^ kd = e1_) (E2 : e1_ * 2 ^ kp = e2_) (E3 : m % 2 ^ kp = fr) (E4 : e2_ + fr = Z)  (w : World) (nm : IsNum w v m) :
    Calls Tryd.prog 35 #[.int .u8 f, .bool false, .int .i64 ex, v] w fun e w' => e = .returned (.agg #[.int .u64 (hiOf (Z)), .int .u64 (loOf (Z))]) ∧ Below w.heap.size w w' := by
  go_enter Tryd.func35, Tryd.ntmps35
  go_wp2_with fail
  (with_reducible refine (WF.out _).mono ?_); rintro e wz ⟨rfl, rfl⟩
  go_wp2_with fail
  (with_reducible refine (OF.out _).mono ?_); rintro e w1 ⟨vn1, rfl, n1, hb⟩
  have xr : HB w1 (w.heap.size) 25 #[.int .u64 0, .int .u64 0] := (HB.newAt (by simp) _ _).later hb
  replace nm := (nm.later ((bA (Below.refl _ _) _))).later hb
  have kk := bC (bA (Below.refl _ _) _) hb
  clear hb
  go_wp2_with fail
  (with_reducible refine (WF.out _).mono ?_); rintro e wz ⟨rfl, rfl⟩
  go_wp2_with fail
  (with_reducible refine (PF.out _).mono ?_); rintro e wz ⟨rfl, rfl⟩
  go_wp2_with fail
  (with_reducible refine (cut_num n1 S1.out _ H1.out).mono ?_); rintro e w2 ⟨vn2, rfl, n2, hb⟩
  replace xr := xr.later hb
  replace nm := nm.later hb
  replace n1 := n1.later hb
  replace kk := bC kk hb
  clear hb
  clear n1
  rw [E1] at n2
  go_wp2_with fail
  (with_reducible refine (PF.out _).mono ?_); rintro e wz ⟨rfl, rfl⟩
  go_wp2_with fail
  (with_reducible refine (shl_num n2 S2.out _ H2.out).mono ?_); rintro e w3 ⟨vn3, rfl, n3, hb⟩
  replace xr := xr.later hb
  replace nm := nm.later hb
  replace n2 := n2.later hb
  replace kk := bC kk hb
  clear hb
  clear n2
  rw [E2] at n3
  go_wp2_with fail
  (with_reducible refine (PF.out _).mono ?_); rintro e wz ⟨rfl, rfl⟩
  go_wp2_with fail
  (with_reducible refine (cut_num nm S3.out _ H2.out).mono ?_); rintro e w4 ⟨vn4, rfl, n4, hb⟩
  replace xr := xr.later hb
  replace nm := nm.later hb
  replace n3 := n3.later hb
  replace kk := bC kk hb
  clear hb
  clear nm
  rw [E3] at n4
  go_wp2_with fail
  (with_reducible refine (add_num n3 n4 S4.out S5.out).mono ?_); rintro e w5 ⟨vn5, rfl, n5, hb⟩
  replace xr := xr.later hb
  replace n3 := n3.later hb
  replace n4 := n4.later hb
  replace kk := bC kk hb
  clear hb
  clear n3 n4
  rw [E4] at n5
  go_wp2_with fail
  (with_reducible refine (bits_num2 n5).mono ?_); rintro e w6 ⟨rfl, hb⟩
  replace xr := xr.later hb
  replace n5 := n5.later hb
  replace kk := bC kk hb
  clear hb
  clear n5
  have KEY := Lib.hid (show HB ((w6.setCell ⟨w.heap.size, 0, none⟩ (.int .u64 (hiOf Z))).setCell ⟨w.heap.size, 1, none⟩ (.int .u64 (loOf Z))) w.heap.size 25 #[.int .u64 (hiOf Z), .int .u64 (loOf Z)] ∧ Below w.heap.size w ((w6.setCell ⟨w.heap.size, 0, none⟩ (.int .u64 (hiOf Z))).setCell ⟨w.heap.size, 1, none⟩ (.int .u64 (loOf Z))) from
    ⟨(xr.set 0 _).set 1 _, (kk.setCell (p := ⟨w.heap.size, 0, none⟩) (Nat.le_refl _) _).setCell (p := ⟨w.heap.size, 1, none⟩) (Nat.le_refl _) _⟩)
  have q0 := xr.cell 0; have q1 := xr.cell 1; have g0 := xr.frozen 0; have g1 := xr.frozen 1; have hl := xr.lt; dsimp at q0 q1
  clear xr kk
  go_wp2_with fail
  obtain ⟨hE, kb⟩ := KEY.out
  have e0 := hE.cell 0; have e1 := hE.cell 1
  dsimp at e0 e1
  refine bodyPost_ret (v := .agg #[.int .u64 (hiOf (Z)), .int .u64 (loOf (Z))]) ?_ rfl ⟨rfl, kb⟩
  clear kb hE q0 q1 g0 g1
  simp [results, Tryd.results35, go_sem, e0, e1]

set_option maxHeartbeats 4000000 in
theorem ref7_make_gt_neg (f ex wi pi m e1_ e2_ fr s1 Z : Int) (kd kp kw : Nat) (v : Value) (d1 : decide (ex < 0) = false) (d2 : decide (1048576 < ex) = true)
    (WF : Hid (∀ w, Calls Tryd.prog 56 #[.int .u8 f] w fun e w' => e = .returned (.int .i64 wi) ∧ w = w')) (PF : Hid (∀ w, Calls Tryd.prog 32 #[.int .u8 f] w fun e w' => e = .returned (.int .i64 pi) ∧ w = w')) (g0 : (wi == 0) = false)
    (OF : Hid (∀ w, Calls Tryd.prog 61 #[.int .u64 0] w (RetNum w 0)))
    (hd : IntKind.i64.wrap (wi - pi) = (kd : Int)) (hp : IntKind.i64.wrap (pi - 1) = (kp : Int)) (hw : IntKind.i64.wrap (wi - 1) = (kw : Int)) (H1 : Hid (kd < 3200000)) (H2 : Hid (kp < 3200000)) (H3 : Hid (kw < 3200000))
    (S1 : Hid (Small 0)) (S2 : Hid (Small e1_)) (S3 : Hid (Small m)) (S4 : Hid (Small e2_)) (S5 : Hid (Small fr)) (S6 : Hid (Small s1)) (S7 : Hid (Small (2 ^ kw)))
    (E1 : 0 % 2 ^ kd = e1_) (E2 : e1_ * 2 ^ kp = e2_) (E3 : m % 2 ^ kp = fr) (E4 : e2_ + fr = s1) (E5 : s1 + 2 ^ kw = Z) (w : World) (nm : IsNum w v m) :
    Calls Tryd.prog 35 #[.int .u8 f, .bool true, .int .i64 ex, v] w fun e w' => e = .returned (.agg #[.int .u64 (hiOf (Z)), .int .u64 (loOf (Z))]) ∧ Below w.heap.size w w' := by
  go_enter Tryd.func35, Tryd.ntmps35
  go_wp2_with fail
  (with_reducible refine (WF.out _).mono ?_); rintro e wz ⟨rfl, rfl⟩
  go_wp2_with fail
  (with_reducible refine (OF.out _).mono ?_); rintro e w1 ⟨vn1, rfl, n1, hb⟩
  have xr : HB w1 (w.heap.size) 25 #[.int .u64 0, .int .u64 0] := (HB.newAt (by simp) _ _).later hb
  replace nm := (nm.later ((bA (Below.refl _ _) _))).later hb
  have kk := bC (bA (Below.refl _ _) _) hb
  clear hb
  go_wp2_with fail
  (with_reducible refine (WF.out _).mono ?_); rintro e wz ⟨rfl, rfl⟩
  go_wp2_with fail
  (with_reducible refine (PF.out _).mono ?_); rintro e wz ⟨rfl, rfl⟩
  go_wp2_with fail
  (with_reducible refine (cut_num n1 S1.out _ H1.out).mono ?_); rintro e w2 ⟨vn2, rfl, n2, hb⟩
  replace xr := xr.later hb
  replace nm := nm.later hb
  replace n1 := n1.later hb
  replace kk := bC kk hb
  clear hb
  clear n1
  rw [E1] at n2
  go_wp2_with fail
  (with_reducible refine (PF.out _).mono ?_); rintro e wz ⟨rfl, rfl⟩
  go_wp2_with fail
  (with_reducible refine (shl_num n2 S2.out _ H2.out).mono ?_); rintro e w3 ⟨vn3, rfl, n3, hb⟩
  replace xr := xr.later hb
  replace nm := nm.later hb
  replace n2 := n2.later hb
  replace kk := bC kk hb
  clear hb
  clear n2
  rw [E2] at n3
  go_wp2_with fail
  (with_reducible refine (PF.out _).mono ?_); rintro e wz ⟨rfl, rfl⟩
  go_wp2_with fail
  (with_reducible refine (cut_num nm S3.out _ H2.out).mono ?_); rintro e w4 ⟨vn4, rfl, n4, hb⟩
  replace xr := xr.later hb
  replace nm := nm.later hb
  replace n3 := n3.later hb
  replace kk := bC kk hb
  clear hb
  clear nm
  rw [E3] at n4
  go_wp2_with fail
  (with_reducible refine (add_num n3 n4 S4.out S5.out).mono ?_); rintro e w5 ⟨vn5, rfl, n5, hb⟩
  replace xr := xr.later hb
  replace n3 := n3.later hb
  replace n4 := n4.later hb
  replace kk := bC kk hb
  clear hb
  clear n3 n4
  rw [E4] at n5
  go_wp2_with fail
  (with_reducible refine (WF.out _).mono ?_); rintro e wz ⟨rfl, rfl⟩
  go_wp2_with fail
  (with_reducible refine (fullN kw H3.out _).mono ?_); rintro e w6 ⟨vn6, rfl, n6, hb⟩
  replace xr := xr.later hb
  replace n5 := n5.later hb
  replace kk := bC kk hb
  clear hb
  go_wp2_with fail
  (with_reducible refine (add_num n5 n6 S6.out S7.out).mono ?_); rintro e w7 ⟨vn7, rfl, n7, hb⟩
  replace xr := xr.later hb
  replace n5 := n5.later hb
  replace n6 := n6.later hb
  replace kk := bC kk hb
  clear hb
  clear n5 n6
  rw [E5] at n7
  go_wp2_with fail
  (with_reducible refine (bits_num2 n7).mono ?_); rintro e w8 ⟨rfl, hb⟩
  replace xr := xr.later hb
  replace n7 := n7.later hb
  replace kk := bC kk hb
  clear hb
  clear n7
  have KEY := Lib.hid (show HB ((w8.setCell ⟨w.heap.size, 0, none⟩ (.int .u64 (hiOf Z))).setCell ⟨w.heap.size, 1, none⟩ (.int .u64 (loOf Z))) w.heap.size 25 #[.int .u64 (hiOf Z), .int .u64 (loOf Z)] ∧ Below w.heap.size w ((w8.setCell ⟨w.heap.size, 0, none⟩ (.int .u64 (hiOf Z))).setCell ⟨w.heap.size, 1, none⟩ (.int .u64 (loOf Z))) from
    ⟨(xr.set 0 _).set 1 _, (kk.setCell (p := ⟨w.heap.size, 0, none⟩) (Nat.le_refl _) _).setCell (p := ⟨w.heap.size, 1, none⟩) (Nat.le_refl _) _⟩)
  have q0 := xr.cell 0; have q1 := xr.cell 1; have g0 := xr.frozen 0; have g1 := xr.frozen 1; have hl := xr.lt; dsimp at q0 q1
  clear xr kk
  go_wp2_with fail
  obtain ⟨hE, kb⟩ := KEY.out
  have e0 := hE.cell 0; have e1 := hE.cell 1
  dsimp at e0 e1
  refine bodyPost_ret (v := .agg #[.int .u64 (hiOf (Z)), .int .u64 (loOf (Z))]) ?_ rfl ⟨rfl, kb⟩
  clear kb hE q0 q1 g0 g1
  simp [results, Tryd.results35, go_sem, e0, e1]

set_option maxHeartbeats 4000000 in
theorem ref7_make_in_pos (f ex wi pi m e1_ e2_ fr s1 Z : Int) (kd kp kw : Nat) (v : Value) (d1 : decide (ex < 0) = false) (d2 : decide (1048576 < ex) = false) (hcv : IntKind.u64.wrap ex = ex)
    (WF : Hid (∀ w, Calls Tryd.prog 56 #[.int .u8 f] w fun e w' => e = .returned (.int .i64 wi) ∧ w = w')) (PF : Hid (∀ w, Calls Tryd.prog 32 #[.int .u8 f] w fun e w' => e = .returned (.int .i64 pi) ∧ w = w')) (g0 : (wi == 0) = false)
    (OF : Hid (∀ w, Calls Tryd.prog 61 #[.int .u64 ex] w (RetNum w ex)))
    (hd : IntKind.i64.wrap (wi - pi) = (kd : Int)) (hp : IntKind.i64.wrap (pi - 1) = (kp : Int)) (hw : IntKind.i64.wrap (wi - 1) = (kw : Int)) (H1 : Hid (kd < 3200000)) (H2 : Hid (kp < 3200000)) (H3 : Hid (kw < 3200000))
    (S1 : Hid (Small ex)) (S2 : Hid (Small e1_)) (S3 : Hid (Small m)) (S4 : Hid (Small e2_)) (S5 : Hid (Small fr)) (S6 : Hid (Small s1)) (S7 : Hid (Small (2 ^ kw)))
    (E1 : ex % 2 ^ kd = e1_) (E2 : e1_ * 2 ^ kp = e2_) (E3 : m % 2 ^ kp = fr) (E4 : e2_ + fr = Z)  (w : World) (nm : IsNum w v m) :
    Calls Tryd.prog 35 #[.int .u8 f, .bool false, .int .i64 ex, v] w fun e w' => e = .returned (.agg #[.int .u64 (hiOf (Z)), .int .u64 (loOf (Z))]) ∧ Below w.heap.size w w' := by
  go_enter Tryd.func35, Tryd.ntmps35
  go_wp2_with fail
  (with_reducible refine (WF.out _).mono ?_); rintro e wz ⟨rfl, rfl⟩
  go_wp2_with fail
  (with_reducible refine (OF.out _).mono ?_); rintro e w1 ⟨vn1, rfl, n1, hb⟩
  have xr : HB w1 (w.heap.size) 25 #[.int .u64 0, .int .u64 0] := (HB.newAt (by simp) _ _).later hb
  replace nm := (nm.later ((bA (Below.refl _ _) _))).later hb
  have kk := bC (bA (Below.refl _ _) _) hb
  clear hb
  go_wp2_with fail
  (with_reducible refine (WF.out _).mono ?_); rintro e wz ⟨rfl, rfl⟩
  go_wp2_with fail
  (with_reducible refine (PF.out _).mono ?_); rintro e wz ⟨rfl, rfl⟩
  go_wp2_with fail
  (with_reducible refine (cut_num n1 S1.out _ H1.out).mono ?_); rintro e w2 ⟨vn2, rfl, n2, hb⟩
  replace xr := xr.later hb
  replace nm := nm.later hb
  replace n1 := n1.later hb
  replace kk := bC kk hb
  clear hb
  clear n1
  rw [E1] at n2
  go_wp2_with fail
  (with_reducible refine (PF.out _).mono ?_); rintro e wz ⟨rfl, rfl⟩
  go_wp2_with fail
  (with_reducible refine (shl_num n2 S2.out _ H2.out).mono ?_); rintro e w3 ⟨vn3, rfl, n3, hb⟩
  replace xr := xr.later hb
  replace nm := nm.later hb
  replace n2 := n2.later hb
  replace kk := bC kk hb
  clear hb
  clear n2
  rw [E2] at n3
  go_wp2_with fail
  (with_reducible refine (PF.out _).mono ?_); rintro e wz ⟨rfl, rfl⟩
  go_wp2_with fail
  (with_reducible refine (cut_num nm S3.out _ H2.out).mono ?_); rintro e w4 ⟨vn4, rfl, n4, hb⟩
  replace xr := xr.later hb
  replace nm := nm.later hb
  replace n3 := n3.later hb
  replace kk := bC kk hb
  clear hb
  clear nm
  rw [E3] at n4
  go_wp2_with fail
  (with_reducible refine (add_num n3 n4 S4.out S5.out).mono ?_); rintro e w5 ⟨vn5, rfl, n5, hb⟩
  replace xr := xr.later hb
  replace n3 := n3.later hb
  replace n4 := n4.later hb
  replace kk := bC kk hb
  clear hb
  clear n3 n4
  rw [E4] at n5
  go_wp2_with fail
  (with_reducible refine (bits_num2 n5).mono ?_); rintro e w6 ⟨rfl, hb⟩
  replace xr := xr.later hb
  replace n5 := n5.later hb
  replace kk := bC kk hb
  clear hb
  clear n5
  have KEY := Lib.hid (show HB ((w6.setCell ⟨w.heap.size, 0, none⟩ (.int .u64 (hiOf Z))).setCell ⟨w.heap.size, 1, none⟩ (.int .u64 (loOf Z))) w.heap.size 25 #[.int .u64 (hiOf Z), .int .u64 (loOf Z)] ∧ Below w.heap.size w ((w6.setCell ⟨w.heap.size, 0, none⟩ (.int .u64 (hiOf Z))).setCell ⟨w.heap.size, 1, none⟩ (.int .u64 (loOf Z))) from
    ⟨(xr.set 0 _).set 1 _, (kk.setCell (p := ⟨w.heap.size, 0, none⟩) (Nat.le_refl _) _).setCell (p := ⟨w.heap.size, 1, none⟩) (Nat.le_refl _) _⟩)
  have q0 := xr.cell 0; have q1 := xr.cell 1; have g0 := xr.frozen 0; have g1 := xr.frozen 1; have hl := xr.lt; dsimp at q0 q1
  clear xr kk
  go_wp2_with fail
  obtain ⟨hE, kb⟩ := KEY.out
  have e0 := hE.cell 0; have e1 := hE.cell 1
  dsimp at e0 e1
  refine bodyPost_ret (v := .agg #[.int .u64 (hiOf (Z)), .int .u64 (loOf (Z))]) ?_ rfl ⟨rfl, kb⟩
  clear kb hE q0 q1 g0 g1
  simp [results, Tryd.results35, go_sem, e0, e1]

set_option maxHeartbeats 4000000 in
theorem ref7_make_in_neg (f ex wi pi m e1_ e2_ fr s1 Z : Int) (kd kp kw : Nat) (v : Value) (d1 : decide (ex < 0) = false) (d2 : decide (1048576 < ex) = false) (hcv : IntKind.u64.wrap ex = ex)
    (WF : Hid (∀ w, Calls Tryd.prog 56 #[.int .u8 f] w fun e w' => e = .returned (.int .i64 wi) ∧ w = w')) (PF : Hid (∀ w, Calls Tryd.prog 32 #[.int .u8 f] w fun e w' => e = .returned (.int .i64 pi) ∧ w = w')) (g0 : (wi == 0) = false)
    (OF : Hid (∀ w, Calls Tryd.prog 61 #[.int .u64 ex] w (RetNum w ex)))
    (hd : IntKind.i64.wrap (wi - pi) = (kd : Int)) (hp : IntKind.i64.wrap (pi - 1) = (kp : Int)) (hw : IntKind.i64.wrap (wi - 1) = (kw : Int)) (H1 : Hid (kd < 3200000)) (H2 : Hid (kp < 3200000)) (H3 : Hid (kw < 3200000))
    (S1 : Hid (Small ex)) (S2 : Hid (Small e1_)) (S3 : Hid (Small m)) (S4 : Hid (Small e2_)) (S5 : Hid (Small fr)) (S6 : Hid (Small s1)) (S7 : Hid (Small (2 ^ kw)))
    (E1 : ex % 2 ^ kd = e1_) (E2 : e1_ * 2 ^ kp = e2_) (E3 : m % 2 ^ kp = fr) (E4 : e2_ + fr = s1) (E5 : s1 + 2 ^ kw = Z) (w : World) (nm : IsNum w v m) :
    Calls Tryd.prog 35 #[.int .u8 f, .bool true, .int .i64 ex, v] w fun e w' => e = .returned (.agg #[.int .u64 (hiOf (Z)), .int .u64 (loOf (Z))]) ∧ Below w.heap.size w w' := by
  go_enter Tryd.func35, Tryd.ntmps35
  go_wp2_with fail
  (with_reducible refine (WF.out _).mono ?_); rintro e wz ⟨rfl, rfl⟩
  go_wp2_with fail
  (with_reducible refine (OF.out _).mono ?_); rintro e w1 ⟨vn1, rfl, n1, hb⟩
  have xr : HB w1 (w.heap.size) 25 #[.int .u64 0, .int .u64 0] := (HB.newAt (by simp) _ _).later hb
  replace nm := (nm.later ((bA (Below.refl _ _) _))).later hb
  have kk := bC (bA (Below.refl _ _) _) hb
  clear hb
  go_wp2_with fail
  (with_reducible refine (WF.out _).mono ?_); rintro e wz ⟨rfl, rfl⟩
  go_wp2_with fail
  (with_reducible refine (PF.out _).mono ?_); rintro e wz ⟨rfl, rfl⟩
  go_wp2_with fail
  (with_reducible refine (cut_num n1 S1.out _ H1.out).mono ?_); rintro e w2 ⟨vn2, rfl, n2, hb⟩
  replace xr := xr.later hb
  replace nm := nm.later hb
  replace n1 := n1.later hb
  replace kk := bC kk hb
  clear hb
  clear n1
  rw [E1] at n2
  go_wp2_with fail
  (with_reducible refine (PF.out _).mono ?_); rintro e wz ⟨rfl, rfl⟩
  go_wp2_with fail
  (with_reducible refine (shl_num n2 S2.out _ H2.out).mono ?_); rintro e w3 ⟨vn3, rfl, n3, hb⟩
  replace xr := xr.later hb
  replace nm := nm.later hb
  replace n2 := n2.later hb
  replace kk := bC kk hb
  clear hb
  clear n2
  rw [E2] at n3
  go_wp2_with fail
  (with_reducible refine (PF.out _).mono ?_); rintro e wz ⟨rfl, rfl⟩
  go_wp2_with fail
  (with_reducible refine (cut_num nm S3.out _ H2.out).mono ?_); rintro e w4 ⟨vn4, rfl, n4, hb⟩
  replace xr := xr.later hb
  replace nm := nm.later hb
  replace n3 := n3.later hb
  replace kk := bC kk hb
  clear hb
  clear nm
  rw [E3] at n4
  go_wp2_with fail
  (with_reducible refine (add_num n3 n4 S4.out S5.out).mono ?_); rintro e w5 ⟨vn5, rfl, n5, hb⟩
  replace xr := xr.later hb
  replace n3 := n3.later hb
  replace n4 := n4.later hb
  replace kk := bC kk hb
  clear hb
  clear n3 n4
  rw [E4] at n5
  go_wp2_with fail
  (with_reducible refine (WF.out _).mono ?_); rintro e wz ⟨rfl, rfl⟩
  go_wp2_with fail
  (with_reducible refine (fullN kw H3.out _).mono ?_); rintro e w6 ⟨vn6, rfl, n6, hb⟩
  replace xr := xr.later hb
  replace n5 := n5.later hb
  replace kk := bC kk hb
  clear hb
  go_wp2_with fail
  (with_reducible refine (add_num n5 n6 S6.out S7.out).mono ?_); rintro e w7 ⟨vn7, rfl, n7, hb⟩
  replace xr := xr.later hb
  replace n5 := n5.later hb
  replace n6 := n6.later hb
  replace kk := bC kk hb
  clear hb
  clear n5 n6
  rw [E5] at n7
  go_wp2_with fail
  (with_reducible refine (bits_num2 n7).mono ?_); rintro e w8 ⟨rfl, hb⟩
  replace xr := xr.later hb
  replace n7 := n7.later hb
  replace kk := bC kk hb
  clear hb
  clear n7
  have KEY := Lib.hid (show HB ((w8.setCell ⟨w.heap.size, 0, none⟩ (.int .u64 (hiOf Z))).setCell ⟨w.heap.size, 1, none⟩ (.int .u64 (loOf Z))) w.heap.size 25 #[.int .u64 (hiOf Z), .int .u64 (loOf Z)] ∧ Below w.heap.size w ((w8.setCell ⟨w.heap.size, 0, none⟩ (.int .u64 (hiOf Z))).setCell ⟨w.heap.size, 1, none⟩ (.int .u64 (loOf Z))) from
    ⟨(xr.set 0 _).set 1 _, (kk.setCell (p := ⟨w.heap.size, 0, none⟩) (Nat.le_refl _) _).setCell (p := ⟨w.heap.size, 1, none⟩) (Nat.le_refl _) _⟩)
  have q0 := xr.cell 0; have q1 := xr.cell 1; have g0 := xr.frozen 0; have g1 := xr.frozen 1; have hl := xr.lt; dsimp at q0 q1
  clear xr kk
  go_wp2_with fail
  obtain ⟨hE, kb⟩ := KEY.out
  have e0 := hE.cell 0; have e1 := hE.cell 1
  dsimp at e0 e1
  refine bodyPost_ret (v := .agg #[.int .u64 (hiOf (Z)), .int .u64 (loOf (Z))]) ?_ rfl ⟨rfl, kb⟩
  clear kb hE q0 q1 g0 g1
  simp [results, Tryd.results35, go_sem, e0, e1]

theorem hl_zero : hiOf 0 = 0 ∧ loOf 0 = 0 := ⟨rfl, rfl⟩
/-- The document's Make, of any number. -/
theorem ref7_make (f e m : Int) (neg : Bool) (v : Value) (f0 : 0 ≤ f) (f1 : f ≤ 255) (e0 : -9223372036854775808 ≤ e) (e1 : e ≤ 9223372036854775807) (sm : Small m) (w : World) (nm : IsNum w v m) :
    Calls Tryd.prog 35 #[.int .u8 f, .bool neg, .int .i64 e, v] w fun e' w' => e' = .returned (.agg #[.int .u64 (hiOf (makeF f neg e m)), .int .u64 (loOf (makeF f neg e m))]) ∧ Below w.heap.size w w' := by
  by_cases h4 : f < 4
  · obtain ⟨p0, p1, p2, p3, p4, p5, p6, p7, p8⟩ := f_nums f0 h4
    have m0 := nm.nonneg
    obtain ⟨q1, q2, q3, q4, q5, q6⟩ := make_parts f0 h4 neg e m
    obtain ⟨x0, x1⟩ := expOf_range f0 h4 e
    have WF := Lib.hid (ref7_width f f0 f1)
    have PF := Lib.hid (ref7_prec f f0 f1)
    have g0 : ((fW f : Int) == 0) = false := by simp; omega
    have hd : IntKind.i64.wrap ((fW f : Int) - (fP f : Int)) = ((fW f - fP f : Nat) : Int) := by rw [IntWalk.i64_in _ (by omega)]; omega
    have hp : IntKind.i64.wrap ((fP f : Int) - 1) = ((fP f - 1 : Nat) : Int) := by rw [IntWalk.i64_in _ (by omega)]; omega
    have hw : IntKind.i64.wrap ((fW f : Int) - 1) = ((fW f - 1 : Nat) : Int) := by rw [IntWalk.i64_in _ (by omega)]; omega
    have pw : (2 : Int) ^ (fW f - 1) < full := by
      have := two_pow_le (show fW f - 1 + 1 ≤ 128 by omega)
      rw [full_pow, Int.pow_succ] at this
      have := two_pow_pos (fW f - 1); omega
    have pp := two_pow_pos (fP f - 1)
    have S1 : ∀ x : Int, x ≤ 1048576 → Hid (Small x) := fun x hx => Lib.hid (small_full (by unfold full; omega))
    have S2 := Lib.hid (show Small (expOf f e) from small_full (by unfold full; omega))
    have k1 : expOf f e * 2 ^ (fP f - 1) < full := by omega
    have S4 := Lib.hid (show Small (expOf f e * 2 ^ (fP f - 1)) from small_full (by omega))
    have S5 := Lib.hid (show Small (m % 2 ^ (fP f - 1)) from small_full (by have := Int.mul_nonneg x0 (show 0 ≤ (2 : Int) ^ (fP f - 1) by omega); omega))
    have S6 := Lib.hid (show Small (expOf f e * 2 ^ (fP f - 1) + m % 2 ^ (fP f - 1)) from small_full (by omega))
    have S7 := Lib.hid (show Small (2 ^ (fW f - 1)) from small_full (by omega))
    have S3 := Lib.hid sm
    clear sm
    have Z : makeF f neg e m = expOf f e * 2 ^ (fP f - 1) + m % 2 ^ (fP f - 1) + (if neg then 2 ^ (fW f - 1) else 0) := by unfold makeF; rw [if_pos h4]
    rw [Z]
    have OF0 := Lib.hid (of_num 0 (by unfold U64; decide))
    by_cases c1 : e < 0
    · have E0 : expOf f e = 0 := by unfold expOf; rw [if_pos (.inl c1)]
      cases neg with
      | false => rw [if_neg (by decide), Int.add_zero]; exact ref7_make_lt_pos f e _ _ m _ _ _ 0 _ _ _ (fW f - 1) v (by simp [c1]) WF PF g0 OF0 hd hp hw (Lib.hid (by omega)) (Lib.hid (by omega)) (Lib.hid (by omega)) (S1 0 (by decide)) S2 S3 S4 S5 (S1 0 (by decide)) S7 (by rw [E0, Int.zero_emod]) rfl rfl rfl w nm
      | true => rw [if_pos rfl]; exact ref7_make_lt_neg f e _ _ m _ _ _ _ _ _ _ (fW f - 1) v (by simp [c1]) WF PF g0 OF0 hd hp hw (Lib.hid (by omega)) (Lib.hid (by omega)) (Lib.hid (by omega)) (S1 0 (by decide)) S2 S3 S4 S5 S6 S7 (by rw [E0, Int.zero_emod]) rfl rfl rfl rfl w nm
    · by_cases c2 : 1048576 < e
      · have E0 : expOf f e = 0 := by unfold expOf; rw [if_pos (.inr c2)]
        cases neg with
        | false => rw [if_neg (by decide), Int.add_zero]; exact ref7_make_gt_pos f e _ _ m _ _ _ 0 _ _ _ (fW f - 1) v (by simp; omega) (by simp [c2]) WF PF g0 OF0 hd hp hw (Lib.hid (by omega)) (Lib.hid (by omega)) (Lib.hid (by omega)) (S1 0 (by decide)) S2 S3 S4 S5 (S1 0 (by decide)) S7 (by rw [E0, Int.zero_emod]) rfl rfl rfl w nm
        | true => rw [if_pos rfl]; exact ref7_make_gt_neg f e _ _ m _ _ _ _ _ _ _ (fW f - 1) v (by simp; omega) (by simp [c2]) WF PF g0 OF0 hd hp hw (Lib.hid (by omega)) (Lib.hid (by omega)) (Lib.hid (by omega)) (S1 0 (by decide)) S2 S3 S4 S5 S6 S7 (by rw [E0, Int.zero_emod]) rfl rfl rfl rfl w nm
      · have E0 : e % 2 ^ (fW f - fP f) = expOf f e := by unfold expOf; rw [if_neg (by omega)]
        have OF := Lib.hid (of_num e (by unfold U64; omega))
        have hcv : IntKind.u64.wrap e = e := by rw [IntKind.wrap_u64]; omega
        cases neg with
        | false => rw [if_neg (by decide), Int.add_zero]; exact ref7_make_in_pos f e _ _ m _ _ _ 0 _ _ _ (fW f - 1) v (by simp; omega) (by simp; omega) hcv WF PF g0 OF hd hp hw (Lib.hid (by omega)) (Lib.hid (by omega)) (Lib.hid (by omega)) (S1 e (by omega)) S2 S3 S4 S5 (S1 0 (by decide)) S7 E0 rfl rfl rfl w nm
        | true => rw [if_pos rfl]; exact ref7_make_in_neg f e _ _ m _ _ _ _ _ _ _ (fW f - 1) v (by simp; omega) (by simp; omega) hcv WF PF g0 OF hd hp hw (Lib.hid (by omega)) (Lib.hid (by omega)) (Lib.hid (by omega)) (S1 e (by omega)) S2 S3 S4 S5 S6 S7 E0 rfl rfl rfl rfl w nm
  · rw [makeF_zero h4, hl_zero.1, hl_zero.2]
    exact ref7_make_no f e neg v f0 f1 h4 w

theorem fE_le (f : Int) : fE f ≤ 16383 := by unfold fE; split <;> (try split) <;> (try split) <;> (try split) <;> omega
end Go.Proofs.YtfcffmihhpcjjaaDoor
