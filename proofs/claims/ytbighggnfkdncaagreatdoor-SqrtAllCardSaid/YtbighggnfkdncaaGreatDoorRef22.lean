import Derived.Test.YtbighggnfkdncaaGreatDoorRef22W
import Derived.Test.YtbighggnfkdncaaGreatDoorGtD
import Derived.Test.YtbighggnfkdncaaGreatDoorAdd18L
import Derived.Test.YtbighggnfkdncaaGreatDoorGjC
import Derived.Test.YtbighggnfkdncaaGreatDoorRef16
set_option maxHeartbeats 1000000
set_option linter.unusedVariables false
set_option linter.unusedSimpArgs false
set_option maxRecDepth 100000
namespace Go.Proofs.YtbighggnfkdncaaGreatDoor
open Go.RowKit
attribute [local go_sem ↓] Go.wp_at_zero Go.wp_at_succ
theorem ref_cut_zero {f a : Int} (f0 : 0 ≤ f) (hf : f < 4) (a0 : 0 ≤ a) (h1 : expF f a = 0) (h2 : fracF f a = 0) : makeF f (negF f a) 0 0 = cutF f a := by
  have sp := size_parts f0 hf a0
  rw [h1, h2, Int.zero_mul, Int.zero_add] at sp
  obtain ⟨p0, p1, p2, p3, p4, p5, p6, p7, p8⟩ := f_nums f0 hf
  have e : expOf f 0 = 0 := expOf_id f0 hf (by decide) (by omega)
  have dm := Int.emod_add_mul_ediv a (2 ^ (fW f - 1))
  have c : cutF f a = a % 2 ^ (fW f - 1) + 2 ^ (fW f - 1) * (a / 2 ^ (fW f - 1) % 2) := by
    unfold cutF
    rw [show (2 : Int) ^ fW f = 2 ^ (fW f - 1) * 2 from pow_top (by omega)]
    have hp := two_pow_pos (fW f - 1)
    have r0 := Int.emod_nonneg a (show (2 : Int) ^ (fW f - 1) ≠ 0 by omega)
    have r1 := Int.emod_lt_of_pos a hp
    clear sp e
    generalize (2 : Int) ^ (fW f - 1) = B at *
    generalize a / B = q at *
    generalize a % B = r at *
    have hq : B * q = B * 2 * (q / 2) + B * (q % 2) := by
      rw [Int.mul_assoc, ← Int.mul_add]; congr 1; omega
    have h2 : B * (q % 2) = 0 ∨ B * (q % 2) = B := by
      rcases (show q % 2 = 0 ∨ q % 2 = 1 by omega) with h | h
      · left; rw [h, Int.mul_zero]
      · right; rw [h, Int.mul_one]
    exact ((Int.ediv_emod_unique (a := a) (r := r + B * (q % 2)) (q := q / 2) (b := B * 2) (by omega)).2 ⟨by omega, by omega, by omega⟩).2
  rw [c, ← sp]
  unfold makeF negF
  rw [if_pos hf, e, decide_eq_true hf, Bool.and_true]
  by_cases n : a / 2 ^ (fW f - 1) % 2 = 1
  · rw [n, decide_eq_true rfl]; simp
  · rw [decide_eq_false n, show a / 2 ^ (fW f - 1) % 2 = 0 by omega]; simp
theorem tdiv_even {x y : Int} (h : x = 2 * y) : x.tdiv 2 = y ∧ x.tmod 2 = 0 := by
  subst h
  exact ⟨Int.mul_tdiv_cancel_left y (by decide), Int.mul_tmod_right 2 y⟩
theorem tmod_odd {x : Int} (h : x % 2 = 1) : x.tmod 2 ≠ 0 := fun z => by
  have := Int.mul_tdiv_add_tmod x 2
  omega
theorem sq_far {M : Int} {far : Nat} (M0 : 0 ≤ M) (M1 : M < 2 ^ 113) (h : far ≤ 301) : 0 ≤ M * 2 ^ far ∧ M * 2 ^ far < 2 ^ 414 ∧ M * 2 ^ far < bp 40000 := by
  have h1 := pow_lt_mul far M1
  rw [← Int.pow_add] at h1
  have h2 := two_pow_le (show 113 + far ≤ 414 by omega)
  have h3 := bp_le (show 20 ≤ 40000 by omega)
  rw [bp_two 20] at h3
  have h4 := two_pow_le (show 414 ≤ 32 * 20 by omega)
  exact ⟨Int.mul_nonneg M0 (by have := two_pow_pos far; omega), by omega, by omega⟩
theorem sq_rt {P : Int} (P0 : 0 ≤ P) (P1 : P < 2 ^ 414) : RootAt P (rt 300 P 0) 0 ∧ blen (rt 300 P 0) ≤ 300 := by
  have h := rt_spec P 300 0 ⟨by omega, by simpa using P0, by rw [Int.zero_add, ← Int.pow_add]; have := two_pow_le (show 414 ≤ 300 + 300 by omega); omega⟩
  refine ⟨h, blen_le h.1 ?_⟩
  apply Classical.byContradiction; intro k
  have := sq_le (r := 2 ^ 300) (by have := two_pow_pos 300; omega) (show (2 : Int) ^ 300 ≤ rt 300 P 0 by omega)
  rw [← Int.pow_add] at this
  have := two_pow_le (show 414 ≤ 300 + 300 by omega)
  have := h.2.1
  omega
theorem ref22_root (P R : Int) (hR : RootAt P R 0) (P1 : P < bp 40000) (w : World) (sx : Option Addr × Nat × Nat) (nx : IsNum w (.slice sx.1 sx.2.1 sx.2.2) P) : Calls Tryz.prog 41 #[.slice sx.1 sx.2.1 sx.2.2] w fun e' w' => ∃ s : Option Addr × Nat × Nat, e' = .returned (.slice s.1 s.2.1 s.2.2) ∧ IsNum w' (.slice s.1 s.2.1 s.2.2) R ∧ Below w.heap.size w w' := by
  refine (root_num nx P1).mono fun e w' hh => ?_
  obtain ⟨v, r, he, nv, hr, hb⟩ := hh
  obtain rfl := root_unique hr hR
  obtain ⟨ao, k, cap, ds, rfl, _⟩ := id nv
  exact ⟨(ao, k, cap), he, nv, hb⟩
theorem ref22_sqrtN (f m : Int) (t : Bool) (a : Int) (f0 : 0 ≤ f) (f1 : f ≤ 255) (m0 : 0 ≤ m) (m1 : m ≤ 255) (a0 : 0 ≤ a) (a1 : a < full) (w : World) : Calls Tryz.prog 11 #[.int .u8 f, .agg #[.int .u8 m, .bool t], .agg #[.int .u64 (hiOf (a)), .int .u64 (loOf (a))]] w fun e w' => e = .returned (.agg #[.int .u64 (hiOf (sqB f m a)), .int .u64 (loOf (sqB f m a)), .int .u8 (sqFl f m t a)]) ∧ Below w.heap.size w w' := by
  by_cases hf : f < 4
  · have G1 : decide (3 < f) = false := decide_eq_false (by omega)
    by_cases hm : m < 5
    · have G2 : decide (4 < m) = false := decide_eq_false (by omega)
      have FM : f < 4 ∧ m < 5 := ⟨hf, hm⟩
      have OA := lH (ref19_cls f a f0 f1 a0 a1)
      have PK : ∀ i : Bool, ∀ w, ∀ p T, HB w p T #[.int .u64 (hiOf a), .int .u64 (loOf a)] → Calls Tryz.prog 36 #[.int .u8 f, .bool i, .slice (some ⟨p, 0, none⟩) 1 1] w fun e w' => e = .returned (.tuple #[.agg #[.int .u64 (hiOf (pickV f i [a])), .int .u64 (loOf (pickV f i [a])), .int .u8 (pickF f i [a])], .bool (pickK f i [a])]) ∧ Below w.heap.size w w' := fun i w p T x => ref10_pick f i (some ⟨p, 0, none⟩) 1 1 [a] f0 f1 w (Bs.ofHB [a] x rfl (by simp))
      have PF := PK false
      have PT := PK true
      have IN := lH (ref7_inf f false f0 f1)
      have NM : ∀ (n : Bool) w, Calls Tryz.prog 37 #[.int .u8 f, .bool n, .int .i64 0, .slice none 0 0] w fun e w' => e = .returned (.agg #[.int .u64 (hiOf (makeF f n 0 0)), .int .u64 (loOf (makeF f n 0 0))]) ∧ Below w.heap.size w w' := fun n w => ref7_make f 0 0 n _ f0 f1 (by decide) (by decide) (small_full (by decide)) w (nil_num w)
      have rc := cls_range f a
      have pk := sq_pick (f := f) a0 a1 hf
      have T0 : ∀ {c v : Int}, c = v → (c == v) = true := fun h => beq_iff_eq.2 h
      have F0 : ∀ {c v : Int}, c ≠ v → (c == v) = false := fun h => beq_eq_false_iff_ne.2 h
      by_cases hy : pickK f (sqI f a) [a] = true
      · have e1 : sqB f m a = pickV f (sqI f a) [a] := by unfold sqB; rw [if_pos FM, if_pos hy]
        have e2 : sqFl f m t a = pickF f (sqI f a) [a] := by unfold sqFl; rw [if_pos FM, if_pos hy]
        rw [e1, e2]
        cases i : sqI f a with
        | false =>
          rw [i] at hy
          rw [hy] at PF
          cases ng : negF f a with
          | false =>
            rw [ng] at OA
            exact ref22_sqrt_yes f m (hiOf a) (loOf a) (clsF f a) _ _ _ 0 0 0 0 (-300) 0 (-300) (-150) 0 0 0 0 0 t _ false true false OA G1 G2 (by decide) (by decide +kernel) (by decide +kernel) (by decide) (by decide +kernel) (by decide +kernel) (by decide) (by decide +kernel) (by decide +kernel) (by decide +kernel) (by decide +kernel) (.inl ⟨rfl, rfl, lH PF⟩) w
          | true =>
            rw [ng] at OA
            have c4 : 4 ≤ clsF f a := by
              have h : (sqI f a || nanF f a) = true := by rw [← pk, i]; exact hy
              rw [i, Bool.false_or] at h
              unfold nanF at h
              have := of_decide_eq_true h
              omega
            exact ref22_sqrt_yes f m (hiOf a) (loOf a) (clsF f a) _ _ _ 0 0 0 0 (-300) 0 (-300) (-150) 0 0 0 0 0 t _ false true false OA G1 G2 (by decide) (by decide +kernel) (by decide +kernel) (by decide) (by decide +kernel) (by decide +kernel) (by decide) (by decide +kernel) (by decide +kernel) (by decide +kernel) (by decide +kernel) (.inr (.inr (.inl ⟨rfl, rfl, bne_iff_ne.2 (by omega), decide_eq_false (by omega), lH PF⟩))) w
        | true =>
          have PT' := PT
          rw [i] at hy
          rw [hy] at PT'
          unfold sqI at i
          have ng := (Bool.and_eq_true_iff.1 i).1
          have ci := of_decide_eq_true (Bool.and_eq_true_iff.1 i).2
          rw [ng] at OA
          exact ref22_sqrt_yes f m (hiOf a) (loOf a) (clsF f a) _ _ _ 0 0 0 0 (-300) 0 (-300) (-150) 0 0 0 0 0 t _ false true false OA G1 G2 (by decide) (by decide +kernel) (by decide +kernel) (by decide) (by decide +kernel) (by decide +kernel) (by decide) (by decide +kernel) (by decide +kernel) (by decide +kernel) (by decide +kernel) (.inr (.inl ⟨rfl, rfl, bne_iff_ne.2 (by omega), decide_eq_true (by omega), lH PT'⟩)) w
      · have hy : pickK f (sqI f a) [a] = false := by simpa using hy
        rw [pk] at hy
        obtain ⟨i, hn⟩ := Bool.or_eq_false_iff.1 hy
        have pf : pickK f false [a] = false := by rw [← i, pk, i, hn]; rfl
        rw [pf] at PF
        have c3 : clsF f a ≤ 3 := by unfold nanF at hn; have := of_decide_eq_false hn; omega
        obtain ⟨s1, s2⟩ := sq_some (m := m) hf hm a0 a1 c3 i
        by_cases z : clsF f a = 0
        · rw [if_pos (.inl z)] at s1
          have s2 : sqFl f m t a = 0 := by rw [s2, if_pos (.inl z)]
          have cz : makeF f (negF f a) 0 0 = cutF f a := by
            obtain ⟨y1, y2⟩ := (cls_0 hf).1 z
            have h := ref_cut_zero f0 hf a0 y1 y2
            exact h
          rw [s1, s2, ← cz]
          have NO := lH (NM (negF f a))
          cases ng : negF f a with
          | false =>
            rw [ng] at OA NO
            exact ref22_sqrt_yes f m (hiOf a) (loOf a) (clsF f a) _ _ _ _ _ _ 0 (-300) 0 (-300) (-150) 0 0 0 0 0 t _ false false false OA G1 G2 (by decide) (by decide +kernel) (by decide +kernel) (by decide) (by decide +kernel) (by decide +kernel) (by decide) (by decide +kernel) (by decide +kernel) (by decide +kernel) (by decide +kernel) (.inr (.inr (.inr (.inl ⟨rfl, rfl, rfl, T0 z, lH PF, NO⟩)))) w
          | true =>
            rw [ng] at OA NO
            exact ref22_sqrt_yes f m (hiOf a) (loOf a) (clsF f a) _ _ _ _ _ _ 0 (-300) 0 (-300) (-150) 0 0 0 0 0 t _ false false false OA G1 G2 (by decide) (by decide +kernel) (by decide +kernel) (by decide) (by decide +kernel) (by decide +kernel) (by decide) (by decide +kernel) (by decide +kernel) (by decide +kernel) (by decide +kernel) (.inr (.inr (.inr (.inr (.inl ⟨rfl, rfl, rfl, (by rw [z]; rfl), T0 z, lH PF, NO⟩))))) w
        · have ng : negF f a = false := by
            cases ng : negF f a with
            | false => rfl
            | true => unfold sqI at i; rw [ng, decide_eq_true (by omega)] at i; cases i
          rw [ng] at OA
          by_cases z3 : clsF f a = 3
          · rw [if_pos (.inr z3)] at s1
            have s2 : sqFl f m t a = 0 := by rw [s2, if_pos (.inr z3)]
            have ic := inf_cut f0 hf a0 z3
            rw [ng] at ic
            rw [s1, s2, ← ic]
            exact ref22_sqrt_yes f m (hiOf a) (loOf a) (clsF f a) _ _ _ _ _ _ 0 (-300) 0 (-300) (-150) 0 0 0 0 0 t _ false false false OA G1 G2 (by decide) (by decide +kernel) (by decide +kernel) (by decide) (by decide +kernel) (by decide +kernel) (by decide) (by decide +kernel) (by decide +kernel) (by decide +kernel) (by decide +kernel) (.inr (.inr (.inr (.inr (.inr (.inl ⟨rfl, rfl, rfl, F0 z, T0 z3, lH PF, IN⟩)))))) w
          · have ca : clsF f a = 1 ∨ clsF f a = 2 := by omega
            rw [if_neg (by omega)] at s1
            have s2 : sqFl f m t a = pkFl f m t false (sqE f a) (sqS f a) := by rw [s2, if_neg (by omega)]
            have VA := lH (ofS19 f a f0 hf a0 a1)
            rw [ng] at VA
            have ma := uM_113 f0 hf a
            have xa := uX_17000 (f := f) f0 hf a0
            have main : ∀ (far : Nat) (E : Int), 300 ≤ far → far ≤ 301 → 2 * E = uX f a - far → ∃ Rt : Int, Hid (∀ w (sx : Option Addr × Nat × Nat), IsNum w (.slice sx.1 sx.2.1 sx.2.2) (uM f a) → Calls Tryz.prog 40 #[.slice sx.1 sx.2.1 sx.2.2, .int .i64 (far : Int)] w fun e' w' => ∃ s : Option Addr × Nat × Nat, e' = .returned (.slice s.1 s.2.1 s.2.2) ∧ IsNum w' (.slice s.1 s.2.1 s.2.2) (uM f a * 2 ^ far) ∧ Below w.heap.size w w') ∧ Hid (∀ w (sx : Option Addr × Nat × Nat), IsNum w (.slice sx.1 sx.2.1 sx.2.2) (uM f a * 2 ^ far) → Calls Tryz.prog 41 #[.slice sx.1 sx.2.1 sx.2.2] w fun e' w' => ∃ s : Option Addr × Nat × Nat, e' = .returned (.slice s.1 s.2.1 s.2.2) ∧ IsNum w' (.slice s.1 s.2.1 s.2.2) Rt ∧ Below w.heap.size w w') ∧ Hid (∀ w (sx : Option Addr × Nat × Nat), IsNum w (.slice sx.1 sx.2.1 sx.2.2) Rt → Calls Tryz.prog 44 #[.slice sx.1 sx.2.1 sx.2.2, .slice sx.1 sx.2.1 sx.2.2] w fun e' w' => ∃ s : Option Addr × Nat × Nat, e' = .returned (.slice s.1 s.2.1 s.2.2) ∧ IsNum w' (.slice s.1 s.2.1 s.2.2) (Rt * Rt) ∧ Below w.heap.size w w') ∧ Hid (∀ w (sx sy : Option Addr × Nat × Nat), IsNum w (.slice sx.1 sx.2.1 sx.2.2) (Rt * Rt) → IsNum w (.slice sy.1 sy.2.1 sy.2.2) (uM f a * 2 ^ far) → Calls Tryz.prog 43 #[.slice sx.1 sx.2.1 sx.2.2, .slice sy.1 sy.2.1 sy.2.2] w fun e w' => e = .returned (.int .i64 (cmpI (Rt * Rt) (uM f a * 2 ^ far))) ∧ Below w.heap.size w w') ∧ Hid (∀ w (sx : Option Addr × Nat × Nat), IsNum w (.slice sx.1 sx.2.1 sx.2.2) Rt → Calls Tryz.prog 42 #[.int .u8 f, .agg #[.int .u8 m, .bool t], .agg #[.bool false, .slice sx.1 sx.2.1 sx.2.2, .int .i64 E, .bool (decide (cmpI (Rt * Rt) (uM f a * 2 ^ far) < 0))]] w fun e w' => e = .returned (.agg #[.int .u64 (hiOf (sqB f m a)), .int .u64 (loOf (sqB f m a)), .int .u8 (sqFl f m t a)]) ∧ Below w.heap.size w w') := fun far E h3 h4 hE => by
              obtain ⟨P0, P1, P2⟩ := sq_far ma.1 ma.2 h4
              obtain ⟨hR, bR⟩ := sq_rt P0 P1
              generalize rt 300 (uM f a * 2 ^ far) 0 = Rt at *
              obtain ⟨⟨x1, x2⟩, R0⟩ := sq_doc (m := m) (ng := false) f0 hf a0 ca far h3 E hE Rt hR (decide (cmpI (Rt * Rt) (uM f a * 2 ^ far) < 0)) (by
                rw [decide_eq_true_eq, cmpI_lti]; have := hR.2.1; omega)
              refine ⟨Rt, lH fun w sx nx => ?_, lH fun w sx nx => ref22_root _ Rt hR P2 w sx nx, lH fun w sx nx => ?_, lH fun w sx sy nx ny => cmp_num nx ny, lH fun w sx nx => ?_⟩
              · exact (shl_num nx (prod_small ma.2) far (by omega)).mono fun _ _ => tri19
              · have sm := small_len hR.1 (show blen Rt ≤ 100000 by omega)
                exact (mul_num nx nx sm sm).mono fun _ _ => tri19
              · have h := ref16_round f m t false Rt E (decide (cmpI (Rt * Rt) (uM f a * 2 ^ far) < 0)) _ f0 f1 m0 m1 (.inl R0) (by omega) (by omega) (by omega) w nx
                rw [x1, x2] at h
                rw [s1, s2]
                exact h
            by_cases ev : (uX f a - 300) % 2 = 0
            · obtain ⟨E, hE⟩ : ∃ E, uX f a - 300 = 2 * E := ⟨(uX f a - 300) / 2, by omega⟩
              obtain ⟨q1, q2⟩ := tdiv_even hE
              obtain ⟨Rt, SH, RT, MU, CM, RD⟩ := main 300 E (by omega) (by omega) (by omega)
              have lm : decide (cmpI (Rt * Rt) (uM f a * 2 ^ 300) < 0) = decide (cmpI (Rt * Rt) (uM f a * 2 ^ 300) < 0) := rfl
              exact ref22_sqrt_yes f m (hiOf a) (loOf a) (clsF f a) _ _ _ _ _ _ (uX f a) (uX f a - 300) 0 (uX f a - 300) E (cmpI (Rt * Rt) (uM f a * 2 ^ 300)) (uM f a) (uM f a * 2 ^ 300) Rt (Rt * Rt) t _ false false _ OA G1 G2 lm (IntWalk.i64_in _ (by omega)) (by unfold wrap64; omega) q2 (by decide +kernel) (by decide +kernel) q1 (IntWalk.i64_in _ (by omega)) (by unfold wrap64; omega) (by decide +kernel) (by decide +kernel) (.inr (.inr (.inr (.inr (.inr (.inr (.inl ⟨rfl, rfl, F0 z, F0 z3, rfl, rfl, lH PF, VA, SH, RT, MU, CM, RD⟩))))))) w
            · obtain ⟨E, hE⟩ : ∃ E, uX f a - 301 = 2 * E := ⟨(uX f a - 301) / 2, by omega⟩
              obtain ⟨q1, q2⟩ := tdiv_even hE
              have k0 := Int.lt_tmod_of_pos (uX f a - 300) (show 0 < (2 : Int) by decide)
              have k1 := Int.tmod_lt_of_pos (uX f a - 300) (show 0 < (2 : Int) by decide)
              have od := tmod_odd (x := uX f a - 300) (by omega)
              obtain ⟨Rt, SH, RT, MU, CM, RD⟩ := main 301 E (by omega) (by omega) (by omega)
              have lm : decide (cmpI (Rt * Rt) (uM f a * 2 ^ 301) < 0) = decide (cmpI (Rt * Rt) (uM f a * 2 ^ 301) < 0) := rfl
              exact ref22_sqrt_yes f m (hiOf a) (loOf a) (clsF f a) _ _ _ _ _ _ (uX f a) (uX f a - 300) ((uX f a - 300).tmod 2) (uX f a - 301) E (cmpI (Rt * Rt) (uM f a * 2 ^ 301)) (uM f a) (uM f a * 2 ^ 301) Rt (Rt * Rt) t _ false false _ OA G1 G2 lm (IntWalk.i64_in _ (by omega)) (by unfold wrap64; omega) rfl (IntWalk.i64_in _ (by omega)) (by unfold wrap64; omega) q1 (IntWalk.i64_in _ (by omega)) (by unfold wrap64; omega) (by decide +kernel) (by decide +kernel) (.inr (.inr (.inr (.inr (.inr (.inr (.inr (⟨rfl, rfl, F0 z, F0 z3, bne_iff_ne.2 od, IntWalk.i64_in _ (by omega), (by unfold wrap64; omega), lH PF, VA, SH, RT, MU, CM, RD⟩)))))))) w
    · unfold sqB sqFl
      simp only [if_neg (show ¬ (f < 4 ∧ m < 5) from fun k => hm k.2)]
      exact ref22_sqrt_no2 f m _ _ t G1 (decide_eq_true (by omega)) w
  · unfold sqB sqFl
    simp only [if_neg (show ¬ (f < 4 ∧ m < 5) from fun k => hf k.1)]
    exact ref22_sqrt_no1 f m _ _ t (decide_eq_true (by omega)) w
end Go.Proofs.YtbighggnfkdncaaGreatDoor
