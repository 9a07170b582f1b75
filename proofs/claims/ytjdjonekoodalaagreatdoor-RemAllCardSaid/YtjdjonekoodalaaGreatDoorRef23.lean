import Derived.Laws.EntriesVeiled
import Derived.Test.YtjdjonekoodalaaGreatDoorRef23W
import Derived.Test.YtjdjonekoodalaaGreatDoorGzB
import Derived.Test.YtjdjonekoodalaaGreatDoorGtD
import Derived.Test.YtjdjonekoodalaaGreatDoorGjC
import Derived.Test.YtjdjonekoodalaaGreatDoorRef16
set_option maxHeartbeats 1000000
set_option linter.unusedVariables false
set_option linter.unusedSimpArgs false
set_option maxRecDepth 100000
namespace Go.Proofs.YtjdjonekoodalaaGreatDoor
open Go.RowKit
attribute [local go_sem ↓] Go.wp_at_zero Go.wp_at_succ
theorem pw_bp {n : Nat} (h : n ≤ 2880000) {x : Int} (hx : x < 2 ^ n) : x < bp 90000 := by
  have h1 := bp_two 90000
  have h2 := two_pow_le (show n ≤ 32 * 90000 by omega)
  omega
theorem pw_small {n : Nat} (h : n ≤ 2880000) {x : Int} (hx : x < 2 ^ n) : Small x := by
  have h1 := pw_bp h hx
  have h2 := bp_le (show 90000 ≤ 100000 by omega)
  unfold Small; omega
theorem ref23_shl (M : Int) (k : Nat) (hk : k ≤ 40000) (M1 : M < 2 ^ 113) (n : Int) (hn : n = (k : Int)) (w : World) (sx : Option Addr × Nat × Nat) (nx : IsNum w (.slice sx.1 sx.2.1 sx.2.2) M) : Calls Tryz.prog 40 #[.slice sx.1 sx.2.1 sx.2.2, .int .i64 n] w fun e' w' => ∃ s : Option Addr × Nat × Nat, e' = .returned (.slice s.1 s.2.1 s.2.2) ∧ IsNum w' (.slice s.1 s.2.1 s.2.2) (M * 2 ^ k) ∧ Below w.heap.size w w' := by
  subst hn
  exact (shl_num nx (pw_small (n := 113) (by omega) M1) k (by omega)).mono fun _ _ => tri19
theorem ref23_div (P K : Int) (K0 : 0 < K) (P1 : P < bp 90000) (K1 : K < bp 90000) (w : World) (sx sy : Option Addr × Nat × Nat) (nx : IsNum w (.slice sx.1 sx.2.1 sx.2.2) P) (ny : IsNum w (.slice sy.1 sy.2.1 sy.2.2) K) : Calls Tryz.prog 41 #[.slice sx.1 sx.2.1 sx.2.2, .slice sy.1 sy.2.1 sy.2.2] w fun e' w' => ∃ v : (Option Addr × Nat × Nat) × (Option Addr × Nat × Nat), e' = .returned (.tuple #[.slice v.1.1 v.1.2.1 v.1.2.2, .slice v.2.1 v.2.2.1 v.2.2.2]) ∧ IsTwo w' (.slice v.1.1 v.1.2.1 v.1.2.2) (.slice v.2.1 v.2.2.1 v.2.2.2) (P / K) (P % K) ∧ Below w.heap.size w w' := by
  refine (div_num nx ny K0 P1 K1).mono fun e w' hh => ?_
  obtain ⟨vq, vr, he, nq, nr, hb⟩ := hh
  obtain ⟨ao, k, cap, ds, rfl, _⟩ := id nq
  obtain ⟨bo, j, cbp, es, rfl, _⟩ := id nr
  exact ⟨((ao, k, cap), (bo, j, cbp)), he, ⟨nq, nr⟩, hb⟩
theorem ref23_value (f a : Int) (f0 : 0 ≤ f) (hf : f < 4) (a0 : 0 ≤ a) (a1 : a < full) (w : World) : Calls Tryz.prog 39 #[.int .u8 f, .agg #[.int .u64 (hiOf (a)), .int .u64 (loOf (a))]] w fun e' w' => ∃ s : Option Addr × Nat × Nat, e' = .returned (.agg #[.bool ((negF f a)), .slice s.1 s.2.1 s.2.2, .int .i64 ((uX f a)), .bool false]) ∧ IsNum w' (.slice s.1 s.2.1 s.2.2) (uM f a) ∧ Below w.heap.size w w' := by
  refine value23 f _ _ _ _ _ (lH fun w => ofS19 f a f0 hf a0 a1 w) w
theorem rm_pow {f a b : Int} (f0 : 0 ≤ f) (hf : f < 4) (a0 : 0 ≤ a) (b0 : 0 ≤ b) : 0 ≤ rmM f a b ∧ rmM f a b < 2 ^ 40000 ∧ rmD f a b < 2 ^ 40000 ∧ (uX f a - rmE f a b).toNat ≤ 35000 ∧ (uX f b - rmE f a b).toNat ≤ 35000 ∧ 0 ≤ uX f a - rmE f a b ∧ 0 ≤ uX f b - rmE f a b := by
  have ma := uM_113 f0 hf a; have mb := uM_113 f0 hf b
  have xa := uX_17000 (f := f) f0 hf a0; have xb := uX_17000 (f := f) f0 hf b0
  have hE : (rmE f a b = uX f a ∧ uX f a ≤ uX f b) ∨ (rmE f a b = uX f b ∧ uX f b ≤ uX f a) := by unfold rmE; split <;> omega
  have up : ∀ {M : Int} (k : Nat), 0 ≤ M → M < 2 ^ 113 → k ≤ 35000 → M * 2 ^ k < 2 ^ 40000 := fun {M} k h0 h1 hk => by
    have := pow_lt_mul k h1
    rw [← Int.pow_add] at this
    have := two_pow_le (show 113 + k ≤ 40000 by omega)
    omega
  have ka : (uX f a - rmE f a b).toNat ≤ 35000 := by omega
  have kb : (uX f b - rmE f a b).toNat ≤ 35000 := by omega
  exact ⟨Int.mul_nonneg ma.1 (by have := two_pow_pos (uX f a - rmE f a b).toNat; omega), up _ ma.1 ma.2 ka, up _ mb.1 mb.2 kb, ka, kb, by omega, by omega⟩
theorem ref23_remN (f a b : Int) (f0 : 0 ≤ f) (f1 : f ≤ 255) (a0 : 0 ≤ a) (a1 : a < full) (b0 : 0 ≤ b) (b1 : b < full) (w : World) : Calls Tryz.prog 13 #[.int .u8 f, .agg #[.int .u64 (hiOf (a)), .int .u64 (loOf (a))], .agg #[.int .u64 (hiOf (b)), .int .u64 (loOf (b))]] w fun e w' => e = .returned (.agg #[.int .u64 (hiOf (rmB f a b)), .int .u64 (loOf (rmB f a b)), .int .u8 (rmFl f a b)]) ∧ Below w.heap.size w w' := by
  by_cases hf : f < 4
  · have G1 : decide (3 < f) = false := decide_eq_false (by omega)
    have OA := lH (ref19_cls f a f0 f1 a0 a1)
    have OB := lH (ref19_cls f b f0 f1 b0 b1)
    have PK : ∀ i : Bool, ∀ w, ∀ p T, HB w p T #[.int .u64 (hiOf a), .int .u64 (loOf a), .int .u64 (hiOf b), .int .u64 (loOf b)] → Calls Tryz.prog 37 #[.int .u8 f, .bool i, .slice (some ⟨p, 0, none⟩) 2 2] w fun e w' => e = .returned (.tuple #[.agg #[.int .u64 (hiOf (pickV f i [a, b])), .int .u64 (loOf (pickV f i [a, b])), .int .u8 (pickF f i [a, b])], .bool (pickK f i [a, b])]) ∧ Below w.heap.size w w' := fun i w p T x => ref10_pick f i (some ⟨p, 0, none⟩) 2 2 [a, b] f0 f1 w (Bs.ofHB [a, b] x rfl (by simp))
    have ra := cls_range f a; have rb := cls_range f b
    have T0 : ∀ {c v : Int}, c = v → (c == v) = true := fun h => beq_iff_eq.2 h
    have F0 : ∀ {c v : Int}, c ≠ v → (c == v) = false := fun h => beq_eq_false_iff_ne.2 h
    have yes : pickK f (rmI f a b) [a, b] = true → rmB f a b = pickV f (rmI f a b) [a, b] ∧ rmFl f a b = pickF f (rmI f a b) [a, b] := fun h => by
      unfold rmB rmFl; rw [if_pos hf, if_pos h, if_pos ⟨hf, h⟩]; exact ⟨rfl, rfl⟩
    have nani : ∀ i, (4 ≤ clsF f a ∨ 4 ≤ clsF f b) → pickK f i [a, b] = true := fun i h => by
      have an : anyN f [a, b] = true := by
        unfold anyN
        simp only [List.any_cons, List.any_nil, Int.emod_eq_of_lt a0 a1, Int.emod_eq_of_lt b0 b1, Bool.or_false, Bool.or_eq_true]
        rcases h with h | h
        · exact .inl (by unfold nanF; exact decide_eq_true h)
        · exact .inr (by unfold nanF; exact decide_eq_true h)
      cases i with
      | false => exact (pick_nan hf [a, b] an).2.2
      | true => exact (pick_inv hf [a, b]).2.2
    by_cases c4 : 4 ≤ clsF f a ∨ 4 ≤ clsF f b
    · have i : rmI f a b = false := by unfold rmI; exact decide_eq_false (by omega)
      have hp := nani false c4
      obtain ⟨e1, e2⟩ := yes (by rw [i]; exact hp)
      have PF := PK false
      rw [hp] at PF
      rw [e1, e2, i]
      by_cases d4 : 4 ≤ clsF f a
      · exact ref23_yes f (hiOf a) (loOf a) (hiOf b) (loOf b) (clsF f a) (clsF f b) _ _ _ 0 0 0 0 0 0 0 0 0 0 0 0 0 0 0 0 0 0 _ _ true false false OA OB G1 (by decide +kernel) (by decide +kernel) (by decide +kernel) (by decide +kernel) rfl rfl (.inl ⟨decide_eq_true d4, rfl, lH PF⟩) w
      · exact ref23_yes f (hiOf a) (loOf a) (hiOf b) (loOf b) (clsF f a) (clsF f b) _ _ _ 0 0 0 0 0 0 0 0 0 0 0 0 0 0 0 0 0 0 _ _ true false false OA OB G1 (by decide +kernel) (by decide +kernel) (by decide +kernel) (by decide +kernel) rfl rfl (.inr (.inl ⟨decide_eq_false d4, decide_eq_true (by omega), rfl, lH PF⟩)) w
    · have d4 : decide (4 ≤ clsF f a) = false := decide_eq_false (by omega)
      have d5 : decide (4 ≤ clsF f b) = false := decide_eq_false (by omega)
      by_cases iv : clsF f a = 3 ∨ clsF f b = 0
      · have i : rmI f a b = true := by unfold rmI; exact decide_eq_true (by omega)
        have hp := (pick_inv hf [a, b]).2.2
        obtain ⟨e1, e2⟩ := yes (by rw [i]; exact hp)
        have PT := PK true
        rw [hp] at PT
        rw [e1, e2, i]
        by_cases c3 : clsF f a = 3
        · exact ref23_yes f (hiOf a) (loOf a) (hiOf b) (loOf b) (clsF f a) (clsF f b) _ _ _ 0 0 0 0 0 0 0 0 0 0 0 0 0 0 0 0 0 0 _ _ true false false OA OB G1 (by decide +kernel) (by decide +kernel) (by decide +kernel) (by decide +kernel) rfl rfl (.inr (.inr (.inl ⟨d4, d5, T0 c3, rfl, lH PT⟩))) w
        · exact ref23_yes f (hiOf a) (loOf a) (hiOf b) (loOf b) (clsF f a) (clsF f b) _ _ _ 0 0 0 0 0 0 0 0 0 0 0 0 0 0 0 0 0 0 _ _ true false false OA OB G1 (by decide +kernel) (by decide +kernel) (by decide +kernel) (by decide +kernel) rfl rfl (.inr (.inr (.inr (.inl ⟨d4, d5, F0 c3, T0 (by omega), rfl, lH PT⟩)))) w
      · have ca2 : clsF f a ≤ 2 := by omega
        obtain ⟨s1, s2⟩ := rm_some hf a0 a1 b0 b1 (by omega) (by omega)
        rw [if_neg iv] at s1 s2
        have an := (any_two a0 a1 b0 b1 (num_nan (show clsF f a ≤ 3 by omega)) (num_nan (show clsF f b ≤ 3 by omega))).1
        have hp := (pick_none (f := f) [a, b] an).2.2
        have PF := PK false
        rw [hp] at PF
        rw [s1, s2]
        have ma := uM_113 f0 hf a; have mb := uM_113 f0 hf b
        have xa := uX_17000 (f := f) f0 hf a0; have xb := uX_17000 (f := f) f0 hf b0
        by_cases d3 : clsF f b = 3
        · rw [if_pos d3]
          have VV := lH fun w => ref23_value f a f0 hf a0 a1 w
          obtain ⟨s3, s4⟩ := dc_same (m := 0) f0 hf (by decide) a0 ca2
          obtain ⟨va, _, _, xa0, xa1⟩ := vF_val f0 hf a0 ca2
          obtain ⟨c, hc⟩ : ∃ c : Nat, (c : Int) = uX f a + 1099511628031 := ⟨(uX f a + 1099511628031).toNat, by omega⟩
          have sc := dc_scale (f := f) (m := 0) (q := uM f a) (E := uX f a) (ng := negF f a) c ma.1
          rw [show (uX f a + 1099511628031).toNat = c by omega] at va
          rw [show uX f a - (c : Int) = -1099511628031 by omega, ← va] at sc
          have RV := lH fun w (q : Option Addr × Nat × Nat) (h : IsNum w (.slice q.1 q.2.1 q.2.2) (uM f a)) => ref16_round f 0 false (negF f a) (uM f a) (uX f a) false _ f0 f1 (by decide) (by decide) (.inr rfl) (by have := blen_le ma.1 ma.2; omega) (by omega) (by omega) w h
          rw [← sc.1, s3, ← (sc.2 false), s4 false] at RV
          exact ref23_yes f (hiOf a) (loOf a) (hiOf b) (loOf b) (clsF f a) (clsF f b) _ _ _ _ _ _ (uX f a) (uX f a) (uX f a) 0 0 0 0 (uM f a) 0 0 0 0 0 0 0 _ _ false (negF f a) false OA OB G1 (by rw [Int.sub_self]; decide +kernel) (by rw [Int.sub_self]; decide +kernel) (by rw [Int.sub_self]; decide +kernel) (by rw [Int.sub_self]; decide +kernel) (by split <;> rfl) (by split <;> rfl) (.inr (.inr (.inr (.inr (.inl ⟨d4, d5, F0 (by omega), F0 (by omega), rfl, T0 d3, lH PF, VV, RV⟩))))) w
        · rw [if_neg d3]
          have VA := lH (ofS19 f a f0 hf a0 a1)
          have VB := lH (ofS19 f b f0 hf b0 b1)
          have cb : clsF f b = 1 ∨ clsF f b = 2 := by omega
          obtain ⟨m0, m1, n1, ka, kb, ya, yb⟩ := rm_pow f0 hf a0 b0
          obtain ⟨mb0, _⟩ := um_pos f0 hf b0 cb
          have n0 : 0 < rmD f a b := Int.mul_pos mb0 (two_pow_pos _)
          have SM := lH fun w sx nx => ref23_shl (uM f a) (uX f a - rmE f a b).toNat (by omega) ma.2 (uX f a - rmE f a b) (by omega) w sx nx
          have SN := lH fun w sx nx => ref23_shl (uM f b) (uX f b - rmE f a b).toNat (by omega) mb.2 (uX f b - rmE f a b) (by omega) w sx nx
          have DV := lH fun w sx sy nx ny => ref23_div (rmM f a b) (rmD f a b) n0 (pw_bp (by omega) m1) (pw_bp (by omega) n1) w sx sy nx ny
          have fits := fun ng => rm_fits (m := 0) (ng := ng) f0 hf (by decide) a0 b0 ca2 cb _ rfl
          have hx : rmX f a b = rmR (rmM f a b) (rmD f a b) := rfl
          have hN : rmN f a b = (negF f a != rmC (rmM f a b) (rmD f a b)) := rfl
          have er : rmR (rmM f a b) (rmD f a b) = if rmC (rmM f a b) (rmD f a b) then rmD f a b - rmM f a b % rmD f a b else rmM f a b % rmD f a b := rfl
          have ec : rmC (rmM f a b) (rmD f a b) = decide (rmD f a b < 2 * (rmM f a b % rmD f a b) ∨ (2 * (rmM f a b % rmD f a b) = rmD f a b ∧ rmM f a b / rmD f a b % 2 = 1)) := rfl
          have r0 := Int.emod_nonneg (rmM f a b) (show rmD f a b ≠ 0 by omega)
          have r1 := Int.emod_lt_of_pos (rmM f a b) n0
          have hEE : rmE f a b ≤ 17000 ∧ -17000 ≤ rmE f a b := by unfold rmE; split <;> omega
          obtain ⟨Em, hEm⟩ : ∃ e, rmE f a b = e := ⟨_, rfl⟩
          have mq1 : (if uX f b < uX f a then uX f b else uX f a) = rmE f a b := by unfold rmE; split <;> split <;> omega
          have mq2 : (if uX f a > uX f b then uX f b else uX f a) = rmE f a b := by unfold rmE; split <;> split <;> omega
          rw [hN, hx]
          rw [hx] at fits
          unfold rmM rmD at *
          generalize uM f a * 2 ^ (uX f a - rmE f a b).toNat = A at *
          generalize uM f b * 2 ^ (uX f b - rmE f a b).toNat = B at *
          have S2 := lH fun w (sx : Option Addr × Nat × Nat) (nx : IsNum w (.slice sx.1 sx.2.1 sx.2.2) (A % B)) => ((shl_num nx (pw_small (n := 40000) (by omega) (by omega)) 1 (by omega)).mono fun _ _ => tri19)
          have CM := lH fun w (sx sy : Option Addr × Nat × Nat) (nx : IsNum w (.slice sx.1 sx.2.1 sx.2.2) (A % B * 2 ^ 1)) (ny : IsNum w (.slice sy.1 sy.2.1 sy.2.2) B) => cmp_num nx ny
          have BT := fun w (sx : Option Addr × Nat × Nat) (nx : IsNum w (.slice sx.1 sx.2.1 sx.2.2) (A / B)) => bit_num nx 0 (by decide) (by decide)
          have SB := lH fun w (sx sy : Option Addr × Nat × Nat) (nx : IsNum w (.slice sx.1 sx.2.1 sx.2.2) B) (ny : IsNum w (.slice sy.1 sy.2.1 sy.2.2) (A % B)) => ((sub_num nx ny (pw_small (n := 40000) (by omega) (by omega)) (by omega)).mono fun _ _ => tri19)
          have RD := fun (ng : Bool) (R : Int) (r0 : 0 ≤ R) (r1 : R < 2 ^ 40000) (w : World) (q : Option Addr × Nat × Nat) (h : IsNum w (.slice q.1 q.2.1 q.2.2) R) => ref16_round f 0 false ng R (rmE f a b) false _ f0 f1 (by decide) (by decide) (.inr rfl) (by have := blen_le r0 r1; omega) (by omega) (by omega) w h
          have e2 : A % B * 2 ^ 1 = 2 * (A % B) := by omega
          simp only [bitN_zero] at BT
          by_cases c1 : B < 2 * (A % B)
          · rw [decide_eq_true (.inl c1)] at ec
            rw [ec, if_pos rfl] at er
            rw [er] at fits; rw [ec, er]
            have RT := RD (negF f a != true) (B - A % B) (by omega) (by omega)
            rw [(fits (negF f a != true)).2.2.2.2.2.2 false, show (negF f a != true) = (!negF f a) by cases negF f a <;> rfl] at RT
            rw [show (negF f a != true) = (!negF f a) by cases negF f a <;> rfl]
            exact ref23_yes f (hiOf a) (loOf a) (hiOf b) (loOf b) (clsF f a) (clsF f b) _ _ _ _ _ _ (uX f a) (uX f b) (rmE f a b) (uX f a - rmE f a b) (uX f b - rmE f a b) 0 (cmpI (A % B * 2 ^ 1) B) (uM f a) (uM f b) A B (A / B) (A % B) (A % B * 2 ^ 1) (B - A % B) _ _ false _ _ OA OB G1 (IntWalk.i64_in _ (by omega)) (by unfold wrap64; omega) (IntWalk.i64_in _ (by omega)) (by unfold wrap64; omega) mq1 mq2 (.inr (.inr (.inr (.inr (.inr (⟨d4, d5, F0 (by omega), F0 (by omega), rfl, F0 d3, lH PF, VA, VB, SM, SN, DV, S2, CM, .inl ⟨decide_eq_true (by rw [e2]; have := cmpI_turn B (2 * (A % B)); have := cmpI_lti.2 c1; omega), SB, lH RT⟩⟩)))))) w
          · by_cases c2 : 2 * (A % B) = B
            · by_cases c5 : A / B % 2 = 1
              · rw [decide_eq_true (.inr ⟨c2, c5⟩)] at ec
                rw [ec, if_pos rfl] at er
                rw [er] at fits; rw [ec, er]
                have RT := RD (negF f a != true) (B - A % B) (by omega) (by omega)
                rw [(fits (negF f a != true)).2.2.2.2.2.2 false, show (negF f a != true) = (!negF f a) by cases negF f a <;> rfl] at RT
                rw [show (negF f a != true) = (!negF f a) by cases negF f a <;> rfl]
                rw [decide_eq_true c5] at BT
                exact ref23_yes f (hiOf a) (loOf a) (hiOf b) (loOf b) (clsF f a) (clsF f b) _ _ _ _ _ _ (uX f a) (uX f b) (rmE f a b) (uX f a - rmE f a b) (uX f b - rmE f a b) 0 (cmpI (A % B * 2 ^ 1) B) (uM f a) (uM f b) A B (A / B) (A % B) (A % B * 2 ^ 1) (B - A % B) _ _ false _ _ OA OB G1 (IntWalk.i64_in _ (by omega)) (by unfold wrap64; omega) (IntWalk.i64_in _ (by omega)) (by unfold wrap64; omega) mq1 mq2 (.inr (.inr (.inr (.inr (.inr (⟨d4, d5, F0 (by omega), F0 (by omega), rfl, F0 d3, lH PF, VA, VB, SM, SN, DV, S2, CM, .inr (.inl ⟨decide_eq_false (by rw [e2]; have := cmpI_eqi.2 c2; omega), T0 (by rw [e2]; exact cmpI_eqi.2 c2), lH BT, SB, lH RT⟩)⟩)))))) w
              · rw [decide_eq_false (by omega)] at ec
                rw [ec, if_neg (by decide)] at er
                rw [er] at fits; rw [ec, er]
                have RN := RD (negF f a != false) (A % B) (by omega) (by omega)
                rw [(fits (negF f a != false)).2.2.2.2.2.2 false, show (negF f a != false) = negF f a by cases negF f a <;> rfl] at RN
                rw [show (negF f a != false) = negF f a by cases negF f a <;> rfl]
                rw [decide_eq_false c5] at BT
                exact ref23_yes f (hiOf a) (loOf a) (hiOf b) (loOf b) (clsF f a) (clsF f b) _ _ _ _ _ _ (uX f a) (uX f b) (rmE f a b) (uX f a - rmE f a b) (uX f b - rmE f a b) 0 (cmpI (A % B * 2 ^ 1) B) (uM f a) (uM f b) A B (A / B) (A % B) (A % B * 2 ^ 1) (B - A % B) _ _ false _ _ OA OB G1 (IntWalk.i64_in _ (by omega)) (by unfold wrap64; omega) (IntWalk.i64_in _ (by omega)) (by unfold wrap64; omega) mq1 mq2 (.inr (.inr (.inr (.inr (.inr (⟨d4, d5, F0 (by omega), F0 (by omega), rfl, F0 d3, lH PF, VA, VB, SM, SN, DV, S2, CM, .inr (.inr (.inl ⟨decide_eq_false (by rw [e2]; have := cmpI_eqi.2 c2; omega), T0 (by rw [e2]; exact cmpI_eqi.2 c2), lH BT, lH RN⟩))⟩)))))) w
            · rw [decide_eq_false (by omega)] at ec
              rw [ec, if_neg (by decide)] at er
              rw [er] at fits; rw [ec, er]
              have RN := RD (negF f a != false) (A % B) (by omega) (by omega)
              rw [(fits (negF f a != false)).2.2.2.2.2.2 false, show (negF f a != false) = negF f a by cases negF f a <;> rfl] at RN
              rw [show (negF f a != false) = negF f a by cases negF f a <;> rfl]
              exact ref23_yes f (hiOf a) (loOf a) (hiOf b) (loOf b) (clsF f a) (clsF f b) _ _ _ _ _ _ (uX f a) (uX f b) (rmE f a b) (uX f a - rmE f a b) (uX f b - rmE f a b) 0 (cmpI (A % B * 2 ^ 1) B) (uM f a) (uM f b) A B (A / B) (A % B) (A % B * 2 ^ 1) (B - A % B) _ _ false _ _ OA OB G1 (IntWalk.i64_in _ (by omega)) (by unfold wrap64; omega) (IntWalk.i64_in _ (by omega)) (by unfold wrap64; omega) mq1 mq2 (.inr (.inr (.inr (.inr (.inr (⟨d4, d5, F0 (by omega), F0 (by omega), rfl, F0 d3, lH PF, VA, VB, SM, SN, DV, S2, CM, .inr (.inr (.inr (⟨decide_eq_false (by rw [e2]; have := cmpI_lti.2 (show 2 * (A % B) < B by omega); omega), F0 (by rw [e2]; exact fun z => c2 (cmpI_eqi.1 z)), lH RN⟩)))⟩)))))) w
  · unfold rmB rmFl
    simp only [if_neg hf, if_neg (show ¬ (f < 4 ∧ pickK f (rmI f a b) [a, b] = true) from fun k => hf k.1)]
    exact ref23_no f _ _ _ _ (decide_eq_true (by omega)) w
theorem far23N (f a b : Int) (f0 : 0 ≤ f) (f1 : f ≤ 255) (a0 : 0 ≤ a) (a1 : a < full) (b0 : 0 ≤ b) (b1 : b < full) (hf : f < 4) (w : World) : Calls Tryz.prog 10 #[.int .u8 f, .agg #[.int .u64 (hiOf (a)), .int .u64 (loOf (a))], .agg #[.int .u64 (hiOf (b)), .int .u64 (loOf (b))]] w fun e w' => e = .returned (.bool (decide (600 < uX f a - uX f b))) ∧ Below w.heap.size w w' := by
  have xa := uX_17000 (f := f) f0 hf a0; have xb := uX_17000 (f := f) f0 hf b0
  exact far23 f _ _ _ _ _ _ (uX f a - uX f b) _ _ _ _ (lH (ofS19 f a f0 hf a0 a1)) (lH (ofS19 f b f0 hf b0 b1)) (IntWalk.i64_in _ (by omega)) (by unfold wrap64; omega) w
end Go.Proofs.YtjdjonekoodalaaGreatDoor
