import Derived.Test.YtnlmceafleeaiaaGreatDoorRef21W
import Derived.Test.YtnlmceafleeaiaaGreatDoorGvA
import Derived.Test.YtnlmceafleeaiaaGreatDoorGtD
import Derived.Test.YtnlmceafleeaiaaGreatDoorRest0
set_option maxHeartbeats 1000000
set_option linter.unusedVariables false
set_option linter.unusedSimpArgs false
set_option maxRecDepth 100000
namespace Go.Proofs.YtnlmceafleeaiaaGreatDoor
open Go.RowKit
attribute [local go_sem ↓] Go.wp_at_zero Go.wp_at_succ
theorem len_ex (R : Int) : ∃ LR : Nat, (∀ (w : World) (ao : Option Addr) (k cap : Nat), IsNum w (.slice ao k cap) R → k = LR) ∧ decide (0 < LR) = (R != 0) := by
  by_cases h : ∃ (w : World) (ao : Option Addr) (k cap : Nat), IsNum w (.slice ao k cap) R
  · obtain ⟨w, ao, k, cap, x⟩ := h
    have lp := len_pos x
    refine ⟨k, fun w' ao' k' cap' y => ?_, ?_⟩
    · obtain ⟨_, _, _, ds, e, h1, h2, h3⟩ := x
      obtain ⟨_, _, _, es, e', g1, g2, g3⟩ := y
      cases e; cases e'
      have l1 := norm_len_le g1.2.2.2.1 g3 h1.2.2.2.1 (by omega)
      have l2 := norm_len_le h1.2.2.2.1 h3 g1.2.2.2.1 (by omega)
      have := h1.1; have := g1.1
      omega
    · exact lp
  · refine ⟨if R = 0 then 0 else 1, fun w ao k cap x => absurd ⟨w, ao, k, cap, x⟩ h, ?_⟩
    by_cases z : R = 0
    · rw [if_pos z, z]; rfl
    · rw [if_neg z, show (R != 0) = true from bne_iff_ne.2 z]; rfl
theorem dv_half {M : Int} (M1 : M < 2 ^ 113) : Half M := by
  have h := bp_le (show 4 ≤ 90000 by omega)
  have := two_pow_le (show 113 ≤ 128 by omega)
  rw [full_pow, full_bp] at this
  unfold Half; omega
theorem dv_shl {M : Int} (M0 : 0 ≤ M) (M1 : M < 2 ^ 113) : M * 2 ^ 400 < bp 90000 := by
  have h1 := pow_lt_mul 400 M1
  rw [← Int.pow_add] at h1
  have h2 := bp_le (show 20 ≤ 90000 by omega)
  rw [bp_two 20] at h2
  have := two_pow_le (show 113 + 400 ≤ 32 * 20 by omega)
  omega
theorem ref21_shl (M : Int) (M1 : M < 2 ^ 113) (w : World) (sx : Option Addr × Nat × Nat) (nx : IsNum w (.slice sx.1 sx.2.1 sx.2.2) M) : Calls Tryz.prog 39 #[.slice sx.1 sx.2.1 sx.2.2, .int .i64 400] w fun e' w' => ∃ s : Option Addr × Nat × Nat, e' = .returned (.slice s.1 s.2.1 s.2.2) ∧ IsNum w' (.slice s.1 s.2.1 s.2.2) (M * 2 ^ 400) ∧ Below w.heap.size w w' :=
  (shl_num nx (small_full (by have := two_pow_le (show 113 ≤ 128 by omega); rw [full_pow] at this; omega)) 400 (by omega)).mono fun _ _ => tri19
theorem ref21_div (P K : Int) (LR : Nat) (K0 : 0 < K) (K1 : K < 2 ^ 113) (P1 : P < bp 90000) (hl : ∀ (w : World) (ao : Option Addr) (k cap : Nat), IsNum w (.slice ao k cap) (P % K) → k = LR) (w : World) (sx sy : Option Addr × Nat × Nat) (nx : IsNum w (.slice sx.1 sx.2.1 sx.2.2) P) (ny : IsNum w (.slice sy.1 sy.2.1 sy.2.2) K) : Calls Tryz.prog 38 #[.slice sx.1 sx.2.1 sx.2.2, .slice sy.1 sy.2.1 sy.2.2] w fun e' w' => ∃ v : (Option Addr × Nat × Nat) × (Option Addr × Nat), e' = .returned (.tuple #[.slice v.1.1 v.1.2.1 v.1.2.2, .slice v.2.1 LR v.2.2]) ∧ IsNum w' (.slice v.1.1 v.1.2.1 v.1.2.2) (P / K) ∧ Below w.heap.size w w' := by
  refine (div_num nx ny K0 P1 (dv_half K1)).mono fun e w' hh => ?_
  obtain ⟨vq, vr, he, nq, nr, hb⟩ := hh
  obtain ⟨ao, k, cap, ds, rfl, _⟩ := id nq
  obtain ⟨bo, j, cbp, es, rfl, _⟩ := id nr
  have hj := hl _ _ _ _ nr
  subst hj
  exact ⟨((ao, k, cap), (bo, cbp)), he, nq, hb⟩
theorem ref21_divN (f m : Int) (t : Bool) (a b : Int) (f0 : 0 ≤ f) (f1 : f ≤ 255) (m0 : 0 ≤ m) (m1 : m ≤ 255) (a0 : 0 ≤ a) (a1 : a < full) (b0 : 0 ≤ b) (b1 : b < full) (w : World) : Calls Tryz.prog 11 #[.int .u8 f, .agg #[.int .u8 m, .bool t], .agg #[.int .u64 (hiOf (a)), .int .u64 (loOf (a))], .agg #[.int .u64 (hiOf (b)), .int .u64 (loOf (b))]] w fun e w' => e = .returned (.agg #[.int .u64 (hiOf (dvB f m a b)), .int .u64 (loOf (dvB f m a b)), .int .u8 (dvFl f m t a b)]) ∧ Below w.heap.size w w' := by
  by_cases hf : f < 4
  · have G1 : decide (3 < f) = false := decide_eq_false (by omega)
    by_cases hm : m < 5
    · have G2 : decide (4 < m) = false := decide_eq_false (by omega)
      have FM : f < 4 ∧ m < 5 := ⟨hf, hm⟩
      have OA := lH (ref19_cls f a f0 f1 a0 a1)
      have OB := lH (ref19_cls f b f0 f1 b0 b1)
      have PK : ∀ w, ∀ p T, HB w p T #[.int .u64 (hiOf a), .int .u64 (loOf a), .int .u64 (hiOf b), .int .u64 (loOf b)] → Calls Tryz.prog 34 #[.int .u8 f, .bool (dvI f a b), .slice (some ⟨p, 0, none⟩) 2 2] w fun e w' => e = .returned (.tuple #[.agg #[.int .u64 (hiOf (pickV f (dvI f a b) [a, b])), .int .u64 (loOf (pickV f (dvI f a b) [a, b])), .int .u8 (pickF f (dvI f a b) [a, b])], .bool (pickK f (dvI f a b) [a, b])]) ∧ Below w.heap.size w w' := fun w p T x => ref10_pick f (dvI f a b) (some ⟨p, 0, none⟩) 2 2 [a, b] f0 f1 w (Bs.ofHB [a, b] x rfl (by simp))
      have IN := lH (ref7_inf f (mlN f a b) f0 f1)
      have NM : ∀ w, Calls Tryz.prog 36 #[.int .u8 f, .bool (mlN f a b), .int .i64 0, .slice none 0 0] w fun e w' => e = .returned (.agg #[.int .u64 (hiOf (makeF f (mlN f a b) 0 0)), .int .u64 (loOf (makeF f (mlN f a b) 0 0))]) ∧ Below w.heap.size w w' := fun w => ref7_make f 0 0 (mlN f a b) _ f0 f1 (by decide) (by decide) (small_full (by decide)) w (nil_num w)
      have NO := lH NM
      obtain ⟨LZ, _, lz⟩ := len_ex 0
      have lz : decide (0 < LZ) = false := lz
      have wz : IntKind.i64.wrap ((0 : Int) - 0) = 0 := by decide +kernel
      have wy : wrap64 ((0 : Int) - 0) = 0 := by decide +kernel
      have wx : IntKind.i64.wrap ((0 : Int) - 400) = -400 := by decide +kernel
      have wv : wrap64 ((0 : Int) - 400) = -400 := by decide +kernel
      have ra := cls_range f a; have rb := cls_range f b
      have T0 : ∀ {c v : Int}, c = v → (c == v) = true := fun h => beq_iff_eq.2 h
      have F0 : ∀ {c v : Int}, c ≠ v → (c == v) = false := fun h => beq_eq_false_iff_ne.2 h
      have iy : (clsF f a = 0 ∧ clsF f b = 0) ∨ (clsF f a = 3 ∧ clsF f b = 3) → dvI f a b = true := fun h => by unfold dvI badD; exact decide_eq_true h
      have io : ¬ ((clsF f a = 0 ∧ clsF f b = 0) ∨ (clsF f a = 3 ∧ clsF f b = 3)) → dvI f a b = false := fun h => by unfold dvI badD; exact decide_eq_false h
      cases hp : pickK f (dvI f a b) [a, b] with
      | true =>
        have e1 : dvB f m a b = pickV f (dvI f a b) [a, b] := by unfold dvB; rw [if_pos FM, if_pos hp]
        have e2 : dvFl f m t a b = pickF f (dvI f a b) [a, b] := by unfold dvFl; rw [if_pos FM, if_pos hp]
        rw [hp] at PK
        rw [e1, e2]
        by_cases ca : clsF f a = 0
        · by_cases cb : clsF f b = 0
          · have i := iy (.inl ⟨ca, cb⟩)
            rw [i] at PK ⊢
            exact ref21_div_yes f m _ _ _ _ _ _ _ _ _ 0 0 0 0 0 0 (-400) 0 0 0 0 t _ _ false false true false OA OB G1 G2 LZ lz wz wy wx wv (.inl ⟨lH PK, rfl, T0 ca, T0 cb⟩) w
          · have i := io (by omega)
            rw [i] at PK ⊢
            exact ref21_div_yes f m _ _ _ _ _ _ _ _ _ 0 0 0 0 0 0 (-400) 0 0 0 0 t _ _ false false true false OA OB G1 G2 LZ lz wz wy wx wv (.inr (.inl ⟨lH PK, rfl, T0 ca, F0 cb, F0 (by omega)⟩)) w
        · by_cases c3 : clsF f a = 3
          · by_cases d3 : clsF f b = 3
            · have i := iy (.inr ⟨c3, d3⟩)
              rw [i] at PK ⊢
              exact ref21_div_yes f m _ _ _ _ _ _ _ _ _ 0 0 0 0 0 0 (-400) 0 0 0 0 t _ _ false false true false OA OB G1 G2 LZ lz wz wy wx wv (.inr (.inr (.inl ⟨lH PK, rfl, F0 ca, T0 c3, T0 d3⟩))) w
            · have i := io (by omega)
              rw [i] at PK ⊢
              exact ref21_div_yes f m _ _ _ _ _ _ _ _ _ 0 0 0 0 0 0 (-400) 0 0 0 0 t _ _ false false true false OA OB G1 G2 LZ lz wz wy wx wv (.inr (.inr (.inr (.inl ⟨lH PK, rfl, F0 ca, T0 c3, F0 d3⟩)))) w
          · have i := io (by omega)
            rw [i] at PK ⊢
            exact ref21_div_yes f m _ _ _ _ _ _ _ _ _ 0 0 0 0 0 0 (-400) 0 0 0 0 t _ _ false false true false OA OB G1 G2 LZ lz wz wy wx wv (.inr (.inr (.inr (.inr (.inl ⟨lH PK, rfl, F0 ca, F0 c3⟩))))) w
      | false =>
        obtain ⟨na, nb⟩ := dv_not_nan a0 a1 b0 b1 hf hp
        have hi : dvI f a b = false := by
          cases h : dvI f a b with
          | false => rfl
          | true => rw [h, (pick_inv hf [a, b]).2.2] at hp; exact absurd hp (by decide)
        have hn : ¬ ((clsF f a = 0 ∧ clsF f b = 0) ∨ (clsF f a = 3 ∧ clsF f b = 3)) := fun h => by rw [iy h] at hi; cases hi
        rw [hp, hi] at PK
        by_cases ca : clsF f a = 3
        · have e1 : dvB f m a b = infF f (mlN f a b) := by unfold dvB; rw [if_pos FM, hp, if_neg (by decide), if_pos ca]
          have e2 : dvFl f m t a b = 0 := by unfold dvFl; rw [if_pos FM, hp, if_neg (by decide), if_pos ca]
          rw [e1, e2]
          exact ref21_div_yes f m _ _ _ _ _ _ _ _ _ _ _ _ 0 0 0 (-400) 0 0 0 0 t _ _ false false false false OA OB G1 G2 LZ lz wz wy wx wv (.inr (.inr (.inr (.inr (.inr (.inl ⟨lH PK, rfl, rfl, F0 (by omega), T0 ca, F0 (by omega), IN⟩)))))) w
        · by_cases cn : clsF f b = 3 ∨ clsF f a = 0
          · have e1 : dvB f m a b = makeF f (mlN f a b) 0 0 := by unfold dvB; rw [if_pos FM, hp, if_neg (by decide), if_neg ca, if_pos cn]
            have e2 : dvFl f m t a b = 0 := by unfold dvFl; rw [if_pos FM, hp, if_neg (by decide), if_neg ca, if_pos cn]
            rw [e1, e2]
            by_cases c0 : clsF f a = 0
            · by_cases d3 : clsF f b = 3
              · exact ref21_div_yes f m _ _ _ _ _ _ _ _ _ _ _ _ 0 0 0 (-400) 0 0 0 0 t _ _ false false false false OA OB G1 G2 LZ lz wz wy wx wv (.inr (.inr (.inr (.inr (.inr (.inr (.inl ⟨lH PK, rfl, rfl, T0 c0, F0 (by omega), F0 ca, T0 d3, NO⟩))))))) w
              · exact ref21_div_yes f m _ _ _ _ _ _ _ _ _ _ _ _ 0 0 0 (-400) 0 0 0 0 t _ _ false false false false OA OB G1 G2 LZ lz wz wy wx wv (.inr (.inr (.inr (.inr (.inr (.inr (.inr (.inl ⟨lH PK, rfl, rfl, T0 c0, F0 (by omega), F0 ca, F0 d3, NO⟩)))))))) w
            · exact ref21_div_yes f m _ _ _ _ _ _ _ _ _ _ _ _ 0 0 0 (-400) 0 0 0 0 t _ _ false false false false OA OB G1 G2 LZ lz wz wy wx wv (.inr (.inr (.inr (.inr (.inr (.inr (.inr (.inr (.inl ⟨lH PK, rfl, rfl, F0 c0, F0 ca, T0 (by omega), NO⟩))))))))) w
          · by_cases d0 : clsF f b = 0
            · have e1 : dvB f m a b = infF f (mlN f a b) := by unfold dvB; rw [if_pos FM, hp, if_neg (by decide), if_neg ca, if_neg cn, if_pos d0]
              have e2 : dvFl f m t a b = 2 := by unfold dvFl; rw [if_pos FM, hp, if_neg (by decide), if_neg ca, if_neg cn, if_pos d0]
              rw [e1, e2]
              exact ref21_div_yes f m _ _ _ _ _ _ _ _ _ _ _ _ 0 0 0 (-400) 0 0 0 0 t _ _ false false false false OA OB G1 G2 LZ lz wz wy wx wv (.inr (.inr (.inr (.inr (.inr (.inr (.inr (.inr (.inr (.inl ⟨lH PK, rfl, rfl, F0 (by omega), F0 ca, F0 (by omega), T0 d0, IN⟩)))))))))) w
            · have e1 : dvB f m a b = pkB f m (mlN f a b) (dvE f a b) (dvS f a b) := by unfold dvB; rw [if_pos FM, hp, if_neg (by decide), if_neg ca, if_neg cn, if_neg d0]
              have e2 : dvFl f m t a b = pkFl f m t (mlN f a b) (dvE f a b) (dvS f a b) := by unfold dvFl; rw [if_pos FM, hp, if_neg (by decide), if_neg ca, if_neg cn, if_neg d0]
              have VA := lH (ofS19 f a f0 hf a0 a1)
              have VB := lH (ofS19 f b f0 hf b0 b1)
              have ma := uM_113 f0 hf a; have mb := uM_113 f0 hf b
              have xa := uX_17000 (f := f) f0 hf a0; have xb := uX_17000 (f := f) f0 hf b0
              have qa : clsF f a = 1 ∨ clsF f a = 2 := by omega
              have qb : clsF f b = 1 ∨ clsF f b = 2 := by omega
              obtain ⟨LR, hl, lm⟩ := len_ex (uM f a * 2 ^ 400 % uM f b)
              obtain ⟨x1, x2⟩ := dv_doc (m := m) (ng := mlN f a b) f0 hf a0 b0 qa qb _ (show ((uM f a * 2 ^ 400 % uM f b != 0) = true ↔ _) from bne_iff_ne)
              obtain ⟨_, q0, _⟩ := dv_exact (m := m) (ng := mlN f a b) f0 hf a0 b0 qa qb
              obtain ⟨b0_, _⟩ := um_pos f0 hf b0 qb
              have P1 := dv_shl ma.1 ma.2
              have bl : blen (uM f a * 2 ^ 400 / uM f b) ≤ 100000 := by
                have h1 := Int.ediv_le_self (uM f b) (show 0 ≤ uM f a * 2 ^ 400 from Int.mul_nonneg ma.1 (by decide))
                have h2 := pow_lt_mul 400 ma.2
                rw [← Int.pow_add] at h2
                have := blen_le (show 0 ≤ uM f a * 2 ^ 400 / uM f b by omega) (show uM f a * 2 ^ 400 / uM f b < 2 ^ (113 + 400) by omega)
                omega
              have SH := lH fun w sx nx => ref21_shl (uM f a) ma.2 w sx nx
              have DV := lH fun w sx sy nx ny => ref21_div (uM f a * 2 ^ 400) (uM f b) LR b0_ mb.2 P1 hl w sx sy nx ny
              have RD := lH fun w (q : Option Addr × Nat × Nat) (h : IsNum w (.slice q.1 q.2.1 q.2.2) (uM f a * 2 ^ 400 / uM f b)) => ref16_round f m t (mlN f a b) (uM f a * 2 ^ 400 / uM f b) (uX f a - uX f b - 400) (uM f a * 2 ^ 400 % uM f b != 0) _ f0 f1 m0 m1 (.inl q0) bl (by omega) (by omega) w h
              rw [x1, x2] at RD
              rw [e1, e2]
              exact ref21_div_yes f m _ _ _ _ _ _ _ _ _ _ _ _ (uX f a) (uX f b) (uX f a - uX f b) (uX f a - uX f b - 400) _ _ _ _ t _ _ _ _ false _ OA OB G1 G2 LR lm (IntWalk.i64_in _ (by omega)) (by unfold wrap64; omega) (IntWalk.i64_in _ (by omega)) (by unfold wrap64; omega) (.inr (.inr (.inr (.inr (.inr (.inr (.inr (.inr (.inr (.inr (⟨lH PK, rfl, F0 (by omega), F0 ca, F0 (by omega), F0 d0, VA, VB, SH, DV, RD⟩))))))))))) w
    · unfold dvB dvFl
      simp only [if_neg (show ¬ (f < 4 ∧ m < 5) from fun k => hm k.2)]
      exact ref21_div_no2 f m _ _ _ _ t G1 (decide_eq_true (by omega)) w
  · unfold dvB dvFl
    simp only [if_neg (show ¬ (f < 4 ∧ m < 5) from fun k => hf k.1)]
    exact ref21_div_no1 f m _ _ _ _ t (decide_eq_true (by omega)) w
end Go.Proofs.YtnlmceafleeaiaaGreatDoor
