/-
  The document's answers of stage 18.
-/
import Derived.Test.YtnaamckhignjeaaGreatDoorRef18W
import Derived.Test.YtnaamckhignjeaaGreatDoorRef18A
import Derived.Test.YtnaamckhignjeaaGreatDoorRef16
import Derived.Test.YtnaamckhignjeaaGreatDoorAdd18M
set_option linter.unusedVariables false
set_option linter.unusedSimpArgs false
set_option maxRecDepth 100000
namespace Go.Proofs.YtnaamckhignjeaaGreatDoor
open Go.RowKit
attribute [local go_sem ↓] Go.wp_at_zero Go.wp_at_succ

def rfE (xa xb : Int) : Int := if xb < xa then xb else xa
def rfX (M xa e : Int) : Int := M * 2 ^ (xa - e).toNat
def rfQ (sa sb : Bool) (X Y : Int) : Int := if sa = sb then X + Y else if X < Y then Y - X else X - Y
def rfN (sa sb : Bool) (X Y : Int) : Bool := if sa = sb then sa else if X < Y then sb else sa
theorem rf_range {M xa e : Int} (M0 : 0 ≤ M) (M1 : M < 2 ^ 113) (h : xa - e ≤ 34000) : 0 ≤ rfX M xa e ∧ rfX M xa e < 2 ^ 34113 := by
  have hp := two_pow_pos (xa - e).toNat
  refine ⟨Int.mul_nonneg M0 (by omega), ?_⟩
  have a := pow_lt_mul (xa - e).toNat M1
  rw [← Int.pow_add] at a
  have := two_pow_le (show 113 + (xa - e).toNat ≤ 34113 by omega)
  unfold rfX; omega
theorem rf_small {x : Int} (h0 : 0 ≤ x) (h1 : x < 2 ^ 34113) : Small x := small_len h0 (by have := blen_le h0 h1; omega)
set_option maxHeartbeats 1000000 in
theorem ref18_sumN (sa sb : Bool) (M N xa xb : Int) (M0 : 0 ≤ M) (M1 : M < 2 ^ 113) (N0 : 0 ≤ N) (N1 : N < 2 ^ 113) (x0 : -17000 ≤ xa) (x1 : xa ≤ 17000) (y0 : -17000 ≤ xb) (y1 : xb ≤ 17000) (sx sy : Option Addr × Nat × Nat) (w : World) (nx : IsNum w (.slice sx.1 sx.2.1 sx.2.2) M) (ny : IsNum w (.slice sy.1 sy.2.1 sy.2.2) N) : Calls Tryz.prog 88 #[.agg #[.bool sa, .slice sx.1 sx.2.1 sx.2.2, .int .i64 xa], .agg #[.bool sb, .slice sy.1 sy.2.1 sy.2.2, .int .i64 xb]] w fun e' w' => ∃ q : Option Addr × Nat × Nat, e' = .returned (.agg #[.bool ((rfN sa sb (rfX M xa (rfE xa xb)) (rfX N xb (rfE xa xb)))), .slice q.1 q.2.1 q.2.2, .int .i64 ((rfE xa xb))]) ∧ IsNum w' (.slice q.1 q.2.1 q.2.2) ((rfQ sa sb (rfX M xa (rfE xa xb)) (rfX N xb (rfE xa xb)))) ∧ Below w.heap.size w w' := by
  have hE : rfE xa xb ≤ xa ∧ rfE xa xb ≤ xb ∧ -17000 ≤ rfE xa xb := by unfold rfE; split <;> omega
  obtain ⟨ka, hka⟩ : ∃ ka : Nat, xa - rfE xa xb = ka := ⟨(xa - rfE xa xb).toNat, by omega⟩
  obtain ⟨kb, hkb⟩ : ∃ kb : Nat, xb - rfE xa xb = kb := ⟨(xb - rfE xa xb).toNat, by omega⟩
  obtain ⟨X0, X1⟩ := rf_range (e := rfE xa xb) M0 M1 (show xa - rfE xa xb ≤ 34000 by omega)
  obtain ⟨Y0, Y1⟩ := rf_range (e := rfE xa xb) N0 N1 (show xb - rfE xa xb ≤ 34000 by omega)
  have sX := rf_small X0 X1; have sY := rf_small Y0 Y1
  have sm : ∀ n : Int, n < 2 ^ 113 → Small n := fun n h => small_full (by
    have := two_pow_le (show 113 ≤ 128 by omega)
    rw [full_pow] at this; omega)
  have q1 : (if xb < xa then xb else xa) = rfE xa xb := rfl
  have W1 := Lib.hid (show IntKind.i64.wrap (xa - rfE xa xb) = ka ∧ wrap64 (xa - rfE xa xb) = ka from ⟨by rw [IntWalk.i64_in _ (by omega)]; exact hka, by unfold wrap64; omega⟩)
  have W2 := Lib.hid (show IntKind.i64.wrap (xb - rfE xa xb) = kb ∧ wrap64 (xb - rfE xa xb) = kb from ⟨by rw [IntWalk.i64_in _ (by omega)]; exact hkb, by unfold wrap64; omega⟩)
  have eX : M * 2 ^ ka = rfX M xa (rfE xa xb) := by unfold rfX; rw [hka]; rfl
  have eY : N * 2 ^ kb = rfX N xb (rfE xa xb) := by unfold rfX; rw [hkb]; rfl
  have S1 := Lib.hid fun w v (h : IsNum w v M) => shl_num h (sm M M1) ka (by omega)
  have S2 := Lib.hid fun w v (h : IsNum w v N) => shl_num h (sm N N1) kb (by omega)
  rw [eX] at S1
  rw [eY] at S2
  generalize rfX M xa (rfE xa xb) = X at *
  generalize rfX N xb (rfE xa xb) = Y at *
  generalize rfE xa xb = em at *
  unfold rfN rfQ
  by_cases hs : sa = sb
  · rw [if_pos hs, if_pos hs]
    exact ref18_sum_same sx sy xa xb em ka kb M N X Y (X + Y) sa sb q1 q1 W1.out.1 W1.out.2 W2.out.1 W2.out.2 S1 S2 (by simp [hs]) (Lib.hid fun w u v hu hv => (add_num hu hv sX sY).mono fun _ _ => tri18) w nx ny
  · rw [if_neg hs, if_neg hs]
    have gs : (sa == sb) = false := by simp [hs]
    have CM := Lib.hid fun w u v (hu : IsNum w u X) (hv : IsNum w v Y) => cmp_num hu hv
    by_cases hl : X < Y
    · rw [if_pos hl, if_pos hl]
      exact ref18_sum_lt sx sy xa xb em ka kb M N X Y (Y - X) _ sa sb q1 q1 W1.out.1 W1.out.2 W2.out.1 W2.out.2 S1 S2 gs CM (decide_eq_true (cmpI_lti.2 hl)) (Lib.hid fun w u v hu hv => (sub_num hu hv sY (by omega)).mono fun _ _ => tri18) w nx ny
    · rw [if_neg hl, if_neg hl]
      exact ref18_sum_ge sx sy xa xb em ka kb M N X Y (X - Y) _ sa sb q1 q1 W1.out.1 W1.out.2 W2.out.1 W2.out.2 S1 S2 gs CM (decide_eq_false (fun k => hl (cmpI_lti.1 k))) (Lib.hid fun w u v hu hv => (sub_num hu hv sX (by omega)).mono fun _ _ => tri18) w nx ny
theorem rfQ_range {sa sb : Bool} {X Y : Int} (X0 : 0 ≤ X) (X1 : X < 2 ^ 34113) (Y0 : 0 ≤ Y) (Y1 : Y < 2 ^ 34113) : 0 ≤ rfQ sa sb X Y ∧ blen (rfQ sa sb X Y) ≤ 100000 := by
  have e2 : (2 : Int) ^ 34114 = 2 ^ 34113 * 2 := Int.pow_succ ..
  generalize (2 : Int) ^ 34113 = P at *
  have r : 0 ≤ rfQ sa sb X Y ∧ rfQ sa sb X Y < 2 ^ 34114 := by
    rw [e2]; unfold rfQ; repeat' split
    all_goals omega
  exact ⟨r.1, by have := blen_le r.1 r.2; omega⟩
theorem ref18_signedN (f m : Int) (t : Bool) (sa sb : Bool) (M N xa xb : Int) (f0 : 0 ≤ f) (f1 : f ≤ 255) (m0 : 0 ≤ m) (m1 : m ≤ 255) (M0 : 0 ≤ M) (M1 : M < 2 ^ 113) (N0 : 0 ≤ N) (N1 : N < 2 ^ 113) (x0 : -17000 ≤ xa) (x1 : xa ≤ 17000) (y0 : -17000 ≤ xb) (y1 : xb ≤ 17000) (sx sy : Option Addr × Nat × Nat) (w : World) (nx : IsNum w (.slice sx.1 sx.2.1 sx.2.2) M) (ny : IsNum w (.slice sy.1 sy.2.1 sy.2.2) N) : ∀ X Y E Q n, rfX M xa (rfE xa xb) = X → rfX N xb (rfE xa xb) = Y → rfE xa xb = E → rfQ sa sb X Y = Q → (if Q = 0 then noM m sa sb else rfN sa sb X Y) = n → Calls Tryz.prog 42 #[.int .u8 f, .agg #[.int .u8 m, .bool t], .agg #[.bool sa, .slice sx.1 sx.2.1 sx.2.2, .int .i64 xa], .agg #[.bool sb, .slice sy.1 sy.2.1 sy.2.2, .int .i64 xb]] w fun e w' => e = .returned (.agg #[.int .u64 (hiOf (dcB f m n Q E false)), .int .u64 (loOf (dcB f m n Q E false)), .int .u8 (dcFl f m t n Q E false)]) ∧ Below w.heap.size w w' := by
  intro X Y E Q n hX hY hE hQ hn
  have hE2 : rfE xa xb ≤ xa ∧ rfE xa xb ≤ xb ∧ -17000 ≤ rfE xa xb := by unfold rfE; split <;> omega
  obtain ⟨X0, X1⟩ := rf_range (e := rfE xa xb) M0 M1 (show xa - rfE xa xb ≤ 34000 by omega)
  obtain ⟨Y0, Y1⟩ := rf_range (e := rfE xa xb) N0 N1 (show xb - rfE xa xb ≤ 34000 by omega)
  have SU := Lib.hid fun w nx ny => ref18_sumN sa sb M N xa xb M0 M1 N0 N1 x0 x1 y0 y1 sx sy w nx ny
  rw [hX, hY, hE, hQ] at SU
  rw [hX] at X0 X1
  rw [hY] at Y0 Y1
  obtain ⟨Q0, Q1⟩ := rfQ_range (sa := sa) (sb := sb) X0 X1 Y0 Y1
  rw [hQ] at Q0 Q1
  have RD := Lib.hid fun w (q : Option Addr × Nat × Nat) (h : IsNum w (.slice q.1 q.2.1 q.2.2) Q) => ref16_round f m t n Q E false _ f0 f1 m0 m1 (.inr rfl) Q1 (by omega) (by omega) w h
  by_cases z : Q = 0
  · rw [if_pos z] at hn
    rw [← hn] at RD ⊢
    exact ref18_signed_z sx sy f m xa xb E M N Q _ _ _ t sa sb _ SU RD (by simp [z]) w nx ny
  · rw [if_neg z] at hn
    rw [← hn] at RD ⊢
    exact ref18_signed_nz sx sy f m xa xb E M N Q _ _ _ t sa sb _ SU RD (by simp [z]) w nx ny
theorem ofS18 (f b : Int) (f0 : 0 ≤ f) (hf : f < 4) (b0 : 0 ≤ b) (b1 : b < full) (w : World) : Calls Tryz.prog 41 #[.int .u8 f, .agg #[.int .u64 (hiOf (b)), .int .u64 (loOf (b))]] w fun e' w' => ∃ q : Option Addr × Nat × Nat, e' = .returned (.agg #[.bool ((negF f b)), .slice q.1 q.2.1 q.2.2, .int .i64 ((uX f b))]) ∧ IsNum w' (.slice q.1 q.2.1 q.2.2) ((uM f b)) ∧ Below w.heap.size w w' := by
  have h := ref9_of f b f0 hf w
  rw [Int.emod_eq_of_lt b0 b1] at h
  refine h.mono fun e w' hh => ?_
  obtain ⟨v, he, nv, hb⟩ := hh
  obtain ⟨ao, k, cap, ds, rfl, _⟩ := id nv
  exact ⟨(ao, k, cap), he, nv, hb⟩
theorem ref18_cls (f b : Int) (f0 : 0 ≤ f) (f1 : f ≤ 255) (b0 : 0 ≤ b) (b1 : b < full) (w : World) : Calls Tryz.prog 38 #[.int .u8 f, .agg #[.int .u64 (hiOf (b)), .int .u64 (loOf (b))]] w fun e w' => e = .returned (.tuple #[.int .u8 (clsF f b), .bool (negF f b)]) ∧ Below w.heap.size w w' := by
  have h := ref8_of f b f0 f1 w
  rw [Int.emod_eq_of_lt b0 b1] at h
  exact h
theorem uM_range {f : Int} (f0 : 0 ≤ f) (hf : f < 4) (b : Int) : 0 ≤ uM f b ∧ uM f b < 2 ^ 113 := by
  obtain ⟨p0, p1, p2, p3, p4, p5, p6, p7, p8⟩ := f_nums f0 hf
  obtain ⟨r0, r1⟩ := frac_range (b := b) f0 hf
  have tp := pow_top (show 1 ≤ fP f by omega)
  have := two_pow_le p8
  unfold uM; split <;> omega
theorem uX_range {f b : Int} (f0 : 0 ≤ f) (hf : f < 4) (b0 : 0 ≤ b) : -17000 ≤ uX f b ∧ uX f b ≤ 17000 := by
  obtain ⟨p0, p1, p2, p3, p4, p5, p6, p7, p8⟩ := f_nums f0 hf
  obtain ⟨x0, x1, x2, x3⟩ := exp_range f0 hf b0
  unfold uX; split <;> omega
theorem ad_not_nan {f a b : Int} (a0 : 0 ≤ a) (a1 : a < full) (b0 : 0 ≤ b) (b1 : b < full) (hf : f < 4) (ca : clsF f a ≠ 3) (cb : clsF f b ≠ 3) (hp : pickK f false [a, b] = false) : clsF f a ≤ 2 ∧ clsF f b ≤ 2 := by
  unfold pickK anyN at hp
  rw [decide_eq_true hf] at hp
  simp only [Bool.true_and, Bool.false_or, List.any_cons, List.any_nil, Bool.or_false, Bool.or_eq_false_iff, Int.emod_eq_of_lt a0 a1, Int.emod_eq_of_lt b0 b1] at hp
  unfold nanF at hp
  have h1 := of_decide_eq_false hp.1
  have h2 := of_decide_eq_false hp.2
  omega
/-- The document's exact sum is the same. -/
theorem rf_exact {f a b : Int} {s : Bool} (f0 : 0 ≤ f) (hf : f < 4) (a0 : 0 ≤ a) (b0 : 0 ≤ b) (ca : clsF f a ≤ 2) (cb : clsF f b ≤ 2) (m : Int) : ∀ X Y E, rfE (uX f a) (uX f b) = E → rfX (uM f a) (uX f a) E = X → rfX (uM f b) (uX f b) E = Y →
    adB f m a b s = adB f m a b s ∧ adX f a b s = rfQ (negF f a) s X Y * 2 ^ (E + 1099511628031).toNat ∧ (rfQ (negF f a) s X Y = 0 ↔ adX f a b s = 0) ∧ (rfQ (negF f a) s X Y ≠ 0 → rfN (negF f a) s X Y = adT f a b s) ∧ -17000 ≤ E := by
  intro X Y E hE hX hY
  obtain ⟨p0, p1, p2, p3, p4, p5, p6, p7, p8⟩ := f_nums f0 hf
  obtain ⟨va, ma0, ma1, xa0, xa1⟩ := vF_val f0 hf a0 ca
  obtain ⟨vb, mb0, mb1, xb0, xb1⟩ := vF_val f0 hf b0 cb
  have hE2 : E ≤ uX f a ∧ E ≤ uX f b ∧ -17000 ≤ E := by rw [← hE]; unfold rfE; split <;> omega
  have hp := two_pow_pos (E + 1099511628031).toNat
  have eA : vF f a = X * 2 ^ (E + 1099511628031).toNat := by
    rw [va, ← hX]; unfold rfX; rw [Int.mul_assoc, ← Int.pow_add]; congr 2; omega
  have eB : vF f b = Y * 2 ^ (E + 1099511628031).toNat := by
    rw [vb, ← hY]; unfold rfX; rw [Int.mul_assoc, ← Int.pow_add]; congr 2; omega
  have lt : vF f a < vF f b ↔ X < Y := by rw [eA, eB]; exact Int.mul_lt_mul_right hp
  have eX : adX f a b s = rfQ (negF f a) s X Y * 2 ^ (E + 1099511628031).toNat := by
    unfold adX rfQ
    by_cases h : negF f a = s
    · rw [if_pos h, if_pos h, eA, eB, Int.add_mul]
    · rw [if_neg h, if_neg h]
      by_cases l : X < Y
      · rw [if_pos (lt.2 l), if_pos l, eA, eB, Int.sub_mul]
      · rw [if_neg (fun k => l (lt.1 k)), if_neg l, eA, eB, Int.sub_mul]
  refine ⟨rfl, eX, ?_, ?_, hE2.2.2⟩
  · rw [eX, Int.mul_eq_zero]
    exact ⟨.inl, fun h => h.resolve_right (pow_pos' _)⟩
  · intro _
    unfold rfN adT
    have c : cmpT (uE f a) (uS f a * full) (uE f b) (uS f b * full) < 0 ↔ X < Y := by rw [cmpT_base, cmpI_lti]; exact lt
    by_cases h : negF f a = s
    · rw [if_pos h, if_pos h]
    · rw [if_neg h, if_neg h]
      by_cases l : X < Y
      · rw [if_pos l, if_pos (c.2 l)]
      · rw [if_neg l, if_neg (fun k => l (c.1 k))]
theorem rf_add {f m a b : Int} {s : Bool} (f0 : 0 ≤ f) (hf : f < 4) (a0 : 0 ≤ a) (b0 : 0 ≤ b) (ca : clsF f a ≤ 2) (cb : clsF f b ≤ 2) : ∀ X Y E Q n, rfE (uX f a) (uX f b) = E → rfX (uM f a) (uX f a) E = X → rfX (uM f b) (uX f b) E = Y → rfQ (negF f a) s X Y = Q → (if Q = 0 then noM m (negF f a) s else rfN (negF f a) s X Y) = n →
    dcB f m n Q E false = pkB f m (adN f m a b s) (adE f a b s) (adS f a b s) ∧ ∀ t, dcFl f m t n Q E false = pkFl f m t (adN f m a b s) (adE f a b s) (adS f a b s) := by
  intro X Y E Q n hE hX hY hQ hn
  obtain ⟨_, eX, ez, en, hE2⟩ := rf_exact (s := s) f0 hf a0 b0 ca cb m X Y E hE hX hY
  obtain ⟨d1, d2, d3⟩ := ad_exact (m := m) (ng := adN f m a b s) (s := s) f0 a0 b0
  have q0 : 0 ≤ Q := by
    have h := (adX_range s f0 a0 b0).1
    rw [eX, hQ] at h
    exact Int.nonneg_of_mul_nonneg_left h (two_pow_pos _)
  have nn : n = adN f m a b s := by
    rw [← hn]; unfold adN
    rw [hQ] at ez en
    by_cases z : Q = 0
    · rw [if_pos z, if_pos (d3.2 (ez.1 z))]
    · rw [if_neg z, if_neg (fun k => z (ez.2 (d3.1 k)))]; exact en z
  have sc := dc_scale (f := f) (m := m) (E := E) (ng := adN f m a b s) (E + 1099511628031).toNat q0
  rw [show E - (((E + 1099511628031).toNat : Nat) : Int) = -1099511628031 by omega, ← hQ, ← eX] at sc
  rw [nn, d1, ← hQ]
  exact ⟨sc.1.symm, fun t => by rw [d2]; exact (sc.2 t).symm⟩
set_option maxHeartbeats 1000000 in
theorem ref18_addN (f m : Int) (t : Bool) (a b : Int) (tn : Bool) (f0 : 0 ≤ f) (f1 : f ≤ 255) (m0 : 0 ≤ m) (m1 : m ≤ 255) (a0 : 0 ≤ a) (a1 : a < full) (b0 : 0 ≤ b) (b1 : b < full) (w : World) : ∀ s, (!(negF f b == tn)) = s → Calls Tryz.prog 12 #[.int .u8 f, .agg #[.int .u8 m, .bool t], .agg #[.int .u64 (hiOf (a)), .int .u64 (loOf (a))], .agg #[.int .u64 (hiOf (b)), .int .u64 (loOf (b))], .bool tn] w fun e w' => e = .returned (.agg #[.int .u64 (hiOf (adB f m a b s)), .int .u64 (loOf (adB f m a b s)), .int .u8 (adFl f m t a b s)]) ∧ Below w.heap.size w w' := by
  intro s hs
  by_cases hf : f < 4
  · have G1 : decide (3 < f) = false := decide_eq_false (by omega)
    by_cases hm : m < 5
    · have G2 : decide (4 < m) = false := decide_eq_false (by omega)
      have OA := Lib.hid (ref18_cls f a f0 f1 a0 a1)
      have OB := Lib.hid (ref18_cls f b f0 f1 b0 b1)
      have PK : ∀ i w, ∀ p T, HB w p T #[.int .u64 (hiOf a), .int .u64 (loOf a), .int .u64 (hiOf b), .int .u64 (loOf b)] → Calls Tryz.prog 39 #[.int .u8 f, .bool i, .slice (some ⟨p, 0, none⟩) 2 2] w fun e w' => e = .returned (.tuple #[.agg #[.int .u64 (hiOf (pickV f i [a, b])), .int .u64 (loOf (pickV f i [a, b])), .int .u8 (pickF f i [a, b])], .bool (pickK f i [a, b])]) ∧ Below w.heap.size w w' := fun i w p T x => ref10_pick f i (some ⟨p, 0, none⟩) 2 2 [a, b] f0 f1 w (Bs.ofHB [a, b] x rfl (by simp))
      unfold adB adFl
      simp only [if_pos (show f < 4 ∧ m < 5 from ⟨hf, hm⟩)]
      by_cases ca : clsF f a = 3
      · have ga : (clsF f a == 3) = true := beq_iff_eq.2 ca
        by_cases cb : clsF f b = 3
        · have gb : (clsF f b == 3) = true := beq_iff_eq.2 cb
          have ii : adI f a b s = (!(negF f a == s)) := by unfold adI; rw [ca, cb]; cases negF f a <;> cases s <;> rfl
          rw [ii]
          have P2 := PK (!(negF f a == s))
          cases hp : pickK f (!(negF f a == s)) [a, b] with
          | true =>
            rw [hp] at P2
            simp only [if_pos (rfl : true = true)]
            exact ref18_add_C f m _ _ _ _ _ _ _ _ _ 0 0 0 0 0 0 0 t tn _ _ s true false false OA OB G1 G2 hs ga gb (Lib.hid P2) (.inl rfl) w
          | false =>
            rw [hp] at P2
            simp only [if_neg (show ¬ (false = true) by decide), if_pos ca]
            exact ref18_add_C f m _ _ _ _ _ _ _ _ _ _ _ 0 0 0 0 0 t tn _ _ s false false false OA OB G1 G2 hs ga gb (Lib.hid P2) (.inr ⟨rfl, rfl, Lib.hid (ref7_inf f (negF f a) f0 f1)⟩) w
        · have gb : (clsF f b == 3) = false := beq_eq_false_iff_ne.2 cb
          have ii : adI f a b s = false := by unfold adI; exact decide_eq_false (fun k => cb k.2.1)
          rw [ii]
          have P2 := PK false
          cases hp : pickK f false [a, b] with
          | true =>
            rw [hp] at P2
            simp only [if_pos (rfl : true = true)]
            exact ref18_add_B f m _ _ _ _ _ _ _ _ _ 0 0 0 0 0 0 0 t tn _ _ s true false false OA OB G1 G2 hs ga gb (Lib.hid P2) (.inl rfl) w
          | false =>
            rw [hp] at P2
            simp only [if_neg (show ¬ (false = true) by decide), if_pos ca]
            exact ref18_add_B f m _ _ _ _ _ _ _ _ _ _ _ 0 0 0 0 0 t tn _ _ s false false false OA OB G1 G2 hs ga gb (Lib.hid P2) (.inr ⟨rfl, rfl, Lib.hid (ref7_inf f (negF f a) f0 f1)⟩) w
      · have ga : (clsF f a == 3) = false := beq_eq_false_iff_ne.2 ca
        have ii : adI f a b s = false := by unfold adI; exact decide_eq_false (fun k => ca k.1)
        rw [ii]
        have P2 := PK false
        have VA := Lib.hid (ofS18 f a f0 hf a0 a1)
        have VB := Lib.hid (ofS18 f b f0 hf b0 b1)
        obtain ⟨p0, p1, p2, p3, p4, p5, p6, p7, p8⟩ := f_nums f0 hf
        have SG := Lib.hid fun w sx sy nx ny => ref18_signedN f m t (negF f a) s (uM f a) (uM f b) (uX f a) (uX f b) f0 f1 m0 m1 (uM_range f0 hf a).1 (uM_range f0 hf a).2 (uM_range f0 hf b).1 (uM_range f0 hf b).2 (uX_range f0 hf a0).1 (uX_range f0 hf a0).2 (uX_range f0 hf b0).1 (uX_range f0 hf b0).2 sx sy w nx ny _ _ _ _ _ rfl rfl rfl rfl rfl
        cases hp : pickK f false [a, b] with
        | true =>
          rw [hp] at P2
          simp only [if_pos (rfl : true = true)]
          exact ref18_add_A f m _ _ _ _ _ _ _ _ _ 0 0 0 0 0 0 0 t tn _ _ s true false false OA OB G1 G2 hs ga (Lib.hid P2) (.inl rfl) w
        | false =>
          rw [hp] at P2
          simp only [if_neg (show ¬ (false = true) by decide), if_neg ca]
          by_cases cb : clsF f b = 3
          · have gb : (clsF f b == 3) = true := beq_iff_eq.2 cb
            simp only [if_pos cb]
            exact ref18_add_A f m _ _ _ _ _ _ _ _ _ _ _ 0 0 0 0 0 t tn _ _ s false false false OA OB G1 G2 hs ga (Lib.hid P2) (.inr (.inl ⟨rfl, gb, rfl, Lib.hid (ref7_inf f s f0 f1)⟩)) w
          · have gb : (clsF f b == 3) = false := beq_eq_false_iff_ne.2 cb
            simp only [if_neg cb]
            have c4 : clsF f a ≤ 2 ∧ clsF f b ≤ 2 := ad_not_nan a0 a1 b0 b1 hf ca cb hp
            obtain ⟨r1, r2⟩ := rf_add (m := m) (s := s) f0 hf a0 b0 c4.1 c4.2 _ _ _ _ _ rfl rfl rfl rfl rfl
            rw [r1, r2] at SG
            exact ref18_add_A f m _ _ _ _ _ _ _ _ _ _ _ _ _ _ _ _ t tn _ _ s false _ _ OA OB G1 G2 hs ga (Lib.hid P2) (.inr (.inr ⟨rfl, gb, VA, VB, SG⟩)) w
    · unfold adB adFl
      simp only [if_neg (show ¬ (f < 4 ∧ m < 5) from fun k => hm k.2)]
      exact ref18_add_no2 f m _ _ _ _ t tn G1 (decide_eq_true (by omega)) w
  · unfold adB adFl
    simp only [if_neg (show ¬ (f < 4 ∧ m < 5) from fun k => hf k.1)]
    exact ref18_add_no1 f m _ _ _ _ t tn (decide_eq_true (by omega)) w


end Go.Proofs.YtnaamckhignjeaaGreatDoor
