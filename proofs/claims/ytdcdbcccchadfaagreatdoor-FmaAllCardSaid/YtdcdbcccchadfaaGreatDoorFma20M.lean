import Derived.Test.YtdcdbcccchadfaaGreatDoorMul19M
import Derived.Test.YtdcdbcccchadfaaGreatDoorAdd18M
set_option linter.unusedVariables false
set_option linter.unusedSimpArgs false
set_option maxRecDepth 100000
namespace Go.Proofs.YtdcdbcccchadfaaGreatDoor
open Go.RowKit
attribute [local go_sem ↓] Go.wp_at_zero Go.wp_at_succ
def roomM (x : Int) : Prop := 0 ≤ x ∧ x < wfull ∧ x % 4 = 0 ∧ (x = 0 ∨ 2 ^ 254 ≤ x)
theorem room_m {x : Int} (h : room x) : roomM x := by
  refine ⟨h.1, h.2.1, room_four h, h.2.2.2.imp id fun k => ?_⟩
  have := two_pow_le (show 254 ≤ 255 by omega)
  omega
theorem base_bigM {e x : Int} (h : 2 ^ 254 ≤ x) : 2 ^ (254 + (clT e + 1099511627776).toNat) ≤ baseT e x := pow_ge h _
theorem dc_sumM {f m e x g y : Int} {ng : Bool} (f0 : 0 ≤ f) (hx : roomM x) (hy : roomM y) (he : clT e < 1099511627776) (hg : clT g < 1099511627776) :
    pkB f m ng (levT e x g y + 1) (sumT e x g y) = dcB f m ng (baseT e x + baseT g y) (-1099511628031) false ∧ (∀ t, pkFl f m t ng (levT e x g y + 1) (sumT e x g y) = dcFl f m t ng (baseT e x + baseT g y) (-1099511628031) false) ∧ (sumT e x g y = 0 ↔ baseT e x + baseT g y = 0) := by
  have sj := sum_jam (e := e) (g := g) hx.2.2.1 hy.2.2.1
  obtain ⟨s0, s1⟩ := sum_range (e := e) (g := g) hx.1 hx.2.1 hy.1 hy.2.1
  have lr := lev_range e x g y
  have lt := lev_lt (x := x) (y := y) he hg
  have px := base_nonneg (e := e) hx.1
  have py := base_nonneg (e := g) hy.1
  have r1 := clT_range e; have r2 := clT_range g
  have p8 := fP_le f0
  obtain ⟨d1, d2⟩ := dc_pk (f := f) (m := m) (exp := levT e x g y + 1) (x := sumT e x g y) (ng := ng) f0 s0 s1
  rw [clip_id (by omega) (by omega)] at d1 d2
  by_cases h0 : x ≠ 0 ∨ y ≠ 0
  · have big : 2 ^ (254 + (levT e x g y + 1099511627776).toNat) ≤ baseT e x + baseT g y := by
      rcases lev_top (e := e) (g := g) h0 with ⟨h, z⟩ | ⟨h, z⟩
      · have := base_bigM (e := e) (hx.2.2.2.resolve_left z); rw [h]; omega
      · have := base_bigM (e := g) (hy.2.2.2.resolve_left z); rw [h]; omega
    have bl := blen_above big
    have qp : 0 < baseT e x + baseT g y := by have := two_pow_pos (254 + (levT e x g y + 1099511627776).toNat); omega
    have J := dc_jam (f := f) (m := m) (ng := ng) (E := -1099511628031) (levT e x g y + 1 + 1099511627776).toNat qp (by omega)
    rw [← sj, show (-1099511628031 : Int) + ((levT e x g y + 1 + 1099511627776).toNat : Int) = levT e x g y + 1 - 255 by omega] at J
    refine ⟨d1.symm.trans J.1, fun t => (d2 t).symm.trans (J.2 t), ?_⟩
    rw [sj]; exact jam_zero (by omega) _
  · have zx : x = 0 := by omega
    have zy : y = 0 := by omega
    have b : baseT e x + baseT g y = 0 := by rw [base_zero.2 zx, base_zero.2 zy]; rfl
    have s : sumT e x g y = 0 := by rw [sj, b]; exact jam_nought _
    rw [s] at d1 d2 ⊢
    rw [b]
    rw [dc_zero.1] at d1 ⊢
    exact ⟨d1.symm, fun t => by rw [← d2 t, dc_zero.2, dc_zero.2], by simp⟩
theorem al_near {e x L : Int} (x4 : x % 4 = 0) (h0 : clT e ≤ L) (h2 : L ≤ clT e + 2) : alT e x L * 2 ^ (L + 1099511627776).toNat = baseT e x := by
  have r := clT_range e
  obtain ⟨n, hn⟩ : ∃ n : Nat, L - clT e = n := ⟨(L - clT e).toNat, by omega⟩
  have n2 : n ≤ 2 := by omega
  unfold alT baseT
  rw [hn, Int.toNat_natCast, show (L + 1099511627776).toNat = n + (clT e + 1099511627776).toNat by omega, Int.pow_add, ← Int.mul_assoc]
  congr 1
  unfold jamN
  obtain rfl | rfl | rfl : n = 0 ∨ n = 1 ∨ n = 2 := by omega
  · simp
  · rw [if_pos (by omega)]; omega
  · rw [if_pos (by simpa using x4)]; simp; omega
theorem al_none (e L : Int) : alT e 0 L = 0 := by unfold alT; exact jam_nought _
theorem diff_jamM {e x g y : Int} (hx : roomM x) (hy : roomM y) (h : ¬ cmpT e x g y < 0) :
    diffT e x g y * 2 ^ (levT e x g y + 1099511627776).toNat = baseT e x - baseT g y ∨
    (diffT e x g y = jamN (baseT e x - baseT g y) (levT e x g y + 1099511627776).toNat ∧ (levT e x g y + 1099511627776).toNat + 115 ≤ blen (baseT e x - baseT g y)) := by
  have le : baseT g y ≤ baseT e x := by rw [cmpT_base, cmpI_lti] at h; omega
  have r1 := clT_range e; have r2 := clT_range g
  obtain ⟨x0, x1, x2, x3⟩ := hx
  obtain ⟨y0, y1, y2, y3⟩ := hy
  have D : diffT e x g y = alT e x (levT e x g y) - alT g y (levT e x g y) := by unfold diffT; rw [if_neg h]
  rw [D]
  have L := lev_down (e := e) (g := g) (x := x) y0 h
  by_cases zy : y = 0
  · subst zy
    by_cases zx : x = 0
    · subst zx
      left; rw [al_none, al_none, base_zero.2 rfl, base_zero.2 rfl]; simp
    · rw [if_pos ⟨rfl, zx⟩] at L
      left
      rw [L, al_none, base_zero.2 rfl, Int.sub_zero, Int.sub_zero]
      exact al_near x2 (Int.le_refl _) (by omega)
  · rw [if_neg (fun k => zy k.1)] at L
    have yb := y3.resolve_left zy
    have yp : 0 < baseT g y := by
      have := base_nonneg (e := g) y0
      have : baseT g y ≠ 0 := fun k => zy (base_zero.1 k)
      omega
    have zx : x ≠ 0 := fun k => by rw [base_zero.2 k] at le; omega
    have xb := x3.resolve_left zx
    by_cases lt : clT e < clT g
    · rw [if_pos lt] at L
      have near : clT g ≤ clT e + 2 := by
        apply Classical.byContradiction; intro k
        have a := pow_ge yb (clT g - clT e).toNat
        have b := two_pow_le (show 256 ≤ 254 + (clT g - clT e).toNat by omega)
        rw [wfull_pow] at b
        have c := pow_lt_mul (clT e + 1099511627776).toNat (show x < y * 2 ^ (clT g - clT e).toNat by omega)
        rw [Int.mul_assoc, ← Int.pow_add, show (clT g - clT e).toNat + (clT e + 1099511627776).toNat = (clT g + 1099511627776).toNat by omega] at c
        unfold baseT at le
        omega
      left
      rw [L, Int.sub_mul, al_near x2 (by omega) near, al_near y2 (Int.le_refl _) (by omega)]
    · rw [if_neg lt] at L
      by_cases near : clT e ≤ clT g + 2
      · left
        rw [L, Int.sub_mul, al_near x2 (Int.le_refl _) (by omega), al_near y2 (by omega) near]
      · right
        have A : alT e x (levT e x g y) = x := by unfold alT; rw [L, show (clT e - clT e).toNat = 0 by omega, jam_self]
        have B := al_base (e := g) (x := y) (L := levT e x g y) (by omega)
        rw [A, B, L]
        refine ⟨(jam_sub (a := x) (by omega) (baseT g y) (clT e + 1099511627776).toNat).symm, ?_⟩
        obtain ⟨j, hj⟩ : ∃ j : Nat, clT e - clT g = j := ⟨(clT e - clT g).toNat, by omega⟩
        obtain ⟨M, hM⟩ : ∃ M : Nat, (clT g + 1099511627776).toNat = M := ⟨_, rfl⟩
        have hN : (clT e + 1099511627776).toNat = j + M := by omega
        have X := base_bigM (e := e) xb
        unfold baseT at X ⊢
        rw [hN] at X ⊢
        rw [hM]
        have yl : y * 2 ^ M < 2 ^ (253 + (j + M)) := by
          have a := pow_lt_mul M (show y < 2 ^ 256 by rw [wfull_pow]; exact y1)
          rw [← Int.pow_add] at a
          have := two_pow_le (show 256 + M ≤ 253 + (j + M) by omega)
          omega
        have e2 : (2 : Int) ^ (254 + (j + M)) = 2 ^ (253 + (j + M)) * 2 := by rw [← Int.pow_succ]; congr 1; omega
        have := blen_above (q := x * 2 ^ (j + M) - y * 2 ^ M) (k := 253 + (j + M)) (by omega)
        omega
theorem dc_diffM0 {f m e x g y : Int} {ng : Bool} (f0 : 0 ≤ f) (hx : roomM x) (hy : roomM y) (h : ¬ cmpT e x g y < 0) :
    pkB f m ng (levT e x g y) (diffT e x g y) = dcB f m ng (baseT e x - baseT g y) (-1099511628031) false ∧ (∀ t, pkFl f m t ng (levT e x g y) (diffT e x g y) = dcFl f m t ng (baseT e x - baseT g y) (-1099511628031) false) ∧ (diffT e x g y = 0 ↔ baseT e x - baseT g y = 0) := by
  have le : baseT g y ≤ baseT e x := by rw [cmpT_base, cmpI_lti] at h; omega
  obtain ⟨s0, s1⟩ := diff_range (e := e) (g := g) hx.1 hx.2.1 hy.1 hy.2.1
  have lr := lev_range e x g y
  have p8 := fP_le f0
  obtain ⟨d1, d2⟩ := dc_pk (f := f) (m := m) (exp := levT e x g y) (x := diffT e x g y) (ng := ng) f0 s0 s1
  rw [clip_id (by omega) (by omega)] at d1 d2
  rcases diff_jamM hx hy h with k | ⟨sj, bl⟩
  · have J := dc_scale (f := f) (m := m) (E := levT e x g y - 255) (ng := ng) (levT e x g y + 1099511627776).toNat s0
    rw [k, show levT e x g y - 255 - (((levT e x g y + 1099511627776).toNat : Nat) : Int) = -1099511628031 by omega] at J
    refine ⟨d1.symm.trans J.1.symm, fun t => (d2 t).symm.trans (J.2 t).symm, ?_⟩
    rw [← k, Int.mul_eq_zero]
    exact ⟨.inl, fun z => z.resolve_right (pow_pos' _)⟩
  · have q0 : 0 < baseT e x - baseT g y := by
      rcases Int.lt_or_eq_of_le (show 0 ≤ baseT e x - baseT g y by omega) with z | z
      · exact z
      · rw [← z, show blen 0 = 0 by decide] at bl; omega
    have J := dc_jam (f := f) (m := m) (ng := ng) (E := -1099511628031) (levT e x g y + 1099511627776).toNat q0 (by omega)
    rw [← sj, show (-1099511628031 : Int) + ((levT e x g y + 1099511627776).toNat : Int) = levT e x g y - 255 by omega] at J
    refine ⟨d1.symm.trans J.1, fun t => (d2 t).symm.trans (J.2 t), ?_⟩
    rw [sj]; exact jam_zero (by omega) _
theorem dc_diffM {f m e x g y : Int} {ng : Bool} (f0 : 0 ≤ f) (hx : roomM x) (hy : roomM y) : ∀ q : Int, (if baseT e x < baseT g y then baseT g y - baseT e x else baseT e x - baseT g y) = q →
    pkB f m ng (levT e x g y) (diffT e x g y) = dcB f m ng q (-1099511628031) false ∧ (∀ t, pkFl f m t ng (levT e x g y) (diffT e x g y) = dcFl f m t ng q (-1099511628031) false) ∧ (diffT e x g y = 0 ↔ q = 0) := by
  intro q hq
  subst hq
  have c : cmpT e x g y < 0 ↔ baseT e x < baseT g y := by rw [cmpT_base, cmpI_lti]
  by_cases h : cmpT e x g y < 0
  · rw [if_pos (c.1 h), ← lev_turn e x g y, ← diff_turn e x g y]
    exact dc_diffM0 f0 hy hx (by rw [cmpT_turn]; omega)
  · rw [if_neg (fun k => h (c.2 k))]
    exact dc_diffM0 f0 hx hy h
theorem uS_four {f b : Int} (f0 : 0 ≤ f) (b0 : 0 ≤ b) : uS f b % 4 = 0 ∧ (uS f b = 0 ∨ 2 ^ 127 ≤ uS f b) := by
  by_cases c : clsF f b = 1 ∨ clsF f b = 2
  · have hf : f < 4 := by apply Classical.byContradiction; intro k; unfold clsF at c; rw [if_neg k] at c; omega
    obtain ⟨_, m0, m1, _, _⟩ := vF_val f0 hf b0 (show clsF f b ≤ 2 by omega)
    obtain ⟨_, _, r, _⟩ := un_range f0 hf b0 c
    have l := blen_le m0 m1
    have p8 := fP_le f0
    have us : uS f b = uM f b * 2 ^ (128 - blen (uM f b)) := by unfold uS; rw [if_pos c]
    refine ⟨?_, .inr r⟩
    rw [us, show 128 - blen (uM f b) = (126 - blen (uM f b)) + 2 by omega, Int.pow_add, ← Int.mul_assoc]
    exact Int.mul_emod_left ..
  · rw [(u_none c).2]; exact ⟨rfl, .inl rfl⟩
theorem ml_room {f a b : Int} (f0 : 0 ≤ f) (a0 : 0 ≤ a) (b0 : 0 ≤ b) : roomM (mlS f a b) := by
  obtain ⟨_, _, s0, s1⟩ := ml_range (f := f) f0 a0 b0
  refine ⟨s0, s1, ?_, ?_⟩
  · rw [mlS_eq]
    have := (uS_four (f := f) f0 a0).1
    rw [Int.mul_emod, this]; simp
  · rw [mlS_eq]
    rcases (uS_four (f := f) f0 a0).2 with h | h
    · left; rw [h, Int.zero_mul]
    · rcases (uS_four (f := f) f0 b0).2 with k | k
      · left; rw [k, Int.mul_zero]
      · right
        have : (2 : Int) ^ 254 = 2 ^ 127 * 2 ^ 127 := by rw [← Int.pow_add]
        rw [this]
        exact Int.mul_le_mul h k (by have := two_pow_pos 127; omega) (by have := two_pow_pos 127; omega)
theorem mlE_small {f a b : Int} (f0 : 0 ≤ f) (a0 : 0 ≤ a) (b0 : 0 ≤ b) : -40000 ≤ mlE f a b ∧ mlE f a b ≤ 40000 := by
  have ea := uE_range (f := f) f0 a0; have eb := uE_range (f := f) f0 b0
  unfold mlE tmE
  split
  · rw [IntKind.wrap_i64, IntKind.wrap_i64]; omega
  · omega
def pF (f a b : Int) : Int := baseT (mlE f a b) (mlS f a b)
theorem pF_nonneg {f a b : Int} (f0 : 0 ≤ f) (a0 : 0 ≤ a) (b0 : 0 ≤ b) : 0 ≤ pF f a b := base_nonneg (ml_range (f := f) f0 a0 b0).2.2.1
theorem pF_val {f a b : Int} (f0 : 0 ≤ f) (hf : f < 4) (a0 : 0 ≤ a) (b0 : 0 ≤ b) (ca : clsF f a ≤ 2) (cb : clsF f b ≤ 2) : pF f a b = uM f a * uM f b * 2 ^ (uX f a + uX f b + 1099511628031).toNat := by
  have ra := cls_range f a; have rb := cls_range f b
  by_cases k : (clsF f a = 1 ∨ clsF f a = 2) ∧ (clsF f b = 1 ∨ clsF f b = 2)
  · have ea := uE_range (f := f) f0 a0; have eb := uE_range (f := f) f0 b0
    have p8 := fP_le f0
    obtain ⟨_, m0, m1, x0, x1⟩ := vF_val f0 hf a0 ca
    obtain ⟨_, n0, n1, y0, y1⟩ := vF_val f0 hf b0 cb
    have la := blen_le m0 m1
    have lb := blen_le n0 n1
    have xa : uE f a = uX f a + blen (uM f a) - 1 := by unfold uE; rw [if_pos k.1]
    have xb : uE f b = uX f b + blen (uM f b) - 1 := by unfold uE; rw [if_pos k.2]
    have sa : uS f a = uM f a * 2 ^ (128 - blen (uM f a)) := by unfold uS; rw [if_pos k.1]
    have sb : uS f b = uM f b * 2 ^ (128 - blen (uM f b)) := by unfold uS; rw [if_pos k.2]
    have me := mlE_num f0 a0 b0 k.1 k.2
    have ms : mlS f a b = uM f a * uM f b * 2 ^ ((128 - blen (uM f a)) + (128 - blen (uM f b))) := by
      rw [mlS_eq, sa, sb, Int.pow_add]
      simp only [Int.mul_assoc, Int.mul_left_comm]
    have sm := mlE_small (f := f) f0 a0 b0
    unfold pF baseT
    rw [clT_id (by omega) (by omega), ms, Int.mul_assoc (uM f a * uM f b), ← Int.pow_add]
    congr 2; omega
  · have z : mlS f a b = 0 := by unfold mlS tmS numC; rw [decide_eq_false k, if_neg (by decide)]
    have z2 : uM f a * uM f b = 0 := by
      by_cases h : clsF f a = 0
      · rw [uM_zero f0 hf h, Int.zero_mul]
      · rw [uM_zero f0 hf (b := b) (by omega), Int.mul_zero]
    unfold pF
    rw [base_zero.2 z, z2, Int.zero_mul]
def fmX (f a b c : Int) : Int := if mlN f a b = negF f c then pF f a b + vF f c else if pF f a b < vF f c then vF f c - pF f a b else pF f a b - vF f c
def fmE (f a b c : Int) : Int := if mlN f a b = negF f c then levT (mlE f a b) (mlS f a b) (uE f c) (uS f c * full) + 1 else levT (mlE f a b) (mlS f a b) (uE f c) (uS f c * full)
def fmS (f a b c : Int) : Int := if mlN f a b = negF f c then sumT (mlE f a b) (mlS f a b) (uE f c) (uS f c * full) else diffT (mlE f a b) (mlS f a b) (uE f c) (uS f c * full)
def fmT (f a b c : Int) : Bool := if mlN f a b = negF f c then mlN f a b else if cmpT (mlE f a b) (mlS f a b) (uE f c) (uS f c * full) < 0 then negF f c else mlN f a b
def fmN (f m a b c : Int) : Bool := if fmS f a b c = 0 then noM m (mlN f a b) (negF f c) else fmT f a b c
def fmO (f a b c : Int) : Bool := decide (clsF f c = 3 ∧ negF f c ≠ mlN f a b)
def fmB (f m a b c : Int) : Int := if f < 4 ∧ m < 5 then (if pickK f (mlI f a b) [a, b, c] then pickV f (mlI f a b) [a, b, c] else if clsF f a = 3 ∨ clsF f b = 3 then (if fmO f a b c then pickV f true [a, b, c] else infF f (mlN f a b)) else if clsF f c = 3 then infF f (negF f c) else pkB f m (fmN f m a b c) (fmE f a b c) (fmS f a b c)) else 0
def fmFl (f m : Int) (t : Bool) (a b c : Int) : Int := if f < 4 ∧ m < 5 then (if pickK f (mlI f a b) [a, b, c] then pickF f (mlI f a b) [a, b, c] else if clsF f a = 3 ∨ clsF f b = 3 then (if fmO f a b c then pickF f true [a, b, c] else 0) else if clsF f c = 3 then 0 else pkFl f m t (fmN f m a b c) (fmE f a b c) (fmS f a b c)) else 0
structure FmaOK : Prop where
  fma : ∀ f m t a b c, 0 ≤ f → f ≤ 255 → 0 ≤ m → m ≤ 255 → 0 ≤ a → a < full → 0 ≤ b → b < full → 0 ≤ c → c < full → ∀ w, FTab w → Calls Tryz.prog 10 #[.int .u8 f, .agg #[.int .u8 m, .bool t], .agg #[.int .u64 (hiOf (a)), .int .u64 (loOf (a))], .agg #[.int .u64 (hiOf (b)), .int .u64 (loOf (b))], .agg #[.int .u64 (hiOf (c)), .int .u64 (loOf (c))]] w fun e w' => e = .returned (.agg #[.int .u64 (hiOf (fmB f m a b c)), .int .u64 (loOf (fmB f m a b c)), .int .u8 (fmFl f m t a b c)]) ∧ Below w.heap.size w w'
theorem fm_exact {f m a b c : Int} {ng : Bool} (f0 : 0 ≤ f) (a0 : 0 ≤ a) (b0 : 0 ≤ b) (c0 : 0 ≤ c) :
    pkB f m ng (fmE f a b c) (fmS f a b c) = dcB f m ng (fmX f a b c) (-1099511628031) false ∧ (∀ t, pkFl f m t ng (fmE f a b c) (fmS f a b c) = dcFl f m t ng (fmX f a b c) (-1099511628031) false) ∧ (fmS f a b c = 0 ↔ fmX f a b c = 0) := by
  have ra := ml_room (f := f) f0 a0 b0; have rc := room_m (room_u (f := f) f0 c0)
  have ea := mlE_small (f := f) f0 a0 b0; have ec := uE_range (f := f) f0 c0
  unfold fmE fmS fmX pF vF
  by_cases h : mlN f a b = negF f c
  · rw [if_pos h, if_pos h, if_pos h]
    exact dc_sumM f0 ra rc (by rw [clT_id (by omega) (by omega)]; omega) (by rw [clT_u f0 c0]; omega)
  · rw [if_neg h, if_neg h, if_neg h]
    exact dc_diffM f0 ra rc _ rfl
theorem fmT_eq {f a b c : Int} : fmT f a b c = if mlN f a b = negF f c then mlN f a b else if pF f a b < vF f c then negF f c else mlN f a b := by
  have k : cmpT (mlE f a b) (mlS f a b) (uE f c) (uS f c * full) < 0 ↔ pF f a b < vF f c := by rw [cmpT_base, cmpI_lti]; rfl
  unfold fmT
  simp only [k]
end Go.Proofs.YtdcdbcccchadfaaGreatDoor
