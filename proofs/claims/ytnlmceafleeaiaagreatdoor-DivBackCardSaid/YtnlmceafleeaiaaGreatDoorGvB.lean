import Derived.Test.YtnlmceafleeaiaaGreatDoorGvA
import Derived.Test.YtnlmceafleeaiaaGreatDoorAdd18M
import Derived.Test.YtnlmceafleeaiaaGreatDoorAdd18F
set_option linter.unusedVariables false
set_option linter.unusedSimpArgs false
set_option maxRecDepth 100000
namespace Go.Proofs.YtnlmceafleeaiaaGreatDoor
open Go.RowKit
attribute [local go_sem ↓] Go.wp_at_zero Go.wp_at_succ
def roomM (x : Int) : Prop := 0 ≤ x ∧ x < wfull ∧ x % 4 = 0 ∧ (x = 0 ∨ 2 ^ 254 ≤ x)
theorem room_m {x : Int} (h : room x) : roomM x := by
  refine ⟨h.1, h.2.1, room_four h, h.2.2.2.imp id fun k => ?_⟩
  have := two_pow_le (show 254 ≤ 255 by omega)
  omega
theorem base_bigM {e x : Int} (h : 2 ^ 254 ≤ x) : 2 ^ (254 + (clT e + 1099511627776).toNat) ≤ baseT e x := pow_ge h _
theorem dc_sumM {f m e x g y : Int} {ng : Bool} (f0 : 0 ≤ f) (hx : roomM x) (hy : roomM y) (he : clT e < 1099511627776) (hg : clT g < 1099511627776) :
    pkB f m ng (levT e x g y + 1) (sumT e x g y) = dcB f m ng (baseT e x + baseT g y) (-1099511628031) false ∧ (∀ t, pkFl f m t ng (levT e x g y + 1) (sumT e x g y) = dcFl f m t ng (baseT e x + baseT g y) (-1099511628031) false) ∧ (sumT e x g y = 0 ↔ baseT e x + baseT g y = 0) := by
  have sj := sum_jam (e := e) (g := g) hx.2.2.1 hy.2.2.1
  obtain ⟨s0, s1⟩ := sum_range (e := e) (g := g) hx.1 hx.2.1 hy.1 hy.2.1
  have lr := lev_range e x g y
  have lt := lev_lt (x := x) (y := y) he hg
  have px := base_nonneg (e := e) hx.1
  have py := base_nonneg (e := g) hy.1
  have r1 := clT_range e; have r2 := clT_range g
  have p8 := fP_le f0
  obtain ⟨d1, d2⟩ := dc_pk (f := f) (m := m) (exp := levT e x g y + 1) (x := sumT e x g y) (ng := ng) f0 s0 s1
  rw [clip_id (by omega) (by omega)] at d1 d2
  by_cases h0 : x ≠ 0 ∨ y ≠ 0
  · have big : 2 ^ (254 + (levT e x g y + 1099511627776).toNat) ≤ baseT e x + baseT g y := by
      rcases lev_top (e := e) (g := g) h0 with ⟨h, z⟩ | ⟨h, z⟩
      · have := base_bigM (e := e) (hx.2.2.2.resolve_left z); rw [h]; omega
      · have := base_bigM (e := g) (hy.2.2.2.resolve_left z); rw [h]; omega
    have bl := blen_above big
    have qp : 0 < baseT e x + baseT g y := by have := two_pow_pos (254 + (levT e x g y + 1099511627776).toNat); omega
    have J := dc_jam (f := f) (m := m) (ng := ng) (E := -1099511628031) (levT e x g y + 1 + 1099511627776).toNat qp (by omega)
    rw [← sj, show (-1099511628031 : Int) + ((levT e x g y + 1 + 1099511627776).toNat : Int) = levT e x g y + 1 - 255 by omega] at J
    refine ⟨d1.symm.trans J.1, fun t => (d2 t).symm.trans (J.2 t), ?_⟩
    rw [sj]; exact jam_zero (by omega) _
  · have zx : x = 0 := by omega
    have zy : y = 0 := by omega
    have b : baseT e x + baseT g y = 0 := by rw [base_zero.2 zx, base_zero.2 zy]; rfl
    have s : sumT e x g y = 0 := by rw [sj, b]; exact jam_nought _
    rw [s] at d1 d2 ⊢
    rw [b]
    rw [dc_zero.1] at d1 ⊢
    exact ⟨d1.symm, fun t => by rw [← d2 t, dc_zero.2, dc_zero.2], by simp⟩
theorem al_near {e x L : Int} (x4 : x % 4 = 0) (h0 : clT e ≤ L) (h2 : L ≤ clT e + 2) : alT e x L * 2 ^ (L + 1099511627776).toNat = baseT e x := by
  have r := clT_range e
  obtain ⟨n, hn⟩ : ∃ n : Nat, L - clT e = n := ⟨(L - clT e).toNat, by omega⟩
  have n2 : n ≤ 2 := by omega
  unfold alT baseT
  rw [hn, Int.toNat_natCast, show (L + 1099511627776).toNat = n + (clT e + 1099511627776).toNat by omega, Int.pow_add, ← Int.mul_assoc]
  congr 1
  unfold jamN
  obtain rfl | rfl | rfl : n = 0 ∨ n = 1 ∨ n = 2 := by omega
  · simp
  · rw [if_pos (by omega)]; omega
  · rw [if_pos (by simpa using x4)]; simp; omega
theorem al_none (e L : Int) : alT e 0 L = 0 := by unfold alT; exact jam_nought _
theorem diff_jamM {e x g y : Int} (hx : roomM x) (hy : roomM y) (h : ¬ cmpT e x g y < 0) :
    diffT e x g y * 2 ^ (levT e x g y + 1099511627776).toNat = baseT e x - baseT g y ∨
    (diffT e x g y = jamN (baseT e x - baseT g y) (levT e x g y + 1099511627776).toNat ∧ (levT e x g y + 1099511627776).toNat + 115 ≤ blen (baseT e x - baseT g y)) := by
  have le : baseT g y ≤ baseT e x := by rw [cmpT_base, cmpI_lti] at h; omega
  have r1 := clT_range e; have r2 := clT_range g
  obtain ⟨x0, x1, x2, x3⟩ := hx
  obtain ⟨y0, y1, y2, y3⟩ := hy
  have D : diffT e x g y = alT e x (levT e x g y) - alT g y (levT e x g y) := by unfold diffT; rw [if_neg h]
  rw [D]
  have L := lev_down (e := e) (g := g) (x := x) y0 h
  by_cases zy : y = 0
  · subst zy
    by_cases zx : x = 0
    · subst zx
      left; rw [al_none, al_none, base_zero.2 rfl, base_zero.2 rfl]; simp
    · rw [if_pos ⟨rfl, zx⟩] at L
      left
      rw [L, al_none, base_zero.2 rfl, Int.sub_zero, Int.sub_zero]
      exact al_near x2 (Int.le_refl _) (by omega)
  · rw [if_neg (fun k => zy k.1)] at L
    have yb := y3.resolve_left zy
    have yp : 0 < baseT g y := by
      have := base_nonneg (e := g) y0
      have : baseT g y ≠ 0 := fun k => zy (base_zero.1 k)
      omega
    have zx : x ≠ 0 := fun k => by rw [base_zero.2 k] at le; omega
    have xb := x3.resolve_left zx
    by_cases lt : clT e < clT g
    · rw [if_pos lt] at L
      have near : clT g ≤ clT e + 2 := by
        apply Classical.byContradiction; intro k
        have a := pow_ge yb (clT g - clT e).toNat
        have b := two_pow_le (show 256 ≤ 254 + (clT g - clT e).toNat by omega)
        rw [wfull_pow] at b
        have c := pow_lt_mul (clT e + 1099511627776).toNat (show x < y * 2 ^ (clT g - clT e).toNat by omega)
        rw [Int.mul_assoc, ← Int.pow_add, show (clT g - clT e).toNat + (clT e + 1099511627776).toNat = (clT g + 1099511627776).toNat by omega] at c
        unfold baseT at le
        omega
      left
      rw [L, Int.sub_mul, al_near x2 (by omega) near, al_near y2 (Int.le_refl _) (by omega)]
    · rw [if_neg lt] at L
      by_cases near : clT e ≤ clT g + 2
      · left
        rw [L, Int.sub_mul, al_near x2 (Int.le_refl _) (by omega), al_near y2 (by omega) near]
      · right
        have A : alT e x (levT e x g y) = x := by unfold alT; rw [L, show (clT e - clT e).toNat = 0 by omega, jam_self]
        have B := al_base (e := g) (x := y) (L := levT e x g y) (by omega)
        rw [A, B, L]
        refine ⟨(jam_sub (a := x) (by omega) (baseT g y) (clT e + 1099511627776).toNat).symm, ?_⟩
        obtain ⟨j, hj⟩ : ∃ j : Nat, clT e - clT g = j := ⟨(clT e - clT g).toNat, by omega⟩
        obtain ⟨M, hM⟩ : ∃ M : Nat, (clT g + 1099511627776).toNat = M := ⟨_, rfl⟩
        have hN : (clT e + 1099511627776).toNat = j + M := by omega
        have X := base_bigM (e := e) xb
        unfold baseT at X ⊢
        rw [hN] at X ⊢
        rw [hM]
        have yl : y * 2 ^ M < 2 ^ (253 + (j + M)) := by
          have a := pow_lt_mul M (show y < 2 ^ 256 by rw [wfull_pow]; exact y1)
          rw [← Int.pow_add] at a
          have := two_pow_le (show 256 + M ≤ 253 + (j + M) by omega)
          omega
        have e2 : (2 : Int) ^ (254 + (j + M)) = 2 ^ (253 + (j + M)) * 2 := by rw [← Int.pow_succ]; congr 1; omega
        have := blen_above (q := x * 2 ^ (j + M) - y * 2 ^ M) (k := 253 + (j + M)) (by omega)
        omega
theorem dc_diffM0 {f m e x g y : Int} {ng : Bool} (f0 : 0 ≤ f) (hx : roomM x) (hy : roomM y) (h : ¬ cmpT e x g y < 0) :
    pkB f m ng (levT e x g y) (diffT e x g y) = dcB f m ng (baseT e x - baseT g y) (-1099511628031) false ∧ (∀ t, pkFl f m t ng (levT e x g y) (diffT e x g y) = dcFl f m t ng (baseT e x - baseT g y) (-1099511628031) false) ∧ (diffT e x g y = 0 ↔ baseT e x - baseT g y = 0) := by
  have le : baseT g y ≤ baseT e x := by rw [cmpT_base, cmpI_lti] at h; omega
  obtain ⟨s0, s1⟩ := diff_range (e := e) (g := g) hx.1 hx.2.1 hy.1 hy.2.1
  have lr := lev_range e x g y
  have p8 := fP_le f0
  obtain ⟨d1, d2⟩ := dc_pk (f := f) (m := m) (exp := levT e x g y) (x := diffT e x g y) (ng := ng) f0 s0 s1
  rw [clip_id (by omega) (by omega)] at d1 d2
  rcases diff_jamM hx hy h with k | ⟨sj, bl⟩
  · have J := dc_scale (f := f) (m := m) (E := levT e x g y - 255) (ng := ng) (levT e x g y + 1099511627776).toNat s0
    rw [k, show levT e x g y - 255 - (((levT e x g y + 1099511627776).toNat : Nat) : Int) = -1099511628031 by omega] at J
    refine ⟨d1.symm.trans J.1.symm, fun t => (d2 t).symm.trans (J.2 t).symm, ?_⟩
    rw [← k, Int.mul_eq_zero]
    exact ⟨.inl, fun z => z.resolve_right (pow_pos' _)⟩
  · have q0 : 0 < baseT e x - baseT g y := by
      rcases Int.lt_or_eq_of_le (show 0 ≤ baseT e x - baseT g y by omega) with z | z
      · exact z
      · rw [← z, show blen 0 = 0 by decide] at bl; omega
    have J := dc_jam (f := f) (m := m) (ng := ng) (E := -1099511628031) (levT e x g y + 1099511627776).toNat q0 (by omega)
    rw [← sj, show (-1099511628031 : Int) + ((levT e x g y + 1099511627776).toNat : Int) = levT e x g y - 255 by omega] at J
    refine ⟨d1.symm.trans J.1, fun t => (d2 t).symm.trans (J.2 t), ?_⟩
    rw [sj]; exact jam_zero (by omega) _
theorem dc_diffM {f m e x g y : Int} {ng : Bool} (f0 : 0 ≤ f) (hx : roomM x) (hy : roomM y) : ∀ q : Int, (if baseT e x < baseT g y then baseT g y - baseT e x else baseT e x - baseT g y) = q →
    pkB f m ng (levT e x g y) (diffT e x g y) = dcB f m ng q (-1099511628031) false ∧ (∀ t, pkFl f m t ng (levT e x g y) (diffT e x g y) = dcFl f m t ng q (-1099511628031) false) ∧ (diffT e x g y = 0 ↔ q = 0) := by
  intro q hq
  subst hq
  have c : cmpT e x g y < 0 ↔ baseT e x < baseT g y := by rw [cmpT_base, cmpI_lti]
  by_cases h : cmpT e x g y < 0
  · rw [if_pos (c.1 h), ← lev_turn e x g y, ← diff_turn e x g y]
    exact dc_diffM0 f0 hy hx (by rw [cmpT_turn]; omega)
  · rw [if_neg (fun k => h (c.2 k))]
    exact dc_diffM0 f0 hx hy h
theorem uS_four {f b : Int} (f0 : 0 ≤ f) (b0 : 0 ≤ b) : uS f b % 4 = 0 ∧ (uS f b = 0 ∨ 2 ^ 127 ≤ uS f b) := by
  by_cases c : clsF f b = 1 ∨ clsF f b = 2
  · have hf : f < 4 := by apply Classical.byContradiction; intro k; unfold clsF at c; rw [if_neg k] at c; omega
    obtain ⟨_, m0, m1, _, _⟩ := vF_val f0 hf b0 (show clsF f b ≤ 2 by omega)
    obtain ⟨_, _, r, _⟩ := un_range f0 hf b0 c
    have l := blen_le m0 m1
    have p8 := fP_le f0
    have us : uS f b = uM f b * 2 ^ (128 - blen (uM f b)) := by unfold uS; rw [if_pos c]
    refine ⟨?_, .inr r⟩
    rw [us, show 128 - blen (uM f b) = (126 - blen (uM f b)) + 2 by omega, Int.pow_add, ← Int.mul_assoc]
    exact Int.mul_emod_left ..
  · rw [(u_none c).2]; exact ⟨rfl, .inl rfl⟩
theorem ml_room {f a b : Int} (f0 : 0 ≤ f) (a0 : 0 ≤ a) (b0 : 0 ≤ b) : roomM (mlS f a b) := by
  obtain ⟨_, _, s0, s1⟩ := ml_range (f := f) f0 a0 b0
  refine ⟨s0, s1, ?_, ?_⟩
  · rw [mlS_eq]
    have := (uS_four (f := f) f0 a0).1
    rw [Int.mul_emod, this]; simp
  · rw [mlS_eq]
    rcases (uS_four (f := f) f0 a0).2 with h | h
    · left; rw [h, Int.zero_mul]
    · rcases (uS_four (f := f) f0 b0).2 with k | k
      · left; rw [k, Int.mul_zero]
      · right
        have : (2 : Int) ^ 254 = 2 ^ 127 * 2 ^ 127 := by rw [← Int.pow_add]
        rw [this]
        exact Int.mul_le_mul h k (by have := two_pow_pos 127; omega) (by have := two_pow_pos 127; omega)
theorem mlE_small {f a b : Int} (f0 : 0 ≤ f) (a0 : 0 ≤ a) (b0 : 0 ≤ b) : -40000 ≤ mlE f a b ∧ mlE f a b ≤ 40000 := by
  have ea := uE_range (f := f) f0 a0; have eb := uE_range (f := f) f0 b0
  unfold mlE tmE
  split
  · rw [IntKind.wrap_i64, IntKind.wrap_i64]; omega
  · omega
def pF (f a b : Int) : Int := baseT (mlE f a b) (mlS f a b)
theorem pF_val {f a b : Int} (f0 : 0 ≤ f) (hf : f < 4) (a0 : 0 ≤ a) (b0 : 0 ≤ b) (ca : clsF f a ≤ 2) (cb : clsF f b ≤ 2) : pF f a b = uM f a * uM f b * 2 ^ (uX f a + uX f b + 1099511628031).toNat := by
  have ra := cls_range f a; have rb := cls_range f b
  by_cases k : (clsF f a = 1 ∨ clsF f a = 2) ∧ (clsF f b = 1 ∨ clsF f b = 2)
  · have ea := uE_range (f := f) f0 a0; have eb := uE_range (f := f) f0 b0
    have p8 := fP_le f0
    obtain ⟨_, m0, m1, x0, x1⟩ := vF_val f0 hf a0 ca
    obtain ⟨_, n0, n1, y0, y1⟩ := vF_val f0 hf b0 cb
    have la := blen_le m0 m1
    have lb := blen_le n0 n1
    have xa : uE f a = uX f a + blen (uM f a) - 1 := by unfold uE; rw [if_pos k.1]
    have xb : uE f b = uX f b + blen (uM f b) - 1 := by unfold uE; rw [if_pos k.2]
    have sa : uS f a = uM f a * 2 ^ (128 - blen (uM f a)) := by unfold uS; rw [if_pos k.1]
    have sb : uS f b = uM f b * 2 ^ (128 - blen (uM f b)) := by unfold uS; rw [if_pos k.2]
    have me := mlE_num f0 a0 b0 k.1 k.2
    have ms : mlS f a b = uM f a * uM f b * 2 ^ ((128 - blen (uM f a)) + (128 - blen (uM f b))) := by
      rw [mlS_eq, sa, sb, Int.pow_add]
      simp only [Int.mul_assoc, Int.mul_left_comm]
    have sm := mlE_small (f := f) f0 a0 b0
    unfold pF baseT
    rw [clT_id (by omega) (by omega), ms, Int.mul_assoc (uM f a * uM f b), ← Int.pow_add]
    congr 2; omega
  · have z : mlS f a b = 0 := by unfold mlS tmS numC; rw [decide_eq_false k, if_neg (by decide)]
    have z2 : uM f a * uM f b = 0 := by
      by_cases h : clsF f a = 0
      · rw [uM_zero f0 hf h, Int.zero_mul]
      · rw [uM_zero f0 hf (b := b) (by omega), Int.mul_zero]
    unfold pF
    rw [base_zero.2 z, z2, Int.zero_mul]
def fmX (f a b c : Int) : Int := if mlN f a b = negF f c then pF f a b + vF f c else if pF f a b < vF f c then vF f c - pF f a b else pF f a b - vF f c
def fmE (f a b c : Int) : Int := if mlN f a b = negF f c then levT (mlE f a b) (mlS f a b) (uE f c) (uS f c * full) + 1 else levT (mlE f a b) (mlS f a b) (uE f c) (uS f c * full)
def fmS (f a b c : Int) : Int := if mlN f a b = negF f c then sumT (mlE f a b) (mlS f a b) (uE f c) (uS f c * full) else diffT (mlE f a b) (mlS f a b) (uE f c) (uS f c * full)
def fmT (f a b c : Int) : Bool := if mlN f a b = negF f c then mlN f a b else if cmpT (mlE f a b) (mlS f a b) (uE f c) (uS f c * full) < 0 then negF f c else mlN f a b
def fmN (f m a b c : Int) : Bool := if fmS f a b c = 0 then noM m (mlN f a b) (negF f c) else fmT f a b c
def fmO (f a b c : Int) : Bool := decide (clsF f c = 3 ∧ negF f c ≠ mlN f a b)
def fmB (f m a b c : Int) : Int := if f < 4 ∧ m < 5 then (if pickK f (mlI f a b) [a, b, c] then pickV f (mlI f a b) [a, b, c] else if clsF f a = 3 ∨ clsF f b = 3 then (if fmO f a b c then pickV f true [a, b, c] else infF f (mlN f a b)) else if clsF f c = 3 then infF f (negF f c) else pkB f m (fmN f m a b c) (fmE f a b c) (fmS f a b c)) else 0
def fmFl (f m : Int) (t : Bool) (a b c : Int) : Int := if f < 4 ∧ m < 5 then (if pickK f (mlI f a b) [a, b, c] then pickF f (mlI f a b) [a, b, c] else if clsF f a = 3 ∨ clsF f b = 3 then (if fmO f a b c then pickF f true [a, b, c] else 0) else if clsF f c = 3 then 0 else pkFl f m t (fmN f m a b c) (fmE f a b c) (fmS f a b c)) else 0
structure FmaOK : Prop where
  fma : ∀ f m t a b c, 0 ≤ f → f ≤ 255 → 0 ≤ m → m ≤ 255 → 0 ≤ a → a < full → 0 ≤ b → b < full → 0 ≤ c → c < full → ∀ w, FTab w → Calls Tryz.prog 17 #[.int .u8 f, .agg #[.int .u8 m, .bool t], .agg #[.int .u64 (hiOf (a)), .int .u64 (loOf (a))], .agg #[.int .u64 (hiOf (b)), .int .u64 (loOf (b))], .agg #[.int .u64 (hiOf (c)), .int .u64 (loOf (c))]] w fun e w' => e = .returned (.agg #[.int .u64 (hiOf (fmB f m a b c)), .int .u64 (loOf (fmB f m a b c)), .int .u8 (fmFl f m t a b c)]) ∧ Below w.heap.size w w'
theorem fm_exact {f m a b c : Int} {ng : Bool} (f0 : 0 ≤ f) (a0 : 0 ≤ a) (b0 : 0 ≤ b) (c0 : 0 ≤ c) :
    pkB f m ng (fmE f a b c) (fmS f a b c) = dcB f m ng (fmX f a b c) (-1099511628031) false ∧ (∀ t, pkFl f m t ng (fmE f a b c) (fmS f a b c) = dcFl f m t ng (fmX f a b c) (-1099511628031) false) ∧ (fmS f a b c = 0 ↔ fmX f a b c = 0) := by
  have ra := ml_room (f := f) f0 a0 b0; have rc := room_m (room_u (f := f) f0 c0)
  have ea := mlE_small (f := f) f0 a0 b0; have ec := uE_range (f := f) f0 c0
  unfold fmE fmS fmX pF vF
  by_cases h : mlN f a b = negF f c
  · rw [if_pos h, if_pos h, if_pos h]
    exact dc_sumM f0 ra rc (by rw [clT_id (by omega) (by omega)]; omega) (by rw [clT_u f0 c0]; omega)
  · rw [if_neg h, if_neg h, if_neg h]
    exact dc_diffM f0 ra rc _ rfl
theorem fm_range {f a b c : Int} (f0 : 0 ≤ f) (a0 : 0 ≤ a) (b0 : 0 ≤ b) (c0 : 0 ≤ c) : -9223372036854775808 ≤ fmE f a b c ∧ fmE f a b c ≤ 9223372036854775807 ∧ 0 ≤ fmS f a b c ∧ fmS f a b c < wfull := by
  have ra := ml_room (f := f) f0 a0 b0; have rc := room_u (f := f) f0 c0
  have lr := lev_range (mlE f a b) (mlS f a b) (uE f c) (uS f c * full)
  have s1 := sum_range (e := mlE f a b) (g := uE f c) ra.1 ra.2.1 rc.1 rc.2.1
  have s2 := diff_range (e := mlE f a b) (g := uE f c) ra.1 ra.2.1 rc.1 rc.2.1
  unfold fmE fmS
  split
  · exact ⟨by omega, by omega, s1.1, s1.2⟩
  · exact ⟨by omega, by omega, s2.1, s2.2⟩
theorem fmT_eq {f a b c : Int} : fmT f a b c = if mlN f a b = negF f c then mlN f a b else if pF f a b < vF f c then negF f c else mlN f a b := by
  have k : cmpT (mlE f a b) (mlS f a b) (uE f c) (uS f c * full) < 0 ↔ pF f a b < vF f c := by rw [cmpT_base, cmpI_lti]; rfl
  unfold fmT
  simp only [k]
theorem fm_fin {f m a b c : Int} (hf : f < 4) (hm : m < 5) (a0 : 0 ≤ a) (a1 : a < full) (b0 : 0 ≤ b) (b1 : b < full) (c0 : 0 ≤ c) (c1 : c < full) (ca : clsF f a ≤ 2) (cb : clsF f b ≤ 2) (cc : clsF f c ≤ 2) :
    fmB f m a b c = pkB f m (fmN f m a b c) (fmE f a b c) (fmS f a b c) ∧ ∀ t, fmFl f m t a b c = pkFl f m t (fmN f m a b c) (fmE f a b c) (fmS f a b c) := by
  have na : nanF f a = false := by unfold nanF; simp; omega
  have nb : nanF f b = false := by unfold nanF; simp; omega
  have nc : nanF f c = false := by unfold nanF; simp; omega
  have ii : mlI f a b = false := by unfold mlI badC; rw [decide_eq_false]; omega
  have an : anyN f [a, b, c] = false := by unfold anyN; simp [Int.emod_eq_of_lt a0 a1, Int.emod_eq_of_lt b0 b1, Int.emod_eq_of_lt c0 c1, na, nb, nc]
  obtain ⟨k1, k2, k3⟩ := pick_none (f := f) [a, b, c] an
  unfold fmB fmFl
  rw [if_pos ⟨hf, hm⟩, ii, k3, if_neg (by decide), if_neg (by omega), if_neg (by omega)]
  refine ⟨rfl, fun t => ?_⟩
  rw [if_pos ⟨hf, hm⟩, if_neg (by decide), if_neg (by omega), if_neg (by omega)]
end Go.Proofs.YtnlmceafleeaiaaGreatDoor
namespace Go.Proofs.YtnlmceafleeaiaaGreatDoor
open Go.RowKit
theorem ml_dc {f m a b : Int} {ng : Bool} (f0 : 0 ≤ f) (a0 : 0 ≤ a) (b0 : 0 ≤ b) : pkB f m ng (mlE f a b) (mlS f a b) = dcB f m ng (pF f a b) (-1099511628031) false ∧ ∀ t, pkFl f m t ng (mlE f a b) (mlS f a b) = dcFl f m t ng (pF f a b) (-1099511628031) false := by
  obtain ⟨_, _, s0, s1⟩ := ml_range (f := f) f0 a0 b0
  have sm := mlE_small (f := f) f0 a0 b0
  obtain ⟨d1, d2⟩ := dc_pk (f := f) (m := m) (exp := mlE f a b) (x := mlS f a b) (ng := ng) f0 s0 s1
  rw [clip_id (by omega) (by omega)] at d1 d2
  have J := dc_scale (f := f) (m := m) (q := mlS f a b) (E := mlE f a b - 255) (ng := ng) (mlE f a b + 1099511627776).toNat s0
  rw [show mlE f a b - 255 - (((mlE f a b + 1099511627776).toNat : Nat) : Int) = -1099511628031 by omega] at J
  have v : pF f a b = mlS f a b * 2 ^ (mlE f a b + 1099511627776).toNat := by unfold pF baseT; rw [clT_id (by omega) (by omega)]
  rw [v]
  exact ⟨d1.symm.trans J.1.symm, fun t => (d2 t).symm.trans (J.2 t).symm⟩
end Go.Proofs.YtnlmceafleeaiaaGreatDoor
namespace Go.Proofs.YtnlmceafleeaiaaGreatDoor
open Go.RowKit
attribute [local go_sem ↓] Go.wp_at_zero Go.wp_at_succ
def rdE (e s : Int) : Int := if wfull ≤ s + s then e else e - 1
def rdS (s : Int) : Int := if wfull ≤ s + s then s else s + s
theorem rd_room {s : Int} (h : roomM s) : roomM (rdS s) := by
  unfold rdS
  by_cases k : wfull ≤ s + s
  · rw [if_pos k]; exact h
  · rw [if_neg k]
    obtain ⟨h0, h1, h2, h3⟩ := h
    exact ⟨by omega, by omega, by omega, by omega⟩
theorem rd_base {e s : Int} (e0 : -40000 ≤ e) (e1 : e ≤ 40000) : baseT (rdE e s) (rdS s) = baseT e s := by
  unfold rdE rdS
  by_cases k : wfull ≤ s + s
  · rw [if_pos k, if_pos k]
  · rw [if_neg k, if_neg k]
    unfold baseT
    rw [clT_id (by omega) (by omega), clT_id (by omega) (by omega), show (e + 1099511627776).toNat = (e - 1 + 1099511627776).toNat + 1 by omega, Int.pow_succ, Int.mul_comm (2 ^ _) 2, ← Int.mul_assoc]
    congr 1; omega
theorem rd_range {e s : Int} (e0 : -40000 ≤ e) (e1 : e ≤ 40000) : -40001 ≤ rdE e s ∧ rdE e s ≤ 40000 := by
  unfold rdE; split <;> omega
def fpE (f a b c : Int) : Int := if mlN f a b = negF f c then levT (rdE (mlE f a b) (mlS f a b)) (rdS (mlS f a b)) (uE f c) (uS f c * full) + 1 else levT (rdE (mlE f a b) (mlS f a b)) (rdS (mlS f a b)) (uE f c) (uS f c * full)
def fpS (f a b c : Int) : Int := if mlN f a b = negF f c then sumT (rdE (mlE f a b) (mlS f a b)) (rdS (mlS f a b)) (uE f c) (uS f c * full) else diffT (rdE (mlE f a b) (mlS f a b)) (rdS (mlS f a b)) (uE f c) (uS f c * full)
theorem fp_turn {f a b c : Int} (f0 : 0 ≤ f) (a0 : 0 ≤ a) (b0 : 0 ≤ b) : cmpT (rdE (mlE f a b) (mlS f a b)) (rdS (mlS f a b)) (uE f c) (uS f c * full) < 0 ↔ cmpT (mlE f a b) (mlS f a b) (uE f c) (uS f c * full) < 0 := by
  have e := mlE_small (f := f) f0 a0 b0
  rw [cmpT_base, cmpI_lti, cmpT_base, cmpI_lti, rd_base e.1 e.2]
theorem fp_neg {f a b c : Int} (f0 : 0 ≤ f) (a0 : 0 ≤ a) (b0 : 0 ≤ b) (h : ¬ mlN f a b = negF f c) : (!(mlN f a b == decide (cmpT (rdE (mlE f a b) (mlS f a b)) (rdS (mlS f a b)) (uE f c) (uS f c * full) < 0))) = fmT f a b c := by
  unfold fmT
  rw [if_neg h, decide_eq_decide.2 (fp_turn (c := c) f0 a0 b0)]
  by_cases k : cmpT (mlE f a b) (mlS f a b) (uE f c) (uS f c * full) < 0
  · rw [if_pos k, decide_eq_true k]; revert h; cases mlN f a b <;> cases negF f c <;> simp
  · rw [if_neg k, decide_eq_false k]; cases mlN f a b <;> rfl
theorem fp_range {f a b c : Int} (f0 : 0 ≤ f) (a0 : 0 ≤ a) (b0 : 0 ≤ b) (c0 : 0 ≤ c) : -9223372036854775808 ≤ fpE f a b c ∧ fpE f a b c ≤ 9223372036854775807 ∧ 0 ≤ fpS f a b c ∧ fpS f a b c < wfull := by
  have ra := rd_room (ml_room (f := f) f0 a0 b0); have rc := room_u (f := f) f0 c0
  have lr := lev_range (rdE (mlE f a b) (mlS f a b)) (rdS (mlS f a b)) (uE f c) (uS f c * full)
  have s1 := sum_range (e := rdE (mlE f a b) (mlS f a b)) (g := uE f c) ra.1 ra.2.1 rc.1 rc.2.1
  have s2 := diff_range (e := rdE (mlE f a b) (mlS f a b)) (g := uE f c) ra.1 ra.2.1 rc.1 rc.2.1
  unfold fpE fpS
  split
  · exact ⟨by omega, by omega, s1.1, s1.2⟩
  · exact ⟨by omega, by omega, s2.1, s2.2⟩
theorem fp_fm {f m a b c : Int} {ng : Bool} (f0 : 0 ≤ f) (a0 : 0 ≤ a) (b0 : 0 ≤ b) (c0 : 0 ≤ c) :
    pkB f m ng (fpE f a b c) (fpS f a b c) = pkB f m ng (fmE f a b c) (fmS f a b c) ∧ (∀ t, pkFl f m t ng (fpE f a b c) (fpS f a b c) = pkFl f m t ng (fmE f a b c) (fmS f a b c)) ∧ (fpS f a b c = 0 ↔ fmS f a b c = 0) := by
  obtain ⟨x1, x2, x3⟩ := fm_exact (m := m) (ng := ng) f0 a0 b0 c0
  have rp := rd_room (ml_room (f := f) f0 a0 b0); have rc := room_m (room_u (f := f) f0 c0)
  have ea := mlE_small (f := f) f0 a0 b0; have ec := uE_range (f := f) f0 c0
  have er := rd_range (s := mlS f a b) ea.1 ea.2
  have rb := rd_base (s := mlS f a b) ea.1 ea.2
  suffices h : pkB f m ng (fpE f a b c) (fpS f a b c) = dcB f m ng (fmX f a b c) (-1099511628031) false ∧ (∀ t, pkFl f m t ng (fpE f a b c) (fpS f a b c) = dcFl f m t ng (fmX f a b c) (-1099511628031) false) ∧ (fpS f a b c = 0 ↔ fmX f a b c = 0) from
    ⟨h.1.trans x1.symm, fun t => (h.2.1 t).trans (x2 t).symm, h.2.2.trans x3.symm⟩
  clear x1 x2 x3
  unfold fpE fpS fmX pF vF
  by_cases h : mlN f a b = negF f c
  · rw [if_pos h, if_pos h, if_pos h, ← rb]
    exact dc_sumM f0 rp rc (by rw [clT_id (by omega) (by omega)]; omega) (by rw [clT_u f0 c0]; omega)
  · rw [if_neg h, if_neg h, if_neg h, ← rb]
    exact dc_diffM f0 rp rc _ rfl
end Go.Proofs.YtnlmceafleeaiaaGreatDoor
namespace Go.Proofs.YtnlmceafleeaiaaGreatDoor
open Go.RowKit
theorem pk_neg {f m ex x : Int} {ng : Bool} (f0 : 0 ≤ f) (hf : f < 4) (hm : m < 5) (x0 : 0 ≤ x) (x1 : x < wfull) : negF f (pkB f m ng ex x) = ng := by
  have mk : ∀ y k : Int, negF f (makeF f ng y k) = ng := fun y k => (make_fields f0 hf ng y k).2.2
  by_cases z : x = 0
  · rw [z, (pk_zero hf hm).1]; exact mk 0 0
  · obtain ⟨s0, s1⟩ := pkS_range (show 0 < x by omega) x1
    rw [(pk_num (exp := ex) (ng := ng) hf hm z).1]
    unfold numB
    by_cases ov : fE f < pkA f m ng (pkE ex x) (pkS x)
    · rw [if_pos ov]
      cases i : infM m ng with
      | true => rw [(over_inf ⟨hf, hm⟩ i).1]; exact mk (2 * fE f + 1) 0
      | false => rw [(over_fin ⟨hf, hm⟩ i).1]; exact mk (2 * fE f) (2 ^ (fP f - 1) - 1)
    · rw [if_neg ov]
      obtain ⟨y, k, e1, _, _⟩ := num_make f0 hf s0 s1 ov
      rw [e1]; exact mk y k
theorem fm_sign {f m a b c : Int} (f0 : 0 ≤ f) (hf : f < 4) (hm : m < 5) (a0 : 0 ≤ a) (a1 : a < full) (b0 : 0 ≤ b) (b1 : b < full) (c0 : 0 ≤ c) (c1 : c < full) (ca : clsF f a ≤ 2) (cb : clsF f b ≤ 2) (cc : clsF f c ≤ 2) (hs : mlN f a b ≠ negF f c) : ∀ R, fmB f m a b c = R →
    0 ≤ R ∧ R < full ∧ (clsF f R = 0 ∨ negF f R = (if pF f a b < vF f c then negF f c else mlN f a b)) ∧ (pF f a b = vF f c → clsF f R = 0) := by
  intro R hR
  obtain ⟨e1, _⟩ := fm_fin (m := m) hf hm a0 a1 b0 b1 c0 c1 ca cb cc
  obtain ⟨_, _, s0, s1⟩ := fm_range (f := f) f0 a0 b0 c0
  obtain ⟨_, _, ze⟩ := fm_exact (m := m) (ng := false) (f := f) f0 a0 b0 c0
  obtain ⟨v0, v1, _, _⟩ := pk_class (m := m) (ex := fmE f a b c) (ng := fmN f m a b c) f0 hf hm s0 s1
  have ng := pk_neg (m := m) (ex := fmE f a b c) (ng := fmN f m a b c) f0 hf hm s0 s1
  rw [e1] at hR
  rw [hR] at v0 v1 ng
  have zero : fmS f a b c = 0 → clsF f R = 0 := fun h => by
    rw [← hR, h, (pk_zero hf hm).1]; exact (nought_cls f0 hf _).1
  refine ⟨v0, v1, ?_, fun h => zero (ze.2 ?_)⟩
  · by_cases z : fmS f a b c = 0
    · exact .inl (zero z)
    · right
      rw [ng]; unfold fmN
      rw [if_neg z, fmT_eq, if_neg hs]
  · unfold fmX; rw [if_neg hs, h, if_neg (by omega)]; omega
theorem pt_val {f l n : Int} {ng : Bool} (f0 : 0 ≤ f) (hf : f < 4) (l0 : 1 - fE f ≤ l) (l1 : l ≤ fE f) (n0 : 0 ≤ n) (n1 : n ≤ 2 ^ fP f) (h : 2 ^ (fP f - 1) ≤ n ∨ l = 1 - fE f) : ∀ B, ptF f ng l n = B →
    0 ≤ B ∧ B < full ∧ negF f B = ng ∧ (clsF f B ≤ 2 → vF f B = n * 2 ^ (l - (fP f - 1 : Nat) + 1099511628031).toNat) ∧ (n < 2 ^ fP f → clsF f B ≤ 2) := by
  intro B hB
  obtain ⟨p0, p1, p2, p3, p4, p5, p6, p7, p8⟩ := f_nums f0 hf
  have tp := pow_top (show 1 ≤ fP f by omega)
  have hp := two_pow_pos (fP f - 1)
  by_cases c1 : n < 2 ^ (fP f - 1)
  · have hl : l = 1 - fE f := h.resolve_left (by omega)
    rw [hl, pt_sub f0 hf ng n0 c1] at hB
    obtain ⟨g0, g1⟩ := make_full f0 (f := f) ng 0 n
    obtain ⟨a1, a2, a3⟩ := make_fields f0 hf ng 0 n
    rw [expOf_id f0 hf (by decide) (by omega)] at a1
    rw [Int.emod_eq_of_lt n0 c1] at a2
    have c := make_fin f0 hf ng n (Int.le_refl 0) (show (0 : Int) ≤ 2 * fE f by omega)
    rw [hB] at g0 g1 a1 a2 a3 c
    refine ⟨g0, g1, a3, fun _ => ?_, fun _ => c⟩
    rw [(vF_val f0 hf g0 c).1]
    unfold uM uX
    rw [if_pos a1, if_pos a1, a2, hl]
  · by_cases c2 : n < 2 ^ fP f
    · rw [pt_nor f0 hf ng (by omega) c2 l0 (by omega)] at hB
      obtain ⟨g0, g1⟩ := make_full f0 (f := f) ng (l + fE f) n
      obtain ⟨a1, a2, a3⟩ := make_fields f0 hf ng (l + fE f) n
      rw [expOf_id f0 hf (by omega) (by omega)] at a1
      rw [show n = (n - 2 ^ (fP f - 1)) + 2 ^ (fP f - 1) by omega, Int.add_emod_right, Int.emod_eq_of_lt (by omega) (by omega), show n - 2 ^ (fP f - 1) + 2 ^ (fP f - 1) = n by omega] at a2
      have c := make_fin f0 hf ng n (show 0 ≤ l + fE f by omega) (show l + fE f ≤ 2 * fE f by omega)
      rw [hB] at g0 g1 a1 a2 a3 c
      refine ⟨g0, g1, a3, fun _ => ?_, fun _ => c⟩
      rw [(vF_val f0 hf g0 c).1]
      unfold uM uX
      rw [if_neg (by omega), if_neg (by omega), a1, a2, show n - 2 ^ (fP f - 1) + 2 ^ (fP f - 1) = n by omega, show l + (fE f : Int) - fE f = l by omega]
    · have hn : n = 2 ^ fP f := by omega
      rw [hn, pt_top f0 hf ng l0 l1] at hB
      obtain ⟨g0, g1⟩ := make_full f0 (f := f) ng (l + fE f + 1) (2 ^ (fP f - 1))
      obtain ⟨a1, a2, a3⟩ := make_fields f0 hf ng (l + fE f + 1) (2 ^ (fP f - 1))
      rw [expOf_id f0 hf (by omega) (by omega)] at a1
      rw [Int.emod_self] at a2
      rw [hB] at g0 g1 a1 a2 a3
      refine ⟨g0, g1, a3, fun c => ?_, fun k => absurd k c2⟩
      rw [(vF_val f0 hf g0 c).1, hn]
      unfold uM uX
      by_cases le : l = fE f
      · exfalso
        unfold clsF at c
        rw [if_pos hf, if_neg (by omega), if_pos (by omega), if_pos a2] at c
        omega
      · rw [if_neg (by omega), if_neg (by omega), a1, a2, Int.zero_add, tp, Int.mul_assoc, show (2 : Int) * 2 ^ (l - ((fP f - 1 : Nat) : Int) + 1099511628031).toNat = 2 ^ (1 + (l - ((fP f - 1 : Nat) : Int) + 1099511628031).toNat) by rw [Int.pow_add]; rfl]
        congr 2; omega
theorem dc_zeroM {f q E : Int} {ng : Bool} (f0 : 0 ≤ f) (hf : f < 4) (q0 : 0 < q) (hl : fP f + 1 ≤ blen q) (hfl : dcFl f 4 false ng q E false = 0 ∨ dcFl f 4 false ng q E false = 16) :
    ∃ (l : Int) (u : Nat), dcB f 4 ng q E false = ptF f ng l (q / 2 ^ u) ∧ 1 - fE f ≤ l ∧ l ≤ fE f ∧ 1 ≤ u ∧ l - (fP f - 1 : Nat) = u + E ∧ 0 ≤ q / 2 ^ u ∧ q / 2 ^ u < 2 ^ fP f ∧ (2 ^ (fP f - 1) ≤ q / 2 ^ u ∨ l = 1 - fE f) ∧ (dcFl f 4 false ng q E false = 0 → q % 2 ^ u = 0) := by
  obtain ⟨p0, p1, p2, p3, p4, p5, p6, p7, p8⟩ := f_nums f0 hf
  have hm : (4 : Int) < 5 := by decide
  have Z : ¬ (q = 0 ∧ false = false) := fun h => by omega
  have FM : (f < 4 ∧ (4 : Int) < 5) ∧ ¬ (q = 0 ∧ false = false) := ⟨⟨hf, hm⟩, Z⟩
  have fl : dcFl f 4 false ng q E false = (if fE f < dcA f 4 ng q E false then overFl f 4 else if restQ q (dcU f q E) false = 0 then 0 else if dcE q E < 1 - fE f then 24 else 16) := by unfold dcFl; rw [if_pos FM]; rfl
  have ov : ¬ (fE f : Int) < dcA f 4 ng q E false := fun h => by
    rw [fl, if_pos h, show overFl f 4 = 20 by unfold overFl; rw [if_pos ⟨hf, hm⟩]] at hfl; omega
  have c4 : ∀ n, cutQ q n false 4 ng = floorQ q n := fun n => by unfold cutQ nextM; rw [if_neg]; split <;> simp
  obtain ⟨c0, c1, cA⟩ := dcA_cases f0 hf q0 4 ng E false
  obtain ⟨n0, n1, n2, n3⟩ := dcN_bounds f0 hf q0 4 ng E false
  have eE : dcE q E = blen q - 1 + E := rfl
  have eU : dcU f q E = pkL f (dcE q E) - dcE q E + (blen q - fP f) := rfl
  have hL := pkL_cases f (dcE q E)
  have eF : dcE q E ≤ fE f := by rcases cA with ⟨h, _⟩ | ⟨h, _⟩ <;> omega
  obtain ⟨u, hu⟩ : ∃ u : Nat, dcU f q E = u := ⟨(dcU f q E).toNat, by omega⟩
  have u1 : 1 ≤ u := by omega
  have fv : floorQ q (dcU f q E) = q / 2 ^ u := by rw [hu, floor_pos (by omega), Int.toNat_natCast]
  have bv : dcB f 4 ng q E false = ptF f ng (pkL f (dcE q E)) (q / 2 ^ u) := by
    unfold dcB; rw [if_pos ⟨hf, hm⟩, if_neg Z, if_neg ov, c4, fv]
  have lt := floor_lt_gen (k := fP f) (n := dcU f q E) (show 0 ≤ q by omega) (lt_blen q (by omega)) (by omega)
  rw [c4, fv] at n0 n3
  rw [fv] at lt
  refine ⟨pkL f (dcE q E), u, bv, by omega, by omega, u1, by omega, n0, lt, ?_, fun h => ?_⟩
  · rcases hL with ⟨h, l⟩ | ⟨h, l⟩
    · exact .inr l
    · exact .inl (n3 h).1
  · rw [fl, if_neg ov] at h
    have r : restQ q (dcU f q E) false = 0 := by
      apply Classical.byContradiction; intro k
      rw [if_neg k] at h; split at h <;> omega
    rw [hu] at r
    have := (rest_zero (q := q) (n := (u : Int)) (by omega)).1 r
    rw [Int.toNat_natCast] at this; exact this
theorem pF_vF {f a b : Int} (f0 : 0 ≤ f) (hf : f < 4) (a0 : 0 ≤ a) (b0 : 0 ≤ b) (ca : clsF f a ≤ 2) (cb : clsF f b ≤ 2) (J : Nat) (hJ : (J : Int) = 1099511628031) : pF f a b * 2 ^ J = vF f a * vF f b := by
  obtain ⟨va, _, _, xa0, xa1⟩ := vF_val f0 hf a0 ca
  obtain ⟨vb, _, _, xb0, xb1⟩ := vF_val f0 hf b0 cb
  obtain ⟨p0, p1, p2, p3, p4, p5, p6, p7, p8⟩ := f_nums f0 hf
  rw [pF_val f0 hf a0 b0 ca cb, va, vb, Int.mul_assoc, ← Int.pow_add, show (uX f a + uX f b + 1099511628031).toNat + J = (uX f a + 1099511628031).toNat + (uX f b + 1099511628031).toNat by omega, Int.pow_add]
  generalize (2 : Int) ^ (uX f a + 1099511628031).toNat = A
  generalize (2 : Int) ^ (uX f b + 1099511628031).toNat = C
  simp only [Int.mul_assoc, Int.mul_left_comm]
theorem rJ_cut {N D : Int} {u : Nat} (D0 : 0 < D) (u1 : 1 ≤ u) : ∀ n, rJ N D / 2 ^ u = n → n * 2 ^ u * D ≤ 2 * N ∧ 2 * N ≤ (n + 1) * 2 ^ u * D ∧ (rJ N D % 2 ^ u = 0 → n * 2 ^ u * D = 2 * N) := by
  intro n hn
  have dm := Int.emod_add_mul_ediv N D
  have r0 := Int.emod_nonneg N (show D ≠ 0 by omega)
  have r1 := Int.emod_lt_of_pos N D0
  have dx := Int.emod_add_mul_ediv (rJ N D) (2 ^ u)
  have x0 := Int.emod_nonneg (rJ N D) (pow_pos' u)
  have x1 := Int.emod_lt_of_pos (rJ N D) (two_pow_pos u)
  rw [hn] at dx
  have e : (2 : Int) ^ u = 2 * 2 ^ (u - 1) := by rw [pow_top u1, Int.mul_comm]
  have ex : rJ N D = 2 * (N / D) + (if N % D = 0 then 0 else 1) := rfl
  have e1 : n * 2 ^ u * D = 2 * (2 ^ (u - 1) * n * D) := by
    rw [e]; generalize (2 : Int) ^ (u - 1) = p; simp only [Int.mul_assoc, Int.mul_left_comm, Int.mul_comm]
  have e2 : (n + 1) * 2 ^ u * D = 2 * ((2 ^ (u - 1) * n + 2 ^ (u - 1)) * D) := by
    rw [e]; generalize (2 : Int) ^ (u - 1) = p
    rw [show p * n + p = (n + 1) * p by rw [Int.add_mul, Int.one_mul, Int.mul_comm], Int.mul_left_comm (n + 1), Int.mul_assoc]
  rw [e1, e2]
  generalize rJ N D % 2 ^ u = xr at dx x0 x1 ⊢
  rw [e, Int.mul_assoc] at dx
  rw [e] at x1
  generalize hP : 2 ^ (u - 1) * n = P at *
  generalize (2 : Int) ^ (u - 1) = p at *
  have b2 : (N % D = 0 ∧ rJ N D = 2 * (N / D)) ∨ (N % D ≠ 0 ∧ rJ N D = 2 * (N / D) + 1) := by
    rw [ex]
    by_cases z : N % D = 0
    · rw [if_pos z]; exact .inl ⟨z, by omega⟩
    · rw [if_neg z]; exact .inr ⟨z, rfl⟩
  rw [Int.mul_comm D] at dm
  generalize N / D = Q at *
  have h1 : P ≤ Q := by omega
  have h2 : Q + 1 ≤ P + p := by omega
  have k1 : P * D ≤ Q * D := Int.mul_le_mul_of_nonneg_right h1 (by omega)
  have k2 : (Q + 1) * D ≤ (P + p) * D := Int.mul_le_mul_of_nonneg_right h2 (by omega)
  rw [Int.add_mul Q, Int.one_mul] at k2
  refine ⟨by omega, by omega, fun h => ?_⟩
  have : P = Q ∧ N % D = 0 := by omega
  rw [this.1]; omega
theorem dv_back {f a b : Int} (f0 : 0 ≤ f) (hf : f < 4) (a0 : 0 ≤ a) (a1 : a < full) (b0 : 0 ≤ b) (b1 : b < full) (ca : clsF f a = 1 ∨ clsF f a = 2) (cb : clsF f b = 1 ∨ clsF f b = 2) (hfl : dvFl f 4 false a b = 0 ∨ dvFl f 4 false a b = 16) : ∀ B, dvB f 4 a b = B →
    0 ≤ B ∧ B < full ∧ B + 1 < full ∧ clsF f B ≤ 2 ∧ (dvFl f 4 false a b = 0 → mlB f 4 B b = cutF f a) ∧
    (∀ R, fmB f 1 (turnF f B) b a = R → 0 ≤ R ∧ R < full ∧ (clsF f R = 0 ∨ negF f R = negF f a)) ∧
    (clsF f (B + 1) ≤ 2 → ∀ R, fmB f 1 (turnF f (B + 1)) b a = R → 0 ≤ R ∧ R < full ∧ (clsF f R = 0 ∨ negF f R = !negF f a)) := by
  intro B hB
  have p8 := fP_le f0
  obtain ⟨p0, p1, p2, p3, p4, p5, p6, p7, _⟩ := f_nums f0 hf
  obtain ⟨d1, d2⟩ := dv_num (m := 4) hf (by decide) a0 a1 b0 b1 ca cb
  obtain ⟨⟨e1, e2⟩, _, _, q0, bq⟩ := dv_exact (m := 4) (ng := mlN f a b) f0 hf a0 b0 ca cb
  rw [d1, e1] at hB
  rw [d2, e2] at hfl ⊢
  obtain ⟨l, u, hb, l0, l1, u1, lu, n0, n1, nl, nz⟩ := dc_zeroM f0 hf q0 (by omega) hfl
  obtain ⟨va, ma0, ma1, xa0, xa1⟩ := vF_val f0 hf a0 (show clsF f a ≤ 2 by omega)
  obtain ⟨vb, mb0, mb1, xb0, xb1⟩ := vF_val f0 hf b0 (show clsF f b ≤ 2 by omega)
  obtain ⟨mbp, _⟩ := um_pos f0 hf b0 cb
  obtain ⟨k1, k2, k3⟩ := rJ_cut (N := uM f a * 2 ^ 400) mbp u1 _ rfl
  rw [hb] at hB
  generalize rJ (uM f a * 2 ^ 400) (uM f b) / 2 ^ u = N at *
  obtain ⟨J, hJ⟩ : ∃ J : Nat, (J : Int) = 1099511628031 := ⟨1099511628031, rfl⟩
  obtain ⟨T, hT⟩ : ∃ T : Nat, (T : Int) = uX f a + 2 * 1099511628031 - 401 := ⟨(uX f a + 2 * 1099511628031 - 401).toNat, by omega⟩
  have hpT := two_pow_pos T
  have hpJ := two_pow_pos J
  have A : vF f a * 2 ^ J = 2 * (uM f a * 2 ^ 400) * 2 ^ T := by
    rw [va, Int.mul_assoc, ← Int.pow_add, show (uX f a + 1099511628031).toNat + J = 1 + (400 + T) by omega, Int.pow_add, Int.pow_add, Int.pow_one]
    generalize (2 : Int) ^ T = y
    generalize (2 : Int) ^ 400 = x
    simp only [Int.mul_assoc, Int.mul_left_comm]
  have prod : ∀ n C : Int, 0 ≤ C → clsF f C ≤ 2 → vF f C = n * 2 ^ (l - (fP f - 1 : Nat) + 1099511628031).toNat → pF f C b * 2 ^ J = n * 2 ^ u * uM f b * 2 ^ T := fun n C C0 cC vC => by
    rw [pF_vF f0 hf C0 b0 cC (show clsF f b ≤ 2 by omega) J hJ, vC, vb, show ∀ x y z v : Int, x * y * (z * v) = x * z * (y * v) from fun x y z v => by simp only [Int.mul_assoc, Int.mul_left_comm], ← Int.pow_add,
      show (l - ((fP f - 1 : Nat) : Int) + 1099511628031).toNat + (uX f b + 1099511628031).toNat = u + T by omega, Int.pow_add]
    generalize (2 : Int) ^ u = y
    generalize (2 : Int) ^ T = z
    simp only [Int.mul_assoc, Int.mul_left_comm]
  obtain ⟨B0, B1, Bn, Bv, Bc⟩ := pt_val (ng := mlN f a b) f0 hf l0 l1 n0 (by omega) nl B hB
  have cB := Bc n1
  have hB2 : ptF f (mlN f a b) l (N + 1) = B + 1 := by rw [ptF_succ, hB]
  obtain ⟨C0, C1, Cn, Cv, _⟩ := pt_val (ng := mlN f a b) (n := N + 1) f0 hf l0 l1 (by omega) (by omega) (by omega) (B + 1) hB2
  have sg : ∀ C, negF f C = mlN f a b → mlN f C b = negF f a := fun C h => by unfold mlN at *; rw [h]; cases negF f a <;> cases negF f b <;> rfl
  have fm : ∀ C, 0 ≤ C → C < full → clsF f C ≤ 2 → negF f C = mlN f a b → ∀ R, fmB f 1 (turnF f C) b a = R →
      0 ≤ R ∧ R < full ∧ (clsF f R = 0 ∨ negF f R = (if pF f C b < vF f a then negF f a else !negF f a)) ∧ (pF f C b = vF f a → clsF f R = 0) := fun C C0 C1 cC nC R hR => by
    obtain ⟨tc, te, ts, tn⟩ := turn_same f0 hf C0
    obtain ⟨t0, t1⟩ := turn_full (f := f) (b := C) f0
    have N1 : mlN f (turnF f C) b = !negF f a := by rw [← sg C nC]; unfold mlN; rw [tn]; cases negF f C <;> cases negF f b <;> rfl
    have P1 : pF f (turnF f C) b = pF f C b := by unfold pF mlE mlS; rw [tc, te, ts]
    have h := fm_sign (m := 1) f0 hf (by decide) t0 t1 b0 b1 a0 a1 (show clsF f (turnF f C) ≤ 2 by omega) (show clsF f b ≤ 2 by omega) (show clsF f a ≤ 2 by omega) (by rw [N1]; cases negF f a <;> decide) R hR
    rw [N1, P1] at h; exact h
  refine ⟨B0, B1, C1, cB, fun h => ?_, fun R hR => ?_, fun cC R hR => ?_⟩
  · have e : pF f B b * 2 ^ J = vF f a * 2 ^ J := by rw [prod N B B0 cB (Bv cB), k3 (nz h), A]
    have e3 : pF f B b = vF f a := Int.eq_of_mul_eq_mul_right (show (2 : Int) ^ J ≠ 0 by omega) e
    obtain ⟨g1, _⟩ := ml_fin (m := 4) f0 hf (by decide) B0 B1 b0 b1 cB (show clsF f b ≤ 2 by omega)
    obtain ⟨h1, _⟩ := ml_dc (f := f) (m := 4) (ng := mlN f B b) (a := B) (b := b) f0 B0 b0
    obtain ⟨s1, _⟩ := dc_same (m := 4) f0 hf (by decide) a0 (show clsF f a ≤ 2 by omega)
    rw [g1, h1, e3, sg B Bn, s1]
  · obtain ⟨R0, R1, R2, R3⟩ := fm B B0 B1 cB Bn R hR
    refine ⟨R0, R1, ?_⟩
    have le : pF f B b ≤ vF f a := by
      refine Int.le_of_mul_le_mul_right ?_ hpJ
      rw [prod N B B0 cB (Bv cB), A]
      exact Int.mul_le_mul_of_nonneg_right k1 (by omega)
    by_cases eq : pF f B b = vF f a
    · exact .inl (R3 eq)
    · rw [if_pos (by omega)] at R2; exact R2
  · obtain ⟨R0, R1, R2, R3⟩ := fm (B + 1) C0 C1 cC Cn R hR
    refine ⟨R0, R1, ?_⟩
    have le : vF f a ≤ pF f (B + 1) b := by
      refine Int.le_of_mul_le_mul_right ?_ hpJ
      rw [prod (N + 1) (B + 1) C0 cC (Cv cC), A]
      exact Int.mul_le_mul_of_nonneg_right k2 (by omega)
    rw [if_neg (by omega)] at R2; exact R2
end Go.Proofs.YtnlmceafleeaiaaGreatDoor
