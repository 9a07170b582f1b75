import Derived.Test.YtjdjonekoodalaaGreatDoorGvA
set_option linter.unusedVariables false
set_option linter.unusedSimpArgs false
set_option maxRecDepth 100000
namespace Go.Proofs.YtjdjonekoodalaaGreatDoor
open Go.RowKit
attribute [local go_sem ↓] Go.wp_at_zero Go.wp_at_succ
def room (x : Int) : Prop := 0 ≤ x ∧ x < wfull ∧ x % full = 0 ∧ (x = 0 ∨ 2 ^ 255 ≤ x)
theorem room_four {x : Int} (h : room x) : x % 4 = 0 := by
  have := h.2.2.1; unfold full at this; omega
theorem lev_top {e x g y : Int} (h : x ≠ 0 ∨ y ≠ 0) : (levT e x g y = clT e ∧ x ≠ 0) ∨ (levT e x g y = clT g ∧ y ≠ 0) := by
  unfold levT
  by_cases hx : x = 0
  · by_cases hy : y = 0
    · omega
    · rw [if_neg (fun k => k.2 hx), if_pos ⟨hx, hy⟩]; exact .inr ⟨rfl, hy⟩
  · by_cases hy : y = 0
    · rw [if_pos ⟨hy, hx⟩]; exact .inl ⟨rfl, hx⟩
    · rw [if_neg (fun k => hy k.1), if_neg (fun k => hx k.1)]
      split
      · exact .inr ⟨rfl, hy⟩
      · exact .inl ⟨rfl, hx⟩
theorem lev_lt {e x g y B : Int} (he : clT e < B) (hg : clT g < B) : levT e x g y < B := by
  unfold levT; repeat' split
  all_goals omega
theorem base_half {e x : Int} (hx : x % 4 = 0) : baseT e x = x / 2 * 2 ^ (clT e + 1 + 1099511627776).toNat := by
  have r := clT_range e
  unfold baseT
  rw [show (clT e + 1 + 1099511627776).toNat = (clT e + 1099511627776).toNat + 1 by omega, Int.pow_succ, Int.mul_comm (2 ^ _) 2, ← Int.mul_assoc, show x / 2 * 2 = x by omega]
theorem jam_even2 {c : Int} (hc : c % 2 = 0) (n : Nat) : jamN (c * 2 ^ n) n = c := by
  have j := jam_add hc 0 n
  rw [jam_nought, Int.add_zero, Int.add_zero] at j; exact j
theorem sum_jam {e x g y : Int} (hx : x % 4 = 0) (hy : y % 4 = 0) : sumT e x g y = jamN (baseT e x + baseT g y) (levT e x g y + 1 + 1099511627776).toNat := by
  obtain ⟨l1, l2⟩ := lev_ge e x g y
  unfold sumT
  rw [al_base (L := levT e x g y + 1) (by rcases l1 with h | h <;> omega), al_base (L := levT e x g y + 1) (by rcases l2 with h | h <;> omega)]
  by_cases h0 : x ≠ 0 ∨ y ≠ 0
  · rcases lev_top (e := e) (g := g) h0 with ⟨h, _⟩ | ⟨h, _⟩
    · rw [h, base_half hx, jam_even2 (by omega), jam_add (by omega)]
    · rw [h, base_half hy, jam_even2 (by omega), Int.add_comm (baseT e x), jam_add (by omega), Int.add_comm]
  · have hx0 : x = 0 := by omega
    have hy0 : y = 0 := by omega
    rw [base_zero.2 hx0, base_zero.2 hy0, jam_nought, Int.add_zero, jam_nought]
theorem pow_ge {x : Int} {k : Nat} (h : 2 ^ k ≤ x) (n : Nat) : 2 ^ (k + n) ≤ x * 2 ^ n := by
  rw [Int.pow_add]; exact pow_le_mul n h
theorem diff_jam {e x g y : Int} (hx : room x) (hy : room y) (h : ¬ cmpT e x g y < 0) :
    diffT e x g y = jamN (baseT e x - baseT g y) (levT e x g y + 1099511627776).toNat ∧ (x ≠ 0 → levT e x g y = clT e) ∧ (x = 0 → y = 0) := by
  have le : baseT g y ≤ baseT e x := by rw [cmpT_base, cmpI_lti] at h; omega
  have r1 := clT_range e; have r2 := clT_range g
  have x4 := room_four hx
  obtain ⟨x0, x1, x2, x3⟩ := hx
  obtain ⟨y0, y1, y2, y3⟩ := hy
  obtain ⟨l1, l2⟩ := lev_ge e x g y
  by_cases zx : x = 0
  · have zy : y = 0 := by
      have b := base_nonneg (e := g) y0
      rw [base_zero.2 zx] at le
      exact (base_zero (e := g)).1 (by omega)
    refine ⟨?_, fun k => absurd zx k, fun _ => zy⟩
    unfold diffT alT
    rw [if_neg h, base_zero.2 zx, base_zero.2 zy, zx, zy, jam_nought, jam_nought, Int.sub_zero, jam_nought]
  · have y3' : y = 0 ∨ 2 ^ 255 ≤ y := y3
    have L : levT e x g y = clT e := by
      rw [lev_down y0 h]
      by_cases zy : y = 0
      · rw [if_pos ⟨zy, zx⟩]
      · rw [if_neg (fun k => zy k.1)]
        by_cases lt : clT e < clT g
        · exfalso
          have yb := y3.resolve_left zy
          have a := pow_ge yb (clT g - clT e).toNat
          have b := two_pow_le (show 256 ≤ 255 + (clT g - clT e).toNat by omega)
          rw [wfull_pow] at b
          have c := pow_lt_mul (clT e + 1099511627776).toNat (show x < y * 2 ^ (clT g - clT e).toNat by omega)
          rw [Int.mul_assoc, ← Int.pow_add, show (clT g - clT e).toNat + (clT e + 1099511627776).toNat = (clT g + 1099511627776).toNat by omega] at c
          unfold baseT at le
          omega
        · rw [if_neg lt]
    refine ⟨?_, fun _ => L, fun k => absurd k zx⟩
    have A : alT e x (levT e x g y) = x := by unfold alT; rw [L, show (clT e - clT e).toNat = 0 by omega, jam_self]
    have B := al_base (x := y) l2
    unfold diffT
    rw [if_neg h, A, B, L]
    have S := jam_sub (a := x) (by omega) (baseT g y) (clT e + 1099511627776).toNat
    exact S.symm
theorem fP_le {f : Int} (f0 : 0 ≤ f) : fP f ≤ 113 := by
  by_cases h : f < 4
  · obtain ⟨p0, p1, p2, p3, p4, p5, p6, p7, p8⟩ := f_nums f0 h; exact p8
  · rw [fP_no h]; omega
theorem base_big {e x : Int} (h : 2 ^ 255 ≤ x) : 2 ^ (255 + (clT e + 1099511627776).toNat) ≤ baseT e x := pow_ge h _
theorem dc_sum {f m e x g y : Int} {ng : Bool} (f0 : 0 ≤ f) (hx : room x) (hy : room y) (he : clT e < 1099511627776) (hg : clT g < 1099511627776) :
    pkB f m ng (levT e x g y + 1) (sumT e x g y) = dcB f m ng (baseT e x + baseT g y) (-1099511628031) false ∧ (∀ t, pkFl f m t ng (levT e x g y + 1) (sumT e x g y) = dcFl f m t ng (baseT e x + baseT g y) (-1099511628031) false) ∧ (sumT e x g y = 0 ↔ baseT e x + baseT g y = 0) := by
  have sj := sum_jam (e := e) (g := g) (room_four hx) (room_four hy)
  obtain ⟨s0, s1⟩ := sum_range (e := e) (g := g) hx.1 hx.2.1 hy.1 hy.2.1
  have lr := lev_range e x g y
  have lt := lev_lt (x := x) (y := y) he hg
  have px := base_nonneg (e := e) hx.1
  have py := base_nonneg (e := g) hy.1
  have r1 := clT_range e; have r2 := clT_range g
  have p8 := fP_le f0
  obtain ⟨d1, d2⟩ := dc_pk (f := f) (m := m) (exp := levT e x g y + 1) (x := sumT e x g y) (ng := ng) f0 s0 s1
  rw [clip_id (by omega) (by omega)] at d1 d2
  by_cases h0 : x ≠ 0 ∨ y ≠ 0
  · have big : 2 ^ (255 + (levT e x g y + 1099511627776).toNat) ≤ baseT e x + baseT g y := by
      rcases lev_top (e := e) (g := g) h0 with ⟨h, z⟩ | ⟨h, z⟩
      · have := base_big (e := e) (hx.2.2.2.resolve_left z); rw [h]; omega
      · have := base_big (e := g) (hy.2.2.2.resolve_left z); rw [h]; omega
    have bl := blen_above big
    have qp : 0 < baseT e x + baseT g y := by have := two_pow_pos (255 + (levT e x g y + 1099511627776).toNat); omega
    have J := dc_jam (f := f) (m := m) (ng := ng) (E := -1099511628031) (levT e x g y + 1 + 1099511627776).toNat qp (by omega)
    rw [← sj, show (-1099511628031 : Int) + ((levT e x g y + 1 + 1099511627776).toNat : Int) = levT e x g y + 1 - 255 by omega] at J
    refine ⟨d1.symm.trans J.1, fun t => (d2 t).symm.trans (J.2 t), ?_⟩
    rw [sj]; exact jam_zero (by omega) _
  · have zx : x = 0 := by omega
    have zy : y = 0 := by omega
    have b : baseT e x + baseT g y = 0 := by rw [base_zero.2 zx, base_zero.2 zy]; rfl
    have s : sumT e x g y = 0 := by rw [sj, b]; exact jam_nought _
    rw [s] at d1 d2 ⊢
    rw [b]
    rw [dc_zero.1] at d1 ⊢
    exact ⟨d1.symm, fun t => by rw [← d2 t, dc_zero.2, dc_zero.2], by simp⟩
theorem dc_diff0 {f m e x g y : Int} {ng : Bool} (f0 : 0 ≤ f) (hx : room x) (hy : room y) (h : ¬ cmpT e x g y < 0) :
    pkB f m ng (levT e x g y) (diffT e x g y) = dcB f m ng (baseT e x - baseT g y) (-1099511628031) false ∧ (∀ t, pkFl f m t ng (levT e x g y) (diffT e x g y) = dcFl f m t ng (baseT e x - baseT g y) (-1099511628031) false) ∧ (diffT e x g y = 0 ↔ baseT e x - baseT g y = 0) := by
  obtain ⟨sj, lx, zz⟩ := diff_jam hx hy h
  have le : baseT g y ≤ baseT e x := by rw [cmpT_base, cmpI_lti] at h; omega
  obtain ⟨s0, s1⟩ := diff_range (e := e) (g := g) hx.1 hx.2.1 hy.1 hy.2.1
  have lr := lev_range e x g y
  have r1 := clT_range e; have r2 := clT_range g
  have p8 := fP_le f0
  obtain ⟨d1, d2⟩ := dc_pk (f := f) (m := m) (exp := levT e x g y) (x := diffT e x g y) (ng := ng) f0 s0 s1
  rw [clip_id (by omega) (by omega)] at d1 d2
  by_cases q0 : baseT e x - baseT g y = 0
  · have s : diffT e x g y = 0 := by rw [sj, q0]; exact jam_nought _
    rw [s] at d1 d2 ⊢
    rw [q0]
    rw [dc_zero.1] at d1 ⊢
    exact ⟨d1.symm, fun t => by rw [← d2 t, dc_zero.2, dc_zero.2], by simp⟩
  · have xz : x ≠ 0 := fun k => q0 (by rw [base_zero.2 k, base_zero.2 (zz k)]; rfl)
    have L := lx xz
    obtain ⟨l1, l2⟩ := lev_ge e x g y
    have xb := hx.2.2.2.resolve_left xz
    have X := base_big (e := e) xb
    have bl : (levT e x g y + 1099511627776).toNat + 115 ≤ blen (baseT e x - baseT g y) := by
      rw [L]
      by_cases yz : y = 0
      · have := blen_above X
        rw [base_zero.2 yz, Int.sub_zero]; omega
      · have gl : clT g ≤ clT e := by rw [← L]; exact l2.resolve_right yz
        obtain ⟨j, hj⟩ : ∃ j : Nat, clT e - clT g = j := ⟨(clT e - clT g).toNat, by omega⟩
        obtain ⟨M, hM⟩ : ∃ M : Nat, (clT g + 1099511627776).toNat = M := ⟨_, rfl⟩
        have hN : (clT e + 1099511627776).toNat = j + M := by omega
        unfold baseT at X q0 le ⊢
        rw [hN] at X q0 le ⊢
        rw [hM] at q0 le ⊢
        by_cases j2 : 2 ≤ j
        · have yl : y * 2 ^ M < 2 ^ (254 + (j + M)) := by
            have a := pow_lt_mul M (show y < 2 ^ 256 by rw [wfull_pow]; exact hy.2.1)
            rw [← Int.pow_add] at a
            have := two_pow_le (show 256 + M ≤ 254 + (j + M) by omega)
            omega
          have e2 : (2 : Int) ^ (255 + (j + M)) = 2 ^ (254 + (j + M)) * 2 := by rw [← Int.pow_succ]; congr 1; omega
          have := blen_above (q := x * 2 ^ (j + M) - y * 2 ^ M) (k := 254 + (j + M)) (by omega)
          omega
        · have e3 : x * 2 ^ (j + M) - y * 2 ^ M = (x * 2 ^ j - y) * 2 ^ M := by rw [Int.sub_mul, Int.pow_add, ← Int.mul_assoc]
          rw [e3] at q0 ⊢
          have hp := two_pow_pos M
          have nn : ¬ x * 2 ^ j - y = 0 := fun k => q0 (by rw [k, Int.zero_mul])
          have ps : 0 ≤ x * 2 ^ j - y := by
            rw [← Int.sub_nonneg, e3] at le
            exact Int.nonneg_of_mul_nonneg_left le hp
          have dv : (x * 2 ^ j - y) % full = 0 := by
            have dx : full ∣ x := Int.dvd_of_emod_eq_zero hx.2.2.1
            have dy : full ∣ y := Int.dvd_of_emod_eq_zero hy.2.2.1
            exact Int.emod_eq_zero_of_dvd (Int.dvd_sub (Int.dvd_trans dx (Int.dvd_mul_right _ _)) dy)
          have big : 2 ^ 128 ≤ x * 2 ^ j - y := by
            rw [full_pow]; unfold full at dv ⊢; omega
          have := blen_above (pow_ge big M)
          omega
    have J := dc_jam (f := f) (m := m) (ng := ng) (E := -1099511628031) (levT e x g y + 1099511627776).toNat (show 0 < baseT e x - baseT g y by omega) (by omega)
    rw [← sj, show (-1099511628031 : Int) + ((levT e x g y + 1099511627776).toNat : Int) = levT e x g y - 255 by omega] at J
    refine ⟨d1.symm.trans J.1, fun t => (d2 t).symm.trans (J.2 t), ?_⟩
    rw [sj]; exact jam_zero (by omega) _
theorem dc_diff {f m e x g y : Int} {ng : Bool} (f0 : 0 ≤ f) (hx : room x) (hy : room y) : ∀ q : Int, (if baseT e x < baseT g y then baseT g y - baseT e x else baseT e x - baseT g y) = q →
    pkB f m ng (levT e x g y) (diffT e x g y) = dcB f m ng q (-1099511628031) false ∧ (∀ t, pkFl f m t ng (levT e x g y) (diffT e x g y) = dcFl f m t ng q (-1099511628031) false) ∧ (diffT e x g y = 0 ↔ q = 0) := by
  intro q hq
  subst hq
  have c : cmpT e x g y < 0 ↔ baseT e x < baseT g y := by rw [cmpT_base, cmpI_lti]
  by_cases h : cmpT e x g y < 0
  · rw [if_pos (c.1 h), ← lev_turn e x g y, ← diff_turn e x g y]
    exact dc_diff0 f0 hy hx (by rw [cmpT_turn]; omega)
  · rw [if_neg (fun k => h (c.2 k))]
    exact dc_diff0 f0 hx hy h
def vF (f b : Int) : Int := baseT (uE f b) (uS f b * full)
theorem room_u {f b : Int} (f0 : 0 ≤ f) (b0 : 0 ≤ b) : room (uS f b * full) := by
  obtain ⟨s0, s1⟩ := uS_range f0 b0
  have w2 : wfull = full * full := by decide +kernel
  refine ⟨Int.mul_nonneg s0 (by decide), by rw [w2]; exact Int.mul_lt_mul_of_pos_right s1 (by decide), Int.mul_emod_left .., ?_⟩
  by_cases h : f < 4
  · by_cases c : clsF f b = 1 ∨ clsF f b = 2
    · obtain ⟨_, _, r, _⟩ := un_range f0 h b0 c
      right
      rw [← full_pow, show 255 = 127 + 128 from rfl]
      exact pow_ge r 128
    · left; rw [(u_none c).2, Int.zero_mul]
  · left; unfold uS clsF; rw [if_neg h, if_neg (by decide), Int.zero_mul]
theorem clT_u {f b : Int} (f0 : 0 ≤ f) (b0 : 0 ≤ b) : clT (uE f b) = uE f b := by
  have := uE_range (f := f) f0 b0; exact clT_id (by omega) (by omega)
theorem vF_nonneg {f b : Int} (f0 : 0 ≤ f) (b0 : 0 ≤ b) : 0 ≤ vF f b := base_nonneg (room_u f0 b0).1
theorem vF_val {f b : Int} (f0 : 0 ≤ f) (hf : f < 4) (b0 : 0 ≤ b) (c : clsF f b ≤ 2) : vF f b = uM f b * 2 ^ (uX f b + 1099511628031).toNat ∧ 0 ≤ uM f b ∧ uM f b < 2 ^ fP f ∧ 2 - fE f - fP f ≤ uX f b ∧ uX f b ≤ 16383 := by
  obtain ⟨p0, p1, p2, p3, p4, p5, p6, p7, p8⟩ := f_nums f0 hf
  obtain ⟨r0, r1⟩ := frac_range (b := b) f0 hf
  obtain ⟨x0, x1, x2, x3⟩ := exp_range f0 hf b0
  have cr := cls_range f b
  have tp := pow_top (show 1 ≤ fP f by omega)
  have m0 : 0 ≤ uM f b ∧ uM f b < 2 ^ fP f := by unfold uM; split <;> omega
  have xr : 2 - fE f - fP f ≤ uX f b ∧ uX f b ≤ 16383 := by
    have ne : expF f b ≠ 2 * fE f + 1 := by
      intro h; unfold clsF at c; rw [if_pos hf, if_neg (by omega), if_pos h] at c; split at c
      · omega
      · split at c <;> omega
    unfold uX; split <;> omega
  refine ⟨?_, m0.1, m0.2, xr.1, xr.2⟩
  by_cases k : clsF f b = 1 ∨ clsF f b = 2
  · have ue : uE f b = uX f b + blen (uM f b) - 1 := by unfold uE; rw [if_pos k]
    have us : uS f b = uM f b * 2 ^ (128 - blen (uM f b)) := by unfold uS; rw [if_pos k]
    have l := blen_le m0.1 m0.2
    have er := uE_range (f := f) f0 b0
    unfold vF baseT
    rw [clT_u f0 b0, us, ← full_pow, Int.mul_assoc, Int.mul_assoc, ← Int.pow_add, ← Int.pow_add]
    congr 2; omega
  · have c0 : clsF f b = 0 := by omega
    obtain ⟨x, y⟩ := (cls_0 hf).1 c0
    have : uM f b = 0 := by unfold uM; rw [if_pos x]; exact y
    unfold vF
    rw [(u_none k).2, Int.zero_mul, base_zero.2 rfl, this, Int.zero_mul]
theorem vF_zero {f b : Int} (f0 : 0 ≤ f) (hf : f < 4) (b0 : 0 ≤ b) (c : clsF f b ≤ 2) : vF f b = 0 ↔ clsF f b = 0 := by
  have cr := cls_range f b
  unfold vF
  rw [base_zero]
  constructor
  · intro h
    apply Classical.byContradiction; intro z
    obtain ⟨_, _, r, _⟩ := un_range f0 hf b0 (show clsF f b = 1 ∨ clsF f b = 2 by omega)
    have := two_pow_pos 127
    unfold full at h; omega
  · intro h; rw [(u_none (by omega)).2, Int.zero_mul]
def ulpF (f : Int) : Nat := (2 - fE f - fP f + 1099511628031 : Int).toNat
theorem ulpF_eq {f : Int} (f0 : 0 ≤ f) (hf : f < 4) : (ulpF f : Int) = 2 - fE f - fP f - -1099511628031 := by
  obtain ⟨p0, p1, p2, p3, p4, p5, p6, p7, p8⟩ := f_nums f0 hf
  unfold ulpF; omega
theorem vF_unit {f b : Int} (f0 : 0 ≤ f) (hf : f < 4) (b0 : 0 ≤ b) (c : clsF f b ≤ 2) : (2 : Int) ^ ulpF f ∣ vF f b := by
  obtain ⟨v, m0, m1, x0, x1⟩ := vF_val f0 hf b0 c
  have u := ulpF_eq f0 hf
  obtain ⟨p0, p1, p2, p3, p4, p5, p6, p7, p8⟩ := f_nums f0 hf
  rw [v, show (uX f b + 1099511628031).toNat = (uX f b + 1099511628031 - ulpF f).toNat + ulpF f by omega, Int.pow_add, ← Int.mul_assoc]
  exact Int.dvd_mul_left _ _
def topF : Nat := 16639 + 1099511627776
theorem vF_top {f b : Int} (f0 : 0 ≤ f) (b0 : 0 ≤ b) : vF f b < 2 ^ topF := by
  have er := uE_range (f := f) f0 b0
  have r := (room_u (f := f) f0 b0).2.1
  rw [← wfull_pow] at r
  unfold vF baseT
  rw [clT_u f0 b0]
  have a := pow_lt_mul (uE f b + 1099511627776).toNat r
  rw [← Int.pow_add] at a
  have := two_pow_le (show 256 + (uE f b + 1099511627776).toNat ≤ topF by unfold topF; omega)
  omega
def adX (f a b : Int) (s : Bool) : Int := if negF f a = s then vF f a + vF f b else if vF f a < vF f b then vF f b - vF f a else vF f a - vF f b
def adE (f a b : Int) (s : Bool) : Int := if negF f a = s then levT (uE f a) (uS f a * full) (uE f b) (uS f b * full) + 1 else levT (uE f a) (uS f a * full) (uE f b) (uS f b * full)
def adS (f a b : Int) (s : Bool) : Int := if negF f a = s then sumT (uE f a) (uS f a * full) (uE f b) (uS f b * full) else diffT (uE f a) (uS f a * full) (uE f b) (uS f b * full)
def adT (f a b : Int) (s : Bool) : Bool := if negF f a = s then negF f a else if cmpT (uE f a) (uS f a * full) (uE f b) (uS f b * full) < 0 then s else negF f a
def noM (m : Int) (a b : Bool) : Bool := if a = b then a else decide (m = 3)
def adN (f m a b : Int) (s : Bool) : Bool := if adS f a b s = 0 then noM m (negF f a) s else adT f a b s
def adI (f a b : Int) (s : Bool) : Bool := decide (clsF f a = 3 ∧ clsF f b = 3 ∧ negF f a ≠ s)
def adB (f m a b : Int) (s : Bool) : Int := if f < 4 ∧ m < 5 then (if pickK f (adI f a b s) [a, b] then pickV f (adI f a b s) [a, b] else if clsF f a = 3 then infF f (negF f a) else if clsF f b = 3 then infF f s else pkB f m (adN f m a b s) (adE f a b s) (adS f a b s)) else 0
def adFl (f m : Int) (t : Bool) (a b : Int) (s : Bool) : Int := if f < 4 ∧ m < 5 then (if pickK f (adI f a b s) [a, b] then pickF f (adI f a b s) [a, b] else if clsF f a = 3 then 0 else if clsF f b = 3 then 0 else pkFl f m t (adN f m a b s) (adE f a b s) (adS f a b s)) else 0
def turnF (f b : Int) : Int := makeF f (!negF f b) (expF f b) (fracF f b)
structure AddOK : Prop where
  add : ∀ f m t a b, 0 ≤ f → f ≤ 255 → 0 ≤ m → m ≤ 255 → 0 ≤ a → a < full → 0 ≤ b → b < full → ∀ w, FTab w → Calls Tryz.prog 18 #[.int .u8 f, .agg #[.int .u8 m, .bool t], .agg #[.int .u64 (hiOf (a)), .int .u64 (loOf (a))], .agg #[.int .u64 (hiOf (b)), .int .u64 (loOf (b))]] w fun e w' => e = .returned (.agg #[.int .u64 (hiOf (adB f m a b (negF f b))), .int .u64 (loOf (adB f m a b (negF f b))), .int .u8 (adFl f m t a b (negF f b))]) ∧ Below w.heap.size w w'
  turn : ∀ f b, 0 ≤ f → f ≤ 255 → 0 ≤ b → b < full → ∀ w, FTab w → Calls Tryz.prog 23 #[.int .u8 f, .agg #[.int .u64 (hiOf (b)), .int .u64 (loOf (b))]] w fun e w' => e = .returned (.agg #[.int .u64 (hiOf (turnF f b)), .int .u64 (loOf (turnF f b))]) ∧ Below w.heap.size w w'
  nought : ∀ m t a b, 0 ≤ m → m ≤ 255 → ∀ w, Calls Tryz.prog 52 #[.agg #[.int .u8 m, .bool t], .bool a, .bool b] w fun e w' => e = .returned (.bool (noM m a b)) ∧ Below w.heap.size w w'
theorem ad_exact {f m a b : Int} {s ng : Bool} (f0 : 0 ≤ f) (a0 : 0 ≤ a) (b0 : 0 ≤ b) :
    pkB f m ng (adE f a b s) (adS f a b s) = dcB f m ng (adX f a b s) (-1099511628031) false ∧ (∀ t, pkFl f m t ng (adE f a b s) (adS f a b s) = dcFl f m t ng (adX f a b s) (-1099511628031) false) ∧ (adS f a b s = 0 ↔ adX f a b s = 0) := by
  have ra := room_u (f := f) f0 a0; have rb := room_u (f := f) f0 b0
  have ea := uE_range (f := f) f0 a0; have eb := uE_range (f := f) f0 b0
  unfold adE adS adX
  by_cases h : negF f a = s
  · rw [if_pos h, if_pos h, if_pos h]
    exact dc_sum f0 ra rb (by rw [clT_u f0 a0]; omega) (by rw [clT_u f0 b0]; omega)
  · rw [if_neg h, if_neg h, if_neg h]
    exact dc_diff f0 ra rb _ rfl
theorem ad_range {f a b : Int} (s : Bool) (f0 : 0 ≤ f) (a0 : 0 ≤ a) (b0 : 0 ≤ b) : -9223372036854775808 ≤ adE f a b s ∧ adE f a b s ≤ 9223372036854775807 ∧ 0 ≤ adS f a b s ∧ adS f a b s < wfull := by
  have ra := room_u (f := f) f0 a0; have rb := room_u (f := f) f0 b0
  have lr := lev_range (uE f a) (uS f a * full) (uE f b) (uS f b * full)
  have s1 := sum_range (e := uE f a) (g := uE f b) ra.1 ra.2.1 rb.1 rb.2.1
  have s2 := diff_range (e := uE f a) (g := uE f b) ra.1 ra.2.1 rb.1 rb.2.1
  unfold adE adS
  split
  · exact ⟨by omega, by omega, s1.1, s1.2⟩
  · exact ⟨by omega, by omega, s2.1, s2.2⟩
theorem adX_range {f a b : Int} (s : Bool) (f0 : 0 ≤ f) (a0 : 0 ≤ a) (b0 : 0 ≤ b) : 0 ≤ adX f a b s ∧ adX f a b s < 2 ^ (topF + 1) ∧ adX f a b s ≤ vF f a + vF f b := by
  have va := vF_nonneg f0 a0; have vb := vF_nonneg f0 b0
  have ta := vF_top f0 a0; have tb := vF_top f0 b0
  have e2 : (2 : Int) ^ (topF + 1) = 2 ^ topF * 2 := Int.pow_succ ..
  unfold adX; repeat' split
  all_goals omega
theorem ad_fin {f m a b : Int} {s : Bool} (f0 : 0 ≤ f) (hf : f < 4) (hm : m < 5) (a0 : 0 ≤ a) (a1 : a < full) (b0 : 0 ≤ b) (b1 : b < full) (ca : clsF f a ≤ 2) (cb : clsF f b ≤ 2) :
    adB f m a b s = pkB f m (adN f m a b s) (adE f a b s) (adS f a b s) ∧ ∀ t, adFl f m t a b s = pkFl f m t (adN f m a b s) (adE f a b s) (adS f a b s) := by
  have na : nanF f a = false := by unfold nanF; simp; omega
  have nb : nanF f b = false := by unfold nanF; simp; omega
  have ii : adI f a b s = false := by unfold adI; rw [decide_eq_false]; omega
  have an : anyN f [a, b] = false := by unfold anyN; simp [Int.emod_eq_of_lt a0 a1, Int.emod_eq_of_lt b0 b1, na, nb]
  obtain ⟨k1, k2, k3⟩ := pick_none (f := f) [a, b] an
  unfold adB adFl
  rw [if_pos ⟨hf, hm⟩, ii, k3, if_neg (by decide), if_neg (by omega), if_neg (by omega)]
  refine ⟨rfl, fun t => ?_⟩
  rw [if_pos ⟨hf, hm⟩, if_neg (by decide), if_neg (by omega), if_neg (by omega)]
theorem turn_fields {f b : Int} (f0 : 0 ≤ f) (hf : f < 4) (b0 : 0 ≤ b) : expF f (turnF f b) = expF f b ∧ fracF f (turnF f b) = fracF f b ∧ negF f (turnF f b) = !negF f b := by
  obtain ⟨x0, x1, x2, x3⟩ := exp_range f0 hf b0
  obtain ⟨r0, r1⟩ := frac_range (b := b) f0 hf
  obtain ⟨e1, e2, e3⟩ := make_fields f0 hf (!negF f b) (expF f b) (fracF f b)
  rw [expOf_id f0 hf x0 x1] at e1
  rw [Int.emod_eq_of_lt r0 r1] at e2
  exact ⟨e1, e2, e3⟩
theorem turn_full {f b : Int} (f0 : 0 ≤ f) : 0 ≤ turnF f b ∧ turnF f b < full := make_full f0 _ _ _
theorem turn_same {f b : Int} (f0 : 0 ≤ f) (hf : f < 4) (b0 : 0 ≤ b) : clsF f (turnF f b) = clsF f b ∧ uE f (turnF f b) = uE f b ∧ uS f (turnF f b) = uS f b ∧ negF f (turnF f b) = !negF f b := by
  obtain ⟨e1, e2, e3⟩ := turn_fields f0 hf b0
  have c := cls_congr (f := f) e1 e2
  have m : uM f (turnF f b) = uM f b := by unfold uM; rw [e1, e2]
  have x : uX f (turnF f b) = uX f b := by unfold uX; rw [e1]
  exact ⟨c, by unfold uE; rw [c, m, x], by unfold uS; rw [c, m], e3⟩
theorem exp_i64 {f b : Int} (f0 : 0 ≤ f) (b0 : 0 ≤ b) : -9223372036854775808 ≤ expF f b ∧ expF f b ≤ 9223372036854775807 := by
  by_cases hf : f < 4
  · obtain ⟨x0, x1, x2, x3⟩ := exp_range f0 hf b0; omega
  · unfold expF; rw [if_neg hf]; decide
end Go.Proofs.YtjdjonekoodalaaGreatDoor
namespace Go.Proofs.YtjdjonekoodalaaGreatDoor
open Go.RowKit
theorem dc_same {f m b : Int} (f0 : 0 ≤ f) (hf : f < 4) (hm : m < 5) (b0 : 0 ≤ b) (c : clsF f b ≤ 2) : dcB f m (negF f b) (vF f b) (-1099511628031) false = cutF f b ∧ ∀ t, dcFl f m t (negF f b) (vF f b) (-1099511628031) false = 0 := by
  obtain ⟨p1, p2⟩ := pk_same (m := m) f0 hf hm b0 c
  have r := room_u (f := f) f0 b0
  have er := uE_range (f := f) f0 b0
  obtain ⟨d1, d2⟩ := dc_pk (f := f) (m := m) (exp := uE f b) (x := uS f b * full) (ng := negF f b) f0 r.1 r.2.1
  rw [clip_id (by omega) (by omega)] at d1 d2
  have s := dc_scale (f := f) (m := m) (E := uE f b - 255) (ng := negF f b) (uE f b + 1099511627776).toNat r.1
  rw [show uE f b - 255 - (((uE f b + 1099511627776).toNat : Nat) : Int) = -1099511628031 by omega] at s
  have v : vF f b = uS f b * full * 2 ^ (uE f b + 1099511627776).toNat := by unfold vF baseT; rw [clT_u f0 b0]
  rw [v]
  exact ⟨s.1.trans (d1.trans p1), fun t => (s.2 t).trans ((d2 t).trans (p2 t))⟩
theorem any_two {f a b : Int} (a0 : 0 ≤ a) (a1 : a < full) (b0 : 0 ≤ b) (b1 : b < full) (na : nanF f a = false) (nb : nanF f b = false) : anyN f [a, b] = false ∧ firstV f [a, b] = defF f := by
  constructor
  · unfold anyN; simp [Int.emod_eq_of_lt a0 a1, Int.emod_eq_of_lt b0 b1, na, nb]
  · unfold firstV; simp [List.find?, Int.emod_eq_of_lt a0 a1, Int.emod_eq_of_lt b0 b1, na, nb]
theorem vF_dcE {f b : Int} (f0 : 0 ≤ f) (hf : f < 4) (b0 : 0 ≤ b) (c : clsF f b = 1 ∨ clsF f b = 2) : 0 < vF f b ∧ dcE (vF f b) (-1099511628031) = uE f b := by
  obtain ⟨r0, r1, r2, r3⟩ := room_u (f := f) f0 b0
  obtain ⟨_, _, u, _⟩ := un_range f0 hf b0 c
  have hp := two_pow_pos 127
  have nz : uS f b * full ≠ 0 := by unfold full; omega
  have lo := r3.resolve_left nz
  have bl : blen (uS f b * full) = 256 := blen_of (j := 255) lo (by rw [wfull_pow]; exact r1)
  have er := uE_range (f := f) f0 b0
  have pw := two_pow_pos (uE f b + 1099511627776).toNat
  unfold vF baseT
  rw [clT_u f0 b0]
  refine ⟨Int.mul_pos (by omega) pw, ?_⟩
  unfold dcE
  rw [blen_shl (by omega), bl]; omega
theorem dc_fits {f m q M : Int} {ng : Bool} {j : Nat} (f0 : 0 ≤ f) (hf : f < 4) (hm : m < 5) (hq : q = M * 2 ^ j) (M0 : 0 < M) (M1 : M < 2 ^ fP f) (hj : ulpF f ≤ j) (he : dcE q (-1099511628031) ≤ fE f) :
    (∀ t, dcFl f m t ng q (-1099511628031) false = 0) ∧ vF f (dcB f m ng q (-1099511628031) false) = q := by
  obtain ⟨p0, p1, p2, p3, p4, p5, p6, p7, p8⟩ := f_nums f0 hf
  have u := ulpF_eq f0 hf
  have hp := two_pow_pos j
  have qp : 0 < q := by rw [hq]; exact Int.mul_pos M0 hp
  have bm := blen_le (show 0 ≤ M by omega) M1
  have bp := blen_pos M0
  have bl : blen q = blen M + j := by rw [hq]; exact blen_shl M0 j
  have eE : dcE q (-1099511628031) = blen q - 1 + -1099511628031 := rfl
  have eU : dcU f q (-1099511628031) = pkL f (dcE q (-1099511628031)) - dcE q (-1099511628031) + (blen q - fP f) := rfl
  have hL := pkL_cases f (dcE q (-1099511628031))
  have rz : ∀ n : Int, 0 < n → n ≤ j → restQ q n false = 0 ∧ q / 2 ^ n.toNat * 2 ^ n.toNat = q := fun n n0 n1 => by
    have e : q % 2 ^ n.toNat = 0 := by
      rw [hq, show j = (j - n.toNat) + n.toNat by omega, Int.pow_add, ← Int.mul_assoc]; exact Int.mul_emod_left ..
    refine ⟨(rest_zero n0).2 e, ?_⟩
    have := Int.mul_ediv_add_emod q (2 ^ n.toNat); rw [e, Int.mul_comm] at this; omega
  have d0 : 0 < dcU f q (-1099511628031) ∧ dcU f q (-1099511628031) ≤ j := by omega
  obtain ⟨r, qe⟩ := rz _ d0.1 d0.2
  obtain ⟨r2, _⟩ := rz ((blen q : Int) - fP f) (by omega) (by omega)
  obtain ⟨c0, c1, cA⟩ := dcA_cases f0 hf qp m ng (-1099511628031) false
  have fl := floor_lt_gen (k := fP f) (n := (blen q : Int) - fP f) (show 0 ≤ q by omega) (lt_blen q (by omega)) (by omega)
  rw [cut_none r2] at cA c0 c1
  have A : dcA f m ng q (-1099511628031) false = dcE q (-1099511628031) := by
    rcases cA with ⟨h, _⟩ | ⟨_, _, h⟩
    · exact h
    · omega
  have Z : ¬ (q = 0 ∧ false = false) := fun h => by omega
  have FM : (f < 4 ∧ m < 5) ∧ ¬ (q = 0 ∧ false = false) := ⟨⟨hf, hm⟩, Z⟩
  have ov : ¬ (fE f : Int) < dcA f m ng q (-1099511628031) false := by rw [A]; omega
  obtain ⟨n0, n1, n2, n3⟩ := dcN_bounds f0 hf qp m ng (-1099511628031) false
  constructor
  · intro t
    unfold dcFl
    rw [if_pos FM, if_neg ov, if_pos r]
  · have bv : dcB f m ng q (-1099511628031) false = ptF f ng (pkL f (dcE q (-1099511628031))) (q / 2 ^ (dcU f q (-1099511628031)).toNat) := by
      unfold dcB; rw [if_pos ⟨hf, hm⟩, if_neg Z, if_neg ov, cut_none r, floor_pos d0.1]
    rw [cut_none r, floor_pos d0.1] at n0 n1 n2 n3
    obtain ⟨d, hd⟩ : ∃ d : Nat, dcU f q (-1099511628031) = d := ⟨(dcU f q (-1099511628031)).toNat, by omega⟩
    rw [hd, Int.toNat_natCast] at bv n0 n1 n2 n3 qe
    have hp2 := two_pow_pos d
    have tp := pow_top (show 1 ≤ fP f by omega)
    have np : q / 2 ^ d ≠ 0 := fun h => by rw [h, Int.zero_mul] at qe; omega
    rw [bv]
    rcases hL with ⟨h1, l⟩ | ⟨h1, l⟩
    · have nl : q / 2 ^ d < 2 ^ (fP f - 1) := by
        have b := lt_blen q (by omega)
        have s := two_pow_le (show blen q ≤ fP f - 1 + d by omega)
        rw [Int.pow_add] at s
        exact Int.ediv_lt_of_lt_mul hp2 (by omega)
      rw [l, pt_sub f0 hf ng n0 nl]
      obtain ⟨a1, a2, _⟩ := make_fields f0 hf ng 0 (q / 2 ^ d)
      rw [expOf_id f0 hf (by decide) (by omega)] at a1
      rw [Int.emod_eq_of_lt n0 nl] at a2
      have c : clsF f (makeF f ng 0 (q / 2 ^ d)) = 1 := (cls_1 hf).2 ⟨a1, by rw [a2]; exact np⟩
      have v := (vF_val f0 hf (make_full f0 ng 0 (q / 2 ^ d)).1 (by omega)).1
      rw [v]
      unfold uM uX
      rw [if_pos a1, if_pos a1, a2, show (1 - (fE f : Int) - ((fP f - 1 : Nat) : Int) + 1099511628031).toNat = d by omega]
      exact qe
    · obtain ⟨n3, n4⟩ := n3 h1
      have nl : q / 2 ^ d < 2 ^ fP f := by
        rw [floor_pos (by omega), ← n4, Int.toNat_natCast] at fl; exact fl
      rw [l, pt_nor f0 hf ng n3 nl (by omega) (by omega)]
      obtain ⟨a1, a2, _⟩ := make_fields f0 hf ng (dcE q (-1099511628031) + fE f) (q / 2 ^ d)
      rw [expOf_id f0 hf (by omega) (by omega)] at a1
      rw [show q / 2 ^ d = (q / 2 ^ d - 2 ^ (fP f - 1)) + 2 ^ (fP f - 1) by omega, Int.add_emod_right, Int.emod_eq_of_lt (by omega) (by omega), show q / 2 ^ d - 2 ^ (fP f - 1) + 2 ^ (fP f - 1) = q / 2 ^ d by omega] at a2
      have c : clsF f (makeF f ng (dcE q (-1099511628031) + fE f) (q / 2 ^ d)) = 2 := (cls_2 hf).2 ⟨by omega, by omega⟩
      have v := (vF_val f0 hf (make_full f0 ng (dcE q (-1099511628031) + fE f) (q / 2 ^ d)).1 (by omega)).1
      rw [v]
      unfold uM uX
      rw [if_neg (by omega), if_neg (by omega), a1, a2, show q / 2 ^ d - 2 ^ (fP f - 1) + 2 ^ (fP f - 1) = q / 2 ^ d by omega,
        show (dcE q (-1099511628031) + (fE f : Int) - fE f - ((fP f - 1 : Nat) : Int) + 1099511628031).toNat = d by omega]
      exact qe
end Go.Proofs.YtjdjonekoodalaaGreatDoor
namespace Go.Proofs.YtjdjonekoodalaaGreatDoor
open Go.RowKit
def szF (f b : Int) : Int := makeF f false (expF f b) (fracF f b)
theorem sz_full {f b : Int} (f0 : 0 ≤ f) : 0 ≤ szF f b ∧ szF f b < full := make_full f0 _ _ _
def plainF (f b : Int) : Prop := 0 ≤ b ∧ b < full ∧ clsF f b ≤ 2 ∧ negF f b = false ∧ cutF f b = b
theorem sz_same {f b : Int} (f0 : 0 ≤ f) (hf : f < 4) (b0 : 0 ≤ b) (c : clsF f b ≤ 2) : plainF f (szF f b) ∧ vF f (szF f b) = vF f b := by
  obtain ⟨x0, x1, x2, x3⟩ := exp_range f0 hf b0
  obtain ⟨r0, r1⟩ := frac_range (b := b) f0 hf
  obtain ⟨e1, e2, e3⟩ := make_fields f0 hf false (expF f b) (fracF f b)
  rw [expOf_id f0 hf x0 x1] at e1
  rw [Int.emod_eq_of_lt r0 r1] at e2
  have cc := cls_congr (f := f) e1 e2
  have m : uM f (szF f b) = uM f b := by unfold uM szF; rw [e1, e2]
  have x : uX f (szF f b) = uX f b := by unfold uX szF; rw [e1]
  have cz : clsF f (szF f b) = clsF f b := cc
  obtain ⟨_, _, _, _, q5, q6⟩ := make_parts f0 hf false (expF f b) (fracF f b)
  obtain ⟨s0, s1⟩ := sz_full (f := f) (b := b) f0
  refine ⟨⟨s0, s1, by omega, e3, ?_⟩, ?_⟩
  · unfold cutF szF; exact Int.emod_eq_of_lt q5 q6
  · unfold vF uE uS; rw [cz, m, x]
theorem dcE_bounds {f q : Int} (f0 : 0 ≤ f) (hf : f < 4) (hu : (2 : Int) ^ ulpF f ∣ q) (q0 : 0 ≤ q) (q1 : q < 2 ^ (topF + 1)) : (0 < q → -20000 ≤ dcE q (-1099511628031)) ∧ dcE q (-1099511628031) ≤ 20000 := by
  obtain ⟨p0, p1, p2, p3, p4, p5, p6, p7, p8⟩ := f_nums f0 hf
  have u := ulpF_eq f0 hf
  have l := blen_le q0 q1
  constructor
  · intro h
    have := blen_above (Int.le_of_dvd h hu)
    unfold dcE; omega
  · unfold topF at l; unfold dcE; omega
theorem vF_below {f b : Int} (f0 : 0 ≤ f) (b0 : 0 ≤ b) : vF f b < 2 ^ (topF + 1) := by
  have := vF_top (f := f) f0 b0
  have e2 : (2 : Int) ^ (topF + 1) = 2 ^ topF * 2 := Int.pow_succ ..
  have := two_pow_pos topF
  omega
theorem sz_mono {f lo hi : Int} (f0 : 0 ≤ f) (hf : f < 4) (l : plainF f lo) (h : plainF f hi) (le : lo ≤ hi) : vF f lo ≤ vF f hi := by
  obtain ⟨l0, l1, l2, l3, l4⟩ := l
  obtain ⟨h0, h1, h2, h3, h4⟩ := h
  apply Classical.byContradiction; intro k
  have vl := vF_nonneg f0 l0; have vh := vF_nonneg f0 h0
  obtain ⟨a1, a2⟩ := dcE_bounds f0 hf (vF_unit f0 hf l0 l2) vl (vF_below f0 l0)
  obtain ⟨b1, b2⟩ := dcE_bounds f0 hf (vF_unit f0 hf h0 h2) vh (vF_below f0 h0)
  have M := dc_mono (m := 4) (E := -1099511628031) f0 vh (show vF f hi ≤ vF f lo by omega) (fun q => by have := b1 q; omega) (fun q => by have := a1 q; omega) (by omega)
  have s1 := (dc_same (m := 4) f0 hf (by decide) l0 l2).1
  have s2 := (dc_same (m := 4) f0 hf (by decide) h0 h2).1
  rw [l3, l4] at s1
  rw [h3, h4] at s2
  rw [s1, s2] at M
  have : lo = hi := by omega
  rw [this] at k; exact k (Int.le_refl _)
end Go.Proofs.YtjdjonekoodalaaGreatDoor
