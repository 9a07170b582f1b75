import Derived.Test.YtnlmceafleeaiaaGreatDoorGvA
import Derived.Test.YtnlmceafleeaiaaGreatDoorGpA
import Derived.Test.YtnlmceafleeaiaaGreatDoorGjB
set_option linter.unusedVariables false
set_option linter.unusedSimpArgs false
set_option maxRecDepth 100000
namespace Go.Proofs.YtnlmceafleeaiaaGreatDoor
open Go.RowKit
attribute [local go_sem ↓] Go.wp_at_zero Go.wp_at_succ
def room (x : Int) : Prop := 0 ≤ x ∧ x < wfull ∧ x % full = 0 ∧ (x = 0 ∨ 2 ^ 255 ≤ x)
theorem room_four {x : Int} (h : room x) : x % 4 = 0 := by
  have := h.2.2.1; unfold full at this; omega
theorem lev_top {e x g y : Int} (h : x ≠ 0 ∨ y ≠ 0) : (levT e x g y = clT e ∧ x ≠ 0) ∨ (levT e x g y = clT g ∧ y ≠ 0) := by
  unfold levT
  by_cases hx : x = 0
  · by_cases hy : y = 0
    · omega
    · rw [if_neg (fun k => k.2 hx), if_pos ⟨hx, hy⟩]; exact .inr ⟨rfl, hy⟩
  · by_cases hy : y = 0
    · rw [if_pos ⟨hy, hx⟩]; exact .inl ⟨rfl, hx⟩
    · rw [if_neg (fun k => hy k.1), if_neg (fun k => hx k.1)]
      split
      · exact .inr ⟨rfl, hy⟩
      · exact .inl ⟨rfl, hx⟩
theorem lev_lt {e x g y B : Int} (he : clT e < B) (hg : clT g < B) : levT e x g y < B := by
  unfold levT; repeat' split
  all_goals omega
theorem base_half {e x : Int} (hx : x % 4 = 0) : baseT e x = x / 2 * 2 ^ (clT e + 1 + 1099511627776).toNat := by
  have r := clT_range e
  unfold baseT
  rw [show (clT e + 1 + 1099511627776).toNat = (clT e + 1099511627776).toNat + 1 by omega, Int.pow_succ, Int.mul_comm (2 ^ _) 2, ← Int.mul_assoc, show x / 2 * 2 = x by omega]
theorem jam_even2 {c : Int} (hc : c % 2 = 0) (n : Nat) : jamN (c * 2 ^ n) n = c := by
  have j := jam_add hc 0 n
  rw [jam_nought, Int.add_zero, Int.add_zero] at j; exact j
theorem sum_jam {e x g y : Int} (hx : x % 4 = 0) (hy : y % 4 = 0) : sumT e x g y = jamN (baseT e x + baseT g y) (levT e x g y + 1 + 1099511627776).toNat := by
  obtain ⟨l1, l2⟩ := lev_ge e x g y
  unfold sumT
  rw [al_base (L := levT e x g y + 1) (by rcases l1 with h | h <;> omega), al_base (L := levT e x g y + 1) (by rcases l2 with h | h <;> omega)]
  by_cases h0 : x ≠ 0 ∨ y ≠ 0
  · rcases lev_top (e := e) (g := g) h0 with ⟨h, _⟩ | ⟨h, _⟩
    · rw [h, base_half hx, jam_even2 (by omega), jam_add (by omega)]
    · rw [h, base_half hy, jam_even2 (by omega), Int.add_comm (baseT e x), jam_add (by omega), Int.add_comm]
  · have hx0 : x = 0 := by omega
    have hy0 : y = 0 := by omega
    rw [base_zero.2 hx0, base_zero.2 hy0, jam_nought, Int.add_zero, jam_nought]
theorem pow_ge {x : Int} {k : Nat} (h : 2 ^ k ≤ x) (n : Nat) : 2 ^ (k + n) ≤ x * 2 ^ n := by
  rw [Int.pow_add]; exact pow_le_mul n h
theorem fP_le {f : Int} (f0 : 0 ≤ f) : fP f ≤ 113 := by
  by_cases h : f < 4
  · obtain ⟨p0, p1, p2, p3, p4, p5, p6, p7, p8⟩ := f_nums f0 h; exact p8
  · rw [fP_no h]; omega
def vF (f b : Int) : Int := baseT (uE f b) (uS f b * full)
theorem room_u {f b : Int} (f0 : 0 ≤ f) (b0 : 0 ≤ b) : room (uS f b * full) := by
  obtain ⟨s0, s1⟩ := uS_range f0 b0
  have w2 : wfull = full * full := by decide +kernel
  refine ⟨Int.mul_nonneg s0 (by decide), by rw [w2]; exact Int.mul_lt_mul_of_pos_right s1 (by decide), Int.mul_emod_left .., ?_⟩
  by_cases h : f < 4
  · by_cases c : clsF f b = 1 ∨ clsF f b = 2
    · obtain ⟨_, _, r, _⟩ := un_range f0 h b0 c
      right
      rw [← full_pow, show 255 = 127 + 128 from rfl]
      exact pow_ge r 128
    · left; rw [(u_none c).2, Int.zero_mul]
  · left; unfold uS clsF; rw [if_neg h, if_neg (by decide), Int.zero_mul]
theorem clT_u {f b : Int} (f0 : 0 ≤ f) (b0 : 0 ≤ b) : clT (uE f b) = uE f b := by
  have := uE_range (f := f) f0 b0; exact clT_id (by omega) (by omega)
theorem vF_val {f b : Int} (f0 : 0 ≤ f) (hf : f < 4) (b0 : 0 ≤ b) (c : clsF f b ≤ 2) : vF f b = uM f b * 2 ^ (uX f b + 1099511628031).toNat ∧ 0 ≤ uM f b ∧ uM f b < 2 ^ fP f ∧ 2 - fE f - fP f ≤ uX f b ∧ uX f b ≤ 16383 := by
  obtain ⟨p0, p1, p2, p3, p4, p5, p6, p7, p8⟩ := f_nums f0 hf
  obtain ⟨r0, r1⟩ := frac_range (b := b) f0 hf
  obtain ⟨x0, x1, x2, x3⟩ := exp_range f0 hf b0
  have cr := cls_range f b
  have tp := pow_top (show 1 ≤ fP f by omega)
  have m0 : 0 ≤ uM f b ∧ uM f b < 2 ^ fP f := by unfold uM; split <;> omega
  have xr : 2 - fE f - fP f ≤ uX f b ∧ uX f b ≤ 16383 := by
    have ne : expF f b ≠ 2 * fE f + 1 := by
      intro h; unfold clsF at c; rw [if_pos hf, if_neg (by omega), if_pos h] at c; split at c
      · omega
      · split at c <;> omega
    unfold uX; split <;> omega
  refine ⟨?_, m0.1, m0.2, xr.1, xr.2⟩
  by_cases k : clsF f b = 1 ∨ clsF f b = 2
  · have ue : uE f b = uX f b + blen (uM f b) - 1 := by unfold uE; rw [if_pos k]
    have us : uS f b = uM f b * 2 ^ (128 - blen (uM f b)) := by unfold uS; rw [if_pos k]
    have l := blen_le m0.1 m0.2
    have er := uE_range (f := f) f0 b0
    unfold vF baseT
    rw [clT_u f0 b0, us, ← full_pow, Int.mul_assoc, Int.mul_assoc, ← Int.pow_add, ← Int.pow_add]
    congr 2; omega
  · have c0 : clsF f b = 0 := by omega
    obtain ⟨x, y⟩ := (cls_0 hf).1 c0
    have : uM f b = 0 := by unfold uM; rw [if_pos x]; exact y
    unfold vF
    rw [(u_none k).2, Int.zero_mul, base_zero.2 rfl, this, Int.zero_mul]
def noM (m : Int) (a b : Bool) : Bool := if a = b then a else decide (m = 3)
def turnF (f b : Int) : Int := makeF f (!negF f b) (expF f b) (fracF f b)
theorem turn_fields {f b : Int} (f0 : 0 ≤ f) (hf : f < 4) (b0 : 0 ≤ b) : expF f (turnF f b) = expF f b ∧ fracF f (turnF f b) = fracF f b ∧ negF f (turnF f b) = !negF f b := by
  obtain ⟨x0, x1, x2, x3⟩ := exp_range f0 hf b0
  obtain ⟨r0, r1⟩ := frac_range (b := b) f0 hf
  obtain ⟨e1, e2, e3⟩ := make_fields f0 hf (!negF f b) (expF f b) (fracF f b)
  rw [expOf_id f0 hf x0 x1] at e1
  rw [Int.emod_eq_of_lt r0 r1] at e2
  exact ⟨e1, e2, e3⟩
theorem turn_full {f b : Int} (f0 : 0 ≤ f) : 0 ≤ turnF f b ∧ turnF f b < full := make_full f0 _ _ _
theorem turn_same {f b : Int} (f0 : 0 ≤ f) (hf : f < 4) (b0 : 0 ≤ b) : clsF f (turnF f b) = clsF f b ∧ uE f (turnF f b) = uE f b ∧ uS f (turnF f b) = uS f b ∧ negF f (turnF f b) = !negF f b := by
  obtain ⟨e1, e2, e3⟩ := turn_fields f0 hf b0
  have c := cls_congr (f := f) e1 e2
  have m : uM f (turnF f b) = uM f b := by unfold uM; rw [e1, e2]
  have x : uX f (turnF f b) = uX f b := by unfold uX; rw [e1]
  exact ⟨c, by unfold uE; rw [c, m, x], by unfold uS; rw [c, m], e3⟩
theorem exp_i64 {f b : Int} (f0 : 0 ≤ f) (b0 : 0 ≤ b) : -9223372036854775808 ≤ expF f b ∧ expF f b ≤ 9223372036854775807 := by
  by_cases hf : f < 4
  · obtain ⟨x0, x1, x2, x3⟩ := exp_range f0 hf b0; omega
  · unfold expF; rw [if_neg hf]; decide
end Go.Proofs.YtnlmceafleeaiaaGreatDoor
