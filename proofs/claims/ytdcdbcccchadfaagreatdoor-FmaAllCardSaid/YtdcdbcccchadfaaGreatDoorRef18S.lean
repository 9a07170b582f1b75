import Derived.Test.YtdcdbcccchadfaaGreatDoorRef18W
import Derived.Test.YtdcdbcccchadfaaGreatDoorRef16
import Derived.Test.YtdcdbcccchadfaaGreatDoorAdd18M
set_option maxHeartbeats 1000000
set_option linter.unusedVariables false
set_option linter.unusedSimpArgs false
set_option maxRecDepth 100000
namespace Go.Proofs.YtdcdbcccchadfaaGreatDoor
open Go.RowKit
attribute [local go_sem ↓] Go.wp_at_zero Go.wp_at_succ
def rfE (xa xb : Int) : Int := if xb < xa then xb else xa
def rfX (M xa e : Int) : Int := M * 2 ^ (xa - e).toNat
def rfQ (sa sb : Bool) (X Y : Int) : Int := if sa = sb then X + Y else if X < Y then Y - X else X - Y
def rfN (sa sb : Bool) (X Y : Int) : Bool := if sa = sb then sa else if X < Y then sb else sa
theorem rf_range {M xa e : Int} (M0 : 0 ≤ M) (M1 : M < 2 ^ 226) (h : xa - e ≤ 80000) : 0 ≤ rfX M xa e ∧ rfX M xa e < 2 ^ 80226 := by
  have hp := two_pow_pos (xa - e).toNat
  refine ⟨Int.mul_nonneg M0 (by omega), ?_⟩
  have a := pow_lt_mul (xa - e).toNat M1
  rw [← Int.pow_add] at a
  have := two_pow_le (show 226 + (xa - e).toNat ≤ 80226 by omega)
  unfold rfX; omega
theorem rf_small {x : Int} (h0 : 0 ≤ x) (h1 : x < 2 ^ 80226) : Small x := small_len h0 (by have := blen_le h0 h1; omega)
theorem ref18_sumN (sa sb : Bool) (M N xa xb : Int) (M0 : 0 ≤ M) (M1 : M < 2 ^ 226) (N0 : 0 ≤ N) (N1 : N < 2 ^ 226) (x0 : -40000 ≤ xa) (x1 : xa ≤ 40000) (y0 : -40000 ≤ xb) (y1 : xb ≤ 40000) (sx sy : Option Addr × Nat × Nat) (w : World) (nx : IsNum w (.slice sx.1 sx.2.1 sx.2.2) M) (ny : IsNum w (.slice sy.1 sy.2.1 sy.2.2) N) : Calls Tryz.prog 94 #[.agg #[.bool sa, .slice sx.1 sx.2.1 sx.2.2, .int .i64 xa], .agg #[.bool sb, .slice sy.1 sy.2.1 sy.2.2, .int .i64 xb]] w fun e' w' => ∃ q : Option Addr × Nat × Nat, e' = .returned (.agg #[.bool ((rfN sa sb (rfX M xa (rfE xa xb)) (rfX N xb (rfE xa xb)))), .slice q.1 q.2.1 q.2.2, .int .i64 ((rfE xa xb))]) ∧ IsNum w' (.slice q.1 q.2.1 q.2.2) ((rfQ sa sb (rfX M xa (rfE xa xb)) (rfX N xb (rfE xa xb)))) ∧ Below w.heap.size w w' := by
  have hE : rfE xa xb ≤ xa ∧ rfE xa xb ≤ xb ∧ -40000 ≤ rfE xa xb := by unfold rfE; split <;> omega
  obtain ⟨ka, hka⟩ : ∃ ka : Nat, xa - rfE xa xb = ka := ⟨(xa - rfE xa xb).toNat, by omega⟩
  obtain ⟨kb, hkb⟩ : ∃ kb : Nat, xb - rfE xa xb = kb := ⟨(xb - rfE xa xb).toNat, by omega⟩
  obtain ⟨X0, X1⟩ := rf_range (e := rfE xa xb) M0 M1 (show xa - rfE xa xb ≤ 80000 by omega)
  obtain ⟨Y0, Y1⟩ := rf_range (e := rfE xa xb) N0 N1 (show xb - rfE xa xb ≤ 80000 by omega)
  have sX := rf_small X0 X1; have sY := rf_small Y0 Y1
  have sm : ∀ n : Int, 0 ≤ n → n < 2 ^ 226 → Small n := fun n h0 h => small_len h0 (by have := blen_le h0 h; omega)
  have q1 : (if xb < xa then xb else xa) = rfE xa xb := rfl
  have W1 := lH (show IntKind.i64.wrap (xa - rfE xa xb) = ka ∧ wrap64 (xa - rfE xa xb) = ka from ⟨by rw [IntWalk.i64_in _ (by omega)]; exact hka, by unfold wrap64; omega⟩)
  have W2 := lH (show IntKind.i64.wrap (xb - rfE xa xb) = kb ∧ wrap64 (xb - rfE xa xb) = kb from ⟨by rw [IntWalk.i64_in _ (by omega)]; exact hkb, by unfold wrap64; omega⟩)
  have eX : M * 2 ^ ka = rfX M xa (rfE xa xb) := by unfold rfX; rw [hka]; rfl
  have eY : N * 2 ^ kb = rfX N xb (rfE xa xb) := by unfold rfX; rw [hkb]; rfl
  have S1 := lH fun w v (h : IsNum w v M) => shl_num h (sm M M0 M1) ka (by omega)
  have S2 := lH fun w v (h : IsNum w v N) => shl_num h (sm N N0 N1) kb (by omega)
  rw [eX] at S1
  rw [eY] at S2
  generalize rfX M xa (rfE xa xb) = X at *
  generalize rfX N xb (rfE xa xb) = Y at *
  generalize rfE xa xb = em at *
  unfold rfN rfQ
  by_cases hs : sa = sb
  · rw [if_pos hs, if_pos hs]
    exact ref18_sum_same sx sy xa xb em ka kb M N X Y (X + Y) sa sb q1 q1 W1.out.1 W1.out.2 W2.out.1 W2.out.2 S1 S2 (by simp [hs]) (lH fun w u v hu hv => (add_num hu hv sX sY).mono fun _ _ => tri18) w nx ny
  · rw [if_neg hs, if_neg hs]
    have gs : (sa == sb) = false := by simp [hs]
    have CM := lH fun w u v (hu : IsNum w u X) (hv : IsNum w v Y) => cmp_num hu hv
    by_cases hl : X < Y
    · rw [if_pos hl, if_pos hl]
      exact ref18_sum_lt sx sy xa xb em ka kb M N X Y (Y - X) _ sa sb q1 q1 W1.out.1 W1.out.2 W2.out.1 W2.out.2 S1 S2 gs CM (decide_eq_true (cmpI_lti.2 hl)) (lH fun w u v hu hv => (sub_num hu hv sY (by omega)).mono fun _ _ => tri18) w nx ny
    · rw [if_neg hl, if_neg hl]
      exact ref18_sum_ge sx sy xa xb em ka kb M N X Y (X - Y) _ sa sb q1 q1 W1.out.1 W1.out.2 W2.out.1 W2.out.2 S1 S2 gs CM (decide_eq_false (fun k => hl (cmpI_lti.1 k))) (lH fun w u v hu hv => (sub_num hu hv sX (by omega)).mono fun _ _ => tri18) w nx ny
theorem rfQ_range {sa sb : Bool} {X Y : Int} (X0 : 0 ≤ X) (X1 : X < 2 ^ 80226) (Y0 : 0 ≤ Y) (Y1 : Y < 2 ^ 80226) : 0 ≤ rfQ sa sb X Y ∧ blen (rfQ sa sb X Y) ≤ 100000 := by
  have e2 : (2 : Int) ^ 80227 = 2 ^ 80226 * 2 := Int.pow_succ ..
  generalize (2 : Int) ^ 80226 = P at *
  have r : 0 ≤ rfQ sa sb X Y ∧ rfQ sa sb X Y < 2 ^ 80227 := by
    rw [e2]; unfold rfQ; repeat' split
    all_goals omega
  exact ⟨r.1, by have := blen_le r.1 r.2; omega⟩
theorem ref18_signedN (f m : Int) (t : Bool) (sa sb : Bool) (M N xa xb : Int) (f0 : 0 ≤ f) (f1 : f ≤ 255) (m0 : 0 ≤ m) (m1 : m ≤ 255) (M0 : 0 ≤ M) (M1 : M < 2 ^ 226) (N0 : 0 ≤ N) (N1 : N < 2 ^ 226) (x0 : -40000 ≤ xa) (x1 : xa ≤ 40000) (y0 : -40000 ≤ xb) (y1 : xb ≤ 40000) (sx sy : Option Addr × Nat × Nat) (w : World) (nx : IsNum w (.slice sx.1 sx.2.1 sx.2.2) M) (ny : IsNum w (.slice sy.1 sy.2.1 sy.2.2) N) : ∀ X Y E Q n, rfX M xa (rfE xa xb) = X → rfX N xb (rfE xa xb) = Y → rfE xa xb = E → rfQ sa sb X Y = Q → (if Q = 0 then noM m sa sb else rfN sa sb X Y) = n → Calls Tryz.prog 46 #[.int .u8 f, .agg #[.int .u8 m, .bool t], .agg #[.bool sa, .slice sx.1 sx.2.1 sx.2.2, .int .i64 xa], .agg #[.bool sb, .slice sy.1 sy.2.1 sy.2.2, .int .i64 xb]] w fun e w' => e = .returned (.agg #[.int .u64 (hiOf (dcB f m n Q E false)), .int .u64 (loOf (dcB f m n Q E false)), .int .u8 (dcFl f m t n Q E false)]) ∧ Below w.heap.size w w' := by
  intro X Y E Q n hX hY hE hQ hn
  have hE2 : rfE xa xb ≤ xa ∧ rfE xa xb ≤ xb ∧ -40000 ≤ rfE xa xb := by unfold rfE; split <;> omega
  obtain ⟨X0, X1⟩ := rf_range (e := rfE xa xb) M0 M1 (show xa - rfE xa xb ≤ 80000 by omega)
  obtain ⟨Y0, Y1⟩ := rf_range (e := rfE xa xb) N0 N1 (show xb - rfE xa xb ≤ 80000 by omega)
  have SU := lH fun w nx ny => ref18_sumN sa sb M N xa xb M0 M1 N0 N1 x0 x1 y0 y1 sx sy w nx ny
  rw [hX, hY, hE, hQ] at SU
  rw [hX] at X0 X1
  rw [hY] at Y0 Y1
  obtain ⟨Q0, Q1⟩ := rfQ_range (sa := sa) (sb := sb) X0 X1 Y0 Y1
  rw [hQ] at Q0 Q1
  have RD := lH fun w (q : Option Addr × Nat × Nat) (h : IsNum w (.slice q.1 q.2.1 q.2.2) Q) => ref16_round f m t n Q E false _ f0 f1 m0 m1 (.inr rfl) Q1 (by omega) (by omega) w h
  by_cases z : Q = 0
  · rw [if_pos z] at hn
    rw [← hn] at RD ⊢
    exact ref18_signed_z sx sy f m xa xb E M N Q _ _ _ t sa sb _ SU RD (by simp [z]) w nx ny
  · rw [if_neg z] at hn
    rw [← hn] at RD ⊢
    exact ref18_signed_nz sx sy f m xa xb E M N Q _ _ _ t sa sb _ SU RD (by simp [z]) w nx ny
end Go.Proofs.YtdcdbcccchadfaaGreatDoor
