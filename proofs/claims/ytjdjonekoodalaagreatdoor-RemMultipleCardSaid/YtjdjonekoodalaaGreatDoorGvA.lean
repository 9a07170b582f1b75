import Derived.Test.YtjdjonekoodalaaGreatDoorGpA
import Derived.Test.YtjdjonekoodalaaGreatDoorGjB
set_option linter.unusedVariables false
set_option linter.unusedSimpArgs false
set_option maxRecDepth 100000
namespace Go.Proofs.YtjdjonekoodalaaGreatDoor
open Go.RowKit
attribute [local go_sem ↓] Go.wp_at_zero Go.wp_at_succ
def clT (e : Int) : Int := if e < -1099511627776 then -1099511627776 else if 1099511627776 < e then 1099511627776 else e
def cmpT (e x g y : Int) : Int := cmpI (x * 2 ^ (clT e - clT g).toNat) (y * 2 ^ (clT g - clT e).toNat)
def levT (e x g y : Int) : Int := if y = 0 ∧ x ≠ 0 then clT e else if x = 0 ∧ y ≠ 0 then clT g else if clT e < clT g then clT g else clT e
def alT (e x L : Int) : Int := jamN x (L - clT e).toNat
def sumT (e x g y : Int) : Int := alT e x (levT e x g y + 1) + alT g y (levT e x g y + 1)
def diffT (e x g y : Int) : Int := if cmpT e x g y < 0 then alT g y (levT e x g y) - alT e x (levT e x g y) else alT e x (levT e x g y) - alT g y (levT e x g y)
structure MagOK : Prop where
  of_ : ∀ g c e h l, U64 h → U64 l → ∀ w, Calls Tryz.prog 111 #[.agg #[.bool g, .int .u8 c, .int .i64 e, .int .u64 h, .int .u64 l]] w fun r w' => r = .returned (.agg #[.int .i64 e, .int .u64 0, .int .u64 0, .int .u64 l, .int .u64 h]) ∧ Below w.heap.size w w'
  cmp : ∀ e x g y, -9223372036854775808 ≤ e → e ≤ 9223372036854775807 → 0 ≤ x → x < wfull → -9223372036854775808 ≤ g → g ≤ 9223372036854775807 → 0 ≤ y → y < wfull → ∀ w, Calls Tryz.prog 191 #[.agg #[.int .i64 e, .int .u64 (wd0 (x)), .int .u64 (wd1 (x)), .int .u64 (wd2 (x)), .int .u64 (wd3 (x))], .agg #[.int .i64 g, .int .u64 (wd0 (y)), .int .u64 (wd1 (y)), .int .u64 (wd2 (y)), .int .u64 (wd3 (y))]] w fun r w' => r = .returned (.int .i64 (cmpT e x g y)) ∧ Below w.heap.size w w'
  sum : ∀ e x g y, -9223372036854775808 ≤ e → e ≤ 9223372036854775807 → 0 ≤ x → x < wfull → -9223372036854775808 ≤ g → g ≤ 9223372036854775807 → 0 ≤ y → y < wfull → ∀ w, Calls Tryz.prog 143 #[.agg #[.int .i64 e, .int .u64 (wd0 (x)), .int .u64 (wd1 (x)), .int .u64 (wd2 (x)), .int .u64 (wd3 (x))], .agg #[.int .i64 g, .int .u64 (wd0 (y)), .int .u64 (wd1 (y)), .int .u64 (wd2 (y)), .int .u64 (wd3 (y))]] w fun r w' => r = .returned (.agg #[.int .i64 (levT e x g y + 1), .int .u64 (wd0 (sumT e x g y)), .int .u64 (wd1 (sumT e x g y)), .int .u64 (wd2 (sumT e x g y)), .int .u64 (wd3 (sumT e x g y))]) ∧ Below w.heap.size w w'
  diff : ∀ e x g y, -9223372036854775808 ≤ e → e ≤ 9223372036854775807 → 0 ≤ x → x < wfull → -9223372036854775808 ≤ g → g ≤ 9223372036854775807 → 0 ≤ y → y < wfull → ∀ w, Calls Tryz.prog 110 #[.agg #[.int .i64 e, .int .u64 (wd0 (x)), .int .u64 (wd1 (x)), .int .u64 (wd2 (x)), .int .u64 (wd3 (x))], .agg #[.int .i64 g, .int .u64 (wd0 (y)), .int .u64 (wd1 (y)), .int .u64 (wd2 (y)), .int .u64 (wd3 (y))]] w fun r w' => r = .returned (.tuple #[.agg #[.int .i64 (levT e x g y), .int .u64 (wd0 (diffT e x g y)), .int .u64 (wd1 (diffT e x g y)), .int .u64 (wd2 (diffT e x g y)), .int .u64 (wd3 (diffT e x g y))], .bool (decide (cmpT e x g y < 0))]) ∧ Below w.heap.size w w'
theorem clT_range (e : Int) : -1099511627776 ≤ clT e ∧ clT e ≤ 1099511627776 := by
  unfold clT; repeat' split
  all_goals omega
theorem clT_id {e : Int} (h0 : -1099511627776 ≤ e) (h1 : e ≤ 1099511627776) : clT e = e := by unfold clT; rw [if_neg (by omega), if_neg (by omega)]
theorem cmpI_turn (a b : Int) : cmpI b a = -cmpI a b := by
  unfold cmpI; repeat' split
  all_goals omega
theorem cmpI_lti {a b : Int} : cmpI a b < 0 ↔ a < b := by
  unfold cmpI; repeat' split
  all_goals omega
theorem cmpI_lei {a b : Int} : cmpI a b ≤ 0 ↔ a ≤ b := by
  unfold cmpI; repeat' split
  all_goals omega
theorem cmpI_tri (a b : Int) : (a < b ∧ cmpI a b = -1) ∨ (a = b ∧ cmpI a b = 0) ∨ (b < a ∧ cmpI a b = 1) := by
  unfold cmpI; repeat' split
  all_goals omega
theorem cmpI_mul (a b : Int) (n : Nat) : cmpI (a * 2 ^ n) (b * 2 ^ n) = cmpI a b := by
  have hp := two_pow_pos n
  have l : a * 2 ^ n < b * 2 ^ n ↔ a < b := Int.mul_lt_mul_right hp
  have r : b * 2 ^ n < a * 2 ^ n ↔ b < a := Int.mul_lt_mul_right hp
  unfold cmpI
  simp only [l, r]
def baseT (e x : Int) : Int := x * 2 ^ (clT e + 1099511627776).toNat
theorem cmpT_base (e x g y : Int) : cmpT e x g y = cmpI (baseT e x) (baseT g y) := by
  have h1 := clT_range e; have h2 := clT_range g
  unfold cmpT baseT
  generalize clT e = a at *
  generalize clT g = b at *
  by_cases h : a ≤ b
  · rw [show (a - b).toNat = 0 by omega, show (b + 1099511627776).toNat = (b - a).toNat + (a + 1099511627776).toNat by omega, Int.pow_add 2 (b - a).toNat, ← Int.mul_assoc, cmpI_mul, Int.pow_zero, Int.mul_one]
  · rw [show (b - a).toNat = 0 by omega, show (a + 1099511627776).toNat = (a - b).toNat + (b + 1099511627776).toNat by omega, Int.pow_add 2 (a - b).toNat, ← Int.mul_assoc, cmpI_mul, Int.pow_zero, Int.mul_one]
theorem cmpT_turn (e x g y : Int) : cmpT g y e x = -cmpT e x g y := by unfold cmpT; exact cmpI_turn _ _
theorem cmpT_range (e x g y : Int) : -1 ≤ cmpT e x g y ∧ cmpT e x g y ≤ 1 := by
  unfold cmpT
  rcases cmpI_tri (x * 2 ^ (clT e - clT g).toNat) (y * 2 ^ (clT g - clT e).toNat) with ⟨_, h⟩ | ⟨_, h⟩ | ⟨_, h⟩ <;> rw [h] <;> omega
theorem base_zero {e x : Int} : baseT e x = 0 ↔ x = 0 := by
  unfold baseT
  rw [Int.mul_eq_zero]
  exact ⟨fun h => h.resolve_right (pow_pos' _), .inl⟩
theorem base_nonneg {e x : Int} (h : 0 ≤ x) : 0 ≤ baseT e x := Int.mul_nonneg h (by have := two_pow_pos (clT e + 1099511627776).toNat; omega)
theorem cmpT_nought {e x g y : Int} (y0 : 0 ≤ y) (h : x = 0 ∧ y ≠ 0) : cmpT e x g y < 0 := by
  rw [cmpT_base, cmpI_lti, base_zero.2 h.1]
  have a := base_nonneg (e := g) y0
  have b : baseT g y ≠ 0 := fun k => h.2 (base_zero.1 k)
  omega
theorem cmp_shift (x y : Int) (n : Nat) : cmpI (x * 2 ^ n) y = if cmpI x (y / 2 ^ n) = 0 ∧ y % 2 ^ n ≠ 0 then -1 else cmpI x (y / 2 ^ n) := by
  have hp := two_pow_pos n
  have e := Int.emod_add_mul_ediv y (2 ^ n)
  have r0 := Int.emod_nonneg y (pow_pos' n); have r1 := Int.emod_lt_of_pos y hp
  generalize y % 2 ^ n = r at *
  generalize y / 2 ^ n = q at *
  generalize (2 : Int) ^ n = P at *
  rw [Int.mul_comm] at e
  rcases cmpI_tri x q with ⟨h, k⟩ | ⟨h, k⟩ | ⟨h, k⟩ <;> rw [k]
  · rw [if_neg (by omega)]
    have := Int.mul_le_mul_of_nonneg_right (show x ≤ q - 1 by omega) (show 0 ≤ P by omega)
    rw [Int.sub_mul, Int.one_mul] at this
    unfold cmpI; rw [if_pos (by omega)]
  · subst h
    by_cases z : r = 0
    · rw [if_neg (by simp [z])]; unfold cmpI; rw [if_neg (by omega), if_neg (by omega)]
    · rw [if_pos ⟨rfl, z⟩]; unfold cmpI; rw [if_pos (by omega)]
  · rw [if_neg (by omega)]
    have := Int.mul_le_mul_of_nonneg_right (show q + 1 ≤ x by omega) (show 0 ≤ P by omega)
    rw [Int.add_mul, Int.one_mul] at this
    unfold cmpI; rw [if_neg (by omega), if_pos (by omega)]
theorem cmpT_down {e x g y : Int} (h : clT g ≤ clT e) : cmpT e x g y = if cmpI x (y / 2 ^ (clT e - clT g).toNat) = 0 ∧ y % 2 ^ (clT e - clT g).toNat ≠ 0 then -1 else cmpI x (y / 2 ^ (clT e - clT g).toNat) := by
  rw [← cmp_shift]
  unfold cmpT
  rw [show (clT g - clT e).toNat = 0 by omega, Int.pow_zero, Int.mul_one]
theorem lev_turn (e x g y : Int) : levT g y e x = levT e x g y := by
  unfold levT
  have k1 : clT e < clT g ∨ clT e = clT g ∨ clT g < clT e := by omega
  generalize clT e = a at *
  generalize clT g = b at *
  by_cases hx : x = 0 <;> by_cases hy : y = 0 <;> simp only [hx, hy, ne_eq, eq_self, not_true_eq_false, not_false_eq_true, and_self, and_true, true_and, and_false, false_and, or_true, if_true, if_false]
  all_goals repeat' split
  all_goals omega
theorem lev_ge (e x g y : Int) : (clT e ≤ levT e x g y ∨ x = 0) ∧ (clT g ≤ levT e x g y ∨ y = 0) := by
  unfold levT
  have k1 : clT e < clT g ∨ clT e = clT g ∨ clT g < clT e := by omega
  generalize clT e = a at *
  generalize clT g = b at *
  by_cases hx : x = 0 <;> by_cases hy : y = 0 <;> simp only [hx, hy, ne_eq, eq_self, not_true_eq_false, not_false_eq_true, and_self, and_true, true_and, and_false, false_and, or_true, if_true, if_false]
  all_goals repeat' split
  all_goals omega
theorem lev_range (e x g y : Int) : -1099511627776 ≤ levT e x g y ∧ levT e x g y ≤ 1099511627776 := by
  have h1 := clT_range e; have h2 := clT_range g
  unfold levT; repeat' split
  all_goals omega
theorem lev_down {e x g y : Int} (y0 : 0 ≤ y) (h : ¬ cmpT e x g y < 0) : levT e x g y = if y = 0 ∧ x ≠ 0 then clT e else if clT e < clT g then clT g else clT e := by
  unfold levT
  by_cases z : x = 0 ∧ y ≠ 0
  · exact absurd (cmpT_nought y0 z) h
  · rw [if_neg z]
theorem jam_nought (k : Nat) : jamN 0 k = 0 := by unfold jamN; simp
theorem jam_self (x : Int) : jamN x 0 = x := by unfold jamN; simp
theorem jam_shl (x : Int) (k m : Nat) : jamN (x * 2 ^ k) (k + m) = jamN x m := by
  rw [← jam_jam]
  congr 1
  unfold jamN
  rw [if_pos (Int.mul_emod_left ..), Int.mul_ediv_cancel _ (pow_pos' k)]
theorem al_base {e x L : Int} (h : clT e ≤ L ∨ x = 0) : alT e x L = jamN (baseT e x) (L + 1099511627776).toNat := by
  have h1 := clT_range e
  by_cases z : x = 0
  · rw [base_zero.2 z, jam_nought]; unfold alT; rw [z, jam_nought]
  · have h2 := h.resolve_right z
    unfold alT baseT
    rw [show (L + 1099511627776).toNat = (clT e + 1099511627776).toNat + (L - clT e).toNat by omega, jam_shl]
theorem al_mono {e x g y L : Int} (h1 : clT e ≤ L ∨ x = 0) (h2 : clT g ≤ L ∨ y = 0) (h : cmpT e x g y ≤ 0) : alT e x L ≤ alT g y L := by
  rw [al_base h1, al_base h2]
  rw [cmpT_base, cmpI_lei] at h
  exact jam_mono h _
theorem al_range {x : Int} (e L : Int) (h0 : 0 ≤ x) (h1 : x < wfull) : 0 ≤ alT e x L ∧ alT e x L < wfull := jam_lt h0 h1 wfull_even _
theorem jam_half {x : Int} (h0 : 0 ≤ x) (h1 : x < wfull) (k : Nat) : 2 * jamN x (k + 1) < wfull := by
  rw [Nat.add_comm, ← jam_jam]
  have w2 : wfull = 115792089237316195423570985008687907853269984665640564039457584007913129639936 := rfl
  have d := div_back x 1 h0
  have a : 0 ≤ jamN x 1 ∧ jamN x 1 < 57896044618658097711785492504343953926634992332820282019728792003956564819968 := by
    unfold jamN
    simp only [Int.pow_one] at *
    split <;> omega
  have b := jam_lt (x := jamN x 1) (B := 57896044618658097711785492504343953926634992332820282019728792003956564819968) a.1 a.2 (by decide) k
  omega
theorem al_half {e x L : Int} (h0 : 0 ≤ x) (h1 : x < wfull) (h : clT e ≤ L ∨ x = 0) : 2 * alT e x (L + 1) < wfull := by
  have w2 : (0 : Int) < wfull := by decide +kernel
  by_cases z : x = 0
  · unfold alT; rw [z, jam_nought]; omega
  · have h2 := h.resolve_right z
    unfold alT
    rw [show (L + 1 - clT e).toNat = (L - clT e).toNat + 1 by omega]
    exact jam_half h0 h1 _
theorem sum_range {e x g y : Int} (x0 : 0 ≤ x) (x1 : x < wfull) (y0 : 0 ≤ y) (y1 : y < wfull) : 0 ≤ sumT e x g y ∧ sumT e x g y < wfull := by
  obtain ⟨l1, l2⟩ := lev_ge e x g y
  have a := al_half x0 x1 l1; have b := al_half y0 y1 l2
  have c := al_range e (levT e x g y + 1) x0 x1; have d := al_range g (levT e x g y + 1) y0 y1
  unfold sumT; omega
theorem diff_range {e x g y : Int} (x0 : 0 ≤ x) (x1 : x < wfull) (y0 : 0 ≤ y) (y1 : y < wfull) : 0 ≤ diffT e x g y ∧ diffT e x g y < wfull := by
  obtain ⟨l1, l2⟩ := lev_ge e x g y
  have c := al_range e (levT e x g y) x0 x1; have d := al_range g (levT e x g y) y0 y1
  unfold diffT
  by_cases h : cmpT e x g y < 0
  · have := al_mono l1 l2 (by omega)
    rw [if_pos h]; omega
  · have := al_mono l2 l1 (by rw [cmpT_turn]; omega)
    rw [if_neg h]; omega
theorem al_same {e x g y L : Int} (h1 : clT e ≤ L ∨ x = 0) (h2 : clT g ≤ L ∨ y = 0) (h : cmpT e x g y = 0) : alT e x L = alT g y L := by
  have a := al_mono h1 h2 (by omega); have b := al_mono h2 h1 (by rw [cmpT_turn]; omega)
  omega
theorem diff_same {e x g y : Int} (h : cmpT e x g y = 0) : diffT e x g y = 0 := by
  obtain ⟨l1, l2⟩ := lev_ge e x g y
  unfold diffT; rw [if_neg (by omega), al_same l1 l2 h]; omega
theorem diff_turn (e x g y : Int) : diffT g y e x = diffT e x g y := by
  by_cases z : cmpT e x g y = 0
  · rw [diff_same z, diff_same (by rw [cmpT_turn]; omega)]
  · unfold diffT
    rw [lev_turn e x g y, cmpT_turn]
    by_cases h : cmpT e x g y < 0
    · rw [if_pos h, if_neg (by omega)]
    · rw [if_neg h, if_pos (by omega)]
theorem jam_add {c : Int} (hc : c % 2 = 0) (b : Int) (n : Nat) : jamN (c * 2 ^ n + b) n = c + jamN b n := by
  have hp := two_pow_pos n
  unfold jamN
  rw [Int.add_comm (c * 2 ^ n), Int.add_mul_emod_self_right, Int.add_mul_ediv_right _ _ (pow_pos' n)]
  by_cases z : b % 2 ^ n = 0
  · rw [if_pos z, if_pos z]; omega
  · rw [if_neg z, if_neg z]; omega
theorem jam_sub {a : Int} (ha : a % 2 = 0) (b : Int) (n : Nat) : jamN (a * 2 ^ n - b) n = a - jamN b n := by
  have hp := two_pow_pos n
  have e := Int.emod_add_mul_ediv b (2 ^ n)
  have r0 := Int.emod_nonneg b (pow_pos' n); have r1 := Int.emod_lt_of_pos b hp
  by_cases z : b % 2 ^ n = 0
  · have k : a * 2 ^ n - b = (a - b / 2 ^ n) * 2 ^ n := by rw [Int.sub_mul, Int.mul_comm (b / 2 ^ n)]; omega
    unfold jamN
    rw [if_pos z, k, if_pos (Int.mul_emod_left ..), Int.mul_ediv_cancel _ (pow_pos' n)]
  · have k : a * 2 ^ n - b = (2 ^ n - b % 2 ^ n) + (a - b / 2 ^ n - 1) * 2 ^ n := by rw [Int.sub_mul, Int.sub_mul, Int.one_mul, Int.mul_comm (b / 2 ^ n)]; omega
    have m : (a * 2 ^ n - b) % 2 ^ n = 2 ^ n - b % 2 ^ n := by rw [k, Int.add_mul_emod_self_right, Int.emod_eq_of_lt (by omega) (by omega)]
    have d : (a * 2 ^ n - b) / 2 ^ n = a - b / 2 ^ n - 1 := by rw [k, Int.add_mul_ediv_right _ _ (pow_pos' n), Int.ediv_eq_zero_of_lt (by omega) (by omega)]; omega
    unfold jamN
    rw [if_neg z, m, if_neg (by omega), d]
    omega
end Go.Proofs.YtjdjonekoodalaaGreatDoor
namespace Go.Proofs.YtjdjonekoodalaaGreatDoor
open Go.RowKit
attribute [local go_sem ↓] Go.wp_at_zero Go.wp_at_succ
def numC (c d : Int) : Bool := decide ((c = 1 ∨ c = 2) ∧ (d = 1 ∨ d = 2))
def tmE (c d x y : Int) : Int := if numC c d then IntKind.i64.wrap (IntKind.i64.wrap (x + y) + 1) else 0
def tmS (c d s t : Int) : Int := if numC c d then s * t else 0
def badC (c d : Int) : Bool := decide ((c = 0 ∧ d = 3) ∨ (c = 3 ∧ d = 0))
def mlI (f a b : Int) : Bool := badC (clsF f a) (clsF f b)
def mlN (f a b : Int) : Bool := negF f a != negF f b
def mlE (f a b : Int) : Int := tmE (clsF f a) (clsF f b) (uE f a) (uE f b)
def mlS (f a b : Int) : Int := tmS (clsF f a) (clsF f b) (uS f a) (uS f b)
def mlB (f m a b : Int) : Int := if f < 4 ∧ m < 5 then (if pickK f (mlI f a b) [a, b] then pickV f (mlI f a b) [a, b] else if clsF f a = 3 ∨ clsF f b = 3 then infF f (mlN f a b) else pkB f m (mlN f a b) (mlE f a b) (mlS f a b)) else 0
def mlFl (f m : Int) (t : Bool) (a b : Int) : Int := if f < 4 ∧ m < 5 then (if pickK f (mlI f a b) [a, b] then pickF f (mlI f a b) [a, b] else if clsF f a = 3 ∨ clsF f b = 3 then 0 else pkFl f m t (mlN f a b) (mlE f a b) (mlS f a b)) else 0
structure MulOK : Prop where
  mul : ∀ f m t a b, 0 ≤ f → f ≤ 255 → 0 ≤ m → m ≤ 255 → 0 ≤ a → a < full → 0 ≤ b → b < full → ∀ w, FTab w → Calls Tryz.prog 27 #[.int .u8 f, .agg #[.int .u8 m, .bool t], .agg #[.int .u64 (hiOf (a)), .int .u64 (loOf (a))], .agg #[.int .u64 (hiOf (b)), .int .u64 (loOf (b))]] w fun e w' => e = .returned (.agg #[.int .u64 (hiOf (mlB f m a b)), .int .u64 (loOf (mlB f m a b)), .int .u8 (mlFl f m t a b)]) ∧ Below w.heap.size w w'
  term : ∀ g c x s h d y u, 0 ≤ s → s < full → 0 ≤ u → u < full → ∀ w, Calls Tryz.prog 69 #[.agg #[.bool g, .int .u8 c, .int .i64 x, .int .u64 (hiOf (s)), .int .u64 (loOf (s))], .agg #[.bool h, .int .u8 d, .int .i64 y, .int .u64 (hiOf (u)), .int .u64 (loOf (u))]] w fun e w' => e = .returned (.tuple #[.int .i64 (tmE c d x y), .agg #[.int .u64 (wd0 (tmS c d s u)), .int .u64 (wd1 (tmS c d s u)), .int .u64 (wd2 (tmS c d s u)), .int .u64 (wd3 (tmS c d s u))]]) ∧ Below w.heap.size w w'
  bad : ∀ g c x k l h d y p q, ∀ w, Calls Tryz.prog 66 #[.agg #[.bool g, .int .u8 c, .int .i64 x, .int .u64 k, .int .u64 l], .agg #[.bool h, .int .u8 d, .int .i64 y, .int .u64 p, .int .u64 q]] w fun e w' => e = .returned (.bool (badC c d)) ∧ Below w.heap.size w w'
theorem mlS_eq (f a b : Int) : mlS f a b = uS f a * uS f b := by
  unfold mlS tmS numC
  by_cases h : (clsF f a = 1 ∨ clsF f a = 2) ∧ (clsF f b = 1 ∨ clsF f b = 2)
  · rw [decide_eq_true h, if_pos rfl]
  · rw [decide_eq_false h, if_neg (by decide)]
    by_cases k : clsF f a = 1 ∨ clsF f a = 2
    · rw [(u_none (fun z => h ⟨k, z⟩)).2, Int.mul_zero]
    · rw [(u_none k).2, Int.zero_mul]
theorem ml_range {f a b : Int} (f0 : 0 ≤ f) (a0 : 0 ≤ a) (b0 : 0 ≤ b) : -9223372036854775808 ≤ mlE f a b ∧ mlE f a b ≤ 9223372036854775807 ∧ 0 ≤ mlS f a b ∧ mlS f a b < wfull := by
  have ea := uE_range (f := f) f0 a0; have eb := uE_range (f := f) f0 b0
  obtain ⟨s0, s1⟩ := uS_range (f := f) f0 a0; obtain ⟨t0, t1⟩ := uS_range (f := f) f0 b0
  have w2 : wfull = full * full := by decide +kernel
  rw [mlS_eq, w2]
  have h1 : uS f a * uS f b ≤ full * uS f b := Int.mul_le_mul_of_nonneg_right (by omega) t0
  have h2 : full * uS f b < full * full := Int.mul_lt_mul_of_pos_left t1 (by decide)
  refine ⟨?_, ?_, Int.mul_nonneg s0 t0, by omega⟩
  all_goals
    unfold mlE tmE
    split
    · rw [IntKind.wrap_i64, IntKind.wrap_i64]; omega
    · omega
theorem mlE_num {f a b : Int} (f0 : 0 ≤ f) (a0 : 0 ≤ a) (b0 : 0 ≤ b) (ca : clsF f a = 1 ∨ clsF f a = 2) (cb : clsF f b = 1 ∨ clsF f b = 2) : mlE f a b = uE f a + uE f b + 1 := by
  have ea := uE_range (f := f) f0 a0; have eb := uE_range (f := f) f0 b0
  unfold mlE tmE numC
  rw [decide_eq_true ⟨ca, cb⟩, if_pos rfl, IntKind.wrap_i64, IntKind.wrap_i64]; omega
theorem ml_fin {f m a b : Int} (f0 : 0 ≤ f) (hf : f < 4) (hm : m < 5) (a0 : 0 ≤ a) (a1 : a < full) (b0 : 0 ≤ b) (b1 : b < full) (ca : clsF f a ≤ 2) (cb : clsF f b ≤ 2) :
    mlB f m a b = pkB f m (mlN f a b) (mlE f a b) (mlS f a b) ∧ ∀ t, mlFl f m t a b = pkFl f m t (mlN f a b) (mlE f a b) (mlS f a b) := by
  have na : nanF f a = false := by unfold nanF; simp; omega
  have nb : nanF f b = false := by unfold nanF; simp; omega
  have ii : mlI f a b = false := by unfold mlI badC; rw [decide_eq_false]; omega
  have an : anyN f [a, b] = false := by unfold anyN; simp [Int.emod_eq_of_lt a0 a1, Int.emod_eq_of_lt b0 b1, na, nb]
  obtain ⟨k1, k2, k3⟩ := pick_none (f := f) [a, b] an
  unfold mlB mlFl
  rw [if_pos ⟨hf, hm⟩, ii, k3, if_neg (by decide), if_neg (by omega)]
  refine ⟨rfl, fun t => ?_⟩
  rw [if_pos ⟨hf, hm⟩, if_neg (by decide), if_neg (by omega)]
theorem uM_zero {f b : Int} (f0 : 0 ≤ f) (hf : f < 4) (c : clsF f b = 0) : uM f b = 0 := by
  obtain ⟨x, y⟩ := (cls_0 hf).1 c
  unfold uM; rw [if_pos x]; exact y
theorem um_19 {f b : Int} (f0 : 0 ≤ f) (hf : f < 4) (b0 : 0 ≤ b) (c : clsF f b ≤ 2) : 0 ≤ uM f b ∧ uM f b < 2 ^ fP f ∧ 2 - fE f - fP f ≤ uX f b ∧ uX f b ≤ 16383 := by
  obtain ⟨p0, p1, p2, p3, p4, p5, p6, p7, p8⟩ := f_nums f0 hf
  obtain ⟨r0, r1⟩ := frac_range (b := b) f0 hf
  obtain ⟨x0, x1, x2, x3⟩ := exp_range f0 hf b0
  have cr := cls_range f b
  have tp := pow_top (show 1 ≤ fP f by omega)
  have m0 : 0 ≤ uM f b ∧ uM f b < 2 ^ fP f := by unfold uM; split <;> omega
  have xr : 2 - fE f - fP f ≤ uX f b ∧ uX f b ≤ 16383 := by
    have ne : expF f b ≠ 2 * fE f + 1 := by
      intro h; unfold clsF at c; rw [if_pos hf, if_neg (by omega), if_pos h] at c; split at c
      · omega
      · split at c <;> omega
    unfold uX; split <;> omega
  exact ⟨m0.1, m0.2, xr.1, xr.2⟩
end Go.Proofs.YtjdjonekoodalaaGreatDoor
namespace Go.Proofs.YtjdjonekoodalaaGreatDoor
open Go.RowKit
attribute [local go_sem ↓] Go.wp_at_zero Go.wp_at_succ
theorem um_pos {f b : Int} (f0 : 0 ≤ f) (hf : f < 4) (b0 : 0 ≤ b) (cb : clsF f b = 1 ∨ clsF f b = 2) : 0 < uM f b ∧ uM f b < 2 ^ fP f ∧ 1 ≤ blen (uM f b) ∧ blen (uM f b) ≤ fP f ∧ uE f b = uX f b + blen (uM f b) - 1 ∧ uS f b = uM f b * 2 ^ (128 - blen (uM f b)) := by
  obtain ⟨m0, m1, _⟩ := um_19 f0 hf b0 (show clsF f b ≤ 2 by omega)
  have us : uS f b = uM f b * 2 ^ (128 - blen (uM f b)) := by unfold uS; rw [if_pos cb]
  have ue : uE f b = uX f b + blen (uM f b) - 1 := by unfold uE; rw [if_pos cb]
  obtain ⟨_, _, s0, _⟩ := un_range f0 hf b0 cb
  have hp := two_pow_pos 127
  have nz : uM f b ≠ 0 := fun h => by rw [us, h, Int.zero_mul] at s0; omega
  exact ⟨by omega, m1, blen_pos (by omega), blen_le m0 m1, ue, us⟩
theorem num_nan {f a : Int} (ca : clsF f a ≤ 3) : nanF f a = false := by unfold nanF; rw [decide_eq_false]; omega
end Go.Proofs.YtjdjonekoodalaaGreatDoor
