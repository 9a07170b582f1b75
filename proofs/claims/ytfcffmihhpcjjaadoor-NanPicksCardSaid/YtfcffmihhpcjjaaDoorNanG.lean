/-
  Package nan keeps what the document asks.
-/
import Derived.Test.YtfcffmihhpcjjaaDoorNanI
import Derived.Test.YtfcffmihhpcjjaaDoorNanC
import Derived.Test.YtfcffmihhpcjjaaDoorNanD
set_option linter.unusedVariables false
set_option linter.unusedSimpArgs false
set_option maxRecDepth 100000
namespace Go.Proofs.YtfcffmihhpcjjaaDoor
open Go.RowKit
attribute [local go_sem ↓] Go.wp_at_zero Go.wp_at_succ


/-- A bit set by or. -/
theorem nat_or_top (X k : Nat) : X ||| 2 ^ k = if 2 ^ k ≤ X % 2 ^ (k + 1) then X else X + 2 ^ k := by
  have e2 : 2 ^ (k + 1) = 2 * 2 ^ k := Nat.pow_succ'
  have d : X = 2 ^ (k + 1) * (X / 2 ^ (k + 1)) + X % 2 ^ (k + 1) := (Nat.div_add_mod X _).symm
  have m : X % 2 ^ (k + 1) < 2 ^ (k + 1) := Nat.mod_lt _ (Nat.two_pow_pos _)
  generalize X / 2 ^ (k + 1) = q at *
  generalize X % 2 ^ (k + 1) = r at *
  subst d
  split
  · rename_i h
    obtain ⟨s, rfl⟩ : ∃ s, r = 2 ^ k + s := ⟨r - 2 ^ k, by omega⟩
    have hs : s < 2 ^ k := by omega
    have e : 2 ^ k + s = 2 ^ k ||| s := by have := Nat.two_pow_add_eq_or_of_lt hs 1; simpa using this
    rw [Nat.two_pow_add_eq_or_of_lt m, e, Nat.or_assoc, Nat.or_assoc, Nat.or_comm s, ← Nat.or_assoc (2 ^ k) (2 ^ k), Nat.or_self]
  · rename_i h
    have hs : r < 2 ^ k := by omega
    have e : 2 ^ k + r = 2 ^ k ||| r := by have := Nat.two_pow_add_eq_or_of_lt hs 1; simpa using this
    rw [Nat.add_assoc, Nat.add_comm r, Nat.two_pow_add_eq_or_of_lt m, Nat.two_pow_add_eq_or_of_lt (show 2 ^ k + r < 2 ^ (k + 1) by omega), e, Nat.or_assoc, Nat.or_comm r]
theorem or_top {x : Int} (k : Nat) (hk : k < 128) (x0 : 0 ≤ x) (x1 : x < full) :
    bits .or .u64 (hiOf x) (hiOf (2 ^ k)) = hiOf (if 2 ^ k ≤ x % 2 ^ (k + 1) then x else x + 2 ^ k) ∧ bits .or .u64 (loOf x) (loOf (2 ^ k)) = loOf (if 2 ^ k ≤ x % 2 ^ (k + 1) then x else x + 2 ^ k) := by
  obtain ⟨X, rfl⟩ := Int.eq_ofNat_of_zero_le x0
  have hX : X < 340282366920938463463374607431768211456 := by unfold full at x1; omega
  have hp : (2 : Nat) ^ k < 2 ^ 128 := Nat.pow_lt_pow_right (by decide) hk
  have e : (if (2 : Int) ^ k ≤ (X : Int) % 2 ^ (k + 1) then (X : Int) else X + 2 ^ k) = ((X ||| 2 ^ k : Nat) : Int) := by
    rw [nat_or_top]
    have c : ((2 : Int) ^ k ≤ (X : Int) % 2 ^ (k + 1)) ↔ 2 ^ k ≤ X % 2 ^ (k + 1) := by
      rw [← Int.ofNat_le]; push_cast; exact Iff.rfl
    by_cases h : 2 ^ k ≤ X % 2 ^ (k + 1)
    · rw [if_pos h, if_pos (c.2 h)]
    · rw [if_neg h, if_neg (fun g => h (c.1 g))]; push_cast; rfl
  rw [e, show (2 : Int) ^ k = ((2 ^ k : Nat) : Int) by push_cast; rfl]
  exact or_nat_hl hX (by omega)
theorem quietedN {f x : Int} (h0 : 0 ≤ f) (h : f < 4) (x0 : 0 ≤ x) (x1 : x < full) (w : World) (ft : FTab w) : Calls Tryd.prog 27 #[.int .u8 f, .agg #[.int .u64 (hiOf (x)), .int .u64 (loOf (x))]] w fun e w' => e = .returned (.agg #[.int .u64 (hiOf (if (2 : Int) ^ (fP f - 2) ≤ fracF f x then x else x + 2 ^ (fP f - 2))), .int .u64 (loOf (if (2 : Int) ^ (fP f - 2) ≤ fracF f x then x else x + 2 ^ (fP f - 2)))]) ∧ Below w.heap.size w w' := by
  obtain ⟨p0, p1, p2, p3, p4, p5, p6, p7, p8⟩ := f_nums h0 h
  have L := leftB 1 ((fP f - 2 : Nat) : Int) (by omega) (by omega)
  rw [Int.toNat_natCast, Int.one_mul] at L
  obtain ⟨a1, a2⟩   := or_top (fP f - 2) (by omega) x0 x1
  rw [show fP f - 2 + 1 = fP f - 1 by omega] at a1 a2
  rw [show fracF f x = x % 2 ^ (fP f - 1) by unfold fracF; rw [if_pos h]]
  exact nan_quieted f _ _ (fP f) ((fP f - 2 : Nat) : Int) _ _ _ _ (Lib.hid (formOK.prec f h0 (by omega))) (Lib.hid L) (by rw [IntWalk.i64_in _ (by omega)]; omega) a1 a2 w ft
theorem quietN (f b : Int) (f0 : 0 ≤ f) (f1 : f ≤ 255) (w : World) (ft : FTab w) : Calls Tryd.prog 9 #[.int .u8 f, .agg #[.int .u64 (hiOf (b)), .int .u64 (loOf (b))]] w fun e w' => e = .returned (.agg #[.int .u64 (hiOf (quietF f (b % full))), .int .u64 (loOf (quietF f (b % full)))]) ∧ Below w.heap.size w w' := by
  obtain ⟨b0, b1⟩ := mod_f b
  have CU := formOK.cut f b f0 f1
  have CN := classOK.nan f (cutF f (b % full)) f0 f1
  have cr := cut_range (f := f) f0 b0
  rw [Int.emod_eq_of_lt (a := cutF f (b % full)) cr.1 (by omega)] at CN
  generalize b % full = B at *
  by_cases h : f < 4
  · have ce := cls_congr (exp_cut f0 h B) (frac_cut f0 h B)
    have ne : nanF f (cutF f B) = nanF f B := by unfold nanF; rw [ce]
    rw [ne] at CN
    by_cases hn : nanF f B = true
    · rw [hn] at CN
      have Q := quietedN (x := cutF f B) f0 h cr.1 (by omega)
      rw [frac_cut f0 h B] at Q
      have q : (if (2 : Int) ^ (fP f - 2) ≤ fracF f B then cutF f B else cutF f B + 2 ^ (fP f - 2)) = quietF f B := by
        unfold quietF
        by_cases hs : sigF f B = true
        · obtain ⟨_, _, _, lt⟩ := sig_parts hs
          rw [hs, if_pos rfl, if_neg (by omega)]
        · have hs' : sigF f B = false := by simpa using hs
          rw [hs', if_neg (show ¬ (false = true) by decide), Int.add_zero]
          by_cases g : (2 : Int) ^ (fP f - 2) ≤ fracF f B
          · rw [if_pos g]
          · exfalso
            unfold nanF at hn
            unfold sigF at hs'
            have n4 : 4 ≤ clsF f B := by simpa using hn
            have n5 : clsF f B ≠ 5 := by simpa using hs'
            have cg := cls_range f B
            have c4 : clsF f B = 4 := by omega
            unfold clsF at c4
            rw [if_pos h] at c4
            split at c4
            · split at c4 <;> omega
            · split at c4
              · split at c4
                · omega
                · first
                  | omega
                  | (split at c4 <;> first | contradiction | omega)
              · omega
      rw [q] at Q
      exact nan_quiet_yes f _ _ _ _ _ _ (Lib.hid CU) (Lib.hid CN) (Lib.hid Q) w ft
    · have hn' : nanF f B = false := by simpa using hn
      rw [hn'] at CN
      have hs : sigF f B = false := by
        cases hs : sigF f B
        · rfl
        · rw [sig_nan hs] at hn'; exact absurd hn' (by decide)
      rw [quiet_not hs]
      exact nan_quiet_no f _ _ _ _ (Lib.hid CU) (Lib.hid CN) w ft
  · have hn : nanF f (cutF f B) = false := by unfold nanF; rw [cls_no h]; rfl
    have hs : sigF f B = false := by unfold sigF; rw [cls_no h]; rfl
    rw [hn] at CN
    rw [quiet_not hs]
    exact nan_quiet_no f _ _ _ _ (Lib.hid CU) (Lib.hid CN) w ft
theorem defN (f : Int) (f0 : 0 ≤ f) (f1 : f ≤ 255) (w : World) (ft : FTab w) : Calls Tryd.prog 11 #[.int .u8 f] w fun e w' => e = .returned (.agg #[.int .u64 (hiOf (defF f)), .int .u64 (loOf (defF f))]) ∧ Below w.heap.size w w' := by
  have K := formOK.known f f0 f1
  by_cases h : f < 4
  · rw [show decide (f < 4) = true by simp [h]] at K
    obtain ⟨p0, p1, p2, p3, p4, p5, p6, p7, p8⟩ := f_nums f0 h
    have hp := two_pow_pos (fP f - 2)
    have n2 : (2 : Int) ^ (fP f - 1) = 2 * 2 ^ (fP f - 2) := by rw [← Int.pow_succ', show fP f - 2 + 1 = fP f - 1 by omega]
    obtain ⟨m1, m2, m3⟩ := make_fields f0 h false (2 * fE f + 1) 0
    have i0 : 0 ≤ infF f false ∧ infF f false < full := make_full f0 ..
    have Q := quietedN (x := infF f false) f0 h i0.1 i0.2
    have e : (if (2 : Int) ^ (fP f - 2) ≤ fracF f (infF f false) then infF f false else infF f false + 2 ^ (fP f - 2)) = defF f := by
      unfold infF
      rw [m2, Int.zero_emod, if_neg (by omega)]
      unfold defF makeF
      rw [if_pos h, if_pos h, Int.zero_emod, Int.emod_eq_of_lt (a := 2 ^ (fP f - 2)) (by omega) (by omega)]
      simp
    rw [e] at Q
    exact nan_default_yes f _ _ _ _ (Lib.hid K) (Lib.hid (formOK.inf f false f0 f1)) (Lib.hid Q) w ft
  · rw [show decide (f < 4) = false by simp [h]] at K
    rw [show defF f = 0 by unfold defF makeF; rw [if_neg h], hl_zero.1, hl_zero.2]
    exact nan_default_no f (Lib.hid K) w ft
theorem pickN (f : Int) (inv : Bool) (ao : Option Addr) (n cap : Nat) (xs : List Int) (f0 : 0 ≤ f) (f1 : f ≤ 255) (w : World) (ft : FTab w) (x : Bs w ao n cap xs) : Calls Tryd.prog 14 #[.int .u8 f, .bool inv, .slice ao n cap] w fun e w' => e = .returned (.tuple #[.agg #[.int .u64 (hiOf (pickV f inv xs)), .int .u64 (loOf (pickV f inv xs)), .int .u8 (pickF f inv xs)], .bool (pickK f inv xs)]) ∧ Below w.heap.size w w' := by
  have K := formOK.known f f0 f1
  by_cases h : f < 4
  · rw [show decide (f < 4) = true by simp [h]] at K
    have hn : n = xs.length := x.1
    have D := defN f f0 f1
    rcases index_one f f0 f1 ao n cap xs hn with ⟨no, IX⟩ | ⟨k, hk, hp, hno, IX⟩
    · have fd : firstV f xs = defF f := by
        unfold firstV
        have : xs.find? (fun b => nanF f (b % full)) = none := by
          rw [List.find?_eq_none]; unfold anyN at no; rw [List.any_eq_false] at no; exact no
        rw [this]
      cases inv
      · obtain ⟨v, g, o⟩ := pick_none xs no
        rw [v, g, o, hl_zero.1, hl_zero.2]
        exact nan_pick_none f ao n cap xs (Lib.hid K) (Lib.hid fun bk w ft bs c => IX bk w ft bs c) (by decide) w ft x
      · obtain ⟨v, g, o⟩ := pick_inv h xs
        rw [v, g, o, fd]
        exact nan_pick_inv f _ _ ao n cap xs (Lib.hid K) (Lib.hid D) (Lib.hid fun bk w ft bs c => IX bk w ft bs c) (by decide) (by decide) w ft x
    · obtain ⟨fv, ay⟩ := first_at f (by omega) hp hno
      obtain ⟨a, ha, c0, c1⟩ := x.2.2.2 k hk
      have Q := quietN f (xs.getD k 0) f0 f1
      have g1 : decide ((k : Int) < 0) = false := by simp
      have g2 : decide (0 ≤ (k : Int)) = true := by simp
      have gk : decide ((k : Int) < (n : Int)) = true := by simp; omega
      cases inv
      · obtain ⟨v, g, o⟩ := pick_nan h xs ay
        rw [v, g, o, fv]
        have S : ∀ w, FTab w → Bs w ao n cap xs → _ := fun w ft bs => anyOK.sig f ao n cap xs f0 f1 w ft bs
        rw [show (xs.any fun b => sigF f (b % full)) = anyS f xs from rfl] at S
        by_cases s : anyS f xs = true
        · rw [s] at S ⊢
          exact nan_pick_ft f _ _ _ _ _ _ a k ao n cap xs (Lib.hid K) (Lib.hid D) (Lib.hid Q) (Lib.hid S) (Lib.hid fun bk w ft bs c => IX bk w ft bs c) ha g1 g2 gk hk w ft x c0 c1
        · rw [show anyS f xs = false by simpa using s] at S ⊢
          exact nan_pick_ff f _ _ _ _ _ _ a k ao n cap xs (Lib.hid K) (Lib.hid D) (Lib.hid Q) (Lib.hid S) (Lib.hid fun bk w ft bs c => IX bk w ft bs c) ha g1 g2 gk hk w ft x c0 c1
      · obtain ⟨v, g, o⟩ := pick_inv h xs
        rw [v, g, o, fv]
        exact nan_pick_t f _ _ _ _ _ _ a k ao n cap xs (Lib.hid K) (Lib.hid D) (Lib.hid Q) (Lib.hid fun bk w ft bs c => IX bk w ft bs c) ha g1 g2 gk hk w ft x c0 c1
  · rw [show decide (f < 4) = false by simp [h]] at K
    obtain ⟨v, g, o⟩ := pick_no h inv xs
    rw [v, g, o, hl_zero.1, hl_zero.2]
    exact nan_pick_no f ao n cap xs inv (Lib.hid K) w ft

/-- Package nan keeps what the document asks. -/
theorem nanOK : NanOK where
  quiet f b f0 f1 w ft := quietN f b f0 f1 w ft
  dflt f f0 f1 w ft := defN f f0 f1 w ft
  pick f inv ao n cap xs f0 f1 w ft x := pickN f inv ao n cap xs f0 f1 w ft x

end Go.Proofs.YtfcffmihhpcjjaaDoor
