/-
  Plain arithmetic of numbers of 128 bits, two digits of 64 bits each. No Go in sight.
-/
set_option linter.unusedVariables false
set_option maxRecDepth 100000
namespace Go.Proofs.YtkhcbioohoeegaaDoor

/-- A number of 64 bits. -/
def U64 (x : Int) : Prop := 0 ≤ x ∧ x < 18446744073709551616
def val (h l : Int) : Int := h * 18446744073709551616 + l
def hiOf (n : Int) : Int := n / 18446744073709551616 % 18446744073709551616
def loOf (n : Int) : Int := n % 18446744073709551616
def addLo (x y c : Int) : Int := (x + y + c) % 18446744073709551616
def addC (x y c : Int) : Int := (x + y + c) / 18446744073709551616
def subLo (x y c : Int) : Int := (x - y - c) % 18446744073709551616
def subC (x y c : Int) : Int := if x < y + c then 1 else 0
def full : Int := 340282366920938463463374607431768211456
def cmpI (a b : Int) : Int := if a < b then -1 else if b < a then 1 else 0

theorem hiOf_u (n : Int) : U64 (hiOf n) := by unfold U64 hiOf; omega
theorem loOf_u (n : Int) : U64 (loOf n) := by unfold U64 loOf; omega
theorem u64_small {x : Int} (h0 : 0 ≤ x) (h1 : x < 4294967297) : U64 x := by unfold U64; omega
theorem val_range {h l : Int} (uh : U64 h) (ul : U64 l) : 0 ≤ val h l ∧ val h l < full := by
  unfold U64 at uh ul; unfold val full; omega
theorem val_hiLo {n : Int} (h0 : 0 ≤ n) (h1 : n < full) : val (hiOf n) (loOf n) = n := by
  unfold full at h1; unfold val hiOf loOf; omega
theorem val_hiLo_mod (n : Int) : val (hiOf n) (loOf n) = n % full := by
  unfold val hiOf loOf full; omega
theorem hi_val {h l : Int} (uh : U64 h) (ul : U64 l) : hiOf (val h l) = h := by
  unfold U64 at uh ul; unfold val hiOf; omega
theorem lo_val {h l : Int} (ul : U64 l) : loOf (val h l) = l := by
  unfold U64 at ul; unfold val loOf; omega
theorem hiOf_mod (n : Int) : hiOf (n % full) = hiOf n := by unfold hiOf full; omega
theorem loOf_mod (n : Int) : loOf (n % full) = loOf n := by unfold loOf full; omega
theorem addLo_u (x y c : Int) : U64 (addLo x y c) := by unfold U64 addLo; omega
theorem subLo_u (x y c : Int) : U64 (subLo x y c) := by unfold U64 subLo; omega
theorem addC_01 {x y c : Int} (hx : U64 x) (hy : U64 y) (c0 : 0 ≤ c) (c1 : c ≤ 1) : 0 ≤ addC x y c ∧ addC x y c ≤ 1 := by
  unfold U64 at hx hy; unfold addC; omega
theorem subC_01 (x y c : Int) : 0 ≤ subC x y c ∧ subC x y c ≤ 1 := by
  unfold subC; split <;> omega
theorem add_lo {ah al bh bl : Int} (u1 : U64 al) (u2 : U64 bl) : addLo al bl 0 = loOf (val ah al + val bh bl) := by
  unfold U64 at u1 u2; unfold addLo loOf val; omega
theorem add_hi {ah al bh bl : Int} (u1 : U64 al) (u2 : U64 bl) : addLo ah bh (addC al bl 0) = hiOf (val ah al + val bh bl) := by
  unfold U64 at u1 u2; unfold addLo addC hiOf val; omega
theorem add_carry {ah al bh bl : Int} (u1 : U64 al) (u2 : U64 bl) (u3 : U64 ah) (u4 : U64 bh) :
    (addC ah bh (addC al bl 0) != 0) = decide (full ≤ val ah al + val bh bl) := by
  unfold U64 at u1 u2 u3 u4
  rw [Bool.eq_iff_iff]; simp only [bne_iff_ne, ne_eq, decide_eq_true_eq]
  unfold addC val full; omega
theorem sub_lo {ah al bh bl : Int} (u1 : U64 al) (u2 : U64 bl) : subLo al bl 0 = loOf (val ah al - val bh bl) := by
  unfold U64 at u1 u2; unfold subLo loOf val; omega
theorem sub_hi {ah al bh bl : Int} (u1 : U64 al) (u2 : U64 bl) : subLo ah bh (subC al bl 0) = hiOf (val ah al - val bh bl) := by
  unfold U64 at u1 u2; unfold subLo subC hiOf val; split <;> omega
theorem sub_borrow {ah al bh bl : Int} (u1 : U64 al) (u2 : U64 bl) (u3 : U64 ah) (u4 : U64 bh) :
    (subC ah bh (subC al bl 0) != 0) = decide (val ah al < val bh bl) := by
  unfold U64 at u1 u2 u3 u4
  rw [Bool.eq_iff_iff]; simp only [bne_iff_ne, ne_eq, decide_eq_true_eq]
  unfold subC val; split <;> split <;> omega
theorem val_zero {h l : Int} (uh : U64 h) (ul : U64 l) : (val h l == 0) = (h == 0 && l == 0) := by
  unfold U64 at uh ul
  rw [Bool.eq_iff_iff]; simp only [beq_iff_eq, Bool.and_eq_true]
  unfold val; omega
theorem cmpI_cases (a b : Int) : (a < b → cmpI a b = -1) ∧ (b < a → cmpI a b = 1) ∧ (a = b → cmpI a b = 0) := by
  unfold cmpI
  refine ⟨fun h => ?_, fun h => ?_, fun h => ?_⟩
  · rw [if_pos h]
  · rw [if_neg (by omega), if_pos h]
  · rw [if_neg (by omega), if_neg (by omega)]

end Go.Proofs.YtkhcbioohoeegaaDoor
