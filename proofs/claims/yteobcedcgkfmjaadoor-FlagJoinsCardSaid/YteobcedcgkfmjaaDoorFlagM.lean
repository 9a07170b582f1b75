/-
  Sets of flags as numbers: union, names, which flags there are. Nothing of the program in sight.
-/
import Derived.Test.YteobcedcgkfmjaaDoorGaB
set_option linter.unusedVariables false
set_option maxRecDepth 100000
namespace Go.Proofs.YteobcedcgkfmjaaDoor
open Go.RowKit

theorem bits_and_u8 {a b : Nat} (ha : a < 256) (hb : b < 256) : bits .and .u8 (a : Int) (b : Int) = ((a &&& b : Nat) : Int) := by
  have hx : a &&& b < 2 ^ 8 := Nat.and_lt_two_pow _ (by omega)
  have h1 : (BitVec.ofInt 8 (a : Int)).toNat = a := by
    rw [BitVec.ofInt_natCast, BitVec.toNat_ofNat]; exact Nat.mod_eq_of_lt (by omega)
  have h2 : (BitVec.ofInt 8 (b : Int)).toNat = b := by
    rw [BitVec.ofInt_natCast, BitVec.toNat_ofNat]; exact Nat.mod_eq_of_lt (by omega)
  show IntKind.u8.wrap ((BitVec.ofInt 8 (a : Int) &&& BitVec.ofInt 8 (b : Int)).toNat : Int) = _
  rw [BitVec.toNat_and, h1, h2, IntKind.wrap_u8]
  omega
theorem bits_or_u8 {a b : Nat} (ha : a < 256) (hb : b < 256) : bits .or .u8 (a : Int) (b : Int) = ((a ||| b : Nat) : Int) := by
  have hx : a ||| b < 2 ^ 8 := Nat.or_lt_two_pow (by omega) (by omega)
  have h1 : (BitVec.ofInt 8 (a : Int)).toNat = a := by
    rw [BitVec.ofInt_natCast, BitVec.toNat_ofNat]; exact Nat.mod_eq_of_lt (by omega)
  have h2 : (BitVec.ofInt 8 (b : Int)).toNat = b := by
    rw [BitVec.ofInt_natCast, BitVec.toNat_ofNat]; exact Nat.mod_eq_of_lt (by omega)
  show IntKind.u8.wrap ((BitVec.ofInt 8 (a : Int) ||| BitVec.ofInt 8 (b : Int)).toNat : Int) = _
  rw [BitVec.toNat_or, h1, h2, IntKind.wrap_u8]
  omega

/-- Every bit of part is one of s. -/
def hasN (s p : Nat) : Bool := (s &&& p) == p
/-- The union of some sets; without what is no flag. -/
def orL (xs : List Nat) : Nat := xs.foldr (· ||| ·) 0
def joinN (xs : List Nat) : Nat := orL xs % 32
/-- The first j flags: those that are in s. -/
def upS (s : Nat) : Nat → List (Fin 5)
  | 0 => []
  | j + 1 => if s.testBit j then upS s j ++ [Fin.ofNat 5 j] else upS s j
theorem upS_length (s j : Nat) : (upS s j).length ≤ j := by
  induction j with
  | zero => exact Nat.le_refl _
  | succ j ih =>
    unfold upS
    split
    · simp; exact ih
    · omega
/-- The flags' names. -/
def nmB : Fin 5 → ByteArray
  | 0 => ⟨#[105, 110, 118, 97, 108, 105, 100]⟩ | 1 => ⟨#[100, 105, 118, 122, 101, 114, 111]⟩ | 2 => ⟨#[111, 118, 101, 114, 102, 108, 111, 119]⟩
  | 3 => ⟨#[117, 110, 100, 101, 114, 102, 108, 111, 119]⟩ | 4 => ⟨#[105, 110, 101, 120, 97, 99, 116]⟩
def namesN (s : Nat) : List (Fin 5) := upS s 5
/-- The flags as a set. -/
def setN (l : List (Fin 5)) : Nat := l.foldl (fun a x => a ||| 2 ^ x.val) 0
theorem setN_snoc (l : List (Fin 5)) (x : Fin 5) : setN (l ++ [x]) = setN l ||| 2 ^ x.val := by simp [setN]
theorem pow_fin (x : Fin 5) : 2 ^ x.val < 32 := Nat.pow_lt_pow_right (n := 5) (by decide) x.isLt
theorem setN_lt (l : List (Fin 5)) : setN l < 32 := by
  have h : ∀ (l : List (Fin 5)) (a : Nat), a < 32 → l.foldl (fun a x => a ||| 2 ^ x.val) a < 32 := by
    intro l
    induction l with
    | nil => exact fun a h => h
    | cons x l ih => exact fun a h => ih _ (Nat.or_lt_two_pow (n := 5) h (pow_fin x))
  exact h l 0 (by decide)
theorem set_up : ∀ s, s < 256 → setN (namesN s) = s % 32 := by decide +kernel
theorem has_pow : ∀ s, s < 256 → ∀ j, j < 5 → hasN s (2 ^ j) = s.testBit j := by decide +kernel

theorem orL_lt {n : Nat} : ∀ {xs : List Nat}, (∀ x ∈ xs, x < 2 ^ n) → orL xs < 2 ^ n
  | [], _ => Nat.two_pow_pos _
  | x :: xs, h => Nat.or_lt_two_pow (h x List.mem_cons_self) (orL_lt fun y hy => h y (List.mem_cons_of_mem _ hy))
theorem orL_snoc (xs : List Nat) (x : Nat) : orL (xs ++ [x]) = orL xs ||| x := by
  induction xs with
  | nil => simp [orL]
  | cons y ys ih =>
    show y ||| orL (ys ++ [x]) = y ||| orL ys ||| x
    rw [ih, Nat.or_assoc]
theorem joinN_lt (xs : List Nat) : joinN xs < 32 := Nat.mod_lt _ (by decide)

theorem has_iff {s p : Nat} : hasN s p = true ↔ ∀ i, p.testBit i = true → s.testBit i = true := by
  unfold hasN
  rw [beq_iff_eq]
  constructor
  · intro h i hi
    rw [← h, Nat.testBit_and, Bool.and_eq_true] at hi
    exact hi.1
  · intro h
    refine Nat.eq_of_testBit_eq fun i => ?_
    rw [Nat.testBit_and]
    cases hp : p.testBit i
    · simp
    · rw [h i hp]; rfl
theorem orL_bit (i : Nat) : ∀ xs : List Nat, (orL xs).testBit i = xs.any fun x => x.testBit i
  | [] => by simp [orL]
  | x :: xs => by
    show (x ||| orL xs).testBit i = _
    rw [Nat.testBit_or, orL_bit i xs]; rfl
theorem joinN_bit (xs : List Nat) (i : Nat) : (joinN xs).testBit i = (decide (i < 5) && xs.any fun x => x.testBit i) := by
  unfold joinN
  rw [show (32 : Nat) = 2 ^ 5 from rfl, Nat.testBit_mod_two_pow, orL_bit]

end Go.Proofs.YteobcedcgkfmjaaDoor
