/-
  Contracts of math/bits: Len64, TrailingZeros64 (beside its table).
-/
import Derived.Test.YtkhcbioohoeegaaDoorCountM
import Derived.Test.YtkhcbioohoeegaaDoorWideN
import Derived.Lib.BitFns
import Derived.Lib.Tables
import Derived.Deep.Light
import Derived.Lib.ItoaNum
import Derived.Lib.TrailingZeros
import Derived.Laws.Bits64b
set_option linter.unusedVariables false
set_option linter.unusedSimpArgs false
set_option maxRecDepth 100000
namespace Go.Proofs.YtkhcbioohoeegaaDoor
open Go.RowKit
attribute [local go_sem ↓] Go.wp_at_zero Go.wp_at_succ

theorem blen_bitLen {x : Int} (h : U64 x) : blen x = Lib.bitLen x.toNat := by
  obtain ⟨h0, h1⟩ := h
  by_cases hx : x = 0
  · subst hx; rfl
  · obtain ⟨b0, b1, b2⟩ := Lib.bitLenAux_bounds 64 x.toNat (by omega) (by omega)
    unfold Lib.bitLen
    generalize Lib.bitLenAux 64 x.toNat = l at *
    obtain ⟨j, rfl⟩ : ∃ j, l = j + 1 := ⟨l - 1, by omega⟩
    refine blen_of ?_ ?_
    · have e : ((2 ^ j : Nat) : Int) = 2 ^ j := by simp
      rw [show j + 1 - 1 = j from rfl] at b1
      omega
    · have e : ((2 ^ (j + 1) : Nat) : Int) = 2 ^ (j + 1) := by simp
      omega

theorem len8_fin (y : Int) (h : y.toNat < Lib.len8tab.size) (y0 : 0 ≤ y) (y1 : y ≤ 255) : ((Lib.len8tab[y.toNat]'h).toNat : Int) = Lib.bitLen y.toNat := by
  rw [← Lib.len8_of y y0 y1]
  unfold Lib.len8
  rw [getElem?_pos Lib.len8tab y.toNat h]
  rfl
/-- The end of each of the eight ways: y is what is left of x behind k bits. -/
theorem len_fin (k : Nat) {x y v : Int} (hv : v = (Lib.bitLen y.toNat : Int)) (hk : k ≤ 56) (y0 : 0 ≤ y) (y1 : y ≤ 255) (e : x.toNat / 2 ^ k = y.toNat) (hx : 2 ^ k ≤ x.toNat) (hx1 : x ≤ 18446744073709551615) : wrap64 ((k : Int) + wrap64 v) = (Lib.bitLen x.toNat : Int) := by
  have s := Lib.bitLen_shift k x.toNat hx (by show x.toNat < 18446744073709551616; omega)
  have l := Lib.bitLen_le8' y y0 y1
  rw [hv, s, e]
  clear e s hx hv
  generalize Lib.bitLen y.toNat = b at *
  unfold wrap64; omega
theorem len_fin0 {x v : Int} (hv : v = (Lib.bitLen x.toNat : Int)) (y0 : 0 ≤ x) (y1 : x ≤ 255) : wrap64 (wrap64 v) = (Lib.bitLen x.toNat : Int) := by
  have l := Lib.bitLen_le8' x y0 y1
  rw [hv]
  clear hv
  generalize Lib.bitLen x.toNat = b at *
  unfold wrap64; omega
set_option maxHeartbeats 4000000 in
set_option maxRecDepth 100000 in
theorem len64_lib (x : Int) (w : World) (h0 : 0 ≤ x) (h1 : x ≤ 18446744073709551615) :
    Calls Tryd.prog 40 #[.int .u64 x] w fun e w' => e = .returned (.int .i64 (Lib.bitLen x.toNat)) ∧ w' = w := by
  go_enter Tryd.func40, Tryd.ntmps40
  go_wp2
  all_goals first
    | (go_ret; refine ⟨congrArg Ending.returned (congrArg (Value.int IntKind.i64) ?_), rfl⟩; go_light)
    | (exfalso
       go_light
       have hs := Lib.len8tab_size
       omega)
  all_goals first
    | exact len_fin 56 (len8_fin _ _ (by omega) (by omega)) (by decide) (by omega) (by omega) (by show _ / 72057594037927936 = _; omega) (by show 72057594037927936 ≤ _; omega) (by omega)
    | exact len_fin 48 (len8_fin _ _ (by omega) (by omega)) (by decide) (by omega) (by omega) (by show _ / 281474976710656 = _; omega) (by show 281474976710656 ≤ _; omega) (by omega)
    | exact len_fin 40 (len8_fin _ _ (by omega) (by omega)) (by decide) (by omega) (by omega) (by show _ / 1099511627776 = _; omega) (by show 1099511627776 ≤ _; omega) (by omega)
    | exact len_fin 32 (len8_fin _ _ (by omega) (by omega)) (by decide) (by omega) (by omega) (by show _ / 4294967296 = _; omega) (by show 4294967296 ≤ _; omega) (by omega)
    | exact len_fin 24 (len8_fin _ _ (by omega) (by omega)) (by decide) (by omega) (by omega) (by show _ / 16777216 = _; omega) (by show 16777216 ≤ _; omega) (by omega)
    | exact len_fin 16 (len8_fin _ _ (by omega) (by omega)) (by decide) (by omega) (by omega) (by show _ / 65536 = _; omega) (by show 65536 ≤ _; omega) (by omega)
    | exact len_fin 8 (len8_fin _ _ (by omega) (by omega)) (by decide) (by omega) (by omega) (by show _ / 256 = _; omega) (by show 256 ≤ _; omega) (by omega)
    | exact len_fin0 (len8_fin _ _ (by omega) (by omega)) (by omega) (by omega)
theorem len64_any (x : Int) (h : U64 x) (w : World) : Calls Tryd.prog 40 #[.int .u64 x] w fun e w' => e = .returned (.int .i64 (blen x)) ∧ w = w' := by
  rw [blen_bitLen h]
  exact (len64_lib x w h.1 (by have := h.2; omega)).mono fun e w' ⟨h1, h2⟩ => ⟨h1, h2.symm⟩

/-- The table of TrailingZeros64 in its variable. -/
def Tab (w : World) : Prop := ∀ j, j < 64 → w.cell? ⟨0, j, none⟩ = some (.int .u8 (Lib.deBruijn64tab.getD j 0 : Nat))
theorem Tab.later {w w' : World} (h : Tab w) (hb : Below w.heap.size w w') : Tab w' := fun j hj => cell_later hb (h j hj)

set_option maxHeartbeats 1000000 in
theorem tz64_core (x k idx : Nat) (w : World) (hx0 : ((x : Int) == 0) = false)
    (key : IntKind.u64.wrap (bits BinOp.and IntKind.u64 (x : Int) (IntKind.u64.wrap (-(x : Int))) * 285870213051353865) / 288230376151711744 = (idx : Int))
    (hi : idx < 64) (hk : k < 64) (hcell : w.cell? ⟨0, idx, none⟩ = some (.int .u8 k)) :
    Calls Tryd.prog 45 #[.int .u64 x] w fun e w' => e = .returned (.int .i64 k) ∧ w = w' := by
  go_enter Tryd.func45, Tryd.ntmps45
  go_wp2_with (simp only [key])
  go_ret
  exact ⟨rfl, rfl⟩
theorem tz64_key (x a : Nat) (hx : x < 18446744073709551616) (hx0 : x ≠ 0) (hlow : x &&& (18446744073709551616 - x) = a) :
    IntKind.u64.wrap (bits BinOp.and IntKind.u64 (x : Int) (IntKind.u64.wrap (-(x : Int))) * 285870213051353865) / 288230376151711744 = ((a * 285870213051353865 % 18446744073709551616 / 288230376151711744 : Nat) : Int) := by
  have e1 : IntKind.u64.wrap (-(x : Int)) = ((18446744073709551616 - x : Nat) : Int) := by rw [IntKind.wrap_u64]; omega
  rw [e1, bits_and_u64_nat x _ hx (by omega), hlow, IntKind.wrap_u64]
  omega
theorem tz64_any (x : Int) (h : U64 x) (h0 : x ≠ 0) (w : World) (tb : Tab w) : Calls Tryd.prog 45 #[.int .u64 x] w fun e w' => e = .returned (.int .i64 (Lib.ctz 64 x.toNat)) ∧ w = w' := by
  obtain ⟨g0, g1⟩ := h
  obtain ⟨n, rfl⟩ := Int.eq_ofNat_of_zero_le g0
  rw [Int.toNat_natCast]
  have hn : n < 2 ^ 64 := by show n < 18446744073709551616; omega
  obtain ⟨hlow, hk⟩ := Lib.lowest_bit 64 n (by omega) hn
  obtain ⟨hi, htab⟩ := Lib.deBruijn64_at _ hk
  have hcell := tb _ hi
  rw [htab] at hcell
  exact tz64_core n _ _ w (by simp; omega) (tz64_key n _ (by omega) (by omega) hlow) hi hk hcell
/-- What TrailingZeros64 says of a digit. -/
theorem ctz_spec {x : Int} (h : U64 x) (h0 : x ≠ 0) : Lib.ctz 64 x.toNat < 64 ∧ ∃ m : Int, x = 2 ^ Lib.ctz 64 x.toNat * (2 * m + 1) := by
  obtain ⟨g0, g1⟩ := h
  obtain ⟨n, rfl⟩ := Int.eq_ofNat_of_zero_le g0
  rw [Int.toNat_natCast]
  obtain ⟨m, hm, hk⟩ := Lib.ctzFrom_spec 64 n (by omega) (by show n < 18446744073709551616; omega)
  have e : Lib.ctz 64 n = Lib.ctzFrom 64 n := by unfold Lib.ctz; rw [if_neg (by omega)]
  rw [e]
  refine ⟨hk, (m : Int), ?_⟩
  generalize Lib.ctzFrom 64 n = c at *
  subst hm
  simp
theorem tail_digit {x d r m : Int} {i c : Nat} (hx : x = 2 ^ (64 * i) * (d + 18446744073709551616 * r)) (hc : c < 64) (hd : d = 2 ^ c * (2 * m + 1)) : x % 2 ^ (64 * i + c) = 0 ∧ x / 2 ^ (64 * i + c) % 2 = 1 := by
  have e64 : (18446744073709551616 : Int) = 2 ^ c * (2 * 2 ^ (63 - c)) := by
    rw [show (2 : Int) * 2 ^ (63 - c) = 2 ^ (64 - c) from by rw [show 64 - c = (63 - c) + 1 by omega, Int.pow_succ, Int.mul_comm], ← Int.pow_add, show c + (64 - c) = 64 by omega]; rfl
  have ex : x = 2 ^ (64 * i + c) * (2 * (m + 2 ^ (63 - c) * r) + 1) := by
    rw [hx, hd, e64, Int.pow_add]
    generalize (2 : Int) ^ (63 - c) = q
    generalize (2 : Int) ^ c = s
    generalize (2 : Int) ^ (64 * i) = t
    rw [Int.mul_assoc t s]
    congr 1
    rw [show s * (2 * q) * r = s * (2 * (q * r)) from by rw [Int.mul_assoc, Int.mul_assoc], ← Int.mul_add]
    congr 1
    omega
  have hp := two_pow_pos (64 * i + c)
  generalize m + 2 ^ (63 - c) * r = z at ex
  generalize (2 : Int) ^ (64 * i + c) = p at *
  subst ex
  constructor
  · exact Int.mul_emod_right _ _
  · rw [Int.mul_ediv_cancel_left _ (by omega)]; omega
end Go.Proofs.YtkhcbioohoeegaaDoor
