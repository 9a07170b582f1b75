import Derived.Deep.Light
import Derived.Lib.ItoaNum
import Derived.Lib.TrailingZeros
import Derived.Test.YtjdjonekoodalaaGreatDoorGsB
set_option maxHeartbeats 4000000
set_option linter.unusedVariables false
set_option maxRecDepth 100000
namespace Go.Proofs.YtjdjonekoodalaaGreatDoor
def upN (B : Nat) (x : Int) : Nat := if x = 0 then 0 else B - blen x
theorem blen_le {x : Int} {k : Nat} (h0 : 0 ≤ x) (h : x < 2 ^ k) : blen x ≤ k := by
  rcases Int.lt_or_eq_of_le h0 with g | g
  · obtain ⟨j, e, h1, h2⟩ := blen_bounds g
    rw [e]
    rcases Nat.lt_or_ge j k with r | r
    · omega
    · have := two_pow_le r; omega
  · rw [← g, blen_zero]; omega
theorem blen_pos {x : Int} (h0 : 0 < x) : 1 ≤ blen x := by
  obtain ⟨j, e, h1, h2⟩ := blen_bounds h0; omega
theorem blen_mono {x y : Int} (h0 : 0 ≤ x) (h : x ≤ y) : blen x ≤ blen y :=
  blen_le h0 (Int.lt_of_le_of_lt h (lt_blen y (by omega)))
theorem blen_low {x : Int} (h0 : 0 < x) : 2 ^ (blen x - 1) ≤ x := by
  obtain ⟨j, e, h1, h2⟩ := blen_bounds h0
  rw [e]; exact h1
theorem blen_shl {x : Int} (h0 : 0 < x) (k : Nat) : blen (x * 2 ^ k) = blen x + k := by
  obtain ⟨j, e, h1, h2⟩ := blen_bounds h0
  have hp := two_pow_pos k
  have := blen_of (n := x * 2 ^ k) (j := j + k) (by rw [Int.pow_add]; exact Int.mul_le_mul_of_nonneg_right h1 (by omega)) (by rw [show j + k + 1 = (j + 1) + k by omega, Int.pow_add]; exact Int.mul_lt_mul_of_pos_right h2 hp)
  rw [this, e]; omega
theorem blen_w {x : Int} (h0 : 0 ≤ x) (h1 : x < wfull) : blen x ≤ 256 := blen_le h0 (by rw [show (2 : Int) ^ 256 = wfull from by decide +kernel]; exact h1)
theorem blen_f {x : Int} (h0 : 0 ≤ x) (h1 : x < full) : blen x ≤ 128 := blen_le h0 (by rw [show (2 : Int) ^ 128 = full from by decide +kernel]; exact h1)
theorem mul_pow_div (x : Int) (k : Nat) : x * 2 ^ k / 2 ^ k = x := Int.mul_ediv_cancel _ (by have := two_pow_pos k; omega)
theorem up_spec {B : Nat} {x : Int} (h0 : 0 < x) (hB : blen x ≤ B) : 2 ^ (B - 1) ≤ x * 2 ^ upN B x ∧ x * 2 ^ upN B x < 2 ^ B := by
  have hb := blen_pos h0
  have e : upN B x = B - blen x := by unfold upN; rw [if_neg (by omega)]
  rw [e]
  have h1 := blen_low h0
  have h2 := lt_blen x (by omega)
  have hp := two_pow_pos (B - blen x)
  constructor
  · have := Int.mul_le_mul_of_nonneg_right h1 (show (0 : Int) ≤ 2 ^ (B - blen x) by omega)
    rw [← Int.pow_add, show blen x - 1 + (B - blen x) = B - 1 by omega] at this
    exact this
  · have := Int.mul_lt_mul_of_pos_right h2 hp
    rw [← Int.pow_add, show blen x + (B - blen x) = B by omega] at this
    exact this
theorem up_zero (B : Nat) : upN B 0 = 0 := by unfold upN; simp
theorem up_le (B : Nat) (x : Int) : upN B x ≤ B := by unfold upN; split <;> omega
end Go.Proofs.YtjdjonekoodalaaGreatDoor
set_option linter.unusedSimpArgs false
namespace Go.Proofs.YtjdjonekoodalaaGreatDoor
open Go.RowKit
attribute [local go_sem ↓] Go.wp_at_zero Go.wp_at_succ
theorem blen_bitLen {x : Int} (h : U64 x) : blen x = Lib.bitLen x.toNat := by
  obtain ⟨h0, h1⟩ := h
  by_cases hx : x = 0
  · subst hx; rfl
  · obtain ⟨b0, b1, b2⟩ := Lib.bitLenAux_bounds 64 x.toNat (by omega) (by omega)
    unfold Lib.bitLen
    generalize Lib.bitLenAux 64 x.toNat = l at *
    obtain ⟨j, rfl⟩ : ∃ j, l = j + 1 := ⟨l - 1, by omega⟩
    refine blen_of ?_ ?_
    · have e : ((2 ^ j : Nat) : Int) = 2 ^ j := by simp
      rw [show j + 1 - 1 = j from rfl] at b1
      omega
    · have e : ((2 ^ (j + 1) : Nat) : Int) = 2 ^ (j + 1) := by simp
      omega
theorem len8_fin (y : Int) (h : y.toNat < Lib.len8tab.size) (y0 : 0 ≤ y) (y1 : y ≤ 255) : ((Lib.len8tab[y.toNat]'h).toNat : Int) = Lib.bitLen y.toNat := by
  rw [← Lib.len8_of y y0 y1]
  unfold Lib.len8
  rw [getElem?_pos Lib.len8tab y.toNat h]
  rfl
theorem len_fin (k : Nat) {x y v : Int} (hv : v = (Lib.bitLen y.toNat : Int)) (hk : k ≤ 56) (y0 : 0 ≤ y) (y1 : y ≤ 255) (e : x.toNat / 2 ^ k = y.toNat) (hx : 2 ^ k ≤ x.toNat) (hx1 : x ≤ 18446744073709551615) : wrap64 ((k : Int) + wrap64 v) = (Lib.bitLen x.toNat : Int) := by
  have s := Lib.bitLen_shift k x.toNat hx (by show x.toNat < 18446744073709551616; omega)
  have l := Lib.bitLen_le8' y y0 y1
  rw [hv, s, e]
  clear e s hx hv
  generalize Lib.bitLen y.toNat = b at *
  unfold wrap64; omega
theorem len_fin0 {x v : Int} (hv : v = (Lib.bitLen x.toNat : Int)) (y0 : 0 ≤ x) (y1 : x ≤ 255) : wrap64 (wrap64 v) = (Lib.bitLen x.toNat : Int) := by
  have l := Lib.bitLen_le8' x y0 y1
  rw [hv]
  clear hv
  generalize Lib.bitLen x.toNat = b at *
  unfold wrap64; omega
theorem len64_lib (x : Int) (w : World) (h0 : 0 ≤ x) (h1 : x ≤ 18446744073709551615) :
    Calls Tryz.prog 189 #[.int .u64 x] w fun e w' => e = .returned (.int .i64 (Lib.bitLen x.toNat)) ∧ w' = w := by
  go_enter Tryz.func189, Tryz.ntmps189
  go_wp2
  all_goals first
    | (go_ret; refine ⟨congrArg Ending.returned (congrArg (Value.int IntKind.i64) ?_), rfl⟩; go_light)
    | (exfalso
       go_light
       have hs := Lib.len8tab_size
       omega)
  all_goals first
    | exact len_fin 56 (len8_fin _ _ (by omega) (by omega)) (by decide) (by omega) (by omega) (by show _ / 72057594037927936 = _; omega) (by show 72057594037927936 ≤ _; omega) (by omega)
    | exact len_fin 48 (len8_fin _ _ (by omega) (by omega)) (by decide) (by omega) (by omega) (by show _ / 281474976710656 = _; omega) (by show 281474976710656 ≤ _; omega) (by omega)
    | exact len_fin 40 (len8_fin _ _ (by omega) (by omega)) (by decide) (by omega) (by omega) (by show _ / 1099511627776 = _; omega) (by show 1099511627776 ≤ _; omega) (by omega)
    | exact len_fin 32 (len8_fin _ _ (by omega) (by omega)) (by decide) (by omega) (by omega) (by show _ / 4294967296 = _; omega) (by show 4294967296 ≤ _; omega) (by omega)
    | exact len_fin 24 (len8_fin _ _ (by omega) (by omega)) (by decide) (by omega) (by omega) (by show _ / 16777216 = _; omega) (by show 16777216 ≤ _; omega) (by omega)
    | exact len_fin 16 (len8_fin _ _ (by omega) (by omega)) (by decide) (by omega) (by omega) (by show _ / 65536 = _; omega) (by show 65536 ≤ _; omega) (by omega)
    | exact len_fin 8 (len8_fin _ _ (by omega) (by omega)) (by decide) (by omega) (by omega) (by show _ / 256 = _; omega) (by show 256 ≤ _; omega) (by omega)
    | exact len_fin0 (len8_fin _ _ (by omega) (by omega)) (by omega) (by omega)
theorem len64_any (x : Int) (h : U64 x) (w : World) : Calls Tryz.prog 189 #[.int .u64 x] w fun e w' => e = .returned (.int .i64 (blen x)) ∧ w = w' := by
  rw [blen_bitLen h]
  exact (len64_lib x w h.1 (by have := h.2; omega)).mono fun e w' ⟨h1, h2⟩ => ⟨h1, h2.symm⟩
end Go.Proofs.YtjdjonekoodalaaGreatDoor
namespace Go.Proofs.YtjdjonekoodalaaGreatDoor
open Go.RowKit
attribute [local go_sem ↓] Go.wp_at_zero Go.wp_at_succ
theorem len_core (ah al l m : Int) (L : Hid (∀ w, Calls Tryz.prog 189 #[.int .u64 ah] w fun e w' => e = .returned (.int .i64 l) ∧ w = w')) (h : (ah == 0) = false) (h' : ah ≠ 0) (hm : IntKind.i64.wrap (64 + l) = m) (w : World) :
    Calls Tryz.prog 166 #[.agg #[.int .u64 ah, .int .u64 al]] w fun e w' => e = .returned (.int .i64 m) ∧ Below w.heap.size w w' := by
  go_enter Tryz.func166, Tryz.ntmps166
  go_wp2_with fail
  (with_reducible refine (L.out _).mono ?_); rintro e w1 ⟨rfl, rfl⟩
  go_wp2_with fail
  go_ret
  exact ⟨rfl, bA bR _⟩
theorem len_core0 (al l : Int) (L : Hid (∀ w, Calls Tryz.prog 189 #[.int .u64 al] w fun e w' => e = .returned (.int .i64 l) ∧ w = w')) (w : World) :
    Calls Tryz.prog 166 #[.agg #[.int .u64 0, .int .u64 al]] w fun e w' => e = .returned (.int .i64 l) ∧ Below w.heap.size w w' := by
  go_enter Tryz.func166, Tryz.ntmps166
  go_wp2_with fail
  (with_reducible refine (L.out _).mono ?_); rintro e w1 ⟨rfl, rfl⟩
  go_wp2_with fail
  go_ret
  exact ⟨rfl, bA bR _⟩
theorem blen_u {x : Int} (h : U64 x) : blen x ≤ 64 := blen_le h.1 (by have := h.2; show x < 18446744073709551616; omega)
theorem blen_hi {x y : Int} (s : Nat) (hx : 0 < x) (h0 : 0 ≤ y) (h1 : y < 2 ^ s) : blen (x * 2 ^ s + y) = s + blen x := by
  obtain ⟨j, e, b1, b2⟩ := blen_bounds hx
  have hp := two_pow_pos s
  rw [e, show s + (j + 1) = (j + s) + 1 by omega]
  have c1 : 2 ^ j * 2 ^ s ≤ x * 2 ^ s := Int.mul_le_mul_of_nonneg_right b1 (by omega)
  have c2 : (x + 1) * 2 ^ s ≤ 2 ^ (j + 1) * 2 ^ s := Int.mul_le_mul_of_nonneg_right (by omega) (by omega)
  rw [Int.add_mul] at c2
  refine blen_of ?_ ?_
  · rw [Int.pow_add]; omega
  · rw [show j + s + 1 = (j + 1) + s by omega, Int.pow_add]; omega
theorem lenB (n : Int) (w : World) : Calls Tryz.prog 166 #[.agg #[.int .u64 (hiOf (n)), .int .u64 (loOf (n))]] w fun e w' => e = .returned (.int .i64 (blen (n % full))) ∧ Below w.heap.size w w' := by
  have uh := hiOf_u n
  have ul := loOf_u n
  rw [← val_hiLo_mod n]
  generalize hiOf n = h at *
  generalize loOf n = l at *
  by_cases h0 : h = 0
  · subst h0
    rw [show val 0 l = l by unfold val; omega]
    exact len_core0 l _ (lH (len64_any l ul)) w
  · have b := blen_u uh
    have e := blen_hi 64 (show 0 < h by have := uh.1; omega) ul.1 ul.2
    rw [show val h l = h * 2 ^ 64 + l from rfl, e]
    refine len_core h l _ _ (lH (len64_any h uh)) (by simpa using h0) h0 ?_ w
    rw [IntWalk.i64_in _ (by omega)]; omega
theorem wlen_core (a0 a1 a2 a3 h l : Int) (b m : Int) (H1 : Hid (∀ w, Calls Tryz.prog 194 #[.agg #[.int .u64 a0, .int .u64 a1, .int .u64 a2, .int .u64 a3]] w fun e w' => e = .returned (.agg #[.int .u64 h, .int .u64 l]) ∧ Below w.heap.size w w'))
    (H2 : Hid (∀ w, Calls Tryz.prog 166 #[.agg #[.int .u64 h, .int .u64 l]] w fun e w' => e = .returned (.int .i64 b) ∧ Below w.heap.size w w')) (hb0 : (b == 0) = false) (hb1 : b ≠ 0) (hm : IntKind.i64.wrap (128 + b) = m) (w : World) :
    Calls Tryz.prog 178 #[.agg #[.int .u64 a0, .int .u64 a1, .int .u64 a2, .int .u64 a3]] w fun e w' => e = .returned (.int .i64 m) ∧ Below w.heap.size w w' := by
  go_enter Tryz.func178, Tryz.ntmps178
  go_wp2_with fail
  (with_reducible refine (H1.out _).mono ?_); rintro e w1 ⟨rfl, hb⟩
  have kk := bC (bA bR _) hb
  clear hb
  go_wp2_with fail
  (with_reducible refine (H2.out _).mono ?_); rintro e w2 ⟨rfl, hb⟩
  replace kk := bC kk hb
  clear hb
  go_wp2_with fail
  go_ret
  exact ⟨rfl, kk⟩
theorem wlen_core0 (a0 a1 a2 a3 h l h' l' : Int) (b : Int) (H1 : Hid (∀ w, Calls Tryz.prog 194 #[.agg #[.int .u64 a0, .int .u64 a1, .int .u64 a2, .int .u64 a3]] w fun e w' => e = .returned (.agg #[.int .u64 h, .int .u64 l]) ∧ Below w.heap.size w w'))
    (H2 : Hid (∀ w, Calls Tryz.prog 166 #[.agg #[.int .u64 h, .int .u64 l]] w fun e w' => e = .returned (.int .i64 0) ∧ Below w.heap.size w w'))
    (H3 : Hid (∀ w, Calls Tryz.prog 195 #[.agg #[.int .u64 a0, .int .u64 a1, .int .u64 a2, .int .u64 a3]] w fun e w' => e = .returned (.agg #[.int .u64 h', .int .u64 l']) ∧ Below w.heap.size w w'))
    (H4 : Hid (∀ w, Calls Tryz.prog 166 #[.agg #[.int .u64 h', .int .u64 l']] w fun e w' => e = .returned (.int .i64 b) ∧ Below w.heap.size w w')) (w : World) :
    Calls Tryz.prog 178 #[.agg #[.int .u64 a0, .int .u64 a1, .int .u64 a2, .int .u64 a3]] w fun e w' => e = .returned (.int .i64 b) ∧ Below w.heap.size w w' := by
  go_enter Tryz.func178, Tryz.ntmps178
  go_wp2_with fail
  (with_reducible refine (H1.out _).mono ?_); rintro e w1 ⟨rfl, hb⟩
  have kk := bC (bA bR _) hb
  have xa : HB w1 w.heap.size 81 #[.int .u64 a0, .int .u64 a1, .int .u64 a2, .int .u64 a3] := (HB.new w _ _).later hb
  clear hb
  go_wp2_with fail
  (with_reducible refine (H2.out _).mono ?_); rintro e w2 ⟨rfl, hb⟩
  replace kk := bC kk hb
  replace xa := xa.later hb
  have c0 := xa.cell 0; have c1 := xa.cell 1; have c2 := xa.cell 2; have c3 := xa.cell 3
  dsimp at c0 c1 c2 c3
  have sz := xa.lt
  clear hb xa
  go_wp2_with fail
  (with_reducible refine (H3.out _).mono ?_); rintro e w3 ⟨rfl, hb⟩
  replace kk := bC kk hb
  clear hb c0 c1 c2 c3 sz
  go_wp2_with fail
  (with_reducible refine (H4.out _).mono ?_); rintro e w4 ⟨rfl, hb⟩
  replace kk := bC kk hb
  clear hb
  go_wp2_with fail
  go_ret
  exact ⟨rfl, kk⟩
theorem wlenW (n : Int) (w : World) : Calls Tryz.prog 178 #[.agg #[.int .u64 (wd0 (n)), .int .u64 (wd1 (n)), .int .u64 (wd2 (n)), .int .u64 (wd3 (n))]] w fun e w' => e = .returned (.int .i64 (blen (n % wfull))) ∧ Below w.heap.size w w' := by
  have e : n % wfull = n / full % full * 2 ^ 128 + n % full := by show _ = n / full % full * full + n % full; unfold wfull full; omega
  have m0 := mod_f (n / full)
  have m1 := mod_f n
  by_cases h0 : n / full % full = 0
  · have L := lenB (n / full)
    rw [h0, blen_zero] at L
    rw [e, h0, Int.zero_mul, Int.zero_add]
    exact wlen_core0 _ _ _ _ _ _ _ _ _ (lH (highW n)) (lH L) (lH (lowW n)) (lH (lenB n)) w
  · have b := blen_f m0.1 m0.2
    have bp := blen_pos (show 0 < n / full % full by omega)
    rw [e, blen_hi 128 (by omega) m1.1 m1.2]
    refine wlen_core _ _ _ _ _ _ _ _ (lH (highW n)) (lH (lenB (n / full))) (by simp; omega) (by omega) ?_ w
    rw [IntWalk.i64_in _ (by omega)]; omega
theorem above2 (a0 a1 b m : Int) (p : Nat) (L : Hid (∀ w, Calls Tryz.prog 166 #[.agg #[.int .u64 a0, .int .u64 a1]] w fun e w' => e = .returned (.int .i64 b) ∧ Below w.heap.size w w')) (hm : IntKind.i64.wrap (128 - b) = m) (w : World) (hx : HB w p 25 #[.int .u64 a0, .int .u64 a1]) :
    Calls Tryz.prog 165 #[.pointer (some ⟨p, 0, none⟩)] w fun e w' => e = .returned (.int .i64 m) ∧ Below w.heap.size w w' := by
  have c0 := hx.cell 0; have c1 := hx.cell 1
  dsimp at c0 c1
  have sz := hx.lt
  clear hx
  go_enter Tryz.func165, Tryz.ntmps165
  go_wp2_with fail
  (with_reducible refine (L.out _).mono ?_); rintro e w1 ⟨rfl, hb⟩
  go_wp2_with fail
  go_ret
  exact ⟨rfl, hb⟩
theorem leftc2 (a0 a1 x0 x1 k : Int) (p : Nat) (L : Hid (∀ w, Calls Tryz.prog 62 #[.agg #[.int .u64 a0, .int .u64 a1], .int .i64 k] w fun e w' => e = .returned (.agg #[.int .u64 x0, .int .u64 x1]) ∧ Below w.heap.size w w')) (w : World) (hx : HB w p 25 #[.int .u64 a0, .int .u64 a1]) :
    Calls Tryz.prog 167 #[.int .i64 k, .pointer (some ⟨p, 0, none⟩)] w fun e w' => e = .returned (.agg #[.int .u64 x0, .int .u64 x1]) ∧ Below w.heap.size w w' := by
  have c0 := hx.cell 0; have c1 := hx.cell 1
  dsimp at c0 c1
  have sz := hx.lt
  clear hx
  go_enter Tryz.func167, Tryz.ntmps167
  go_wp2_with fail
  (with_reducible refine (L.out _).mono ?_); rintro e w1 ⟨rfl, hb⟩
  have kk := bC (bA bR _) hb
  have xr : HB w1 w.heap.size 25 #[.int .u64 0, .int .u64 0] := (HB.new w _ _).later hb
  have KEY : Hid (HB ((w1.setCell ⟨w.heap.size, 0, none⟩ (.int .u64 (x0))).setCell ⟨w.heap.size, 1, none⟩ (.int .u64 (x1))) (w.heap.size) 25 #[.int .u64 (x0), .int .u64 (x1)] ∧ Below w.heap.size w ((w1.setCell ⟨w.heap.size, 0, none⟩ (.int .u64 (x0))).setCell ⟨w.heap.size, 1, none⟩ (.int .u64 (x1)))) := lH ⟨((xr.set 0 _).set 1 _), ((kk.setCell (p := ⟨w.heap.size, 0, none⟩) (by simp) _).setCell (p := ⟨w.heap.size, 1, none⟩) (by simp) _)⟩
  have hsz := kk.size; have hlt := xr.lt
  have z0 := xr.cell 0; have f0 := xr.frozen 0; dsimp at z0; have z1 := xr.cell 1; have f1 := xr.frozen 1; dsimp at z1
  clear hb xr kk L c0 c1 sz
  go_wp2_with fail
  obtain ⟨hE, kb⟩ := KEY.out
  have e0 := hE.cell 0; have e1 := hE.cell 1
  dsimp at e0 e1
  refine bodyPost_ret (v := .agg #[.int .u64 x0, .int .u64 x1]) ?_ rfl ⟨rfl, kb⟩
  clear z0 f0 z1 f1 kb hE
  simp [results, Tryz.results167, go_sem, e0, e1]
theorem raise2_zero (p : Nat) (w : World) :
    Calls Tryz.prog 164 #[.agg #[.int .u64 0, .int .u64 0], .func (.func 165) #[] #[.pointer (some ⟨p, 0, none⟩)], .func (.func 167) #[] #[.pointer (some ⟨p, 0, none⟩)]] w fun e w' => e = .returned (.tuple #[.agg #[.int .u64 0, .int .u64 0], .int .i64 0]) ∧ Below w.heap.size w w' := by
  have EQ : ∀ w, (binOp .eql 25 (.agg #[.int .u64 0, .int .u64 0]) (.agg #[.int .u64 0, .int .u64 0])).run Tryz.prog w = .ok (.bool true) w := fun w => by rw [eql_bits]; simp
  go_enter Tryz.func164, Tryz.ntmps164
  go_wp2_with fail
  refine bodyPost_ret (v := .tuple #[.agg #[.int .u64 0, .int .u64 0], .int .i64 0]) ?_ rfl ⟨rfl, bA (bA (bA bR _) _) _⟩
  simp [results, Tryz.results164, go_sem]
theorem raise2_not (a0 a1 x0 x1 k : Int) (p : Nat) (EQ : ∀ w, (binOp .eql 25 (.agg #[.int .u64 a0, .int .u64 a1]) (.agg #[.int .u64 0, .int .u64 0])).run Tryz.prog w = .ok (.bool false) w) (w : World)
    (H1 : Hid (∀ W, Below w.heap.size w W → Calls Tryz.prog 165 #[.pointer (some ⟨p, 0, none⟩)] W fun e w' => e = .returned (.int .i64 k) ∧ Below W.heap.size W w'))
    (H2 : Hid (∀ W, Below w.heap.size w W → Calls Tryz.prog 167 #[.int .i64 k, .pointer (some ⟨p, 0, none⟩)] W fun e w' => e = .returned (.agg #[.int .u64 x0, .int .u64 x1]) ∧ Below W.heap.size W w')) :
    Calls Tryz.prog 164 #[.agg #[.int .u64 a0, .int .u64 a1], .func (.func 165) #[] #[.pointer (some ⟨p, 0, none⟩)], .func (.func 167) #[] #[.pointer (some ⟨p, 0, none⟩)]] w fun e w' => e = .returned (.tuple #[.agg #[.int .u64 x0, .int .u64 x1], .int .i64 k]) ∧ Below w.heap.size w w' := by
  go_enter Tryz.func164, Tryz.ntmps164
  go_wp2_with fail
  (with_reducible refine (H1.out _ (bA (bA (bA bR _) _) _)).mono ?_); rintro e w1 ⟨rfl, hb⟩
  have kk := bC (bA (bA (bA bR _) _) _) hb
  have xr : HB w1 (w.heap.size + 1) 25 #[.int .u64 0, .int .u64 0] := ((HB.newAt (by simp) _ _).alloc _).later hb
  clear hb
  go_wp2_with fail
  (with_reducible refine (H2.out _ kk).mono ?_); rintro e w2 ⟨rfl, hb⟩
  replace kk := bC kk hb
  replace xr := xr.later hb
  have KEY : Hid (HB ((w2.setCell ⟨w.heap.size + 1, 0, none⟩ (.int .u64 (x0))).setCell ⟨w.heap.size + 1, 1, none⟩ (.int .u64 (x1))) (w.heap.size + 1) 25 #[.int .u64 (x0), .int .u64 (x1)] ∧ Below w.heap.size w ((w2.setCell ⟨w.heap.size + 1, 0, none⟩ (.int .u64 (x0))).setCell ⟨w.heap.size + 1, 1, none⟩ (.int .u64 (x1)))) := lH ⟨((xr.set 0 _).set 1 _), ((kk.setCell (p := ⟨w.heap.size + 1, 0, none⟩) (by simp) _).setCell (p := ⟨w.heap.size + 1, 1, none⟩) (by simp) _)⟩
  have hsz := kk.size; have hlt := xr.lt
  have z0 := xr.cell 0; have f0 := xr.frozen 0; dsimp at z0; have z1 := xr.cell 1; have f1 := xr.frozen 1; dsimp at z1
  clear hb xr kk H1 H2
  go_wp2_with fail
  obtain ⟨hE, kb⟩ := KEY.out
  have e0 := hE.cell 0; have e1 := hE.cell 1
  dsimp at e0 e1
  refine bodyPost_ret (v := .tuple #[.agg #[.int .u64 x0, .int .u64 x1], .int .i64 k]) ?_ rfl ⟨rfl, kb⟩
  clear z0 f0 z1 f1 kb hE
  simp [results, Tryz.results164, go_sem, e0, e1]
theorem top2 (a0 a1 x0 x1 k : Int) (R : Hid (∀ (p : Nat) w, HB w p 25 #[.int .u64 a0, .int .u64 a1] → Calls Tryz.prog 164 #[.agg #[.int .u64 a0, .int .u64 a1], .func (.func 165) #[] #[.pointer (some ⟨p, 0, none⟩)], .func (.func 167) #[] #[.pointer (some ⟨p, 0, none⟩)]] w fun e w' => e = .returned (.tuple #[.agg #[.int .u64 x0, .int .u64 x1], .int .i64 k]) ∧ Below w.heap.size w w')) (w : World) :
    Calls Tryz.prog 126 #[.agg #[.int .u64 a0, .int .u64 a1]] w fun e w' => e = .returned (.tuple #[.agg #[.int .u64 x0, .int .u64 x1], .int .i64 k]) ∧ Below w.heap.size w w' := by
  go_enter Tryz.func126, Tryz.ntmps126
  go_wp2_with fail
  (with_reducible refine (R.out _ _ ((HB.new w _ _).alloc _)).mono ?_); rintro e w1 ⟨rfl, hb⟩
  have kk := bC (bA (bA bR _) _) hb
  have xr : HB w1 (w.heap.size + 1) 25 #[.int .u64 0, .int .u64 0] := (HB.newAt (by simp) _ _).later hb
  have KEY : Hid (HB ((w1.setCell ⟨w.heap.size + 1, 0, none⟩ (.int .u64 (x0))).setCell ⟨w.heap.size + 1, 1, none⟩ (.int .u64 (x1))) (w.heap.size + 1) 25 #[.int .u64 (x0), .int .u64 (x1)] ∧ Below w.heap.size w ((w1.setCell ⟨w.heap.size + 1, 0, none⟩ (.int .u64 (x0))).setCell ⟨w.heap.size + 1, 1, none⟩ (.int .u64 (x1)))) := lH ⟨((xr.set 0 _).set 1 _), ((kk.setCell (p := ⟨w.heap.size + 1, 0, none⟩) (by simp) _).setCell (p := ⟨w.heap.size + 1, 1, none⟩) (by simp) _)⟩
  have hsz := kk.size; have hlt := xr.lt
  have z0 := xr.cell 0; have f0 := xr.frozen 0; dsimp at z0; have z1 := xr.cell 1; have f1 := xr.frozen 1; dsimp at z1
  clear hb xr kk R
  go_wp2_with fail
  obtain ⟨hE, kb⟩ := KEY.out
  have e0 := hE.cell 0; have e1 := hE.cell 1
  dsimp at e0 e1
  refine bodyPost_ret (v := .tuple #[.agg #[.int .u64 x0, .int .u64 x1], .int .i64 k]) ?_ rfl ⟨rfl, kb⟩
  clear z0 f0 z1 f1 kb hE
  simp [results, Tryz.results126, go_sem, e0, e1]
theorem raiseB (n : Int) (w : World) : Calls Tryz.prog 126 #[.agg #[.int .u64 (hiOf (n)), .int .u64 (loOf (n))]] w fun e w' => e = .returned (.tuple #[.agg #[.int .u64 (hiOf (n % full * 2 ^ upN 128 (n % full))), .int .u64 (loOf (n % full * 2 ^ upN 128 (n % full)))], .int .i64 (upN 128 (n % full))]) ∧ Below w.heap.size w w' := by
  have m0 := mod_f n
  by_cases h0 : n % full = 0
  ·
    have z : hiOf n = 0 ∧ loOf n = 0 := by have := hl_mod n; rw [h0] at this; exact ⟨this.1.symm, this.2.symm⟩
    rw [h0, Int.zero_mul, up_zero, z.1, z.2, show hiOf 0 = 0 from rfl, show loOf 0 = 0 from rfl]
    exact top2 0 0 0 0 0 (lH fun p w _ => raise2_zero p w) w
  · have b := blen_f m0.1 m0.2
    have bp := blen_pos (show 0 < n % full by omega)
    have hu : upN 128 (n % full) = 128 - blen (n % full) := by unfold upN; rw [if_neg h0]
    obtain ⟨q0, q1⟩ := hl_mul_mod n (2 ^ upN 128 (n % full))
    rw [q0, q1]
    refine top2 _ _ _ _ _ (lH fun p w hx => raise2_not _ _ _ _ _ p ?_ w (lH fun W hb => above2 _ _  _ _ p (lH (lenB n)) (by rw [IntWalk.i64_in _ (by omega), hu]; omega) W (hx.later hb)) (lH fun W hb => leftc2 _ _ _ _ _ p (lH fun w => ?_) W (hx.later hb))) w
    · intro w
      rw [eql_bits]
      congr 2
      rw [decide_eq_false_iff_not]
      have hi := hl_inj m0.1 m0.2 (Int.le_refl 0) (by decide : (0 : Int) < full)
      rw [(hl_mod n).1, (hl_mod n).2, show hiOf 0 = 0 from rfl, show loOf 0 = 0 from rfl] at hi
      intro hh; exact h0 (hi.1 ⟨hh.2, hh.1⟩)
    · have h := leftB n (upN 128 (n % full) : Nat) (by omega) (by omega) w
      rw [Int.toNat_natCast] at h
      exact h
theorem above4 (a0 a1 a2 a3 b m : Int) (p : Nat) (L : Hid (∀ w, Calls Tryz.prog 178 #[.agg #[.int .u64 a0, .int .u64 a1, .int .u64 a2, .int .u64 a3]] w fun e w' => e = .returned (.int .i64 b) ∧ Below w.heap.size w w')) (hm : IntKind.i64.wrap (256 - b) = m) (w : World) (hx : HB w p 81 #[.int .u64 a0, .int .u64 a1, .int .u64 a2, .int .u64 a3]) :
    Calls Tryz.prog 177 #[.pointer (some ⟨p, 0, none⟩)] w fun e w' => e = .returned (.int .i64 m) ∧ Below w.heap.size w w' := by
  have c0 := hx.cell 0; have c1 := hx.cell 1; have c2 := hx.cell 2; have c3 := hx.cell 3
  dsimp at c0 c1 c2 c3
  have sz := hx.lt
  clear hx
  go_enter Tryz.func177, Tryz.ntmps177
  go_wp2_with fail
  (with_reducible refine (L.out _).mono ?_); rintro e w1 ⟨rfl, hb⟩
  go_wp2_with fail
  go_ret
  exact ⟨rfl, hb⟩
theorem leftc4 (a0 a1 a2 a3 x0 x1 x2 x3 k : Int) (p : Nat) (L : Hid (∀ w, Calls Tryz.prog 180 #[.agg #[.int .u64 a0, .int .u64 a1, .int .u64 a2, .int .u64 a3], .int .i64 k] w fun e w' => e = .returned (.agg #[.int .u64 x0, .int .u64 x1, .int .u64 x2, .int .u64 x3]) ∧ Below w.heap.size w w')) (w : World) (hx : HB w p 81 #[.int .u64 a0, .int .u64 a1, .int .u64 a2, .int .u64 a3]) :
    Calls Tryz.prog 179 #[.int .i64 k, .pointer (some ⟨p, 0, none⟩)] w fun e w' => e = .returned (.agg #[.int .u64 x0, .int .u64 x1, .int .u64 x2, .int .u64 x3]) ∧ Below w.heap.size w w' := by
  have c0 := hx.cell 0; have c1 := hx.cell 1; have c2 := hx.cell 2; have c3 := hx.cell 3
  dsimp at c0 c1 c2 c3
  have sz := hx.lt
  clear hx
  go_enter Tryz.func179, Tryz.ntmps179
  go_wp2_with fail
  (with_reducible refine (L.out _).mono ?_); rintro e w1 ⟨rfl, hb⟩
  have kk := bC (bA bR _) hb
  have xr : HB w1 w.heap.size 81 #[.int .u64 0, .int .u64 0, .int .u64 0, .int .u64 0] := (HB.new w _ _).later hb
  have KEY : Hid (HB ((((w1.setCell ⟨w.heap.size, 0, none⟩ (.int .u64 (x0))).setCell ⟨w.heap.size, 1, none⟩ (.int .u64 (x1))).setCell ⟨w.heap.size, 2, none⟩ (.int .u64 (x2))).setCell ⟨w.heap.size, 3, none⟩ (.int .u64 (x3))) (w.heap.size) 81 #[.int .u64 (x0), .int .u64 (x1), .int .u64 (x2), .int .u64 (x3)] ∧ Below w.heap.size w ((((w1.setCell ⟨w.heap.size, 0, none⟩ (.int .u64 (x0))).setCell ⟨w.heap.size, 1, none⟩ (.int .u64 (x1))).setCell ⟨w.heap.size, 2, none⟩ (.int .u64 (x2))).setCell ⟨w.heap.size, 3, none⟩ (.int .u64 (x3)))) := lH ⟨((((xr.set 0 _).set 1 _).set 2 _).set 3 _), ((((kk.setCell (p := ⟨w.heap.size, 0, none⟩) (by simp) _).setCell (p := ⟨w.heap.size, 1, none⟩) (by simp) _).setCell (p := ⟨w.heap.size, 2, none⟩) (by simp) _).setCell (p := ⟨w.heap.size, 3, none⟩) (by simp) _)⟩
  have hsz := kk.size; have hlt := xr.lt
  have z0 := xr.cell 0; have f0 := xr.frozen 0; dsimp at z0; have z1 := xr.cell 1; have f1 := xr.frozen 1; dsimp at z1; have z2 := xr.cell 2; have f2 := xr.frozen 2; dsimp at z2; have z3 := xr.cell 3; have f3 := xr.frozen 3; dsimp at z3
  clear hb xr kk L c0 c1 c2 c3 sz
  go_wp2_with fail
  obtain ⟨hE, kb⟩ := KEY.out
  have e0 := hE.cell 0; have e1 := hE.cell 1; have e2 := hE.cell 2; have e3 := hE.cell 3
  dsimp at e0 e1 e2 e3
  refine bodyPost_ret (v := .agg #[.int .u64 x0, .int .u64 x1, .int .u64 x2, .int .u64 x3]) ?_ rfl ⟨rfl, kb⟩
  clear z0 f0 z1 f1 z2 f2 z3 f3 kb hE
  simp [results, Tryz.results179, go_sem, e0, e1, e2, e3]
theorem raise4_zero (p : Nat) (w : World) :
    Calls Tryz.prog 176 #[.agg #[.int .u64 0, .int .u64 0, .int .u64 0, .int .u64 0], .func (.func 177) #[] #[.pointer (some ⟨p, 0, none⟩)], .func (.func 179) #[] #[.pointer (some ⟨p, 0, none⟩)]] w fun e w' => e = .returned (.tuple #[.agg #[.int .u64 0, .int .u64 0, .int .u64 0, .int .u64 0], .int .i64 0]) ∧ Below w.heap.size w w' := by
  have EQ : ∀ w, (binOp .eql 81 (.agg #[.int .u64 0, .int .u64 0, .int .u64 0, .int .u64 0]) (.agg #[.int .u64 0, .int .u64 0, .int .u64 0, .int .u64 0])).run Tryz.prog w = .ok (.bool true) w := fun w => by rw [eql_wide]; simp
  go_enter Tryz.func176, Tryz.ntmps176
  go_wp2_with fail
  refine bodyPost_ret (v := .tuple #[.agg #[.int .u64 0, .int .u64 0, .int .u64 0, .int .u64 0], .int .i64 0]) ?_ rfl ⟨rfl, bA (bA (bA bR _) _) _⟩
  simp [results, Tryz.results176, go_sem]
theorem raise4_not (a0 a1 a2 a3 x0 x1 x2 x3 k : Int) (p : Nat) (EQ : ∀ w, (binOp .eql 81 (.agg #[.int .u64 a0, .int .u64 a1, .int .u64 a2, .int .u64 a3]) (.agg #[.int .u64 0, .int .u64 0, .int .u64 0, .int .u64 0])).run Tryz.prog w = .ok (.bool false) w) (w : World)
    (H1 : Hid (∀ W, Below w.heap.size w W → Calls Tryz.prog 177 #[.pointer (some ⟨p, 0, none⟩)] W fun e w' => e = .returned (.int .i64 k) ∧ Below W.heap.size W w'))
    (H2 : Hid (∀ W, Below w.heap.size w W → Calls Tryz.prog 179 #[.int .i64 k, .pointer (some ⟨p, 0, none⟩)] W fun e w' => e = .returned (.agg #[.int .u64 x0, .int .u64 x1, .int .u64 x2, .int .u64 x3]) ∧ Below W.heap.size W w')) :
    Calls Tryz.prog 176 #[.agg #[.int .u64 a0, .int .u64 a1, .int .u64 a2, .int .u64 a3], .func (.func 177) #[] #[.pointer (some ⟨p, 0, none⟩)], .func (.func 179) #[] #[.pointer (some ⟨p, 0, none⟩)]] w fun e w' => e = .returned (.tuple #[.agg #[.int .u64 x0, .int .u64 x1, .int .u64 x2, .int .u64 x3], .int .i64 k]) ∧ Below w.heap.size w w' := by
  go_enter Tryz.func176, Tryz.ntmps176
  go_wp2_with fail
  (with_reducible refine (H1.out _ (bA (bA (bA bR _) _) _)).mono ?_); rintro e w1 ⟨rfl, hb⟩
  have kk := bC (bA (bA (bA bR _) _) _) hb
  have xr : HB w1 (w.heap.size + 1) 81 #[.int .u64 0, .int .u64 0, .int .u64 0, .int .u64 0] := ((HB.newAt (by simp) _ _).alloc _).later hb
  clear hb
  go_wp2_with fail
  (with_reducible refine (H2.out _ kk).mono ?_); rintro e w2 ⟨rfl, hb⟩
  replace kk := bC kk hb
  replace xr := xr.later hb
  have KEY : Hid (HB ((((w2.setCell ⟨w.heap.size + 1, 0, none⟩ (.int .u64 (x0))).setCell ⟨w.heap.size + 1, 1, none⟩ (.int .u64 (x1))).setCell ⟨w.heap.size + 1, 2, none⟩ (.int .u64 (x2))).setCell ⟨w.heap.size + 1, 3, none⟩ (.int .u64 (x3))) (w.heap.size + 1) 81 #[.int .u64 (x0), .int .u64 (x1), .int .u64 (x2), .int .u64 (x3)] ∧ Below w.heap.size w ((((w2.setCell ⟨w.heap.size + 1, 0, none⟩ (.int .u64 (x0))).setCell ⟨w.heap.size + 1, 1, none⟩ (.int .u64 (x1))).setCell ⟨w.heap.size + 1, 2, none⟩ (.int .u64 (x2))).setCell ⟨w.heap.size + 1, 3, none⟩ (.int .u64 (x3)))) := lH ⟨((((xr.set 0 _).set 1 _).set 2 _).set 3 _), ((((kk.setCell (p := ⟨w.heap.size + 1, 0, none⟩) (by simp) _).setCell (p := ⟨w.heap.size + 1, 1, none⟩) (by simp) _).setCell (p := ⟨w.heap.size + 1, 2, none⟩) (by simp) _).setCell (p := ⟨w.heap.size + 1, 3, none⟩) (by simp) _)⟩
  have hsz := kk.size; have hlt := xr.lt
  have z0 := xr.cell 0; have f0 := xr.frozen 0; dsimp at z0; have z1 := xr.cell 1; have f1 := xr.frozen 1; dsimp at z1; have z2 := xr.cell 2; have f2 := xr.frozen 2; dsimp at z2; have z3 := xr.cell 3; have f3 := xr.frozen 3; dsimp at z3
  clear hb xr kk H1 H2
  go_wp2_with fail
  obtain ⟨hE, kb⟩ := KEY.out
  have e0 := hE.cell 0; have e1 := hE.cell 1; have e2 := hE.cell 2; have e3 := hE.cell 3
  dsimp at e0 e1 e2 e3
  refine bodyPost_ret (v := .tuple #[.agg #[.int .u64 x0, .int .u64 x1, .int .u64 x2, .int .u64 x3], .int .i64 k]) ?_ rfl ⟨rfl, kb⟩
  clear z0 f0 z1 f1 z2 f2 z3 f3 kb hE
  simp [results, Tryz.results176, go_sem, e0, e1, e2, e3]
theorem top4 (a0 a1 a2 a3 x0 x1 x2 x3 k : Int) (R : Hid (∀ (p : Nat) w, HB w p 81 #[.int .u64 a0, .int .u64 a1, .int .u64 a2, .int .u64 a3] → Calls Tryz.prog 176 #[.agg #[.int .u64 a0, .int .u64 a1, .int .u64 a2, .int .u64 a3], .func (.func 177) #[] #[.pointer (some ⟨p, 0, none⟩)], .func (.func 179) #[] #[.pointer (some ⟨p, 0, none⟩)]] w fun e w' => e = .returned (.tuple #[.agg #[.int .u64 x0, .int .u64 x1, .int .u64 x2, .int .u64 x3], .int .i64 k]) ∧ Below w.heap.size w w')) (w : World) :
    Calls Tryz.prog 147 #[.agg #[.int .u64 a0, .int .u64 a1, .int .u64 a2, .int .u64 a3]] w fun e w' => e = .returned (.tuple #[.agg #[.int .u64 x0, .int .u64 x1, .int .u64 x2, .int .u64 x3], .int .i64 k]) ∧ Below w.heap.size w w' := by
  go_enter Tryz.func147, Tryz.ntmps147
  go_wp2_with fail
  (with_reducible refine (R.out _ _ ((HB.new w _ _).alloc _)).mono ?_); rintro e w1 ⟨rfl, hb⟩
  have kk := bC (bA (bA bR _) _) hb
  have xr : HB w1 (w.heap.size + 1) 81 #[.int .u64 0, .int .u64 0, .int .u64 0, .int .u64 0] := (HB.newAt (by simp) _ _).later hb
  have KEY : Hid (HB ((((w1.setCell ⟨w.heap.size + 1, 0, none⟩ (.int .u64 (x0))).setCell ⟨w.heap.size + 1, 1, none⟩ (.int .u64 (x1))).setCell ⟨w.heap.size + 1, 2, none⟩ (.int .u64 (x2))).setCell ⟨w.heap.size + 1, 3, none⟩ (.int .u64 (x3))) (w.heap.size + 1) 81 #[.int .u64 (x0), .int .u64 (x1), .int .u64 (x2), .int .u64 (x3)] ∧ Below w.heap.size w ((((w1.setCell ⟨w.heap.size + 1, 0, none⟩ (.int .u64 (x0))).setCell ⟨w.heap.size + 1, 1, none⟩ (.int .u64 (x1))).setCell ⟨w.heap.size + 1, 2, none⟩ (.int .u64 (x2))).setCell ⟨w.heap.size + 1, 3, none⟩ (.int .u64 (x3)))) := lH ⟨((((xr.set 0 _).set 1 _).set 2 _).set 3 _), ((((kk.setCell (p := ⟨w.heap.size + 1, 0, none⟩) (by simp) _).setCell (p := ⟨w.heap.size + 1, 1, none⟩) (by simp) _).setCell (p := ⟨w.heap.size + 1, 2, none⟩) (by simp) _).setCell (p := ⟨w.heap.size + 1, 3, none⟩) (by simp) _)⟩
  have hsz := kk.size; have hlt := xr.lt
  have z0 := xr.cell 0; have f0 := xr.frozen 0; dsimp at z0; have z1 := xr.cell 1; have f1 := xr.frozen 1; dsimp at z1; have z2 := xr.cell 2; have f2 := xr.frozen 2; dsimp at z2; have z3 := xr.cell 3; have f3 := xr.frozen 3; dsimp at z3
  clear hb xr kk R
  go_wp2_with fail
  obtain ⟨hE, kb⟩ := KEY.out
  have e0 := hE.cell 0; have e1 := hE.cell 1; have e2 := hE.cell 2; have e3 := hE.cell 3
  dsimp at e0 e1 e2 e3
  refine bodyPost_ret (v := .tuple #[.agg #[.int .u64 x0, .int .u64 x1, .int .u64 x2, .int .u64 x3], .int .i64 k]) ?_ rfl ⟨rfl, kb⟩
  clear z0 f0 z1 f1 z2 f2 z3 f3 kb hE
  simp [results, Tryz.results147, go_sem, e0, e1, e2, e3]
theorem wraiseW (n : Int) (w : World) : Calls Tryz.prog 147 #[.agg #[.int .u64 (wd0 (n)), .int .u64 (wd1 (n)), .int .u64 (wd2 (n)), .int .u64 (wd3 (n))]] w fun e w' => e = .returned (.tuple #[.agg #[.int .u64 (wd0 (n % wfull * 2 ^ upN 256 (n % wfull))), .int .u64 (wd1 (n % wfull * 2 ^ upN 256 (n % wfull))), .int .u64 (wd2 (n % wfull * 2 ^ upN 256 (n % wfull))), .int .u64 (wd3 (n % wfull * 2 ^ upN 256 (n % wfull)))], .int .i64 (upN 256 (n % wfull))]) ∧ Below w.heap.size w w' := by
  have m0 := mod_w n
  by_cases h0 : n % wfull = 0
  ·
    have z : wd0 n = 0 ∧ wd1 n = 0 ∧ wd2 n = 0 ∧ wd3 n = 0 := by have := wd_mod n; rw [h0] at this; exact ⟨this.1.symm, this.2.1.symm, this.2.2.1.symm, this.2.2.2.symm⟩
    rw [h0, Int.zero_mul, up_zero, z.1, z.2.1, z.2.2.1, z.2.2.2, show wd0 0 = 0 from rfl, show wd1 0 = 0 from rfl, show wd2 0 = 0 from rfl, show wd3 0 = 0 from rfl]
    exact top4 0 0 0 0 0 0 0 0 0 (lH fun p w _ => raise4_zero p w) w
  · have b := blen_w m0.1 m0.2
    have bp := blen_pos (show 0 < n % wfull by omega)
    have hu : upN 256 (n % wfull) = 256 - blen (n % wfull) := by unfold upN; rw [if_neg h0]
    obtain ⟨q0, q1, q2, q3⟩ := wd_mul_mod n (2 ^ upN 256 (n % wfull))
    rw [q0, q1, q2, q3]
    refine top4 _ _ _ _ _ _ _ _ _ (lH fun p w hx => raise4_not _ _ _ _ _ _ _ _ _ p ?_ w (lH fun W hb => above4 _ _ _ _ _ _ p (lH (wlenW n)) (by rw [IntWalk.i64_in _ (by omega), hu]; omega) W (hx.later hb)) (lH fun W hb => leftc4 _ _ _ _ _ _ _ _ _ p (lH fun w => ?_) W (hx.later hb))) w
    · intro w
      rw [eql_wide]
      congr 2
      rw [decide_eq_false_iff_not]
      have hi := wd_inj m0.1 m0.2 (Int.le_refl 0) (by decide : (0 : Int) < wfull)
      obtain ⟨e0, e1, e2, e3⟩ := wd_mod n
      rw [e0, e1, e2, e3, show wd0 0 = 0 from rfl, show wd1 0 = 0 from rfl, show wd2 0 = 0 from rfl, show wd3 0 = 0 from rfl] at hi
      intro hh; exact h0 (hi.1 hh)
    · have h := wleftW n (upN 256 (n % wfull) : Nat) (by omega) (by omega) w
      rw [Int.toNat_natCast] at h
      exact h
end Go.Proofs.YtjdjonekoodalaaGreatDoor
namespace Go.Proofs.YtjdjonekoodalaaGreatDoor
open Go.RowKit
structure KInv (A un y1 y0 Q q r : Int) : Prop where
  sum : q * y1 + r = A
  ge : Q ≤ q
  r0 : 0 ≤ r
  q1 : q ≤ 4294967297
  Q0 : 0 ≤ Q
  Qy : Q * (y1 * 4294967296 + y0) ≤ A * 4294967296 + un
  Qn : A * 4294967296 + un < (Q + 1) * (y1 * 4294967296 + y0)
  Qs : Q < 4294967296
  a0 : 2147483648 ≤ y1
  a1 : y1 < 4294967296
  b0 : 0 ≤ y0
  b1 : y0 < 4294967296
  u0 : 0 ≤ un
  u1 : un < 4294967296
theorem mul_le_of {a b c : Int} (hc : 0 ≤ c) (h : a ≤ b) : a * c ≤ b * c := Int.mul_le_mul_of_nonneg_right h hc
theorem KInv.done {A un y1 y0 Q q r : Int} (h : KInv A un y1 y0 Q q r) (g : q * y0 ≤ 4294967296 * r + un) : q = Q := by
  obtain ⟨sum, ge, r0, q1, Q0, Qy, Qn, Qs, a0, a1, b0, b1, u0, u1⟩ := h
  have h1 : q * (y1 * 4294967296 + y0) ≤ A * 4294967296 + un := by rw [Int.mul_add, ← Int.mul_assoc]; omega
  have : q < Q + 1 := by
    refine Int.lt_of_mul_lt_mul_right (a := y1 * 4294967296 + y0) ?_ (by omega)
    omega
  omega
theorem KInv.out {A un y1 y0 Q q r : Int} (h : KInv A un y1 y0 Q q r) (hr : 4294967296 ≤ r) (hq : q ≤ 4294967296) : q = Q := by
  have q0 : 0 ≤ q := Int.le_trans h.Q0 h.ge
  refine h.done ?_
  have h1 : q * y0 ≤ 4294967296 * y0 := mul_le_of h.b0 hq
  have := h.b1; have := h.u0
  omega
end Go.Proofs.YtjdjonekoodalaaGreatDoor
