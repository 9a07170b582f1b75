/-
  Contracts of the document's own numbers: Of, Big, Bits, Cmp.
-/
import Derived.Test.YtkhcbioohoeegaaDoorNumA
import Derived.Test.YtkhcbioohoeegaaDoorBitsM
import Derived.Deep.QuietTactic
import Derived.BigQuiet
import Derived.WalkSmall
set_option linter.unusedVariables false
set_option maxRecDepth 100000
namespace Go.Proofs.YtkhcbioohoeegaaDoor
open Go.RowKit

theorem mod_d32 (x : Int) : D32 (x % 4294967296) := by unfold D32; omega
theorem num_two (x : Int) (h : U64 x) : num [x % 4294967296, x / 4294967296 % 4294967296] = x := by
  unfold U64 at h; simp [num]; omega
theorem num_four (h l : Int) (uh : U64 h) (ul : U64 l) : num [l % 4294967296, l / 4294967296 % 4294967296, h % 4294967296, h / 4294967296 % 4294967296] = val h l := by
  unfold U64 at uh ul; simp [num, val]; omega

set_option maxHeartbeats 1000000 in
theorem big_any (h l : Int) (uh : U64 h) (ul : U64 l) (w : World) :
    Calls Tryd.prog 10 #[.agg #[.int .u64 h, .int .u64 l]] w (RetDig w (val h l)) := by
  have Hn := Lib.hid (num_four h l uh ul)
  have hd4 := dig_new4 (w.alloc (bx h l 24)) (l % 4294967296) (l / 4294967296 % 4294967296) (h % 4294967296) (h / 4294967296 % 4294967296) 55 (mod_d32 _) (mod_d32 _) (mod_d32 _) (mod_d32 _)
  rw [World.size_alloc] at hd4
  have H4 := Lib.hid hd4
  clear uh ul hd4
  go_enter Tryd.func10, Tryd.ntmps10
  go_wp2_with fail
  (with_reducible refine (trim_any H4.out).mono ?_)
  rintro e w1 ⟨ao, k, cap, ds, rfl, hd, hn, hnorm, hb⟩
  have Hd := Lib.hid hd; have HN := Lib.hid hn; have HM := Lib.hid hnorm; have HB := Lib.hid hb
  clear hd hn hnorm hb H4
  go_wp2_with fail
  go_ret
  exact ⟨ao, k, cap, ds, rfl, Hd.out, HN.out.trans Hn.out, HM.out, bC (bA (bA (Below.refl _ _) _) _) HB.out⟩
theorem bits_num {ds : List Int} (h : Digs ds) : ds.getD 0 0 + ds.getD 1 0 * 4294967296 = loOf (num ds) ∧ ds.getD 2 0 + ds.getD 3 0 * 4294967296 = hiOf (num ds) := by
  have e : num ds = num (ds.take 4) + bp 4 * num (ds.drop 4) := by
    by_cases hl : 4 ≤ ds.length
    · conv => lhs; rw [← List.take_append_drop 4 ds, num_append, List.length_take, Nat.min_eq_left hl]
    · rw [List.take_of_length_le (by omega), List.drop_eq_nil_of_le (by omega)]; simp [num]
  have e0 := num_take ds 0
  have e1 := num_take ds 1
  have e2 := num_take ds 2
  have e3 := num_take ds 3
  have d0 := getD_d32 h 0
  have d1 := getD_d32 h 1
  have d2 := getD_d32 h 2
  have d3 := getD_d32 h 3
  generalize ds.getD 0 0 = x0 at *
  generalize ds.getD 1 0 = x1 at *
  generalize ds.getD 2 0 = x2 at *
  generalize ds.getD 3 0 = x3 at *
  have b0 : bp 0 = 1 := rfl
  have b1 : bp 1 = 4294967296 := rfl
  have b2 : bp 2 = 18446744073709551616 := rfl
  have b3 : bp 3 = 79228162514264337593543950336 := rfl
  have b4 : bp 4 = 340282366920938463463374607431768211456 := rfl
  rw [b0] at e0; rw [b1] at e1; rw [b2] at e2; rw [b3] at e3; rw [b4] at e
  simp only [Nat.zero_add] at e0
  simp [num] at e0
  unfold D32 at d0 d1 d2 d3
  unfold loOf hiOf
  simp only [Nat.reduceAdd] at e1 e2 e3
  generalize num (ds.drop 4) = r at *
  constructor <;> omega

set_option maxHeartbeats 1000000 in
theorem bits_any {ao : Option Addr} {n cap : Nat} {ds : List Int} {w : World} (x : Dig w ao n cap ds) :
    Calls Tryd.prog 15 #[.slice ao n cap] w fun e w' => e = .returned (.agg #[.int .u64 (hiOf (num ds)), .int .u64 (loOf (num ds))]) ∧ Below w.heap.size w w' := by
  have hb := bits_num x.2.2.2.1
  rw [← hb.1, ← hb.2]
  have d0 := getD_d32 x.2.2.2.1 0
  have d1 := getD_d32 x.2.2.2.1 1
  have d2 := getD_d32 x.2.2.2.1 2
  have d3 := getD_d32 x.2.2.2.1 3
  have y := x.later (bA (Below.refl _ _) (.cells #[.int .u64 0, .int .u64 0] 24))
  have c0 := digit_any y 0 0 rfl
  have c1 := digit_any y 1 1 rfl
  have c2 := digit_any y 2 2 rfl
  have c3 := digit_any y 3 3 rfl
  generalize ds.getD 0 0 = x0 at *
  generalize ds.getD 1 0 = x1 at *
  generalize ds.getD 2 0 = x2 at *
  generalize ds.getD 3 0 = x3 at *
  have C0 := Lib.hid c0; have C1 := Lib.hid c1; have C2 := Lib.hid c2; have C3 := Lib.hid c3
  unfold D32 at d0 d1 d2 d3
  obtain ⟨g0, k0⟩ := d0
  obtain ⟨g1, k1⟩ := d1
  obtain ⟨g2, k2⟩ := d2
  obtain ⟨g3, k3⟩ := d3
  clear c0 c1 c2 c3 x y hb
  go_enter Tryd.func15, Tryd.ntmps15
  go_wp2_with fail
  (with_reducible refine C0.out.mono ?_); rintro e w1 ⟨rfl, rfl⟩
  go_wp2_with fail
  (with_reducible refine C1.out.mono ?_); rintro e w1 ⟨rfl, rfl⟩
  go_wp2_with fail
  (with_reducible refine C2.out.mono ?_); rintro e w1 ⟨rfl, rfl⟩
  go_wp2_with fail
  (with_reducible refine C3.out.mono ?_); rintro e w1 ⟨rfl, rfl⟩
  go_wp2_with fail
  refine bodyPost_ret (v := .agg #[.int .u64 (x2 + x3 * 4294967296), .int .u64 (x0 + x1 * 4294967296)]) (by simp [results, Tryd.results15, go_sem]) rfl ⟨rfl, ?_⟩
  exact (Below.refl _ _).alloc (Nat.le_refl _) _
theorem bN {a w : World} (h : Below a.heap.size a w) (n : Nat) : Below a.heap.size a (w.drewN n) := ⟨h.os, h.tape, h.output, h.size, h.block⟩

theorem norm_less {a b : List Int} (ha : Digs a) (hb : Digs b) (hnb : Norm b) (h : a.length < b.length) : num a < num b := by
  obtain ⟨k, hk⟩ : ∃ k, b.length = k + 1 := ⟨b.length - 1, by omega⟩
  have h1 := norm_ge hb hnb hk
  have h2 := num_lt ha
  have h3 := bp_le (show a.length ≤ k by omega)
  omega

/-- Both have digits. -/
def Top (a b : List Int) (k : Nat) : Prop := ∀ j, k ≤ j → a.getD j 0 = b.getD j 0


end Go.Proofs.YtkhcbioohoeegaaDoor
