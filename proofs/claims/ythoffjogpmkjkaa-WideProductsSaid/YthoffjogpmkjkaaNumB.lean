/-
  Contracts of the document's own numbers: Of, Big, Bits, Cmp.
-/
import Derived.Test.YthoffjogpmkjkaaNumA
import Derived.Test.YthoffjogpmkjkaaBitsM
import Derived.Deep.QuietTactic
import Derived.BigQuiet
import Derived.WalkSmall
set_option linter.unusedVariables false
namespace Go.Proofs.Ythoffjogpmkjkaa
open Go.RowKit

theorem mod_d32 (x : Int) : D32 (x % 4294967296) := by unfold D32; omega
theorem num_two (x : Int) (h : U64 x) : num [x % 4294967296, x / 4294967296 % 4294967296] = x := by
  unfold U64 at h; simp [num]; omega
theorem num_four (h l : Int) (uh : U64 h) (ul : U64 l) : num [l % 4294967296, l / 4294967296 % 4294967296, h % 4294967296, h / 4294967296 % 4294967296] = val h l := by
  unfold U64 at uh ul; simp [num, val]; omega

set_option maxHeartbeats 1000000 in
theorem ofn_any (x : Int) (ux : U64 x) (w : World) :
    Calls Try.prog 73 #[.int .u64 x] w (RetDig w x) := by
  have h0 := ux.1
  have Hn := Lib.hid (num_two x ux)
  clear ux
  go_enter Try.func73, Try.ntmps73
  go_wp2_with fail
  (with_reducible refine (trim_any (dig_new2 w _ _ _ (mod_d32 _) (mod_d32 _))).mono ?_)
  rintro e w1 ⟨ao, k, cap, ds, rfl, hd, hn, hnorm, hb⟩
  have Hd := Lib.hid hd; have HN := Lib.hid hn; have HM := Lib.hid hnorm; have HB := Lib.hid hb
  clear hd hn hnorm hb
  go_wp2_with fail
  go_ret
  exact ⟨ao, k, cap, ds, rfl, Hd.out, HN.out.trans Hn.out, HM.out, bC (bA (Below.refl _ _) _) HB.out⟩
set_option maxHeartbeats 1000000 in
theorem big_any (h l : Int) (uh : U64 h) (ul : U64 l) (w : World) :
    Calls Try.prog 28 #[.agg #[.int .u64 h, .int .u64 l]] w (RetDig w (val h l)) := by
  have Hn := Lib.hid (num_four h l uh ul)
  have hd4 := dig_new4 (w.alloc (bx h l 36)) (l % 4294967296) (l / 4294967296 % 4294967296) (h % 4294967296) (h / 4294967296 % 4294967296) 67 (mod_d32 _) (mod_d32 _) (mod_d32 _) (mod_d32 _)
  rw [World.size_alloc] at hd4
  have H4 := Lib.hid hd4
  clear uh ul hd4
  go_enter Try.func28, Try.ntmps28
  go_wp2_with fail
  (with_reducible refine (trim_any H4.out).mono ?_)
  rintro e w1 ⟨ao, k, cap, ds, rfl, hd, hn, hnorm, hb⟩
  have Hd := Lib.hid hd; have HN := Lib.hid hn; have HM := Lib.hid hnorm; have HB := Lib.hid hb
  clear hd hn hnorm hb H4
  go_wp2_with fail
  go_ret
  exact ⟨ao, k, cap, ds, rfl, Hd.out, HN.out.trans Hn.out, HM.out, bC (bA (bA (Below.refl _ _) _) _) HB.out⟩
theorem bits_num {ds : List Int} (h : Digs ds) : ds.getD 0 0 + ds.getD 1 0 * 4294967296 = loOf (num ds) ∧ ds.getD 2 0 + ds.getD 3 0 * 4294967296 = hiOf (num ds) := by
  have e : num ds = num (ds.take 4) + bp 4 * num (ds.drop 4) := by
    by_cases hl : 4 ≤ ds.length
    · conv => lhs; rw [← List.take_append_drop 4 ds, num_append, List.length_take, Nat.min_eq_left hl]
    · rw [List.take_of_length_le (by omega), List.drop_eq_nil_of_le (by omega)]; simp [num]
  have e0 := num_take ds 0
  have e1 := num_take ds 1
  have e2 := num_take ds 2
  have e3 := num_take ds 3
  have d0 := getD_d32 h 0
  have d1 := getD_d32 h 1
  have d2 := getD_d32 h 2
  have d3 := getD_d32 h 3
  generalize ds.getD 0 0 = x0 at *
  generalize ds.getD 1 0 = x1 at *
  generalize ds.getD 2 0 = x2 at *
  generalize ds.getD 3 0 = x3 at *
  have b0 : bp 0 = 1 := rfl
  have b1 : bp 1 = 4294967296 := rfl
  have b2 : bp 2 = 18446744073709551616 := rfl
  have b3 : bp 3 = 79228162514264337593543950336 := rfl
  have b4 : bp 4 = 340282366920938463463374607431768211456 := rfl
  rw [b0] at e0; rw [b1] at e1; rw [b2] at e2; rw [b3] at e3; rw [b4] at e
  simp only [Nat.zero_add] at e0
  simp [num] at e0
  unfold D32 at d0 d1 d2 d3
  unfold loOf hiOf
  simp only [Nat.reduceAdd] at e1 e2 e3
  generalize num (ds.drop 4) = r at *
  constructor <;> omega

set_option maxHeartbeats 1000000 in
theorem bits_any {ao : Option Addr} {n cap : Nat} {ds : List Int} {w : World} (x : Dig w ao n cap ds) :
    Calls Try.prog 34 #[.slice ao n cap] w fun e w' => e = .returned (.agg #[.int .u64 (hiOf (num ds)), .int .u64 (loOf (num ds))]) ∧ Below w.heap.size w w' := by
  have hb := bits_num x.2.2.2.1
  rw [← hb.1, ← hb.2]
  have d0 := getD_d32 x.2.2.2.1 0
  have d1 := getD_d32 x.2.2.2.1 1
  have d2 := getD_d32 x.2.2.2.1 2
  have d3 := getD_d32 x.2.2.2.1 3
  have y := x.later (bA (Below.refl _ _) (.cells #[.int .u64 0, .int .u64 0] 36))
  have c0 := digit_any y 0 0 rfl
  have c1 := digit_any y 1 1 rfl
  have c2 := digit_any y 2 2 rfl
  have c3 := digit_any y 3 3 rfl
  generalize ds.getD 0 0 = x0 at *
  generalize ds.getD 1 0 = x1 at *
  generalize ds.getD 2 0 = x2 at *
  generalize ds.getD 3 0 = x3 at *
  have C0 := Lib.hid c0; have C1 := Lib.hid c1; have C2 := Lib.hid c2; have C3 := Lib.hid c3
  unfold D32 at d0 d1 d2 d3
  obtain ⟨g0, k0⟩ := d0
  obtain ⟨g1, k1⟩ := d1
  obtain ⟨g2, k2⟩ := d2
  obtain ⟨g3, k3⟩ := d3
  clear c0 c1 c2 c3 x y hb
  go_enter Try.func34, Try.ntmps34
  go_wp2_with fail
  (with_reducible refine C0.out.mono ?_); rintro e w1 ⟨rfl, rfl⟩
  go_wp2_with fail
  (with_reducible refine C1.out.mono ?_); rintro e w1 ⟨rfl, rfl⟩
  go_wp2_with fail
  (with_reducible refine C2.out.mono ?_); rintro e w1 ⟨rfl, rfl⟩
  go_wp2_with fail
  (with_reducible refine C3.out.mono ?_); rintro e w1 ⟨rfl, rfl⟩
  go_wp2_with fail
  refine bodyPost_ret (v := .agg #[.int .u64 (x2 + x3 * 4294967296), .int .u64 (x0 + x1 * 4294967296)]) (by simp [results, Try.results34, go_sem]) rfl ⟨rfl, ?_⟩
  exact (Below.refl _ _).alloc (Nat.le_refl _) _
theorem bN {a w : World} (h : Below a.heap.size a w) (n : Nat) : Below a.heap.size a (w.drewN n) := ⟨h.os, h.tape, h.output, h.size, h.block⟩

theorem norm_less {a b : List Int} (ha : Digs a) (hb : Digs b) (hnb : Norm b) (h : a.length < b.length) : num a < num b := by
  obtain ⟨k, hk⟩ : ∃ k, b.length = k + 1 := ⟨b.length - 1, by omega⟩
  have h1 := norm_ge hb hnb hk
  have h2 := num_lt ha
  have h3 := bp_le (show a.length ≤ k by omega)
  omega

/-- Both have digits. -/
def Top (a b : List Int) (k : Nat) : Prop := ∀ j, k ≤ j → a.getD j 0 = b.getD j 0

set_option maxHeartbeats 2000000 in
theorem cmp_same {ao bo : Option Addr} {n c d : Nat} {a b : List Int} {w : World} (x : Dig w ao n c a) (y : Dig w bo n d b) :
    Calls Try.prog 23 #[.slice ao n c, .slice bo n d] w fun e w' => e = .returned (.int .i64 (cmpI (num a) (num b))) ∧ Below w.heap.size w w' := by
  have X := Lib.hid x; have Y := Lib.hid y
  have hN := x.2.2.1
  clear x y
  go_enter Try.func23, Try.ntmps23
  go_wp2_with fail
  go_loopw [5] (fun i wr => ∃ k : Nat, k ≤ n ∧ i = .int .i64 ((k : Int) - 1) ∧ Top a b k ∧ Below w.heap.size w wr) (fun i _ => (intOf i + 1).toNat)
  case atStart =>
    refine ⟨n, Nat.le_refl _, rfl, fun j hj => ?_, Below.refl _ _⟩
    rw [List.getD_eq_getElem?_getD, List.getD_eq_getElem?_getD, List.getElem?_eq_none (by have := X.out.1; omega), List.getElem?_eq_none (by have := Y.out.1; omega)]
  case round =>
    obtain ⟨k, hk, rfl, htop, hbel⟩ := hrel
    by_cases h0 : k = 0
    · subst h0
      have e := num_same (a := a) (b := b) fun j => htop j (by omega)
      have E := Lib.hid ((cmpI_cases (num a) (num b)).2.2 e)
      clear e
      go_wp2_with fail
      go_ret
      exact ⟨by rw [E.out]; rfl, hbel⟩
    · obtain ⟨j, rfl⟩ : ∃ j, k = j + 1 := ⟨k - 1, by omega⟩
      rw [show ((j + 1 : Nat) : Int) - 1 = (j : Int) from by omega]
      obtain ⟨g1, e1, hg1, hc1⟩ := X.out.2.2.2.2 (by omega)
      obtain ⟨g2, e2, hg2, hc2⟩ := Y.out.2.2.2.2 (by omega)
      subst e1 e2
      have ca := (hbel.cell (p := ⟨g1, j, none⟩) hg1).trans (hc1 j (by omega))
      have cb := (hbel.cell (p := ⟨g2, j, none⟩) hg2).trans (hc2 j (by omega))
      have hjn : (j : Int) < (n : Int) := by omega
      have hj0 : (0 : Int) ≤ (j : Int) := by omega
      have less := fun h => num_less (a := a) (b := b) X.out.2.2.2.1 Y.out.2.2.2.1 (k := j) htop h
      have more := fun h => num_less (a := b) (b := a) Y.out.2.2.2.1 X.out.2.2.2.1 (k := j) (fun i hi => (htop i hi).symm) h
      have Htop := Lib.hid htop; have HL := Lib.hid less; have HM := Lib.hid more
      clear hg1 hg2 hc1 hc2 htop less more h0
      generalize hx1 : a.getD j 0 = x1 at *
      generalize hx2 : b.getD j 0 = x2 at *
      have H1 := Lib.hid hx1; have H2 := Lib.hid hx2
      clear hx1 hx2
      by_cases hlt : x1 < x2
      · have E := Lib.hid ((cmpI_cases (num a) (num b)).1 (HL.out hlt))
        go_wp2_with fail
        go_quiet (fail)
        go_wp2_with fail
        go_ret
        exact ⟨by rw [E.out]; rfl, bN hbel _⟩
      · by_cases hgt : x2 < x1
        · have E := Lib.hid ((cmpI_cases (num a) (num b)).2.1 (HM.out hgt))
          go_wp2_with fail
          go_quiet (fail)
          go_wp2_with fail
          go_quiet (fail)
          go_wp2_with fail
          go_ret
          exact ⟨by rw [E.out]; rfl, bN (bN hbel _) _⟩
        · go_wp2_with fail
          go_quiet (fail)
          go_wp2_with fail
          go_quiet (fail)
          go_wp2_with fail
          have tp : Top a b j := fun i hi => by
            rcases Nat.lt_or_ge j i with h | h
            · exact Htop.out i (by omega)
            · obtain rfl : i = j := by omega
              rw [H1.out, H2.out]; omega
          go_roundw
          case rel => exact ⟨j, by omega, rfl, tp, bN hbel _⟩
          case measure => simp [intOf]

set_option maxHeartbeats 400000 in
theorem cmp_ref {ao bo : Option Addr} {n m c d : Nat} {a b : List Int} {w : World} (x : Dig w ao n c a) (y : Dig w bo m d b) (hna : Norm a) (hnb : Norm b) :
    Calls Try.prog 23 #[.slice ao n c, .slice bo m d] w fun e w' => e = .returned (.int .i64 (cmpI (num a) (num b))) ∧ Below w.heap.size w w' := by
  have hN := x.2.2.1
  have hM := y.2.2.1
  by_cases h1 : n < m
  · have E := Lib.hid ((cmpI_cases (num a) (num b)).1 (norm_less x.2.2.2.1 y.2.2.2.1 hnb (by have := x.1; have := y.1; omega)))
    have hne : ((n : Int) != (m : Int)) = true := by rw [bne_iff_ne]; omega
    clear x y hna hnb
    go_enter Try.func23, Try.ntmps23
    go_wp2
    go_ret
    exact ⟨by rw [E.out]; rfl, Below.refl _ _⟩
  · by_cases h2 : m < n
    · have E := Lib.hid ((cmpI_cases (num a) (num b)).2.1 (norm_less y.2.2.2.1 x.2.2.2.1 hna (by have := x.1; have := y.1; omega)))
      have hne : ((n : Int) != (m : Int)) = true := by rw [bne_iff_ne]; omega
      clear x y hna hnb
      go_enter Try.func23, Try.ntmps23
      go_wp2
      go_ret
      exact ⟨by rw [E.out]; rfl, Below.refl _ _⟩
    · obtain rfl : n = m := by omega
      exact cmp_same x y

end Go.Proofs.Ythoffjogpmkjkaa
