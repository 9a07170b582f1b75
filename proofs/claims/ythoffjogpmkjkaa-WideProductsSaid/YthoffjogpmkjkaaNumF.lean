/-
  Contracts of the document's own numbers: Mul.
-/
import Derived.Test.YthoffjogpmkjkaaNumE
import Derived.IntWalk
set_option linter.unusedVariables false
namespace Go.Proofs.Ythoffjogpmkjkaa
open Go.RowKit

theorem Own.store {w : World} {base g L cap : Nat} {os : List Int} (h : Own w base (.slice (some ⟨g, 0, none⟩) L cap) os) (hL : os.length = L) (j : Nat) {d : Int} (hd : D32 d) : Own (w.setCell ⟨g, j, none⟩ (.int .u32 d)) base (.slice (some ⟨g, 0, none⟩) L cap) (os.set j d) := by
  obtain ⟨h1, h2⟩ := h
  subst hL
  refine ⟨?_, digs_set h2 j hd⟩
  have h3 := (h1.stored j (.int .u32 d)).1
  rw [List.length_set, List.map_set]
  exact h3

theorem Own.free {w : World} {base g L cap : Nat} {os : List Int} (h : Own w base (.slice (some ⟨g, 0, none⟩) L cap) os) (hL : os.length = L) (j : Nat) : w.frozen? ⟨g, j, none⟩ = false := by
  subst hL; exact h.1.frozenAt j
theorem Own.cell {w : World} {base g L cap : Nat} {os : List Int} (h : Own w base (.slice (some ⟨g, 0, none⟩) L cap) os) (hL : os.length = L) (j : Nat) (hj : j < L) : w.cell? ⟨g, j, none⟩ = some (.int .u32 (os.getD j 0)) := by
  subst hL
  rw [h.1.cellAt j (by omega), List.getElem?_map, List.getElem?_eq_getElem hj, List.getD_eq_getElem?_getD, List.getElem?_eq_getElem hj]
  rfl
theorem Own.base_le {w : World} {base g L cap : Nat} {os : List Int} (h : Own w base (.slice (some ⟨g, 0, none⟩) L cap) os) : base ≤ g ∧ g < w.heap.size := h.1.lt g rfl

theorem digit_quiet {ao : Option Addr} {n cap : Nat} {ds : List Int} {w : World} (x : Dig w ao n cap ds) (i : Int) (k : Nat) (hi : i = k) (q : Nat) :
    Calls Try.prog 60 #[.slice ao n cap, .int .i64 i] (w.drewN q) fun e w'' => e = .returned (.int .u32 (ds.getD k 0)) ∧ ∃ m, w'' = w.drewN m :=
  (digit_any (x.later (bN (Below.refl _ _) q)) i k hi).mono fun e w' ⟨he, hw⟩ => ⟨he, q, hw.symm⟩

theorem high_zero {os : List Int} (h : Digs os) {m j : Nat} (hlt : num os < bp m) (hj : m ≤ j) : os.getD j 0 = 0 := by
  by_cases hl : j < os.length
  · have hd := getD_d32 h j
    have e := num_take os j
    have h1 := num_nonneg (digs_take h j)
    have h2 : num (os.take (j + 1)) ≤ num os := by
      have e2 : num os = num (os.take (j + 1)) + bp (j + 1) * num (os.drop (j + 1)) := by
        conv => lhs; rw [← List.take_append_drop (j + 1) os, num_append, List.length_take, Nat.min_eq_left (by omega)]
      have h3 : 0 ≤ num (os.drop (j + 1)) := num_nonneg fun d hd => h d (List.mem_of_mem_drop hd)
      have h4 := Int.mul_nonneg (show 0 ≤ bp (j + 1) by have := bp_pos (j + 1); omega) h3
      omega
    have h5 := bp_le hj
    have hp := bp_pos j
    rcases Int.lt_or_le 0 (os.getD j 0) with h6 | h6
    · have h7 : bp j * 1 ≤ bp j * os.getD j 0 := Int.mul_le_mul_of_nonneg_left (by omega) (by omega)
      omega
    · unfold D32 at hd; omega
  · rw [List.getD_eq_getElem?_getD, List.getElem?_eq_none (by omega)]; rfl

/-- At the head of an outer round of Mul. -/
def MulOut (w : World) (a b : List Int) (g L i : Nat) (wr : World) : Prop :=
  ∃ os : List Int, os.length = L ∧ Own wr w.heap.size (.slice (some ⟨g, 0, none⟩) L L) os ∧ num os = num (a.take i) * num b ∧ Below w.heap.size w wr
/-- At the head of an inner round of Mul. -/
def MulIn (w : World) (a b : List Int) (g L i k : Nat) (cy : Int) (wr : World) : Prop :=
  0 ≤ cy ∧ cy ≤ 4294967295 ∧ ∃ os : List Int, os.length = L ∧ Own wr w.heap.size (.slice (some ⟨g, 0, none⟩) L L) os ∧ num os + bp (i + k) * cy = num (a.take i) * num b + bp i * a.getD i 0 * num (b.take k) ∧ Below w.heap.size w wr

theorem mul_step {os a b : List Int} {i k : Nat} {cy P : Int} (hk : i + k < os.length) (h : num os + bp (i + k) * cy = P + bp i * a.getD i 0 * num (b.take k)) :
    num (os.set (i + k) ((cy + a.getD i 0 * b.getD k 0 + os.getD (i + k) 0) % 4294967296)) + bp (i + (k + 1)) * ((cy + a.getD i 0 * b.getD k 0 + os.getD (i + k) 0) / 4294967296) = P + bp i * a.getD i 0 * num (b.take (k + 1)) := by
  rw [num_set hk, num_take, ← Nat.add_assoc, bp_succ]
  have e := split32 (bp (i + k)) (cy + a.getD i 0 * b.getD k 0 + os.getD (i + k) 0)
  rw [Int.mul_add, Int.mul_add] at e
  rw [Int.mul_sub, Int.mul_add]
  have e2 : bp (i + k) * (a.getD i 0 * b.getD k 0) = bp i * a.getD i 0 * (bp k * b.getD k 0) := by
    rw [bp_add]; simp only [Int.mul_assoc, Int.mul_comm, Int.mul_left_comm]
  omega
theorem mul_room {os a b : List Int} {i k : Nat} {cy : Int} (ha : Digs a) (hb : Digs b) (ho : Digs os) (hc : 0 < cy) (hkb : b.length ≤ k) (h : num os + bp (i + k) * cy = num (a.take i) * num b + bp i * a.getD i 0 * num (b.take k)) : k ≤ b.length := by
  rw [num_take_all hkb] at h
  have e : num (a.take i) * num b + bp i * a.getD i 0 * num b = num (a.take (i + 1)) * num b := by rw [num_take, Int.add_mul]
  rw [e] at h
  have h1 := num_lt (digs_take ha (i + 1))
  have h2 := bp_le (show (a.take (i + 1)).length ≤ i + 1 from List.length_take_le ..)
  have h3 := num_lt hb
  have h4 := num_nonneg (digs_take ha (i + 1))
  have h5 := num_nonneg hb
  have h6 := num_nonneg ho
  have h7 : num (a.take (i + 1)) * num b ≤ bp (i + 1) * num b := Int.mul_le_mul_of_nonneg_right (by omega) h5
  have h8 : bp (i + 1) * num b < bp (i + 1) * bp b.length := Int.mul_lt_mul_of_pos_left h3 (bp_pos _)
  rw [← bp_add] at h8
  have h9 : bp (i + k) * 1 ≤ bp (i + k) * cy := Int.mul_le_mul_of_nonneg_left (by omega) (by have := bp_pos (i + k); omega)
  rcases Nat.lt_or_ge b.length k with hlt | hge
  · have := bp_le (show i + 1 + b.length ≤ i + k by omega)
    omega
  · exact hge
theorem mul_cy {cy x y z : Int} (c0 : 0 ≤ cy) (c1 : cy ≤ 4294967295) (hx : D32 x) (hy : D32 y) (hz : D32 z) :
    0 ≤ x * y ∧ x * y < 18446744073709551616 ∧ cy + x * y < 18446744073709551616 ∧ cy + x * y + z < 18446744073709551616 ∧ 0 ≤ (cy + x * y + z) / 4294967296 ∧ (cy + x * y + z) / 4294967296 ≤ 4294967295 := by
  unfold D32 at hx hy hz
  have h0 : 0 ≤ x * y := Int.mul_nonneg hx.1 hy.1
  have h1 : x * y ≤ 4294967295 * y := Int.mul_le_mul_of_nonneg_right (by omega) hy.1
  generalize x * y = p at *
  omega

set_option maxHeartbeats 2000000 in
theorem mul_ref {ao bo : Option Addr} {n m c d : Nat} {a b : List Int} {w : World} (x : Dig w ao n c a) (y : Dig w bo m d b) (hn : n ≤ 400000) (hm : m ≤ 400000) :
    Calls Try.prog 63 #[.slice ao n c, .slice bo m d] w (RetDig w (num a * num b)) := by
  have X := Lib.hid x; have Y := Lib.hid y
  clear x y
  go_enter Try.func63, Try.ntmps63
  go_wp2_with (at_make; refine make_u32 rfl (.tmp 14) (.tmp 14) rfl w.heap.size _ (n + m + 1) rfl rfl (by omega) (by omega) (Nat.le_refl _) ?_; intro g w1 hown1 hb1; have HO1 := Lib.hid hown1; have HB1 := Lib.hid hb1; clear hown1 hb1)
  go_loopw [6] (fun i wr => ∃ k : Nat, k ≤ n ∧ i = .int .i64 k ∧ MulOut w a b g (n + m + 1) k wr) (fun i _ => n - (intOf i).toNat)
  case atStart =>
    exact ⟨0, Nat.zero_le _, rfl, _, by simp, HO1.out, by simp [num, num_zeros], HB1.out⟩
  case round =>
    obtain ⟨i, hi, rfl, hinv⟩ := hrel
    by_cases hlt : i < n
    · have HI := Lib.hid hinv
      clear hinv
      go_wp2_with fail
      go_loopw [7, 8] (fun cv kv wr => ∃ (k : Nat) (cy : Int), k ≤ m + 1 ∧ cv = .int .u64 cy ∧ kv = .int .i64 k ∧ MulIn w a b g (n + m + 1) i k cy wr) (fun _ kv _ => (m + 1) - (intOf kv).toNat)
      case atStart =>
        obtain ⟨os, h1, h2, h3, h4⟩ := HI.out
        exact ⟨0, 0, by omega, rfl, rfl, by omega, by omega, os, h1, h2, by simp [num, h3], h4⟩
      case round =>
        obtain ⟨k, cy, hk, rfl, rfl, hin⟩ := hrel
        obtain ⟨cy0, cy1, os, hos, hown, hsum, hbel⟩ := hin
        by_cases hgo : k < m ∨ 0 < cy
        · have hkm : k ≤ m := by
            by_cases h : k < m
            · omega
            · have := mul_room X.out.2.2.2.1 Y.out.2.2.2.1 hown.2 (by omega) (by have := Y.out.1; omega) hsum
              have := Y.out.1
              omega
          have dx := getD_d32 X.out.2.2.2.1 i
          have dy := getD_d32 Y.out.2.2.2.1 k
          have dz := getD_d32 hown.2 (i + k)
          obtain ⟨b1, b2, b3, b4, b5, b6⟩ := mul_cy cy0 cy1 dx dy dz
          have st := mul_step (a := a) (b := b) (by omega) hsum
          obtain ⟨g1, e1, hg1, hc1⟩ := X.out.2.2.2.2 (by omega)
          subst e1
          have ca := (hbel.cell (p := ⟨g1, i, none⟩) hg1).trans (hc1 i (by omega))
          have hik : i + k < n + m + 1 := by omega
          have co := hown.cell hos (i + k) hik
          have fo := hown.free hos (i + k)
          have HO := Lib.hid hown; have HB := Lib.hid hbel; have HL := Lib.hid hos
          have cd := fun q => digit_quiet (Y.out.later hbel) (k : Int) k rfl q
          generalize hx1 : a.getD i 0 = x1 at *
          have HX1 := Lib.hid hx1
          clear hx1
          generalize b.getD k 0 = x2 at *
          generalize os.getD (i + k) 0 = x3 at *
          obtain ⟨x10, x11⟩ := dx
          obtain ⟨x20, x21⟩ := dy
          obtain ⟨x30, x31⟩ := dz
          have hw1 : ∃ p, x1 * x2 = p ∧ IntKind.u64.wrap (x1 * x2) = p := ⟨_, rfl, by rw [IntKind.wrap_u64]; exact Int.emod_eq_of_lt b1 b2⟩
          obtain ⟨p, hpe, hw1⟩ := hw1
          rw [hpe] at b1 b2 b3 b4 b5 b6 st
          have hw2 : ∃ s1, cy + p = s1 ∧ IntKind.u64.wrap (cy + p) = s1 := ⟨_, rfl, by rw [IntKind.wrap_u64]; exact Int.emod_eq_of_lt (by omega) b3⟩
          obtain ⟨s1, hse, hw2⟩ := hw2
          rw [hse] at b3 b4 b5 b6 st
          have hw3 : ∃ s, s1 + x3 = s ∧ 0 ≤ s ∧ IntKind.u64.wrap (s1 + x3) = s := ⟨_, rfl, by omega, by rw [IntKind.wrap_u64]; exact Int.emod_eq_of_lt (by omega) b4⟩
          obtain ⟨s, hsf, hs0, hw3⟩ := hw3
          rw [hsf] at b4 b5 b6 st
          clear hpe hse hsf
          have hwi : IntKind.i64.wrap ((i : Int) + (k : Int)) = ((i + k : Nat) : Int) := by rw [IntWalk.i64_in _ (by omega)]; omega
          have hsi : (i : Int) + (k : Int) = ((i + k : Nat) : Int) := by omega
          have hin0 : (0 : Int) ≤ (i : Int) := by omega
          have hin1 : (i : Int) < (n : Int) := by omega
          have hj0 : (0 : Int) ≤ ((i + k : Nat) : Int) := by omega
          have hj1 : ((i + k : Nat) : Int) < ((n + m + 1 : Nat) : Int) := by omega
          generalize hj : i + k = j at *
          have HJ := Lib.hid hj; have CD := Lib.hid cd; have ST := Lib.hid st; have B5 := Lib.hid b5; have B6 := Lib.hid b6; have HS := Lib.hid hsum; have HI1 := Lib.hid hsi
          clear hj cd st b5 b6 b1 b2 b3 b4 hsum hown hbel hos hg1 hc1 hsi
          by_cases h1 : k < m
          · go_wp2_with fail
            go_quiet ((go_at_call 60; exact CD.out _))
            go_wp2_with fail
            have own2 := (HO.out.later (bN (Below.refl _ _) nq)).store HL.out j (mod_d32 s)
            have bel2 := (bN HB.out nq).setCell (p := ⟨g, j, none⟩) HO.out.base_le.1 (.int .u32 (s % 4294967296))
            go_roundw
            case rel => exact ⟨k + 1, s / 4294967296, by omega, rfl, by go_num, B5.out, B6.out, _, by simp [HL.out], own2, by rw [HX1.out]; exact ST.out, bel2⟩
            case measure => simp [intOf]; omega
          · have h2 : 0 < cy := by omega
            go_wp2_with fail
            go_quiet ((go_at_call 60; exact CD.out _))
            go_wp2_with fail
            have own2 := (HO.out.later (bN (Below.refl _ _) nq)).store HL.out j (mod_d32 s)
            have bel2 := (bN HB.out nq).setCell (p := ⟨g, j, none⟩) HO.out.base_le.1 (.int .u32 (s % 4294967296))
            go_roundw
            case rel => exact ⟨k + 1, s / 4294967296, by omega, rfl, by go_num, B5.out, B6.out, _, by simp [HL.out], own2, by rw [HX1.out]; exact ST.out, bel2⟩
            case measure => simp [intOf]; omega
        · have h1 : m ≤ k := by omega
          obtain rfl : cy = 0 := by omega
          have fin : num os = num (a.take (i + 1)) * num b := by
            rw [num_take_all (ds := b) (k := k) (by have := Y.out.1; omega), Int.mul_zero] at hsum
            rw [num_take, Int.add_mul]; omega
          have HF := Lib.hid fin; have HO := Lib.hid hown; have HB := Lib.hid hbel; have HL := Lib.hid hos
          clear fin hown hbel hos hsum hgo
          go_wp2_with fail
          go_roundw
          case rel => exact ⟨i + 1, by omega, by go_num, _, HL.out, HO.out, HF.out, HB.out⟩
          case measure => simp [intOf]; omega
    · obtain ⟨os, hos, hown, hnum, hbel⟩ := hinv
      rw [num_take_all (by have := X.out.1; omega)] at hnum
      obtain ⟨g2, cap2, e2, hdig⟩ := hown.dig (by omega) (by omega)
      rw [hos] at e2 hdig
      simp only [Value.slice.injEq, Option.some.injEq, Addr.mk.injEq, and_true, true_and] at e2
      obtain ⟨rfl, rfl⟩ := e2
      have HD := Lib.hid hdig; have HN := Lib.hid hnum; have HB := Lib.hid hbel
      clear hdig hnum hbel hown hos
      go_wp2_with fail
      (with_reducible refine (trim_any HD.out).mono ?_)
      intro e w2 hret
      obtain ⟨ao2, k2, cap2, ds2, rfl, R⟩ := hret
      have HR := Lib.hid R
      clear R HD
      go_wp2_with fail
      go_ret
      obtain ⟨r1, r2, r3, r4⟩ := HR.out
      exact ⟨ao2, k2, cap2, ds2, rfl, r1, r2.trans HN.out, r3, bC HB.out r4⟩

theorem mul_num {w : World} {v v' : Value} {n m : Int} (x : IsNum w v n) (y : IsNum w v' m) (hn : Small n) (hm : Small m) :
    Calls Try.prog 63 #[v, v'] w (RetNum w (n * m)) := by
  obtain ⟨ao, k, cap, ds, rfl, h1, rfl, h3⟩ := x
  obtain ⟨bo, j, cap', es, rfl, g1, rfl, g3⟩ := y
  have := dig_small h1 h3 hn
  have := dig_small g1 g3 hm
  exact (mul_ref h1 g1 (by omega) (by omega)).mono fun _ _ h => ret_num h

end Go.Proofs.Ythoffjogpmkjkaa
