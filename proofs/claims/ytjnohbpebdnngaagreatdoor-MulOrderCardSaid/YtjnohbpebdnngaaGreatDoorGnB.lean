/-
  Texts of the ground put together: NumR, NumV, NumW, NumN.
-/
import Derived.Test.YtjnohbpebdnngaaGreatDoorGnA
import Derived.Test.YtjnohbpebdnngaaGreatDoorGaA
import Derived.Test.YtjnohbpebdnngaaGreatDoorGaB

/-
  Contracts of the document's own numbers: Root, Div.
-/
set_option linter.unusedVariables false
set_option maxRecDepth 100000
namespace Go.Proofs.YtjnohbpebdnngaaGreatDoor
open Go.RowKit

end Go.Proofs.YtjnohbpebdnngaaGreatDoor

/-
  Contracts of the document's own numbers: Div.
-/
set_option linter.unusedVariables false
set_option linter.unusedSimpArgs false
namespace Go.Proofs.YtjnohbpebdnngaaGreatDoor
open Go.RowKit

/-- A number that does not lie in block g. -/
def NumAway (w : World) (v : Value) (n : Int) (g : Nat) : Prop :=
  ∃ (ao : Option Addr) (k cap : Nat) (ds : List Int), v = .slice ao k cap ∧ Dig w ao k cap ds ∧ num ds = n ∧ Norm ds ∧ ∀ o, ao ≠ some ⟨g, o, none⟩
theorem NumAway.later {W w1 : World} {v : Value} {n : Int} {g : Nat} (x : NumAway W v n g) (hb : Below W.heap.size W w1) : NumAway w1 v n g := by
  obtain ⟨ao, k, cap, ds, e, h1, h2, h3, h4⟩ := x
  exact ⟨ao, k, cap, ds, e, h1.later hb, h2, h3, h4⟩
theorem NumAway.set {w : World} {v : Value} {n : Int} {g : Nat} (x : NumAway w v n g) (q : Nat) (u : Value) : IsNum (w.setCell ⟨g, q, none⟩ u) v n := by
  obtain ⟨ao, k, cap, ds, e, ⟨h1, h2, h3, h4, h5⟩, h6, h7, h8⟩ := x
  refine ⟨ao, k, cap, ds, e, ⟨h1, h2, h3, h4, fun hk => ?_⟩, h6, h7⟩
  obtain ⟨g', hao, hlt, hc⟩ := h5 hk
  refine ⟨g', hao, by simpa using hlt, fun j hj => ?_⟩
  have hne : g ≠ g' := fun h => h8 0 (by rw [hao, h])
  exact (World.cell?_setCell_far _ _ _ _ hne).trans (hc j hj)
/-- What the calls of a round leave. -/
def DivKeep (w : World) (va vd : Value) (a d : Int) (g n : Nat) (os : List Int) (wr : World) : Prop :=
  IsNum wr va a ∧ IsNum wr vd d ∧ Own wr w.heap.size (.slice (some ⟨g, 0, none⟩) n n) os ∧ Below w.heap.size w wr
theorem DivKeep.later {w : World} {va vd : Value} {a d : Int} {g n : Nat} {os : List Int} {W w1 : World} (x : DivKeep w va vd a d g n os W) (hb : Below W.heap.size W w1) : DivKeep w va vd a d g n os w1 :=
  ⟨x.1.later hb, x.2.1.later hb, x.2.2.1.later hb, bC x.2.2.2 hb⟩
end Go.Proofs.YtjnohbpebdnngaaGreatDoor

/-
  Contracts of the document's own numbers: Wide, Low.
-/
set_option linter.unusedVariables false
set_option linter.unusedSimpArgs false
namespace Go.Proofs.YtjnohbpebdnngaaGreatDoor
open Go.RowKit
attribute [local go_sem ↓] Go.wp_at_zero Go.wp_at_succ

theorem digit_eq {ds : List Int} (h : Digs ds) (k : Nat) : ds.getD k 0 = num ds / bp k % 4294967296 := by
  obtain ⟨R, hR⟩ := num_digit h k
  have hd := getD_d32 h k
  unfold D32 at hd
  rw [hR]; omega
theorem low_words {ds : List Int} (h : Digs ds) : ds.getD 0 0 + ds.getD 1 0 * 4294967296 = wd0 (num ds) ∧ ds.getD 2 0 + ds.getD 3 0 * 4294967296 = wd1 (num ds) ∧ ds.getD 4 0 + ds.getD 5 0 * 4294967296 = wd2 (num ds) ∧ ds.getD 6 0 + ds.getD 7 0 * 4294967296 = wd3 (num ds) := by
  simp only [digit_eq h]
  have b0 : bp 0 = 1 := rfl
  have b1 : bp 1 = 4294967296 := rfl
  have b2 : bp 2 = 18446744073709551616 := rfl
  have b3 : bp 3 = 79228162514264337593543950336 := rfl
  have b4 : bp 4 = 340282366920938463463374607431768211456 := rfl
  have b5 : bp 5 = 1461501637330902918203684832716283019655932542976 := rfl
  have b6 : bp 6 = 6277101735386680763835789423207666416102355444464034512896 := rfl
  have b7 : bp 7 = 26959946667150639794667015087019630673637144422540572481103610249216 := rfl
  rw [b0, b1, b2, b3, b4, b5, b6, b7]
  unfold wd0 wd1 wd2 wd3
  generalize num ds = n
  refine ⟨?_, ?_, ?_, ?_⟩ <;> omega

def LowInv (w : World) (y0 y1 y2 y3 : Int) (k : Nat) (wr : World) : Prop :=
  WBox wr (w.heap.size + 1) (if 0 < k then y0 else 0) (if 1 < k then y1 else 0) (if 2 < k then y2 else 0) (if 3 < k then y3 else 0) ∧ WFree wr (w.heap.size + 1) ∧ WBox wr w.heap.size 0 0 0 0 ∧ WFree wr w.heap.size ∧ Below w.heap.size w wr

theorem low_results {W : World} {p : Nat} {a b c d : Int} (tmps : List Value) (h : WBox W p a b c d) {v0 v1 : Value} :
    (results Tryz.f47 (v0 :: v1 :: .pointer (some ⟨p, 0, none⟩) :: tmps).toArray).run Tryz.prog W = .ok (.agg #[.int .u64 a, .int .u64 b, .int .u64 c, .int .u64 d]) W := by
  obtain ⟨_, e0, e1, e2, e3⟩ := h
  simp [results, Tryz.results47, go_sem, e0, e1, e2, e3]

set_option maxHeartbeats 4000000 in
set_option maxRecDepth 100000 in
theorem low_ref {ao : Option Addr} {n cap : Nat} {ds : List Int} {w : World} (x : Dig w ao n cap ds) :
    Calls Tryz.prog 47 #[.slice ao n cap] w fun e w' => e = .returned (.agg #[.int .u64 (wd0 (num ds)), .int .u64 (wd1 (num ds)), .int .u64 (wd2 (num ds)), .int .u64 (wd3 (num ds))]) ∧ Below w.heap.size w w' := by
  obtain ⟨l0, l1, l2, l3⟩ := low_words x.2.2.2.1
  rw [← l0, ← l1, ← l2, ← l3]
  have dd := fun k => getD_d32 x.2.2.2.1 k
  have X := Lib.hid x; have DD := Lib.hid dd
  clear l0 l1 l2 l3 x dd
  go_enter Tryz.func47, Tryz.ntmps47
  go_wp2_with fail
  go_loopw [4] (fun i wr => ∃ k : Nat, k ≤ 4 ∧ i = .int .i64 k ∧ LowInv w (ds.getD 0 0 + ds.getD 1 0 * 4294967296) (ds.getD 2 0 + ds.getD 3 0 * 4294967296) (ds.getD 4 0 + ds.getD 5 0 * 4294967296) (ds.getD 6 0 + ds.getD 7 0 * 4294967296) k wr) (fun i _ => 4 - (intOf i).toNat)
  case atStart =>
    refine ⟨0, by omega, rfl, ?_, ?_, (WBox.new w 0 0 0 0 39).alloc _, (WFree.new w 0 0 0 0 39).later (by simp) (bA (Below.refl _ _) _), bA (bA (Below.refl _ _) _) _⟩
    · exact WBox.newAt (by simp) 0 0 0 0 39
    · have h := WFree.new (w.alloc (wbx 0 0 0 0 39)) 0 0 0 0 39
      rwa [World.size_alloc] at h
  case round =>
    obtain ⟨k, hk, rfl, hinv⟩ := hrel
    obtain ⟨hbox, hfr, hres, hrf, hbel⟩ := hinv
    have c := fun (i : Int) (j : Nat) (h : i = j) => digit_any (X.out.later hbel) i j h
    have C := Lib.hid c; have HB := Lib.hid hbel
    clear c hbel
    obtain rfl | rfl | rfl | rfl | rfl : k = 0 ∨ k = 1 ∨ k = 2 ∨ k = 3 ∨ k = 4 := by omega
    · simp only [show ¬ (0 < 0) from by omega, show ¬ (1 < 0) from by omega, show ¬ (2 < 0) from by omega, show ¬ (3 < 0) from by omega, show (0 < 1) from by omega, show ¬ (1 < 1) from by omega, show ¬ (2 < 1) from by omega, show ¬ (3 < 1) from by omega, show (0 < 2) from by omega, show (1 < 2) from by omega, show ¬ (2 < 2) from by omega, show ¬ (3 < 2) from by omega, show (0 < 3) from by omega, show (1 < 3) from by omega, show (2 < 3) from by omega, show ¬ (3 < 3) from by omega, if_true, if_false] at hbox
      have HX := Lib.hid hbox; have HF := Lib.hid hfr; have HR := Lib.hid hres; have HRF := Lib.hid hrf
      obtain ⟨sz, c0, c1, c2, c3⟩ := hbox
      obtain ⟨f0, f1, f2, f3⟩ := hfr
      have dl := DD.out 0; have dh := DD.out 1
      have C1 := Lib.hid (C.out 0 0 rfl); have C2 := Lib.hid (C.out 1 1 rfl)
      clear C hres hrf
      generalize hp : ds.getD 0 0 = p at *
      generalize hq : ds.getD 1 0 = q at *
      have HP := Lib.hid hp; have HQ := Lib.hid hq
      clear hp hq
      obtain ⟨p0, p1⟩ := dl
      obtain ⟨q0, q1⟩ := dh
      go_wp2_with fail
      (with_reducible refine C1.out.mono ?_); rintro e w1 ⟨rfl, rfl⟩
      go_wp2_with fail
      (with_reducible refine C2.out.mono ?_); rintro e w1 ⟨rfl, rfl⟩
      go_wp2_with fail
      have bx2 := HX.out.set0 (p + q * 4294967296)
      have fr2 := HF.out.set ⟨w.heap.size + 1, 0, none⟩ (.int .u64 (p + q * 4294967296))
      have rs2 := HR.out.far (q := ⟨w.heap.size + 1, 0, none⟩) (by simp) (.int .u64 (p + q * 4294967296))
      have rf2 := HRF.out.set ⟨w.heap.size + 1, 0, none⟩ (.int .u64 (p + q * 4294967296))
      have bl := HB.out.setCell (p := ⟨w.heap.size + 1, 0, none⟩) (by simp) (.int .u64 (p + q * 4294967296))
      go_roundw
      case rel => exact ⟨1, by omega, rfl, by simpa using bx2, fr2, rs2, rf2, bl⟩
      case measure => simp [intOf]
    · simp only [show ¬ (0 < 0) from by omega, show ¬ (1 < 0) from by omega, show ¬ (2 < 0) from by omega, show ¬ (3 < 0) from by omega, show (0 < 1) from by omega, show ¬ (1 < 1) from by omega, show ¬ (2 < 1) from by omega, show ¬ (3 < 1) from by omega, show (0 < 2) from by omega, show (1 < 2) from by omega, show ¬ (2 < 2) from by omega, show ¬ (3 < 2) from by omega, show (0 < 3) from by omega, show (1 < 3) from by omega, show (2 < 3) from by omega, show ¬ (3 < 3) from by omega, if_true, if_false] at hbox
      have HX := Lib.hid hbox; have HF := Lib.hid hfr; have HR := Lib.hid hres; have HRF := Lib.hid hrf
      obtain ⟨sz, c0, c1, c2, c3⟩ := hbox
      obtain ⟨f0, f1, f2, f3⟩ := hfr
      have dl := DD.out 2; have dh := DD.out 3
      have C1 := Lib.hid (C.out 2 2 rfl); have C2 := Lib.hid (C.out 3 3 rfl)
      clear C hres hrf
      generalize hp : ds.getD 2 0 = p at *
      generalize hq : ds.getD 3 0 = q at *
      have HP := Lib.hid hp; have HQ := Lib.hid hq
      clear hp hq
      obtain ⟨p0, p1⟩ := dl
      obtain ⟨q0, q1⟩ := dh
      go_wp2_with fail
      (with_reducible refine C1.out.mono ?_); rintro e w1 ⟨rfl, rfl⟩
      go_wp2_with fail
      (with_reducible refine C2.out.mono ?_); rintro e w1 ⟨rfl, rfl⟩
      go_wp2_with fail
      have bx2 := HX.out.set1 (p + q * 4294967296)
      have fr2 := HF.out.set ⟨w.heap.size + 1, 1, none⟩ (.int .u64 (p + q * 4294967296))
      have rs2 := HR.out.far (q := ⟨w.heap.size + 1, 1, none⟩) (by simp) (.int .u64 (p + q * 4294967296))
      have rf2 := HRF.out.set ⟨w.heap.size + 1, 1, none⟩ (.int .u64 (p + q * 4294967296))
      have bl := HB.out.setCell (p := ⟨w.heap.size + 1, 1, none⟩) (by simp) (.int .u64 (p + q * 4294967296))
      go_roundw
      case rel => exact ⟨2, by omega, rfl, by simpa using bx2, fr2, rs2, rf2, bl⟩
      case measure => simp [intOf]
    · simp only [show ¬ (0 < 0) from by omega, show ¬ (1 < 0) from by omega, show ¬ (2 < 0) from by omega, show ¬ (3 < 0) from by omega, show (0 < 1) from by omega, show ¬ (1 < 1) from by omega, show ¬ (2 < 1) from by omega, show ¬ (3 < 1) from by omega, show (0 < 2) from by omega, show (1 < 2) from by omega, show ¬ (2 < 2) from by omega, show ¬ (3 < 2) from by omega, show (0 < 3) from by omega, show (1 < 3) from by omega, show (2 < 3) from by omega, show ¬ (3 < 3) from by omega, if_true, if_false] at hbox
      have HX := Lib.hid hbox; have HF := Lib.hid hfr; have HR := Lib.hid hres; have HRF := Lib.hid hrf
      obtain ⟨sz, c0, c1, c2, c3⟩ := hbox
      obtain ⟨f0, f1, f2, f3⟩ := hfr
      have dl := DD.out 4; have dh := DD.out 5
      have C1 := Lib.hid (C.out 4 4 rfl); have C2 := Lib.hid (C.out 5 5 rfl)
      clear C hres hrf
      generalize hp : ds.getD 4 0 = p at *
      generalize hq : ds.getD 5 0 = q at *
      have HP := Lib.hid hp; have HQ := Lib.hid hq
      clear hp hq
      obtain ⟨p0, p1⟩ := dl
      obtain ⟨q0, q1⟩ := dh
      go_wp2_with fail
      (with_reducible refine C1.out.mono ?_); rintro e w1 ⟨rfl, rfl⟩
      go_wp2_with fail
      (with_reducible refine C2.out.mono ?_); rintro e w1 ⟨rfl, rfl⟩
      go_wp2_with fail
      have bx2 := HX.out.set2 (p + q * 4294967296)
      have fr2 := HF.out.set ⟨w.heap.size + 1, 2, none⟩ (.int .u64 (p + q * 4294967296))
      have rs2 := HR.out.far (q := ⟨w.heap.size + 1, 2, none⟩) (by simp) (.int .u64 (p + q * 4294967296))
      have rf2 := HRF.out.set ⟨w.heap.size + 1, 2, none⟩ (.int .u64 (p + q * 4294967296))
      have bl := HB.out.setCell (p := ⟨w.heap.size + 1, 2, none⟩) (by simp) (.int .u64 (p + q * 4294967296))
      go_roundw
      case rel => exact ⟨3, by omega, rfl, by simpa using bx2, fr2, rs2, rf2, bl⟩
      case measure => simp [intOf]
    · simp only [show ¬ (0 < 0) from by omega, show ¬ (1 < 0) from by omega, show ¬ (2 < 0) from by omega, show ¬ (3 < 0) from by omega, show (0 < 1) from by omega, show ¬ (1 < 1) from by omega, show ¬ (2 < 1) from by omega, show ¬ (3 < 1) from by omega, show (0 < 2) from by omega, show (1 < 2) from by omega, show ¬ (2 < 2) from by omega, show ¬ (3 < 2) from by omega, show (0 < 3) from by omega, show (1 < 3) from by omega, show (2 < 3) from by omega, show ¬ (3 < 3) from by omega, if_true, if_false] at hbox
      have HX := Lib.hid hbox; have HF := Lib.hid hfr; have HR := Lib.hid hres; have HRF := Lib.hid hrf
      obtain ⟨sz, c0, c1, c2, c3⟩ := hbox
      obtain ⟨f0, f1, f2, f3⟩ := hfr
      have dl := DD.out 6; have dh := DD.out 7
      have C1 := Lib.hid (C.out 6 6 rfl); have C2 := Lib.hid (C.out 7 7 rfl)
      clear C hres hrf
      generalize hp : ds.getD 6 0 = p at *
      generalize hq : ds.getD 7 0 = q at *
      have HP := Lib.hid hp; have HQ := Lib.hid hq
      clear hp hq
      obtain ⟨p0, p1⟩ := dl
      obtain ⟨q0, q1⟩ := dh
      go_wp2_with fail
      (with_reducible refine C1.out.mono ?_); rintro e w1 ⟨rfl, rfl⟩
      go_wp2_with fail
      (with_reducible refine C2.out.mono ?_); rintro e w1 ⟨rfl, rfl⟩
      go_wp2_with fail
      have bx2 := HX.out.set3 (p + q * 4294967296)
      have fr2 := HF.out.set ⟨w.heap.size + 1, 3, none⟩ (.int .u64 (p + q * 4294967296))
      have rs2 := HR.out.far (q := ⟨w.heap.size + 1, 3, none⟩) (by simp) (.int .u64 (p + q * 4294967296))
      have rf2 := HRF.out.set ⟨w.heap.size + 1, 3, none⟩ (.int .u64 (p + q * 4294967296))
      have bl := HB.out.setCell (p := ⟨w.heap.size + 1, 3, none⟩) (by simp) (.int .u64 (p + q * 4294967296))
      go_roundw
      case rel => exact ⟨4, by omega, rfl, by simpa using bx2, fr2, rs2, rf2, bl⟩
      case measure => simp [intOf]
    · simp only [show (0 < 4) from by omega, show (1 < 4) from by omega, show (2 < 4) from by omega, show (3 < 4) from by omega, if_true] at hbox
      have W4 := (((hres.set0 (ds.getD 0 0 + ds.getD 1 0 * 4294967296)).set1 (ds.getD 2 0 + ds.getD 3 0 * 4294967296)).set2 (ds.getD 4 0 + ds.getD 5 0 * 4294967296)).set3 (ds.getD 6 0 + ds.getD 7 0 * 4294967296)
      have HW4 := Lib.hid W4
      obtain ⟨sz, c0, c1, c2, c3⟩ := hbox
      obtain ⟨s2, d0, d1, d2, d3⟩ := hres
      obtain ⟨f0, f1, f2, f3⟩ := hrf
      clear hfr C W4
      go_wp2_with fail
      refine bodyPost_ret (low_results _ HW4.out) rfl ⟨rfl, ?_⟩
      exact (((HB.out.setCell (p := ⟨w.heap.size, 0, none⟩) (Nat.le_refl _) _).setCell (p := ⟨w.heap.size, 1, none⟩) (Nat.le_refl _) _).setCell (p := ⟨w.heap.size, 2, none⟩) (Nat.le_refl _) _).setCell (p := ⟨w.heap.size, 3, none⟩) (Nat.le_refl _) _
theorem low_num {w : World} {v : Value} {n : Int} (x : IsNum w v n) :
    Calls Tryz.prog 47 #[v] w fun e w' => e = .returned (.agg #[.int .u64 (wd0 n), .int .u64 (wd1 n), .int .u64 (wd2 n), .int .u64 (wd3 n)]) ∧ Below w.heap.size w w' := by
  obtain ⟨ao, k, cap, ds, rfl, h1, rfl, h3⟩ := x
  exact low_ref h1

end Go.Proofs.YtjnohbpebdnngaaGreatDoor

/-
  The document's own numbers over whole numbers: Wide, Big, Full, Len, as callers take them.
-/
set_option linter.unusedVariables false
namespace Go.Proofs.YtjnohbpebdnngaaGreatDoor
open Go.RowKit
theorem wfull_pow : (2 : Int) ^ 256 = wfull := by decide +kernel
theorem full_pow : (2 : Int) ^ 128 = full := by decide +kernel

theorem bigN (n : Int) (w : World) : Calls Tryz.prog 49 #[.agg #[.int .u64 (hiOf n), .int .u64 (loOf n)]] w (RetNum w (n % full)) := by
  have h := big_num _ _ (hiOf_u n) (loOf_u n) w
  rw [val_hiLo_mod] at h; exact h
theorem lenN {w : World} {v : Value} {n : Int} (x : IsNum w v n) :
    Calls Tryz.prog 94 #[v] w fun e w' => e = .returned (.int .i64 (blen n)) ∧ Below w.heap.size w w' :=
  (len_num x).mono fun e w' ⟨he, hw⟩ => ⟨he, hw ▸ Below.refl _ _⟩
set_option maxHeartbeats 1000000 in
theorem fullN (N : Nat) (hN : N < 3200000) (w : World) : Calls Tryz.prog 86 #[.int .i64 N] w (RetNum w (2 ^ N)) := by
  have P := Lib.hid (Int.one_mul (2 ^ N))
  have HN := Lib.hid hN
  clear hN
  have SM : Small 1 := small_of (k := 1) (by decide) (by omega)
  have S1 := Lib.hid SM
  clear SM
  go_enter Tryz.func86, Tryz.ntmps86
  go_wp2_with fail
  (with_reducible refine (of_num 1 u1 _).mono ?_); rintro e w1 ⟨v, rfl, nv, hb⟩
  have sh := shl_num nv S1.out N HN.out
  rw [P.out] at sh
  have SH := Lib.hid sh; have HB := Lib.hid hb
  clear sh nv hb P S1 HN
  go_wp2_with fail
  (with_reducible refine SH.out.mono ?_); rintro e w2 ⟨v2, rfl, nv2, hb2⟩
  have NV := Lib.hid nv2
  have HC := Lib.hid (bC HB.out hb2)
  clear SH HB hb2 nv2
  go_wp2_with fail
  go_ret
  exact ⟨_, rfl, NV.out, HC.out⟩
theorem pow2_le {i j : Nat} (h : i ≤ j) : (2 : Int) ^ i ≤ 2 ^ j := by
  have h1 := Nat.pow_le_pow_right (n := 2) (by decide) h
  exact_mod_cast h1
theorem blen_gt {n : Int} (h : 0 ≤ n) (k : Nat) : decide ((k : Int) < (blen n : Int)) = decide (2 ^ k ≤ n) := by
  rw [decide_eq_decide]
  by_cases h0 : n = 0
  · subst h0
    rw [blen_zero]
    have : (0 : Int) < 2 ^ k := Int.pow_pos (by decide)
    constructor
    · intro h; omega
    · intro h; omega
  · obtain ⟨j, e, h1, h2⟩ := blen_bounds (show 0 < n by omega)
    rw [e]
    constructor
    · intro h
      have : (2 : Int) ^ k ≤ 2 ^ j := pow2_le (by omega)
      omega
    · intro h
      rcases Nat.lt_or_ge k (j + 1) with g | g
      · omega
      · exfalso
        have : (2 : Int) ^ (j + 1) ≤ 2 ^ k := pow2_le g
        omega

end Go.Proofs.YtjnohbpebdnngaaGreatDoor
