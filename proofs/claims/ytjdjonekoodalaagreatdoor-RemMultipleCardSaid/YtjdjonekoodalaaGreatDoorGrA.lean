import Derived.Test.YtjdjonekoodalaaGreatDoorGmA
import Derived.Test.YtjdjonekoodalaaGreatDoorGsB
import Derived.Test.YtjdjonekoodalaaGreatDoorGwA
set_option maxHeartbeats 4000000
set_option linter.unusedVariables false
set_option linter.unusedSimpArgs false
set_option maxRecDepth 100000
namespace Go.Proofs.YtjdjonekoodalaaGreatDoor
open Go.RowKit
attribute [local go_sem ↓] Go.wp_at_zero Go.wp_at_succ
def restQ (q n : Int) (more : Bool) : Int :=
  if n ≤ 0 then (if more then 1 else 0)
  else if q % 2 ^ n.toNat = 0 ∧ more = false then 0
  else if q % 2 ^ n.toNat < 2 ^ (n.toNat - 1) then 1
  else if more = false ∧ q % 2 ^ n.toNat = 2 ^ (n.toNat - 1) then 2 else 3
def floorQ (q n : Int) : Int := if n ≤ 0 then q * 2 ^ (-n).toNat else q / 2 ^ n.toNat
def cutQ (q n : Int) (more : Bool) (m : Int) (ng : Bool) : Int := if nextM m ng (decide (floorQ q n % 2 = 1)) (restQ q n more) then floorQ q n + 1 else floorQ q n
def restB (x k : Int) : Int := if 0 ≤ k ∧ k ≤ 127 then restQ x (256 - k) false else 0
def cutB (x k m : Int) (ng : Bool) : Int := if (0 ≤ k ∧ k ≤ 127) ∧ m < 5 then cutQ x (256 - k) false m ng else 0
def cutX (x k m : Int) : Bool := decide ((0 ≤ k ∧ k ≤ 127) ∧ m < 5) && (restQ x (256 - k) false != 0)
theorem rest_range (q n : Int) (more : Bool) : 0 ≤ restQ q n more ∧ restQ q n more ≤ 3 := by
  unfold restQ; repeat' split <;> omega
theorem cut_no {k m : Int} (h : ¬ ((0 ≤ k ∧ k ≤ 127) ∧ m < 5)) (x : Int) (ng : Bool) : cutB x k m ng = 0 ∧ cutX x k m = false := by
  unfold cutB cutX; rw [if_neg h]; exact ⟨rfl, by simp [h]⟩
theorem cut_yes {k m : Int} (h : (0 ≤ k ∧ k ≤ 127) ∧ m < 5) (x : Int) (ng : Bool) : cutB x k m ng = cutQ x (256 - k) false m ng ∧ cutX x k m = (restQ x (256 - k) false != 0) := by
  unfold cutB cutX; rw [if_pos h]; exact ⟨rfl, by simp [h]⟩
theorem rest_yes {k : Int} (h : 0 ≤ k ∧ k ≤ 127) (x : Int) : restB x k = restQ x (256 - k) false := by unfold restB; rw [if_pos h]
theorem rest_no {k : Int} (h : ¬ (0 ≤ k ∧ k ≤ 127)) (x : Int) : restB x k = 0 := by unfold restB; rw [if_neg h]
theorem rest_of (x : Int) (j : Nat) : restQ x ((j : Int) + 1) false = ofM (decide (x / 2 ^ j % 2 = 1)) (x % 2 ^ j != 0) := by
  have e := mod_split x j 1
  have e0 : ((j : Int) + 1).toNat = j + 1 := by omega
  have r0 := Int.emod_nonneg x (pow_pos' j); have r1 := Int.emod_lt_of_pos x (two_pow_pos j)
  unfold restQ
  rw [if_neg (by omega), e0, e, Nat.add_sub_cancel, Int.pow_succ, Int.pow_zero, Int.one_mul]
  generalize x % 2 ^ j = r at *
  generalize (2 : Int) ^ j = H at *
  have hb : x / H % 2 = 0 ∨ x / H % 2 = 1 := by omega
  rcases hb with hb | hb
  · rw [hb, Int.mul_zero, Int.add_zero]
    by_cases z : r = 0
    · subst z; simp [ofM]
    · rw [if_neg (by simp [z]), if_pos r1]; simp [ofM, z]
  · rw [hb, Int.mul_one, if_neg (by omega), if_neg (by omega)]
    by_cases z : r = 0
    · subst z; simp [ofM]
    · rw [if_neg (by omega)]; simp [ofM, z]
theorem rest_zero {q n : Int} (h : 0 < n) : (restQ q n false = 0) ↔ q % 2 ^ n.toNat = 0 := by
  unfold restQ
  rw [if_neg (by omega)]
  constructor
  · intro e
    apply Classical.byContradiction; intro z
    rw [if_neg (by simp [z])] at e
    revert e; repeat' split <;> simp
  · intro z; rw [if_pos ⟨z, rfl⟩]
theorem floor_pos {q n : Int} (h : 0 < n) : floorQ q n = q / 2 ^ n.toNat := by unfold floorQ; rw [if_neg (by omega)]
theorem cut_floor (q n : Int) (more : Bool) (m : Int) (ng : Bool) : cutQ q n more m ng = floorQ q n ∨ cutQ q n more m ng = floorQ q n + 1 := by unfold cutQ; split <;> simp
end Go.Proofs.YtjdjonekoodalaaGreatDoor
namespace Go.Proofs.YtjdjonekoodalaaGreatDoor
open Go.RowKit
theorem jam_div15 (x : Int) (n j : Nat) (hj : 1 ≤ j) : jamN x n / 2 ^ j = x / 2 ^ (j + n) := by
  obtain ⟨i, rfl⟩ : ∃ i, j = 1 + i := ⟨j - 1, by omega⟩
  have h := (jam_low x n).1
  have p1 : (2 : Int) ^ 1 = 2 := rfl
  have h2 : x / 2 ^ n / 2 = x / 2 ^ n / 2 ^ 1 := by rw [p1]
  rw [← jam_div (jamN x n) 1 i, p1, h, h2, jam_div, jam_div]
  congr 2; omega
theorem jam_mod15 (x : Int) (n j : Nat) (hj : 1 ≤ j) : jamN x n % 2 ^ j = 0 ↔ x % 2 ^ (j + n) = 0 := by
  have h := lost_split x n j
  rw [Nat.add_comm j n, h]
  unfold jamN
  by_cases z : x % 2 ^ n = 0
  · rw [if_pos z]; simp [z]
  · rw [if_neg z]
    constructor
    · intro e
      have d : (2 : Int) ∣ 2 ^ j := by
        obtain ⟨i, rfl⟩ : ∃ i, j = i + 1 := ⟨j - 1, by omega⟩
        exact ⟨2 ^ i, pow_succ2 i⟩
      have := Int.emod_emod_of_dvd (x / 2 ^ n / 2 * 2 + 1) d
      rw [e] at this
      omega
    · intro e; exact absurd e.1 z
theorem next_mono (m : Int) (ng od : Bool) {r s : Int} (r0 : 0 ≤ r) (h : r ≤ s) (s3 : s ≤ 3) (hn : nextM m ng od r = true) : nextM m ng od s = true := by
  obtain ⟨d, rfl⟩ : ∃ d : Nat, s = r + d := ⟨(s - r).toNat, by omega⟩
  induction d with
  | zero => simpa using hn
  | succ d ih =>
    have h2 := ih (by omega) (by omega)
    have h3 := next_more m ng od (r := r + (d : Int)) (by omega) (by omega) h2
    rw [show r + ((d + 1 : Nat) : Int) = r + (d : Int) + 1 by omega]; exact h3
theorem rest_mono {p q n : Int} (h : 0 < n) (hp : p % 2 ^ n.toNat ≤ q % 2 ^ n.toNat) : restQ p n false ≤ restQ q n false := by
  have p0 := Int.emod_nonneg p (pow_pos' n.toNat)
  unfold restQ
  rw [if_neg (show ¬ n ≤ 0 by omega), if_neg (show ¬ n ≤ 0 by omega)]
  generalize p % 2 ^ n.toNat = r at *
  generalize q % 2 ^ n.toNat = s at *
  generalize (2 : Int) ^ (n.toNat - 1) = H at *
  by_cases z : r = 0
  · rw [if_pos ⟨z, rfl⟩]; repeat' split
    all_goals omega
  · rw [if_neg (by simp [z]), if_neg (show ¬ (s = 0 ∧ false = false) by simp; omega)]
    by_cases l : r < H
    · rw [if_pos l]; repeat' split <;> omega
    · rw [if_neg l, if_neg (show ¬ s < H by omega)]
      by_cases e : r = H
      · rw [if_pos (show false = false ∧ r = H from ⟨rfl, e⟩)]; repeat' split
        all_goals omega
      · rw [if_neg (show ¬ (false = false ∧ r = H) by simp [e]), if_neg (show ¬ (false = false ∧ s = H) by simp; omega)]; omega
theorem cut_mono {p q n : Int} (h : 0 < n) (hp : p ≤ q) (m : Int) (ng : Bool) : cutQ p n false m ng ≤ cutQ q n false m ng := by
  have f : floorQ p n ≤ floorQ q n := by rw [floor_pos h, floor_pos h]; exact div_mono hp _
  rcases Int.lt_or_eq_of_le f with f | f
  · rcases cut_floor p n false m ng with a | a <;> rcases cut_floor q n false m ng with b | b <;> omega
  · have e1 := Int.emod_add_mul_ediv p (2 ^ n.toNat); have e2 := Int.emod_add_mul_ediv q (2 ^ n.toNat)
    rw [← floor_pos h] at e1 e2
    rw [f] at e1
    have hr := rest_mono (p := p) (q := q) h (by omega)
    obtain ⟨r0, r1⟩ := rest_range p n false
    obtain ⟨s0, s1⟩ := rest_range q n false
    unfold cutQ
    rw [f]
    by_cases c : nextM m ng (decide (floorQ q n % 2 = 1)) (restQ p n false) = true
    · rw [if_pos c, if_pos (next_mono m ng _ r0 hr s1 c)]; omega
    · rw [if_neg c]; split <;> omega
end Go.Proofs.YtjdjonekoodalaaGreatDoor
namespace Go.Proofs.YtjdjonekoodalaaGreatDoor
open Go.RowKit
attribute [local go_sem ↓] Go.wp_at_zero Go.wp_at_succ
theorem round_within_lo (k : Int)
     (g1 : decide (0 ≤ k) = false) (w : World) :
    Ca 197 #[.int .i64 k] w (.bool false) := by
  simp only [Ca] at *
  go_enter Tryz.func197, Tryz.ntmps197
  go_wp2_with fail
  go_ret
  exact ⟨rfl, bR⟩
theorem round_within_hi (k : Int) (p : Bool)
     (g1 : decide (0 ≤ k) = true) (g2 : decide (k ≤ 127) = p) (w : World) :
    Ca 197 #[.int .i64 k] w (.bool p) := by
  simp only [Ca] at *
  go_enter Tryz.func197, Tryz.ntmps197
  go_wp2_with fail
  go_ret
  exact ⟨rfl, bR⟩
theorem round_reader (x0 x1 x2 x3 : Int) (w : World) : Calls Tryz.prog 198 #[.agg #[.int .u64 x0, .int .u64 x1, .int .u64 x2, .int .u64 x3]] w fun e w' => ∃ bk, e = .returned (.func (.func 214) #[] #[.pointer (some ⟨bk, 0, none⟩)]) ∧ HB w' bk 81 #[.int .u64 x0, .int .u64 x1, .int .u64 x2, .int .u64 x3] ∧ Below w.heap.size w w' := by
  go_enter Tryz.func198, Tryz.ntmps198
  have hmf : ∀ (fn : Fn) (first cap : Array Value) (w : World), (Instr.makeFunc fn first cap).run Tryz.prog w = .ok (.func fn first cap) w := fun _ _ _ _ => rfl
  go_wp2_with fail
  go_ret
  exact ⟨_, rfl, HB.new _ _ _, bA bR _⟩
theorem round_bit_core (bk : Nat) (i x0 x1 x2 x3 y0 y1 y2 y3 zh zl : Int) (b : Bool)
    (h0 : Hid (∀ w, Ca 200 #[U4 x0 x1 x2 x3, .int .i64 i] w (U4 y0 y1 y2 y3)))
    (h1 : Hid (∀ w, Ca 195 #[U4 y0 y1 y2 y3] w (U2 zh zl)))
    (h2 : Hid (∀ w, Ca 103 #[U2 zh zl, .int .i64 0] w (.bool b))) (w : World) (cX0_0 : w.cell? ⟨bk, 0, none⟩ = some (.int .u64 x0)) (cX0_1 : w.cell? ⟨bk, 1, none⟩ = some (.int .u64 x1)) (cX0_2 : w.cell? ⟨bk, 2, none⟩ = some (.int .u64 x2)) (cX0_3 : w.cell? ⟨bk, 3, none⟩ = some (.int .u64 x3)) :
    Ca 214 #[.int .i64 i, .pointer (some ⟨bk, 0, none⟩)] w (.bool b) := by
  simp only [Ca, U2, U4] at *
  go_enter Tryz.func214, Tryz.ntmps214
  have oX0 : bk < w.heap.size := bL cX0_0
  go_wp2_with fail
  refine vM (h0.out _) fun w1 b1 => ?_
  clear oX0
  go_wp2_with fail
  refine vM (h1.out _) fun w2 b2 => ?_
  go_wp2_with fail
  refine vM (h2.out _) fun w3 b3 => ?_
  go_wp2_with fail
  go_ret
  exact ⟨rfl, (bC (bC b1 b2) b3)⟩
theorem round_rest_no (k x0 x1 x2 x3 : Int)
    (h0 : Hid (∀ w, Ca 197 #[.int .i64 k] w (.bool false))) (w : World) :
    Ca 199 #[U4 x0 x1 x2 x3, .int .i64 k] w (.int .u8 0) := by
  simp only [Ca, U4] at *
  go_enter Tryz.func199, Tryz.ntmps199
  go_wp2_with fail
  refine vM (h0.out _) fun w1 b1 => ?_
  go_wp2_with fail
  go_ret
  exact ⟨rfl, (bC (bA bR _) b1)⟩
theorem round_rest_yes (k h1 h c x0 x1 x2 x3 : Int) (b l : Bool)
    (h0 : Hid (∀ w, Ca 197 #[.int .i64 k] w (.bool true)))
    (h3 : Hid (∀ w, Ca 209 #[U4 x0 x1 x2 x3, .int .i64 h] w (.bool l)))
    (h4 : Hid (∀ w, Ca 215 #[.bool b, .bool l] w (.int .u8 c))) (RD : Hid (∀ w, Calls Tryz.prog 198 #[U4 x0 x1 x2 x3] w fun e w' => ∃ bk, e = .returned (.func (.func 214) #[] #[.pointer (some ⟨bk, 0, none⟩)]) ∧ HB w' bk 81 #[.int .u64 x0, .int .u64 x1, .int .u64 x2, .int .u64 x3] ∧ Below w.heap.size w w')) (BT : Hid (∀ bk w, HB w bk 81 #[.int .u64 x0, .int .u64 x1, .int .u64 x2, .int .u64 x3] → Ca 214 #[.int .i64 h, .pointer (some ⟨bk, 0, none⟩)] w (.bool b))) (w1 : IntKind.i64.wrap (256 - k) = h1) (w1x : wrap64 (256 - k) = h1) (w2 : IntKind.i64.wrap (h1 - 1) = h) (w2x : wrap64 (h1 - 1) = h) (w : World) :
    Ca 199 #[U4 x0 x1 x2 x3, .int .i64 k] w (.int .u8 c) := by
  simp only [Ca, U4] at *
  go_enter Tryz.func199, Tryz.ntmps199
  go_wp2_with fail
  refine vM (h0.out _) fun w1 b1 => ?_
  have X0 := (HB.newAt (b := w.heap.size) (by simp) _ _).later b1
  have oX0 := X0.o
  go_wp2_with fail
  refine vE (RD.out _) fun bk w2 nbk b2 => ?_
  clear oX0
  go_wp2_with fail
  replace X0 := X0.later b2
  refine vR [] fun w3 b3 S3 => ?_
  refine vT 0 S3 ?_
  refine vT 1 S3 ?_
  refine vT 3 S3 ?_ (hy := by intro wq hb; have q := (hb.hb X0 (by simp)).o; go_simp; try (with_reducible rfl))
  refine vT 4 S3 ?_
  replace nbk := nbk.later b3
  refine vY1 (vC 2 S3 (BT.out _ _ nbk) (fun _ _ => Off.later) fun w4 b4 S4 => ?_)
  refine vY1 (vC 5 S4 (h3.out _) (fun _ _ => Off.later) fun w5 b5 S5 => ?_)
  refine vY1 (vC 6 S5 (h4.out _) (fun _ _ => Off.later) fun w6 b6 S6 => ?_)
  refine vT 7 S6 ?_
  refine vD ?_
  go_wp2_with fail
  go_ret
  exact ⟨rfl, (bC (bC (bC (bC (bC (bC (bA bR _) b1) b2) b3) b4) b5) b6)⟩
theorem round_cut_no1 (k m x0 x1 x2 x3 : Int) (ng : Bool)
    (h0 : Hid (∀ w, Ca 197 #[.int .i64 k] w (.bool false))) (w : World) :
    Ca 182 #[U4 x0 x1 x2 x3, .int .i64 k, .int .u8 m, .bool ng] w (.tuple #[U2 0 0, .bool false]) := by
  simp only [Ca, U2, U4] at *
  go_enter Tryz.func182, Tryz.ntmps182
  go_wp2_with fail
  refine vM (h0.out _) fun w1 b1 => ?_
  have gX1 : w.heap.size ≤ w.heap.size + 1 := by omega
  have X1 := (HB.newAt (b := w.heap.size + 1) (by simp) _ _).later b1
  have oX1 := X1.o
  go_wp2_with fail
  refine bodyPost_ret (v := .tuple #[.agg #[.int .u64 0, .int .u64 0], .bool false]) ?_ rfl ⟨rfl, (((bC (bA (bA bR _) _) b1).setCell (p := ⟨w.heap.size + 1, 0, none⟩) gX1 _).setCell (p := ⟨w.heap.size + 1, 1, none⟩) gX1 _)⟩
  simp [results, Tryz.results182, go_sem, oX1]
theorem round_cut_no2 (k m x0 x1 x2 x3 : Int) (ng : Bool)
    (h0 : Hid (∀ w, Ca 197 #[.int .i64 k] w (.bool true)))
    (h1 : Hid (∀ w, Ca 48 #[.int .u8 m] w (.bool false))) (w : World) :
    Ca 182 #[U4 x0 x1 x2 x3, .int .i64 k, .int .u8 m, .bool ng] w (.tuple #[U2 0 0, .bool false]) := by
  simp only [Ca, U2, U4] at *
  go_enter Tryz.func182, Tryz.ntmps182
  go_wp2_with fail
  refine vM (h0.out _) fun w1 b1 => ?_
  have gX1 : w.heap.size ≤ w.heap.size + 1 := by omega
  have X1 := (HB.newAt (b := w.heap.size + 1) (by simp) _ _).later b1
  go_wp2_with fail
  refine vM (h1.out _) fun w2 b2 => ?_
  replace X1 := X1.later b2
  have oX1 := X1.o
  go_wp2_with fail
  refine bodyPost_ret (v := .tuple #[.agg #[.int .u64 0, .int .u64 0], .bool false]) ?_ rfl ⟨rfl, (((bC (bC (bA (bA bR _) _) b1) b2).setCell (p := ⟨w.heap.size + 1, 0, none⟩) gX1 _).setCell (p := ⟨w.heap.size + 1, 1, none⟩) gX1 _)⟩
  simp [results, Tryz.results182, go_sem, oX1]
theorem round_cut_up (k m c r x0 x1 x2 x3 y0 y1 y2 y3 ah al sh sl : Int) (ng b i o : Bool)
    (h0 : Hid (∀ w, Ca 197 #[.int .i64 k] w (.bool true)))
    (h1 : Hid (∀ w, Ca 48 #[.int .u8 m] w (.bool true)))
    (h3 : Hid (∀ w, Ca 199 #[U4 x0 x1 x2 x3, .int .i64 k] w (.int .u8 r)))
    (h4 : Hid (∀ w, Ca 200 #[U4 x0 x1 x2 x3, .int .i64 c] w (U4 y0 y1 y2 y3)))
    (h5 : Hid (∀ w, Ca 195 #[U4 y0 y1 y2 y3] w (U2 ah al)))
    (h7 : Hid (∀ w, Ca 201 #[.int .u8 m, .bool ng, .bool b, .int .u8 r] w (.bool true)))
    (h8 : Hid (∀ w, Ca 128 #[U2 ah al, U2 0 1] w (.tuple #[U2 sh sl, .bool o]))) (RD : Hid (∀ w, Calls Tryz.prog 198 #[U4 x0 x1 x2 x3] w fun e w' => ∃ bk, e = .returned (.func (.func 214) #[] #[.pointer (some ⟨bk, 0, none⟩)]) ∧ HB w' bk 81 #[.int .u64 x0, .int .u64 x1, .int .u64 x2, .int .u64 x3] ∧ Below w.heap.size w w')) (BT : Hid (∀ bk w, HB w bk 81 #[.int .u64 x0, .int .u64 x1, .int .u64 x2, .int .u64 x3] → Ca 214 #[.int .i64 c, .pointer (some ⟨bk, 0, none⟩)] w (.bool b))) (w1 : IntKind.i64.wrap (256 - k) = c) (w1x : wrap64 (256 - k) = c) (e1 : (r != 0) = i) (w : World) :
    Ca 182 #[U4 x0 x1 x2 x3, .int .i64 k, .int .u8 m, .bool ng] w (.tuple #[U2 sh sl, .bool i]) := by
  simp only [Ca, U2, U4] at *
  go_enter Tryz.func182, Tryz.ntmps182
  go_wp2_with fail
  refine vM (h0.out _) fun w1 b1 => ?_
  have gX1 : w.heap.size ≤ w.heap.size + 1 := by omega
  have X0 := ((HB.newAt (b := w.heap.size) (by simp) _ _).alloc _).later b1
  have X1 := (HB.newAt (b := w.heap.size + 1) (by simp) _ _).later b1
  go_wp2_with fail
  refine vM (h1.out _) fun w2 b2 => ?_
  replace X0 := X0.later b2
  have oX0 := X0.o
  go_wp2_with fail
  refine vE (RD.out _) fun bk w3 nbk b3 => ?_
  clear oX0
  replace X0 := X0.later b3
  have oX0 := X0.o
  go_wp2_with fail
  refine vM (h3.out _) fun w4 b4 => ?_
  clear oX0
  replace X0 := X0.later b4
  have oX0 := X0.o
  go_wp2_with fail
  refine vM (h4.out _) fun w5 b5 => ?_
  clear oX0
  go_wp2_with fail
  refine vM (h5.out _) fun w6 b6 => ?_
  replace nbk := nbk.later (bC (bC b4 b5) b6)
  go_wp2_with fail
  refine vM (BT.out _ _ (nbk.later (bA bR _))) fun w7 b7 => ?_
  have gX2 : w.heap.size ≤ w6.heap.size := by have := (bC (bC (bC (bC (bC (bC (bA (bA bR _) _) b1) b2) b3) b4) b5) b6).size; omega
  replace X1 := X1.later (bC (bC (bC (bC b2 b3) b4) b5) b6)
  have nX1_X2 : w.heap.size + 1 < w6.heap.size := by have := X1.lt; omega
  have X2 := (HB.newAt (b := w6.heap.size) (by simp) _ _).later b7
  clear nbk
  go_wp2_with fail
  refine vM (h7.out _) fun w8 b8 => ?_
  replace X2 := X2.later b8
  have oX2 := X2.o
  go_wp2_with fail
  refine vM (h8.out _) fun w9 b9 => ?_
  clear oX2
  replace X2 := X2.later b9
  have oX2 := X2.o
  replace X1 := X1.later (bC (bC (bC (bA bR _) b7) b8) b9)
  have oX1 := X1.o
  have mX1_X2 : ¬ (w.heap.size + 1 = w6.heap.size) := by omega
  have mX2_X1 : ¬ (w6.heap.size = w.heap.size + 1) := by omega
  go_wp2_with fail
  refine bodyPost_ret (v := .tuple #[.agg #[.int .u64 sh, .int .u64 sl], .bool i]) ?_ rfl ⟨rfl, (((((bC (bC (bC (bC (bC (bC (bC (bC (bC (bA (bA bR _) _) b1) b2) b3) b4) b5) b6) (bC (bA bR _) b7)) b8) b9).setCell (p := ⟨w6.heap.size, 0, none⟩) gX2 _).setCell (p := ⟨w6.heap.size, 1, none⟩) gX2 _).setCell (p := ⟨w.heap.size + 1, 0, none⟩) gX1 _).setCell (p := ⟨w.heap.size + 1, 1, none⟩) gX1 _)⟩
  simp [results, Tryz.results182, go_sem, oX1, mX1_X2, mX2_X1]
theorem round_cut_no (k m c r x0 x1 x2 x3 y0 y1 y2 y3 ah al : Int) (ng b i : Bool)
    (h0 : Hid (∀ w, Ca 197 #[.int .i64 k] w (.bool true)))
    (h1 : Hid (∀ w, Ca 48 #[.int .u8 m] w (.bool true)))
    (h3 : Hid (∀ w, Ca 199 #[U4 x0 x1 x2 x3, .int .i64 k] w (.int .u8 r)))
    (h4 : Hid (∀ w, Ca 200 #[U4 x0 x1 x2 x3, .int .i64 c] w (U4 y0 y1 y2 y3)))
    (h5 : Hid (∀ w, Ca 195 #[U4 y0 y1 y2 y3] w (U2 ah al)))
    (h7 : Hid (∀ w, Ca 201 #[.int .u8 m, .bool ng, .bool b, .int .u8 r] w (.bool false))) (RD : Hid (∀ w, Calls Tryz.prog 198 #[U4 x0 x1 x2 x3] w fun e w' => ∃ bk, e = .returned (.func (.func 214) #[] #[.pointer (some ⟨bk, 0, none⟩)]) ∧ HB w' bk 81 #[.int .u64 x0, .int .u64 x1, .int .u64 x2, .int .u64 x3] ∧ Below w.heap.size w w')) (BT : Hid (∀ bk w, HB w bk 81 #[.int .u64 x0, .int .u64 x1, .int .u64 x2, .int .u64 x3] → Ca 214 #[.int .i64 c, .pointer (some ⟨bk, 0, none⟩)] w (.bool b))) (w1 : IntKind.i64.wrap (256 - k) = c) (w1x : wrap64 (256 - k) = c) (e1 : (r != 0) = i) (w : World) :
    Ca 182 #[U4 x0 x1 x2 x3, .int .i64 k, .int .u8 m, .bool ng] w (.tuple #[U2 ah al, .bool i]) := by
  simp only [Ca, U2, U4] at *
  go_enter Tryz.func182, Tryz.ntmps182
  go_wp2_with fail
  refine vM (h0.out _) fun w1 b1 => ?_
  have gX1 : w.heap.size ≤ w.heap.size + 1 := by omega
  have X0 := ((HB.newAt (b := w.heap.size) (by simp) _ _).alloc _).later b1
  have X1 := (HB.newAt (b := w.heap.size + 1) (by simp) _ _).later b1
  go_wp2_with fail
  refine vM (h1.out _) fun w2 b2 => ?_
  replace X0 := X0.later b2
  have oX0 := X0.o
  go_wp2_with fail
  refine vE (RD.out _) fun bk w3 nbk b3 => ?_
  clear oX0
  replace X0 := X0.later b3
  have oX0 := X0.o
  go_wp2_with fail
  refine vM (h3.out _) fun w4 b4 => ?_
  clear oX0
  replace X0 := X0.later b4
  have oX0 := X0.o
  go_wp2_with fail
  refine vM (h4.out _) fun w5 b5 => ?_
  clear oX0
  go_wp2_with fail
  refine vM (h5.out _) fun w6 b6 => ?_
  replace nbk := nbk.later (bC (bC b4 b5) b6)
  go_wp2_with fail
  refine vM (BT.out _ _ (nbk.later (bA bR _))) fun w7 b7 => ?_
  replace X1 := X1.later (bC (bC (bC (bC b2 b3) b4) b5) b6)
  have nX1_X2 : w.heap.size + 1 < w6.heap.size := by have := X1.lt; omega
  have X2 := (HB.newAt (b := w6.heap.size) (by simp) _ _).later b7
  clear nbk
  go_wp2_with fail
  refine vM (h7.out _) fun w8 b8 => ?_
  replace X2 := X2.later b8
  have oX2 := X2.o
  replace X1 := X1.later (bC (bC (bA bR _) b7) b8)
  have oX1 := X1.o
  have mX2_X1 : ¬ (w6.heap.size = w.heap.size + 1) := by omega
  have mX1_X2 : ¬ (w.heap.size + 1 = w6.heap.size) := by omega
  go_wp2_with fail
  refine bodyPost_ret (v := .tuple #[.agg #[.int .u64 ah, .int .u64 al], .bool i]) ?_ rfl ⟨rfl, (((bC (bC (bC (bC (bC (bC (bC (bC (bA (bA bR _) _) b1) b2) b3) b4) b5) b6) (bC (bA bR _) b7)) b8).setCell (p := ⟨w.heap.size + 1, 0, none⟩) gX1 _).setCell (p := ⟨w.heap.size + 1, 1, none⟩) gX1 _)⟩
  simp [results, Tryz.results182, go_sem, oX1, mX2_X1, mX1_X2]
theorem round_within (k : Int) (w : World) : Calls Tryz.prog 197 #[.int .i64 k] w fun e w' => e = .returned (.bool (decide (0 ≤ k ∧ k ≤ 127))) ∧ Below w.heap.size w w' := by
  by_cases h : 0 ≤ k
  · rw [show decide (0 ≤ k ∧ k ≤ 127) = decide (k ≤ 127) by simp [h]]
    exact round_within_hi k _ (by simp [h]) rfl w
  · rw [show decide (0 ≤ k ∧ k ≤ 127) = false by simp [h]]
    exact round_within_lo k (by simp; omega) w
theorem bitI_zero (n : Int) : bitI (n % full) 0 = decide (n % 2 = 1) := by
  unfold bitI; rw [Bool.eq_iff_iff]; simp
  unfold full; omega
theorem round_bit (x i : Int) (h0 : 0 ≤ x) (h1 : x < wfull) (i0 : 0 ≤ i) (i1 : i ≤ 256) (bk : Nat) (w : World) (hb : HB w bk 81 #[.int .u64 (wd0 x), .int .u64 (wd1 x), .int .u64 (wd2 x), .int .u64 (wd3 x)]) : Calls Tryz.prog 214 #[.int .i64 i, .pointer (some ⟨bk, 0, none⟩)] w fun e w' => e = .returned (.bool (decide (x / 2 ^ i.toNat % 2 = 1))) ∧ Below w.heap.size w w' := by
  have h2 := wrightW x i (by omega) (by omega)
  rw [Int.emod_eq_of_lt h0 h1] at h2
  have h4 := bit_any (hiOf (x / 2 ^ i.toNat)) (loOf (x / 2 ^ i.toNat)) 0 (hiOf_u _) (loOf_u _)
  rw [val_hiLo_mod, bitI_zero] at h4
  exact round_bit_core bk i _ _ _ _ _ _ _ _ _ _ _ (lH h2) (lH (lowW (x / 2 ^ i.toNat))) (lH h4) w (hb.cell 0) (hb.cell 1) (hb.cell 2) (hb.cell 3)
theorem round_rest (x k : Int) (h0 : 0 ≤ x) (h1 : x < wfull) (k0 : -9223372036854775808 ≤ k) (k1 : k ≤ 9223372036854775807) (w : World) : Calls Tryz.prog 199 #[.agg #[.int .u64 (wd0 (x)), .int .u64 (wd1 (x)), .int .u64 (wd2 (x)), .int .u64 (wd3 (x))], .int .i64 k] w fun e w' => e = .returned (.int .u8 (restB x k)) ∧ Below w.heap.size w w' := by
  have WN := round_within k
  by_cases h : 0 ≤ k ∧ k ≤ 127
  · rw [show decide (0 ≤ k ∧ k ≤ 127) = true by simp [h]] at WN
    obtain ⟨j, hj⟩ : ∃ j : Nat, 255 - k = j := ⟨(255 - k).toNat, by omega⟩
    have LS := lostW x (j : Int) (by omega) (by omega)
    rw [Int.emod_eq_of_lt h0 h1, Int.toNat_natCast] at LS
    have BT := lH fun bk w hb => round_bit x (j : Int) h0 h1 (by omega) (by omega) bk w hb
    rw [Int.toNat_natCast] at BT
    rw [rest_yes h, show 256 - k = (j : Int) + 1 by omega, rest_of]
    exact round_rest_yes k (256 - k) (j : Int) _ _ _ _ _ _ _ (lH WN) (lH LS) (lH (modeOK.of _ _)) (lH (round_reader _ _ _ _)) BT (IntWalk.i64_in _ (by omega)) (by unfold wrap64; omega) (by rw [IntWalk.i64_in _ (by omega)]; omega) (by unfold wrap64; omega) w
  · rw [show decide (0 ≤ k ∧ k ≤ 127) = false by simp [h]] at WN
    rw [rest_no h]
    exact round_rest_no k _ _ _ _ (lH WN) w
theorem round_cut (x k m : Int) (ng : Bool) (h0 : 0 ≤ x) (h1 : x < wfull) (k0 : -9223372036854775808 ≤ k) (k1 : k ≤ 9223372036854775807) (m0 : 0 ≤ m) (m1 : m ≤ 255) (w : World) : Calls Tryz.prog 182 #[.agg #[.int .u64 (wd0 (x)), .int .u64 (wd1 (x)), .int .u64 (wd2 (x)), .int .u64 (wd3 (x))], .int .i64 k, .int .u8 m, .bool ng] w fun e w' => e = .returned (.tuple #[.agg #[.int .u64 (hiOf (cutB x k m ng)), .int .u64 (loOf (cutB x k m ng))], .bool (cutX x k m)]) ∧ Below w.heap.size w w' := by
  have WN := round_within k
  have MK := modeOK.known m m0 m1
  by_cases h : 0 ≤ k ∧ k ≤ 127
  · rw [show decide (0 ≤ k ∧ k ≤ 127) = true by simp [h]] at WN
    by_cases hm : m < 5
    · rw [show decide (m < 5) = true by simp [hm]] at MK
      rw [(cut_yes ⟨h, hm⟩ x ng).1, (cut_yes ⟨h, hm⟩ x ng).2]
      obtain ⟨r0, r1⟩ := rest_range x (256 - k) false
      have RS := round_rest x k h0 h1 k0 k1
      rw [rest_yes h] at RS
      have WR := wrightW x (256 - k) (by omega) (by omega)
      rw [Int.emod_eq_of_lt h0 h1, ← floor_pos (by omega)] at WR
      have BT := lH fun bk w hb => round_bit x (256 - k) h0 h1 (by omega) (by omega) bk w hb
      rw [← floor_pos (by omega)] at BT
      have NX := modeOK.next m ng (decide (floorQ x (256 - k) % 2 = 1)) (restQ x (256 - k) false) m0 m1 r0 (by omega)
      unfold cutQ
      by_cases c : nextM m ng (decide (floorQ x (256 - k) % 2 = 1)) (restQ x (256 - k) false) = true
      · rw [if_pos c]; rw [c] at NX
        exact round_cut_up k m (256 - k) _ _ _ _ _ _ _ _ _ _ _ _ _ ng _ _ _ (lH WN) (lH MK) (lH RS) (lH WR) (lH (lowW _)) (lH NX) (lH (addB (floorQ x (256 - k)) 1)) (lH (round_reader _ _ _ _)) BT (IntWalk.i64_in _ (by omega)) (by unfold wrap64; omega) rfl w
      · rw [if_neg c]; rw [Bool.eq_false_iff.2 c] at NX
        exact round_cut_no k m (256 - k) _ _ _ _ _ _ _ _ _ _ _ ng _ _ (lH WN) (lH MK) (lH RS) (lH WR) (lH (lowW _)) (lH NX) (lH (round_reader _ _ _ _)) BT (IntWalk.i64_in _ (by omega)) (by unfold wrap64; omega) rfl w
    · rw [show decide (m < 5) = false by simp [hm]] at MK
      rw [(cut_no (fun z => hm z.2) x ng).1, (cut_no (fun z => hm z.2) x ng).2]
      exact round_cut_no2 k m _ _ _ _ ng (lH WN) (lH MK) w
  · rw [show decide (0 ≤ k ∧ k ≤ 127) = false by simp [h]] at WN
    rw [(cut_no (fun z => h z.1) x ng).1, (cut_no (fun z => h z.1) x ng).2]
    exact round_cut_no1 k m _ _ _ _ ng (lH WN) w
end Go.Proofs.YtjdjonekoodalaaGreatDoor
