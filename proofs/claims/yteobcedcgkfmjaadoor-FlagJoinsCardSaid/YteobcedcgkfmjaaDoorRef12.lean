/-
  The document's answers of layer 12; texts: contracts.
-/
import Derived.Test.YteobcedcgkfmjaaDoorFlagN
set_option linter.unusedVariables false
set_option linter.unusedSimpArgs false
set_option maxRecDepth 100000
namespace Go.Proofs.YteobcedcgkfmjaaDoor
open Go.RowKit

theorem bit_at : ∀ s, s < 256 → ∀ i, i < 8 → ((s / 2 ^ i % 2 : Nat) == 1) = s.testBit i := by decide +kernel
set_option maxRecDepth 100000 in
set_option maxHeartbeats 1000000 in
theorem ref12_bit (s i : Nat) (hs : s < 256) (hi : i < 8) (w : World) :
    Calls Tryd.prog 18 #[.int .u8 s, .int .i64 i] w fun e w' => e = .returned (.bool (s.testBit i)) ∧ w' = w := by
  have hb := bit_at s hs i hi
  obtain ⟨r, hr⟩ : ∃ r, s.testBit i = r := ⟨_, rfl⟩
  rw [hr] at hb ⊢
  clear hr
  have hB := Lib.hid hb
  have hS : IntKind.i64.wrap (s : Int) = (s : Int) := IntWalk.i64_in _ (by omega)
  clear hb
  obtain rfl | rfl | rfl | rfl | rfl | rfl | rfl | rfl : i = 0 ∨ i = 1 ∨ i = 2 ∨ i = 3 ∨ i = 4 ∨ i = 5 ∨ i = 6 ∨ i = 7 := by omega
  all_goals
    go_enter Tryd.func18, Tryd.ntmps18
    go_wp2_with fail
    go_ret
    refine ⟨congrArg (fun b => Ending.returned (Value.bool b)) ?_, rfl⟩
    have h := hB.out
    rw [← h, Bool.eq_iff_iff, beq_iff_eq, beq_iff_eq]
    omega

/-- The sum of the first j flags of U. -/
def sumU (U : Nat) : Nat → Nat
  | 0 => 0
  | j + 1 => sumU U j + if U.testBit j then 2 ^ j else 0
theorem sumU_5 : ∀ U, U < 256 → sumU U 5 = U % 32 := by decide +kernel
theorem sumU_lt (U j : Nat) : sumU U j < 2 ^ j := by
  induction j with
  | zero => exact Nat.two_pow_pos 0
  | succ j ih =>
    have e : 2 ^ (j + 1) = 2 * 2 ^ j := Nat.pow_succ'
    unfold sumU
    split <;> omega
theorem any_take_succ (p : Nat → Bool) {xs : List Nat} {k : Nat} (h : k < xs.length) : (xs.take (k + 1)).any p = ((xs.take k).any p || p (xs.getD k 0)) := by
  rw [List.take_add_one, List.any_append, List.getD_eq_getElem?_getD, List.getElem?_eq_getElem h]
  simp
set_option maxRecDepth 100000 in
set_option maxHeartbeats 4000000 in
theorem ref12_join (ao : Option Addr) (n cap : Nat) (xs : List Nat) (w : World) (x : Fs w ao n cap xs) :
    Calls Tryd.prog 9 #[.slice ao n cap] w fun e w' => e = .returned (.int .u8 ((joinN xs : Nat) : Int)) ∧ w' = w := by
  have HX := Lib.hid x
  have hU : orL xs < 256 := by have := orL_take x.2.2.2.1 xs.length; rwa [List.take_length] at this
  have hJ : sumU (orL xs) 5 = joinN xs := sumU_5 _ hU
  obtain ⟨r, hr⟩ : ∃ r, joinN xs = r := ⟨_, rfl⟩
  rw [hr] at hJ ⊢
  have r32 : r < 32 := hr ▸ joinN_lt xs
  have R := Lib.hid (And.intro hJ r32)
  have B := Lib.hid fun j => orL_bit j xs
  generalize orL xs = U at *
  clear x hr hJ r32 hU
  go_enter Tryd.func9, Tryd.ntmps9
  go_wp2_with fail
  go_loopw [3, 4] (fun o i wr => ∃ j : Nat, j ≤ 5 ∧ i = .int .i64 j ∧ o = .int .i64 ((sumU U j : Nat) : Int) ∧ wr = w) (fun _ i _ => 5 - (intOf i).toNat)
  case atStart => exact ⟨0, by omega, rfl, rfl, rfl⟩
  case round =>
    obtain ⟨j, hj, rfl, rfl, rfl⟩ := hrel
    by_cases hj5 : j = 5
    · subst hj5
      have e5 := R.out.1
      have w5 : IntKind.u8.wrap (r : Int) = (r : Int) := by have := R.out.2; rw [IntKind.wrap_u8]; omega
      rw [e5]
      go_wp2_with fail
      go_ret
      exact ⟨rfl, rfl⟩
    · have g5 : decide ((j : Int) < 5) = true := by simp; omega
      have incj : IntKind.i64.wrap ((j : Int) + 1) = ((j + 1 : Nat) : Int) := by rw [IntKind.wrap_i64]; omega
      have hsh : Op.shift .shl .i64 1 .i64 (j : Int) = pure (.int .i64 ((2 ^ j : Nat) : Int)) := by
        obtain rfl | rfl | rfl | rfl | rfl : j = 0 ∨ j = 1 ∨ j = 2 ∨ j = 3 ∨ j = 4 := by omega
        all_goals rfl
      have sl := sumU_lt U j
      have p5 : 2 ^ j ≤ 2 ^ 4 := Nat.pow_le_pow_right (by decide) (by omega)
      have add1 : IntKind.i64.wrap (((sumU U j : Nat) : Int) + ((2 ^ j : Nat) : Int)) = ((sumU U j + 2 ^ j : Nat) : Int) := by rw [IntKind.wrap_i64]; omega
      have S1 : sumU U (j + 1) = sumU U j + if U.testBit j then 2 ^ j else 0 := rfl
      have Bj := B.out j
      rw [Bj] at S1
      have SS := Lib.hid S1
      have HJ := Lib.hid (And.intro hj hj5)
      obtain ⟨P, hP⟩ : ∃ P, 2 ^ j = P := ⟨_, rfl⟩
      rw [hP] at hsh add1 SS
      obtain ⟨sj, hsj⟩ : ∃ sj, sumU U j = sj := ⟨_, rfl⟩
      rw [hsj] at add1 SS ⊢
      clear S1 Bj sl p5 hP hsj hj hj5
      go_wp2_with fail
      go_loopw [3, 5] (fun o i wi => ∃ k : Nat, k ≤ n ∧ i = .int .i64 k ∧ o = .int .i64 (sj : Int) ∧ (xs.take k).any (fun y => y.testBit j) = false ∧ wi = wr) (fun _ i _ => n - (intOf i).toNat)
      case atStart => exact ⟨0, by omega, rfl, rfl, rfl, rfl⟩
      case round =>
        obtain ⟨k, hk, rfl, rfl, hno, rfl⟩ := hrel
        by_cases hlt : k < n
        · obtain ⟨g1, g2, g3, g5', g4⟩ := HX.out
          obtain ⟨a, hao, c0⟩ := g4 k hlt
          subst hao
          have su := any_take_succ (fun y => y.testBit j) (xs := xs) (k := k) (by omega)
          rw [hno, Bool.false_or] at su
          have RB := Lib.hid (ref12_bit (xs.getD k 0) j (getD_lt g5' (by omega)) (by have := HJ.out; omega))
          obtain ⟨y, hy⟩ : ∃ y, xs.getD k 0 = y := ⟨_, rfl⟩
          rw [hy] at c0 su RB
          have gk : decide ((k : Int) < (n : Int)) = true := by simp; omega
          have gk' : decide (k < n) = true := by simp; omega
          have inck : IntKind.i64.wrap ((k : Int) + 1) = ((k + 1 : Nat) : Int) := by rw [IntKind.wrap_i64]; omega
          have HK := Lib.hid hlt
          cases ht : y.testBit j
          · rw [ht] at su RB
            have SU := Lib.hid su
            clear su hno g1 g2 g3 g4 g5' hy ht hk hlt
            go_wp2_with fail
            (with_reducible refine (RB.out _).mono ?_); rintro e w1 ⟨rfl, rfl⟩
            go_wp2_with fail
            go_roundw
            case rel => exact ⟨k + 1, by have := HK.out; omega, by first | trivial | go_num, by first | trivial | rfl, SU.out, by first | trivial | rfl⟩
            case measure => have := HK.out; simp [intOf]; omega
          · rw [ht] at su RB
            have an : xs.any (fun y => y.testBit j) = true := by
              rw [List.any_eq_true] at su ⊢
              obtain ⟨z, hz, hp⟩ := su
              exact ⟨z, List.mem_of_mem_take hz, hp⟩
            have S2 := SS.out
            rw [an, if_pos rfl] at S2
            have SU := Lib.hid S2
            clear su hno g1 g2 g3 g4 g5' hy ht hk hlt an S2
            go_wp2_with fail
            (with_reducible refine (RB.out _).mono ?_); rintro e w1 ⟨rfl, rfl⟩
            go_wp2_with fail
            go_roundw
            case rel => exact ⟨j + 1, by have := HJ.out; omega, by first | trivial | go_num, by rw [SU.out]; simp, by first | trivial | rfl⟩
            case measure => have := HJ.out; simp [intOf]; omega
        · have gk : decide ((k : Int) < (n : Int)) = false := by simp; omega
          have gk' : decide (k < n) = false := by simp; omega
          have hkn : k = xs.length := by have := HX.out.1; omega
          rw [hkn, List.take_length] at hno
          have S2 := SS.out
          rw [hno, if_neg (by decide), Nat.add_zero] at S2
          have SU := Lib.hid S2
          clear hno S2 hkn hlt hk
          go_wp2_with fail
          go_roundw
          case rel => exact ⟨j + 1, by have := HJ.out; omega, by first | trivial | go_num, by rw [SU.out]; simp, by first | trivial | rfl⟩
          case measure => have := HJ.out; simp [intOf]; omega

/-- Whether every one of the first j bits of p is one of s. -/
def subU (s p : Nat) : Nat → Bool
  | 0 => true
  | j + 1 => subU s p j && (!p.testBit j || s.testBit j)
theorem subU_iff (s p : Nat) : ∀ j, subU s p j = true ↔ ∀ i, i < j → p.testBit i = true → s.testBit i = true
  | 0 => ⟨fun _ i hi => by omega, fun _ => rfl⟩
  | j + 1 => by
    unfold subU
    rw [Bool.and_eq_true, subU_iff s p j]
    constructor
    · rintro ⟨h1, h2⟩ i hi hp
      by_cases h : i = j
      · subst h; simpa [hp] using h2
      · exact h1 i (by omega) hp
    · intro h
      refine ⟨fun i hi hp => h i (by omega) hp, ?_⟩
      cases hp : p.testBit j
      · rfl
      · simpa using h j (by omega) hp
theorem has_subU {s p : Nat} (hp : p < 256) : hasN s p = subU s p 8 := by
  rw [Bool.eq_iff_iff, has_iff, subU_iff]
  constructor
  · exact fun h i _ hi => h i hi
  · intro h i hi
    by_cases h8 : i < 8
    · exact h i h8 hi
    · have : p.testBit i = false := Nat.testBit_lt_two_pow (Nat.lt_of_lt_of_le (show p < 2 ^ 8 from hp) (Nat.pow_le_pow_right (by decide) (by omega)))
      rw [this] at hi; cases hi
set_option maxRecDepth 100000 in
set_option maxHeartbeats 4000000 in
theorem ref12_has (s p : Nat) (hs : s < 256) (hp : p < 256) (w : World) :
    Calls Tryd.prog 11 #[.int .u8 s, .int .u8 p] w fun e w' => e = .returned (.bool (hasN s p)) ∧ w' = w := by
  have H8 := Lib.hid (has_subU (s := s) hp)
  obtain ⟨r, hr⟩ : ∃ r, hasN s p = r := ⟨_, rfl⟩
  rw [hr] at H8 ⊢
  have HS := Lib.hid hs; have HP := Lib.hid hp
  clear hr hs hp
  go_enter Tryd.func11, Tryd.ntmps11
  go_wp2_with fail
  go_loopw [5] (fun i wr => ∃ j : Nat, j ≤ 8 ∧ i = .int .i64 j ∧ subU s p j = true ∧ wr = w) (fun i _ => 8 - (intOf i).toNat)
  case atStart => exact ⟨0, by omega, rfl, rfl, rfl⟩
  case round =>
    obtain ⟨j, hj, rfl, hb, rfl⟩ := hrel
    by_cases hj8 : j = 8
    · subst hj8
      have e := H8.out
      rw [hb] at e
      subst e
      go_wp2_with fail
      go_ret
      exact ⟨rfl, rfl⟩
    · have g8 : decide ((j : Int) < 8) = true := by simp; omega
      have inc : IntKind.i64.wrap ((j : Int) + 1) = ((j + 1 : Nat) : Int) := by rw [IntKind.wrap_i64]; omega
      have su : subU s p (j + 1) = (subU s p j && (!p.testBit j || s.testBit j)) := rfl
      have low : subU s p (j + 1) = false → r = false := by
        intro h
        cases hr : r
        · rfl
        · have e := H8.out
          rw [hr] at e
          have := (subU_iff s p (j + 1)).2 fun i hi hp => (subU_iff s p 8).1 e.symm i (by omega) hp
          rw [h] at this; cases this
      rw [hb, Bool.true_and] at su
      have BP := Lib.hid (ref12_bit p j HP.out (by omega))
      have BS := Lib.hid (ref12_bit s j HS.out (by omega))
      have HJ := Lib.hid (And.intro hj hj8)
      have LO := Lib.hid low
      cases hp : p.testBit j
      · rw [hp] at su BP
        have SU := Lib.hid (show subU s p (j + 1) = true from su)
        clear su low hb hp hj hj8
        go_wp2_with fail
        (with_reducible refine (BP.out _).mono ?_); rintro e w1 ⟨rfl, rfl⟩
        go_wp2_with fail
        go_roundw
        case rel => exact ⟨j + 1, by have := HJ.out; omega, by first | trivial | go_num, SU.out, by first | trivial | rfl⟩
        case measure => have := HJ.out; simp [intOf]; omega
      · cases ht : s.testBit j
        · rw [hp, ht] at su
          rw [hp] at BP; rw [ht] at BS
          have rf : r = false := low su
          subst rf
          clear su low hb hp ht hj hj8 LO
          go_wp2_with fail
          (with_reducible refine (BP.out _).mono ?_); rintro e w1 ⟨rfl, rfl⟩
          go_wp2_with fail
          (with_reducible refine (BS.out _).mono ?_); rintro e w1 ⟨rfl, rfl⟩
          go_wp2_with fail
          go_ret
          exact ⟨rfl, rfl⟩
        · rw [hp, ht] at su
          rw [hp] at BP; rw [ht] at BS
          have SU := Lib.hid (show subU s p (j + 1) = true from su)
          clear su low hb hp ht hj hj8
          go_wp2_with fail
          (with_reducible refine (BP.out _).mono ?_); rintro e w1 ⟨rfl, rfl⟩
          go_wp2_with fail
          (with_reducible refine (BS.out _).mono ?_); rintro e w1 ⟨rfl, rfl⟩
          go_wp2_with fail
          go_roundw
          case rel => exact ⟨j + 1, by have := HJ.out; omega, by first | trivial | go_num, SU.out, by first | trivial | rfl⟩
          case measure => have := HJ.out; simp [intOf]; omega

end Go.Proofs.YteobcedcgkfmjaaDoor
