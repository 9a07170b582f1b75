import Derived.Test.YtjdjonekoodalaaGreatDoorMult23
import Derived.Test.YtjdjonekoodalaaGreatDoorRem23K
import Derived.Test.YtjdjonekoodalaaGreatDoorRem23F
set_option maxHeartbeats 1000000
set_option linter.unusedVariables false
set_option linter.unusedSimpArgs false
set_option maxRecDepth 100000
namespace Go.Proofs.YtjdjonekoodalaaGreatDoor
open Go.RowKit
attribute [local go_sem ↓] Go.wp_at_zero Go.wp_at_succ
def Inv23 (f b A F : Int) : Prop := 0 ≤ A ∧ A < full ∧ 0 ≤ F ∧ F ≤ 255 ∧ (F = 0 → clsF f A ≤ 2 ∧ vF f b ∣ vF f A)
theorem or_u8 {x y : Int} (x0 : 0 ≤ x) (x1 : x ≤ 255) (y0 : 0 ≤ y) (y1 : y ≤ 255) : 0 ≤ bits .or .u8 x y ∧ bits .or .u8 x y ≤ 255 ∧ (bits .or .u8 x y = 0 → x = 0 ∧ y = 0) := by
  have e : bits .or .u8 x y = IntKind.u8.wrap (((BitVec.ofInt 8 x ||| BitVec.ofInt 8 y).toNat : Nat) : Int) := rfl
  have hx : (x % ((2 ^ 8 : Nat) : Int)).toNat = x.toNat := by rw [Int.emod_eq_of_lt x0 (by omega)]
  have hy : (y % ((2 ^ 8 : Nat) : Int)).toNat = y.toNat := by rw [Int.emod_eq_of_lt y0 (by omega)]
  rw [e, BitVec.toNat_or, BitVec.toNat_ofInt, BitVec.toNat_ofInt, IntKind.wrap_u8, hx, hy]
  have lt : x.toNat ||| y.toNat < 2 ^ 8 := Nat.or_lt_two_pow (by omega) (by omega)
  have l1 : x.toNat ≤ x.toNat ||| y.toNat := Nat.left_le_or
  have l2 : y.toNat ≤ x.toNat ||| y.toNat := Nat.right_le_or
  generalize x.toNat ||| y.toNat = z at *
  refine ⟨by omega, by omega, fun k => by omega⟩
theorem mult23_law_n (C : FormOK) (D : ClassOK) (P : MulOK) (S : AddOK) (A : RemOK) (f nu b : Int) (b0 : 0 ≤ b) (b1 : b < full) (uf : 0 ≤ f ∧ f ≤ 255) (un : 0 ≤ nu ∧ nu ≤ 65535) (w : World) (ft : FTab w) : Calls Tryz.prog 6 #[.int .u8 f, .agg #[.int .u64 (hiOf (b)), .int .u64 (loOf (b))], .int .u16 nu] w fun e w' => e = .returned (.bool true) ∧ Below w.heap.size w w' := by
  have G := lH (goes23_any A)
  have K := C.known f uf.1 uf.2
  have OB := D.of f b uf.1 uf.2
  rw [Int.emod_eq_of_lt b0 b1] at OB
  by_cases hf : f < 4
  · rw [decide_eq_true hf] at K
    by_cases cb : clsF f b = 1 ∨ clsF f b = 2
    · have NO := C.nought f false uf.1 uf.2
      have EM := C.emax f uf.1 uf.2
      have er := fE_le f
      have MK := C.make f false (fE f) 0 uf.1 uf.2 (by omega) (by omega)
      rw [show (0 : Int) % full = 0 by decide, show hiOf 0 = 0 by decide, show loOf 0 = 0 by decide, show makeF f false (fE f) 0 = p2F f 0 by unfold p2F; simp] at MK
      obtain ⟨J, hJ⟩ : ∃ J : Nat, (J : Int) = 1099511628031 := ⟨1099511628031, rfl⟩
      have AD : ∀ j : Nat, j < 11 → ∃ g : Int, ∀ w, FTab w → Calls Tryz.prog 18 #[.int .u8 f, .agg #[.int .u8 0, .bool false], .agg #[.int .u64 (hiOf (p2F f j)), .int .u64 (loOf (p2F f j))], .agg #[.int .u64 (hiOf (p2F f j)), .int .u64 (loOf (p2F f j))]] w fun e w' => e = .returned (.agg #[.int .u64 (hiOf (p2F f (j + 1))), .int .u64 (loOf (p2F f (j + 1))), .int .u8 g]) ∧ Below w.heap.size w w' := fun j hj => by
        obtain ⟨p1, _, _⟩ := p2_is uf.1 hf J hJ j (by omega)
        have h := S.add f 0 false _ _ uf.1 uf.2 (by decide) (by decide) p1.1 p1.2.1 p1.1 p1.2.1
        rw [p1.2.2.2.1, (p2_twice uf.1 hf j (by omega)).1] at h
        exact ⟨_, h⟩
      have MU : ∀ j : Nat, j < 11 → ∀ w, FTab w → Calls Tryz.prog 27 #[.int .u8 f, .agg #[.int .u8 0, .bool false], .agg #[.int .u64 (hiOf (p2F f j)), .int .u64 (loOf (p2F f j))], .agg #[.int .u64 (hiOf (b)), .int .u64 (loOf (b))]] w fun e w' => e = .returned (.agg #[.int .u64 (hiOf (mlB f 0 (p2F f j) b)), .int .u64 (loOf (mlB f 0 (p2F f j) b)), .int .u8 (mlFl f 0 false (p2F f j) b)]) ∧ Below w.heap.size w w' := fun j hj => by
        obtain ⟨p1, _, _⟩ := p2_is uf.1 hf J hJ j (by omega)
        exact P.mul f 0 false _ _ uf.1 uf.2 (by decide) (by decide) p1.1 p1.2.1 b0 b1
      have SU : ∀ (A F : Int) (j : Nat), Inv23 f b A F → j < 11 → ∃ A' F' : Int, (∀ w, FTab w → Calls Tryz.prog 18 #[.int .u8 f, .agg #[.int .u8 0, .bool false], .agg #[.int .u64 (hiOf (A)), .int .u64 (loOf (A))], .agg #[.int .u64 (hiOf (mlB f 0 (p2F f j) b)), .int .u64 (loOf (mlB f 0 (p2F f j) b))]] w fun e w' => e = .returned (.agg #[.int .u64 (hiOf (A')), .int .u64 (loOf (A')), .int .u8 (F')]) ∧ Below w.heap.size w w') ∧ Inv23 f b A' (bits .or .u8 (bits .or .u8 F (mlFl f 0 false (p2F f j) b)) F') := fun A F j iv hj => by
        obtain ⟨A0, A1, F0, F1, iv⟩ := iv
        obtain ⟨p1, pc, pv⟩ := p2_is uf.1 hf J hJ j (by omega)
        obtain ⟨m0, m1⟩ := ml_fullA (m := 0) uf.1 hf (by decide) p1.1 p1.2.1 b0 b1
        have h := S.add f 0 false _ _ uf.1 uf.2 (by decide) (by decide) A0 A1 m0 m1
        obtain ⟨s0, s1⟩ := ad_full23 (m := 0) (s := negF f (mlB f 0 (p2F f j) b)) uf.1 hf (by decide) A0 m0
        have fm := ml_flags23 f 0 false (p2F f j) b
        have fa := ad_flags23 f 0 false A (mlB f 0 (p2F f j) b) (negF f (mlB f 0 (p2F f j) b))
        obtain ⟨o0, o1, o2⟩ := or_u8 F0 F1 fm.1 fm.2
        obtain ⟨q0, q1, q2⟩ := or_u8 o0 o1 fa.1 fa.2
        refine ⟨_, _, h, s0, s1, q0, q1, fun k => ?_⟩
        obtain ⟨k1, k2⟩ := q2 k
        obtain ⟨k3, k4⟩ := o2 k1
        obtain ⟨c1, v1⟩ := iv k3
        obtain ⟨_, _, c2, v2⟩ := rm_prod (m := 0) uf.1 hf (by decide) p1 pc b0 b1 cb J hJ j pv k4 _ rfl
        obtain ⟨_, _, c3, v3⟩ := rm_sum (m := 0) uf.1 hf (by decide) A0 A1 m0 m1 c1 c2 _ k2 _ rfl
        exact ⟨c3, v3 _ v1 v2⟩
      have LB : ∀ K : Nat, 0 < K → K ≤ 2000 → ∃ (j M : Nat), j < 11 ∧ M = 2 ^ j ∧ bits .and .i64 (K : Int) (-(K : Int)) = (M : Int) ∧ M ≤ K ∧ 0 < M := fun K k0 k1 => by
        obtain ⟨j, h1, h2⟩ := low_bit ⟨K, by omega⟩ (by simp; omega)
        refine ⟨j.val, 2 ^ j.val, j.isLt, rfl, ?_, ?_, Nat.two_pow_pos _⟩
        · simpa using h1
        · have h2' : ((2 ^ j.val : Nat) : Int) ≤ (K : Int) := by simpa using h2
          omega
      have FI : ∀ X, Inv23 f b X 0 → ∃ (c : Int) (s : Bool) (Z : Int), (∀ w, FTab w → Calls Tryz.prog 14 #[.int .u8 f, .agg #[.int .u64 (hiOf (X)), .int .u64 (loOf (X))]] w fun e w' => e = .returned (.tuple #[.int .u8 c, .bool s]) ∧ Below w.heap.size w w') ∧ (∀ w, FTab w → Calls Tryz.prog 12 #[.int .u8 f, .agg #[.int .u64 (hiOf (X)), .int .u64 (loOf (X))], .agg #[.int .u64 (hiOf (b)), .int .u64 (loOf (b))]] w fun e w' => e = .returned (.agg #[.int .u64 (hiOf (Z)), .int .u64 (loOf (Z)), .int .u8 (0)]) ∧ Below w.heap.size w w') ∧ (∀ w, FTab w → Calls Tryz.prog 24 #[.int .u8 f, .bool s] w fun e w' => e = .returned (.agg #[.int .u64 (hiOf (Z)), .int .u64 (loOf (Z))]) ∧ Below w.heap.size w w') := fun X iv => by
        obtain ⟨A0, A1, _, _, iv⟩ := iv
        obtain ⟨c1, v1⟩ := iv rfl
        obtain ⟨q, hq⟩ := v1
        have h1 := D.of f X uf.1 uf.2
        rw [Int.emod_eq_of_lt A0 A1] at h1
        have h2 := A.rem f X b uf.1 uf.2 A0 A1 b0 b1
        obtain ⟨e1, e2⟩ := rm_multiple (K := q) uf.1 hf A0 A1 b0 b1 c1 cb (by rw [hq, Int.mul_comm])
        rw [e1, e2] at h2
        exact ⟨_, _, _, h1, h2, C.nought f (negF f X) uf.1 uf.2⟩
      have I0 : Inv23 f b (makeF f false 0 0) 0 := by
        obtain ⟨g0, g1⟩ := make_full uf.1 (f := f) false 0 0
        obtain ⟨k, n⟩ := nought_cls uf.1 hf false
        refine ⟨g0, g1, by decide, by decide, fun _ => ⟨by omega, ?_⟩⟩
        rw [(vF_zero uf.1 hf g0 (by omega)).2 k]
        exact Int.dvd_zero _
      have t0 : nu.tmod 2000 = nu % 2000 := Int.tmod_eq_emod_of_nonneg un.1
      obtain ⟨K0, hK⟩ : ∃ K0 : Nat, (K0 : Int) = 1 + nu % 2000 := ⟨(1 + nu % 2000).toNat, by omega⟩
      rcases cb with c | c
      · exact mult23_sub f _ _ _ _ nu (nu % 2000) _ _ K0 (fun j => hiOf (p2F f j)) (fun j => loOf (p2F f j)) (fun j => hiOf (mlB f 0 (p2F f j) b)) (fun j => loOf (mlB f 0 (p2F f j) b)) (fun j => mlFl f 0 false (p2F f j) b) (Inv23 f b)
          (lH OB) (lH K) (lH NO) (lH EM) (lH MK) (lH AD) (lH MU) (lH SU) (lH LB) (lH FI) G (lH I0) (by rw [c]; rfl) (IntWalk.i64_in _ (by omega)) t0 (IntWalk.i64_in _ (by omega)) (by unfold wrap64; omega) ((IntWalk.i64_in _ (by omega)).trans hK.symm) (by unfold wrap64; omega) (lH (by omega)) w ft
      · exact mult23_nor f _ _ _ _ nu (nu % 2000) _ _ K0 (fun j => hiOf (p2F f j)) (fun j => loOf (p2F f j)) (fun j => hiOf (mlB f 0 (p2F f j) b)) (fun j => loOf (mlB f 0 (p2F f j) b)) (fun j => mlFl f 0 false (p2F f j) b) (Inv23 f b)
          (lH OB) (lH K) (lH NO) (lH EM) (lH MK) (lH AD) (lH MU) (lH SU) (lH LB) (lH FI) G (lH I0) (by rw [c]; rfl) (by rw [c]; rfl) (IntWalk.i64_in _ (by omega)) t0 (IntWalk.i64_in _ (by omega)) (by unfold wrap64; omega) ((IntWalk.i64_in _ (by omega)).trans hK.symm) (by unfold wrap64; omega) (lH (by omega)) w ft
    · exact mult23_no2 f _ _ _ nu _ (lH OB) (lH K) G (bne_iff_ne.2 (by omega)) (bne_iff_ne.2 (by omega)) w ft
  · rw [decide_eq_false hf] at K
    exact mult23_no1 f _ _ _ nu _ (lH OB) (lH K) G w ft
theorem mult23_law (C : FormOK) (D : ClassOK) (P : MulOK) (S : AddOK) (A : RemOK) (f : Int) (bh bl nu : Int) (uf : 0 ≤ f ∧ f ≤ 255) (ubh : U64 bh) (ubl : U64 bl) (un : 0 ≤ nu ∧ nu ≤ 65535) (w : World) (ft : FTab w) : Calls Tryz.prog 6 #[.int .u8 f, .agg #[.int .u64 bh, .int .u64 bl], .int .u16 nu] w fun e w' => e = .returned (.bool true) ∧ Below w.heap.size w w' := by
  have hvb := val_range ubh ubl
  have h := mult23_law_n C D P S A f nu (val bh bl) hvb.1 hvb.2 uf un w ft
  rw [(hl_val ubh ubl).1, (hl_val ubh ubl).2] at h
  exact h
end Go.Proofs.YtjdjonekoodalaaGreatDoor
