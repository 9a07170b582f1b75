import Derived.Test.YtdcdbcccchadfaaGreatDoorGnA
import Derived.Test.YtdcdbcccchadfaaGreatDoorGaA
import Derived.Test.YtdcdbcccchadfaaGreatDoorGaB
set_option maxHeartbeats 1000000
set_option linter.unusedVariables false
set_option linter.unusedSimpArgs false
namespace Go.Proofs.YtdcdbcccchadfaaGreatDoor
open Go.RowKit
def NumAway (w : World) (v : Value) (n : Int) (g : Nat) : Prop :=
  ∃ (ao : Option Addr) (k cap : Nat) (ds : List Int), v = .slice ao k cap ∧ Dig w ao k cap ds ∧ num ds = n ∧ Norm ds ∧ ∀ o, ao ≠ some ⟨g, o, none⟩
theorem NumAway.later {W w1 : World} {v : Value} {n : Int} {g : Nat} (x : NumAway W v n g) (hb : Below W.heap.size W w1) : NumAway w1 v n g := by
  obtain ⟨ao, k, cap, ds, e, h1, h2, h3, h4⟩ := x
  exact ⟨ao, k, cap, ds, e, h1.later hb, h2, h3, h4⟩
theorem NumAway.set {w : World} {v : Value} {n : Int} {g : Nat} (x : NumAway w v n g) (q : Nat) (u : Value) : IsNum (w.setCell ⟨g, q, none⟩ u) v n := by
  obtain ⟨ao, k, cap, ds, e, ⟨h1, h2, h3, h4, h5⟩, h6, h7, h8⟩ := x
  refine ⟨ao, k, cap, ds, e, ⟨h1, h2, h3, h4, fun hk => ?_⟩, h6, h7⟩
  obtain ⟨g', hao, hlt, hc⟩ := h5 hk
  refine ⟨g', hao, by simpa using hlt, fun j hj => ?_⟩
  have hne : g ≠ g' := fun h => h8 0 (by rw [hao, h])
  exact (World.cell?_setCell_far _ _ _ _ hne).trans (hc j hj)
def DivKeep (w : World) (va vd : Value) (a d : Int) (g n : Nat) (os : List Int) (wr : World) : Prop :=
  IsNum wr va a ∧ IsNum wr vd d ∧ Own wr w.heap.size (.slice (some ⟨g, 0, none⟩) n n) os ∧ Below w.heap.size w wr
theorem DivKeep.later {w : World} {va vd : Value} {a d : Int} {g n : Nat} {os : List Int} {W w1 : World} (x : DivKeep w va vd a d g n os W) (hb : Below W.heap.size W w1) : DivKeep w va vd a d g n os w1 :=
  ⟨x.1.later hb, x.2.1.later hb, x.2.2.1.later hb, bC x.2.2.2 hb⟩
end Go.Proofs.YtdcdbcccchadfaaGreatDoor
namespace Go.Proofs.YtdcdbcccchadfaaGreatDoor
open Go.RowKit
theorem wfull_pow : (2 : Int) ^ 256 = wfull := by decide +kernel
theorem full_pow : (2 : Int) ^ 128 = full := by decide +kernel
theorem bigN (n : Int) (w : World) : Calls Tryz.prog 180 #[.agg #[.int .u64 (hiOf n), .int .u64 (loOf n)]] w (RetNum w (n % full)) := by
  have h := big_num _ _ (hiOf_u n) (loOf_u n) w
  rw [val_hiLo_mod] at h; exact h
theorem lenN {w : World} {v : Value} {n : Int} (x : IsNum w v n) :
    Calls Tryz.prog 145 #[v] w fun e w' => e = .returned (.int .i64 (blen n)) ∧ Below w.heap.size w w' :=
  (len_num x).mono fun e w' ⟨he, hw⟩ => ⟨he, hw ▸ bR⟩
theorem fullN (N : Nat) (hN : N < 3200000) (w : World) : Calls Tryz.prog 85 #[.int .i64 N] w (RetNum w (2 ^ N)) := by
  have P := lH (Int.one_mul (2 ^ N))
  have HN := lH hN
  clear hN
  have SM : Small 1 := small_of (k := 1) (by decide) (by omega)
  have S1 := lH SM
  clear SM
  go_enter Tryz.func85, Tryz.ntmps85
  go_wp2_with fail
  (with_reducible refine (of_num 1 u1 _).mono ?_); rintro e w1 ⟨v, rfl, nv, hb⟩
  have sh := shl_num nv S1.out N HN.out
  rw [P.out] at sh
  have SH := lH sh; have HB := lH hb
  clear sh nv hb P S1 HN
  go_wp2_with fail
  (with_reducible refine SH.out.mono ?_); rintro e w2 ⟨v2, rfl, nv2, hb2⟩
  have NV := lH nv2
  have HC := lH (bC HB.out hb2)
  clear SH HB hb2 nv2
  go_wp2_with fail
  go_ret
  exact ⟨_, rfl, NV.out, HC.out⟩
theorem pow2_le {i j : Nat} (h : i ≤ j) : (2 : Int) ^ i ≤ 2 ^ j := by
  have h1 := Nat.pow_le_pow_right (n := 2) (by decide) h
  exact_mod_cast h1
theorem blen_gt {n : Int} (h : 0 ≤ n) (k : Nat) : decide ((k : Int) < (blen n : Int)) = decide (2 ^ k ≤ n) := by
  rw [decide_eq_decide]
  by_cases h0 : n = 0
  · subst h0
    rw [blen_zero]
    have : (0 : Int) < 2 ^ k := Int.pow_pos (by decide)
    constructor
    · intro h; omega
    · intro h; omega
  · obtain ⟨j, e, h1, h2⟩ := blen_bounds (show 0 < n by omega)
    rw [e]
    constructor
    · intro h
      have : (2 : Int) ^ k ≤ 2 ^ j := pow2_le (by omega)
      omega
    · intro h
      rcases Nat.lt_or_ge k (j + 1) with g | g
      · omega
      · exfalso
        have : (2 : Int) ^ (j + 1) ≤ 2 ^ k := pow2_le g
        omega
end Go.Proofs.YtdcdbcccchadfaaGreatDoor
