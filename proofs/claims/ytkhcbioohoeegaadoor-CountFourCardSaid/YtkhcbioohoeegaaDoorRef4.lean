/-
  Contracts of the document's answers of stage 4: Raise and Tail of numbers of any size.
-/
import Derived.Test.YtkhcbioohoeegaaDoorNumN
import Derived.Test.YtkhcbioohoeegaaDoorNumG
import Derived.Test.YtkhcbioohoeegaaDoorCountM
set_option linter.unusedVariables false
set_option maxRecDepth 100000
namespace Go.Proofs.YtkhcbioohoeegaaDoor
open Go.RowKit
attribute [local go_sem ↓] Go.wp_at_zero Go.wp_at_succ

theorem num_len {w : World} {v : Value} {x : Int} (nx : IsNum w v x) : ∃ ao k cap, v = .slice ao k cap ∧ (k = 0 ↔ x = 0) := by
  obtain ⟨ao, k, cap, ds, rfl, h1, rfl, h3⟩ := nx
  exact ⟨ao, k, cap, rfl, zero_len h1 h3⟩
theorem ref4_raise {w : World} {v : Value} {x : Int} (nx : IsNum w v x) (hs : Small x) (B : Nat) (hB : blen x ≤ B) (hB2 : B ≤ 1000) :
    Calls Tryd.prog 12 #[v, .int .i64 B] w fun e w' => ∃ v', e = .returned (.tuple #[v', .int .i64 ((upN B x : Nat) : Int)]) ∧ IsNum w' v' (x * 2 ^ upN B x) ∧ Below w.heap.size w w' := by
  obtain ⟨ao, k, cap, rfl, hk⟩ := num_len nx
  by_cases h0 : x = 0
  · have hk0 := hk.2 h0
    subst hk0 h0
    rw [up_zero]
    have NX := Lib.hid nx
    clear nx hs hB hB2 hk
    go_enter Tryd.func12, Tryd.ntmps12
    go_wp2
    go_ret2
    exact ⟨_, rfl, NX.out, Below.refl _ _⟩
  · have hk0 : (decide (k = 0)) = false := by simp; intro h; exact h0 (hk.1 h)
    have hk1 : ¬ k = 0 := fun h => h0 (hk.1 h)
    have e : upN B x = B - blen x := by unfold upN; rw [if_neg h0]
    have H := Lib.hid hs
    have L := Lib.hid (fun w (nx : IsNum w (.slice ao k cap) x) => lenN nx)
    have SH := Lib.hid (fun w (nx : IsNum w (.slice ao k cap) x) => shl_num nx hs (B - blen x) (by omega))
    rw [e]
    obtain ⟨u, hu⟩ : ∃ u, B - blen x = u := ⟨_, rfl⟩
    have hw : IntKind.i64.wrap ((B : Int) - (blen x : Int)) = (u : Int) := by rw [IntWalk.i64_in _ (by omega)]; omega
    rw [hu] at SH ⊢
    generalize blen x = b at *
    clear hu e hB hB2 hs hk
    go_enter Tryd.func12, Tryd.ntmps12
    go_wp2_with fail
    (with_reducible refine (L.out _ nx).mono ?_); rintro e w1 ⟨rfl, hb⟩
    replace nx := nx.later hb
    clear L
    go_wp2_with fail
    (with_reducible refine (SH.out _ nx).mono ?_); rintro e w2 ⟨v2, rfl, nv, hb2⟩
    go_wp2_with fail
    go_ret2
    exact ⟨_, rfl, nv, bC hb hb2⟩

theorem bitN_at (x : Int) (i : Nat) : bitN x (i : Int) = decide (x / 2 ^ i % 2 = 1) := by
  unfold bitN; rw [Bool.eq_iff_iff]; simp
theorem ref4_tail {w : World} {v : Value} {x : Int} (nx : IsNum w v x) (hx : x < wfull) :
    Calls Tryd.prog 21 #[v, .int .i64 256] w fun e w' => e = .returned (.int .i64 ((tailN x : Nat) : Int)) ∧ Below w.heap.size w w' := by
  have h0 := nx.nonneg
  have HX := Lib.hid hx
  have H0 := Lib.hid h0
  clear hx h0
  obtain ⟨t, ht⟩ : ∃ t, tailN x = t := ⟨_, rfl⟩
  rw [ht]
  have HT := Lib.hid ht
  clear ht
  go_enter Tryd.func21, Tryd.ntmps21
  go_wp2_with fail
  go_loopw [5] (fun i wr => ∃ k : Nat, k ≤ 256 ∧ i = .int .i64 k ∧ Hid (x % 2 ^ k = 0) ∧ IsNum wr v x ∧ Below w.heap.size w wr) (fun i _ => 256 - (intOf i).toNat)
  case atStart => exact ⟨0, by omega, rfl, Lib.hid (by rw [Int.pow_zero]; omega), nx, Below.refl _ _⟩
  case round =>
    obtain ⟨k, hk, rfl, hm, nr, kk⟩ := hrel
    clear nx
    by_cases hk2 : k = 256
    · subst hk2
      have e : tailN x = 256 := by
        have h := hm.out
        rw [Int.emod_eq_of_lt H0.out (by rw [show (2 : Int) ^ 256 = wfull from by decide +kernel]; exact HX.out)] at h
        rw [h, tail_zero]
      have HE := Lib.hid (HT.out.symm.trans e)
      clear hm HX H0 e HT
      go_wp2_with fail
      go_ret
      exact ⟨by rw [HE.out]; rfl, kk⟩
    · have hlt : (k : Int) < 256 := by omega
      have BN := Lib.hid (bit_num nr (k : Int) (by omega) (by omega))
      rw [bitN_at] at BN
      by_cases hb : x / 2 ^ k % 2 = 1
      · have e : tailN x = k := by
          refine tail_of ?_ HX.out hm.out hb
          rcases Int.lt_or_eq_of_le H0.out with g | g
          · exact g
          · rw [← g] at hb; simp at hb
        rw [show decide (x / 2 ^ k % 2 = 1) = true by simp [hb]] at BN
        have HE := Lib.hid (HT.out.symm.trans e)
        clear hm HX H0 e hb nr HT
        go_wp2_with fail
        (with_reducible refine (BN.out).mono ?_); rintro e w1 ⟨rfl, hb⟩
        replace kk := bC kk hb
        clear hb BN
        go_wp2_with fail
        go_ret
        exact ⟨by rw [HE.out]; rfl, kk⟩
      · have hm2 : Hid (x % 2 ^ (k + 1) = 0) := Lib.hid (by rw [lost_split, Int.pow_one]; exact ⟨hm.out, by omega⟩)
        rw [show decide (x / 2 ^ k % 2 = 1) = false by simp [hb]] at BN
        have hn : IntKind.i64.wrap ((k : Int) + 1) = ((k + 1 : Nat) : Int) := by rw [IntWalk.i64_in _ (by omega)]; omega
        clear hm HX H0 hb
        go_wp2_with fail
        (with_reducible refine (BN.out).mono ?_); rintro e w1 ⟨rfl, hb⟩
        replace kk := bC kk hb
        replace nr := nr.later hb
        clear BN hb
        go_wp2_with fail
        go_roundw
        case rel => exact ⟨k + 1, by omega, rfl, hm2, nr, kk⟩
        case measure => simp [intOf]; omega

end Go.Proofs.YtkhcbioohoeegaaDoor
