/-
  The document's own numbers, as callers take them: a value that is a number, and what each call makes of it.
-/
import Derived.Test.YtkhcbioohoeegaaDoorNumD
set_option linter.unusedVariables false
set_option maxRecDepth 100000
namespace Go.Proofs.YtkhcbioohoeegaaDoor
open Go.RowKit

/-- The value v is the number n in the world w. -/
def IsNum (w : World) (v : Value) (n : Int) : Prop :=
  ∃ (ao : Option Addr) (k cap : Nat) (ds : List Int), v = .slice ao k cap ∧ Dig w ao k cap ds ∧ num ds = n ∧ Norm ds
theorem IsNum.later {W w1 : World} {v : Value} {n : Int} (x : IsNum W v n) (hb : Below W.heap.size W w1) : IsNum w1 v n := by
  obtain ⟨ao, k, cap, ds, e, h1, h2, h3⟩ := x
  exact ⟨ao, k, cap, ds, e, h1.later hb, h2, h3⟩
theorem IsNum.nonneg {w : World} {v : Value} {n : Int} (x : IsNum w v n) : 0 ≤ n := by
  obtain ⟨ao, k, cap, ds, e, h1, h2, h3⟩ := x
  rw [← h2]; exact num_nonneg h1.2.2.2.1
/-- What a call leaves that returns the number n. -/
def RetNum (w : World) (n : Int) (e : Ending) (w' : World) : Prop := ∃ v, e = .returned v ∧ IsNum w' v n ∧ Below w.heap.size w w'
theorem ret_num {w w' : World} {n : Int} {e : Ending} (h : RetDig w n e w') : RetNum w n e w' := by
  obtain ⟨ao, k, cap, ds, rfl, h1, h2, h3, h4⟩ := h
  exact ⟨_, rfl, ⟨ao, k, cap, ds, rfl, h1, h2, h3⟩, h4⟩
/-- No more than some hundred thousand digits. -/
def Small (n : Int) : Prop := n < bp 100000
theorem small_of {n : Int} {k : Nat} (h : n < bp k) (hk : k ≤ 100000) : Small n := by
  have := bp_le hk; unfold Small; omega
theorem full_bp : full = bp 4 := rfl
theorem small_full {n : Int} (h : n ≤ full) : Small n := small_of (k := 5) (by have h1 : bp 5 = 1461501637330902918203684832716283019655932542976 := rfl; rw [h1]; unfold full at h; omega) (by omega)
theorem dig_small {w : World} {ao : Option Addr} {k cap : Nat} {ds : List Int} (h : Dig w ao k cap ds) (hn : Norm ds) (hs : Small (num ds)) : k ≤ 100000 := by
  have := norm_len h.2.2.2.1 hn hs
  have := h.1
  omega

theorem big_num (h l : Int) (uh : U64 h) (ul : U64 l) (w : World) :
    Calls Tryd.prog 10 #[.agg #[.int .u64 h, .int .u64 l]] w (RetNum w (val h l)) := (big_any h l uh ul w).mono fun _ _ h => ret_num h
theorem bits_num2 {w : World} {v : Value} {n : Int} (x : IsNum w v n) :
    Calls Tryd.prog 15 #[v] w fun e w' => e = .returned (.agg #[.int .u64 (hiOf n), .int .u64 (loOf n)]) ∧ Below w.heap.size w w' := by
  obtain ⟨ao, k, cap, ds, rfl, h1, rfl, h3⟩ := x
  exact bits_any h1
theorem shl_num {w : World} {v : Value} {n : Int} (x : IsNum w v n) (hn : Small n) (N : Nat) (hN : N < 3200000) :
    Calls Tryd.prog 39 #[v, .int .i64 N] w (RetNum w (n * 2 ^ N)) := by
  obtain ⟨ao, k, cap, ds, rfl, h1, rfl, h3⟩ := x
  have := dig_small h1 h3 hn
  exact (shl_ref h1 (by omega) N (N / 32) (N % 32) (by omega) (by omega) (by omega)).mono fun _ _ h => ret_num h

end Go.Proofs.YtkhcbioohoeegaaDoor
