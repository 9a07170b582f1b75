/-
  What the document asks of package nan; what is picked, by cases.
-/
import Derived.Test.YtfcffmihhpcjjaaDoorMath10
set_option linter.unusedVariables false
set_option linter.unusedSimpArgs false
set_option maxRecDepth 100000
namespace Go.Proofs.YtfcffmihhpcjjaaDoor
open Go.RowKit
attribute [local go_sem ↓] Go.wp_at_zero Go.wp_at_succ

/-- What the document asks of package nan. -/
structure NanOK : Prop where
  quiet : ∀ f b, 0 ≤ f → f ≤ 255 → ∀ w, FTab w → Calls Tryd.prog 9 #[.int .u8 f, .agg #[.int .u64 (hiOf (b)), .int .u64 (loOf (b))]] w fun e w' => e = .returned (.agg #[.int .u64 (hiOf (quietF f (b % full))), .int .u64 (loOf (quietF f (b % full)))]) ∧ Below w.heap.size w w'
  dflt : ∀ f, 0 ≤ f → f ≤ 255 → ∀ w, FTab w → Calls Tryd.prog 11 #[.int .u8 f] w fun e w' => e = .returned (.agg #[.int .u64 (hiOf (defF f)), .int .u64 (loOf (defF f))]) ∧ Below w.heap.size w w'
  pick : ∀ f inv ao n cap xs, 0 ≤ f → f ≤ 255 → ∀ w, FTab w → Bs w ao n cap xs → Calls Tryd.prog 14 #[.int .u8 f, .bool inv, .slice ao n cap] w fun e w' => e = .returned (.tuple #[.agg #[.int .u64 (hiOf (pickV f inv xs)), .int .u64 (loOf (pickV f inv xs)), .int .u8 (pickF f inv xs)], .bool (pickK f inv xs)]) ∧ Below w.heap.size w w'

theorem stay_fields {f b : Int} (h0 : 0 ≤ f) (hb : 0 ≤ b) :
    negF f (quietF f b) = negF f b ∧ expF f (quietF f b) = expF f b ∧ fracF f (quietF f b) = fracF f b + (if sigF f b then 2 ^ (fP f - 2) else 0) := by
  by_cases h4 : f < 4
  · exact quiet_fields h0 h4 hb
  · have h' : sigF f b = false := by unfold sigF; rw [cls_no h4]; rfl
    rw [h', if_neg (by decide)]
    unfold negF expF fracF
    simp [h4]
theorem quiet_low {f b : Int} (h0 : 0 ≤ f) (hb : 0 ≤ b) (hf : b < full) : quietF f b % full = quietF f b := Int.emod_eq_of_lt (quiet_full h0 hb hf).1 (quiet_full h0 hb hf).2
theorem first_low {f : Int} (h0 : 0 ≤ f) (xs : List Int) : firstV f xs % full = firstV f xs := Int.emod_eq_of_lt (first_full h0 xs).1 (first_full h0 xs).2
theorem frac_low {f b : Int} (h0 : 0 ≤ f) : 0 ≤ fracF f b ∧ fracF f b < full := by
  by_cases h4 : f < 4
  · obtain ⟨p0, p1, p2, _⟩ := f_nums h0 h4
    obtain ⟨r0, r1⟩ := frac_range (b := b) h0 h4
    have e1 : (2 : Int) ^ (fP f - 1) ≤ 2 ^ fW f := two_pow_le (by omega)
    have := fW_full f
    omega
  · unfold fracF; rw [if_neg h4]; unfold full; omega
/-- What is picked, by cases. -/
theorem pick_no {f : Int} (h : ¬ f < 4) (inv : Bool) (xs : List Int) : pickV f inv xs = 0 ∧ pickF f inv xs = 0 ∧ pickK f inv xs = false := by
  have k : pickK f inv xs = false := by unfold pickK; simp [h]
  unfold pickV pickF; rw [k]; exact ⟨rfl, rfl, rfl⟩
theorem pick_none {f : Int} (xs : List Int) (hn : anyN f xs = false) : pickV f false xs = 0 ∧ pickF f false xs = 0 ∧ pickK f false xs = false := by
  have k : pickK f false xs = false := by unfold pickK; simp [hn]
  unfold pickV pickF; rw [k]; exact ⟨rfl, rfl, rfl⟩
theorem pick_inv {f : Int} (h : f < 4) (xs : List Int) : pickV f true xs = firstV f xs ∧ pickF f true xs = 1 ∧ pickK f true xs = true := by
  have k : pickK f true xs = true := by unfold pickK; simp [h]
  unfold pickV pickF; rw [k]; exact ⟨rfl, rfl, rfl⟩
theorem pick_nan {f : Int} (h : f < 4) (xs : List Int) (hn : anyN f xs = true) : pickV f false xs = firstV f xs ∧ pickF f false xs = (if anyS f xs then 1 else 0) ∧ pickK f false xs = true := by
  have k : pickK f false xs = true := by unfold pickK; simp [h, hn]
  unfold pickV pickF; rw [k]; exact ⟨rfl, by simp, rfl⟩


end Go.Proofs.YtfcffmihhpcjjaaDoor
