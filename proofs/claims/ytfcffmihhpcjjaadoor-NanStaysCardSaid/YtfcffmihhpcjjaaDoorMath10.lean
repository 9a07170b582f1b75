/-
  NaNs made quiet, and which is picked: by definition, over numbers; plain arithmetic.
-/
import Derived.Test.YtfcffmihhpcjjaaDoorFld9P
import Derived.Test.YtfcffmihhpcjjaaDoorAny8
set_option linter.unusedVariables false
set_option linter.unusedSimpArgs false
set_option maxRecDepth 100000
namespace Go.Proofs.YtfcffmihhpcjjaaDoor
open Go.RowKit

def defF (f : Int) : Int := makeF f false (2 * fE f + 1) (2 ^ (fP f - 2))
def quietF (f b : Int) : Int := cutF f b + (if sigF f b then 2 ^ (fP f - 2) else 0)
def anyN (f : Int) (xs : List Int) : Bool := xs.any fun b => nanF f (b % full)
def anyS (f : Int) (xs : List Int) : Bool := xs.any fun b => sigF f (b % full)
/-- The first NaN, made quiet; the default one if there is none. -/
def firstV (f : Int) (xs : List Int) : Int := match xs.find? (fun b => nanF f (b % full)) with
  | some b => quietF f (b % full)
  | none => defF f
def pickK (f : Int) (inv : Bool) (xs : List Int) : Bool := decide (f < 4) && (inv || anyN f xs)
def pickV (f : Int) (inv : Bool) (xs : List Int) : Int := if pickK f inv xs then firstV f xs else 0
def pickF (f : Int) (inv : Bool) (xs : List Int) : Int := if pickK f inv xs && (inv || anyS f xs) then 1 else 0

theorem sig_parts {f b : Int} (h : sigF f b = true) : f < 4 ∧ expF f b = 2 * fE f + 1 ∧ fracF f b ≠ 0 ∧ fracF f b < 2 ^ (fP f - 2) := by
  unfold sigF at h
  have c : clsF f b = 5 := by simpa using h
  have h4 : f < 4 := by
    rcases Int.lt_or_le f 4 with h | h
    · exact h
    · exfalso; have := cls_no (show ¬ f < 4 by omega) b; omega
  unfold clsF at c
  rw [if_pos h4] at c
  split at c
  · split at c <;> omega
  · split at c
    · split at c
      · omega
      · split at c
        · omega
        · rename_i a1 a2 a3 a4; exact ⟨h4, a2, a3, by omega⟩
    · omega
theorem sig_nan {f b : Int} (h : sigF f b = true) : nanF f b = true := by
  unfold sigF at h; unfold nanF
  have : clsF f b = 5 := by simpa using h
  simp [this]
theorem nan_known {f b : Int} (h : nanF f b = true) : f < 4 := by
  rcases Int.lt_or_le f 4 with h' | h'
  · exact h'
  · exfalso; unfold nanF at h; rw [cls_no (show ¬ f < 4 by omega) b] at h; simp at h
/-- A signaling NaN made quiet, by its fields. -/
theorem quiet_sig {f b : Int} (h0 : 0 ≤ f) (hb : 0 ≤ b) (h : sigF f b = true) : quietF f b = makeF f (negF f b) (expF f b) (fracF f b + 2 ^ (fP f - 2)) := by
  obtain ⟨h4, e, fr, lt⟩ := sig_parts h
  obtain ⟨p0, p1, p2, p3, p4, p5, p6, p7, p8⟩ := f_nums h0 h4
  obtain ⟨x0, x1, x2, x3⟩ := exp_range h0 h4 hb
  obtain ⟨r0, r1⟩ := frac_range (b := b) h0 h4
  have n2 : (2 : Int) ^ (fP f - 1) = 2 * 2 ^ (fP f - 2) := by rw [← Int.pow_succ', show fP f - 2 + 1 = fP f - 1 by omega]
  have hp := two_pow_pos (fP f - 2)
  unfold quietF
  rw [h, if_pos rfl, ← make_split h0 h4 hb]
  unfold makeF
  rw [if_pos h4, if_pos h4, Int.emod_eq_of_lt (a := fracF f b) (by omega) (by omega), Int.emod_eq_of_lt (a := fracF f b + 2 ^ (fP f - 2)) (by omega) (by omega)]
  omega
theorem quiet_not {f b : Int} (h : sigF f b = false) : quietF f b = cutF f b := by unfold quietF; rw [h, if_neg (by decide), Int.add_zero]
theorem quiet_full {f b : Int} (h0 : 0 ≤ f) (hb : 0 ≤ b) (hf : b < full) : 0 ≤ quietF f b ∧ quietF f b < full := by
  by_cases h : sigF f b = true
  · rw [quiet_sig h0 hb h]; exact make_full h0 ..
  · rw [quiet_not (by simpa using h)]
    have := cut_range (f := f) h0 hb
    omega
theorem def_full {f : Int} (h0 : 0 ≤ f) : 0 ≤ defF f ∧ defF f < full := make_full h0 ..
theorem first_full {f : Int} (h0 : 0 ≤ f) (xs : List Int) : 0 ≤ firstV f xs ∧ firstV f xs < full := by
  unfold firstV
  split
  · exact quiet_full h0 (mod_f _).1 (mod_f _).2
  · exact def_full h0
/-- The fields of a NaN made quiet. -/
theorem quiet_fields {f b : Int} (h0 : 0 ≤ f) (h4 : f < 4) (hb : 0 ≤ b) :
    negF f (quietF f b) = negF f b ∧ expF f (quietF f b) = expF f b ∧ fracF f (quietF f b) = fracF f b + (if sigF f b then 2 ^ (fP f - 2) else 0) := by
  by_cases h : sigF f b = true
  · obtain ⟨_, e, fr, lt⟩ := sig_parts h
    obtain ⟨p0, p1, p2, p3, p4, p5, p6, p7, p8⟩ := f_nums h0 h4
    obtain ⟨x0, x1, x2, x3⟩ := exp_range h0 h4 hb
    obtain ⟨r0, r1⟩ := frac_range (b := b) h0 h4
    have n2 : (2 : Int) ^ (fP f - 1) = 2 * 2 ^ (fP f - 2) := by rw [← Int.pow_succ', show fP f - 2 + 1 = fP f - 1 by omega]
    have hp := two_pow_pos (fP f - 2)
    obtain ⟨m1, m2, m3⟩ := make_fields h0 h4 (negF f b) (expF f b) (fracF f b + 2 ^ (fP f - 2))
    rw [expOf_id h0 h4 x0 x1] at m1
    rw [Int.emod_eq_of_lt (by omega) (by omega)] at m2
    rw [quiet_sig h0 hb h, h, if_pos rfl]
    exact ⟨m3, m1, m2⟩
  · have h' : sigF f b = false := by simpa using h
    rw [quiet_not h', h', if_neg (by decide), Int.add_zero]
    exact ⟨neg_cut h0 h4 b, exp_cut h0 h4 b, frac_cut h0 h4 b⟩
/-- The class of a NaN made quiet. -/
theorem quiet_cls {f b : Int} (h0 : 0 ≤ f) (hb : 0 ≤ b) : clsF f (quietF f b) = if sigF f b then 4 else clsF f b := by
  by_cases h4 : f < 4
  · obtain ⟨q1, q2, q3⟩ := quiet_fields h0 h4 hb
    by_cases h : sigF f b = true
    · obtain ⟨_, e, fr, lt⟩ := sig_parts h
      obtain ⟨p0, p1, p2, p3, p4, p5, p6, p7, p8⟩ := f_nums h0 h4
      obtain ⟨r0, r1⟩ := frac_range (b := b) h0 h4
      have hp := two_pow_pos (fP f - 2)
      rw [h, if_pos rfl] at q3 ⊢
      unfold clsF
      rw [if_pos h4, q2, q3, e, if_neg (by omega), if_pos rfl, if_neg (by omega), if_pos (by omega)]
    · have h' : sigF f b = false := by simpa using h
      rw [h', if_neg (by decide)] at q3 ⊢
      rw [Int.add_zero] at q3
      exact cls_congr q2 q3
  · have h' : sigF f b = false := by unfold sigF; rw [cls_no h4]; rfl
    rw [h', if_neg (by decide), cls_no h4, cls_no h4]
theorem quiet_nan {f b : Int} (h0 : 0 ≤ f) (hb : 0 ≤ b) : nanF f (quietF f b) = nanF f b ∧ sigF f (quietF f b) = false := by
  have c := quiet_cls h0 hb
  by_cases h : sigF f b = true
  · have n := sig_nan h
    rw [h, if_pos rfl] at c
    unfold nanF sigF at *
    rw [c, n]; exact ⟨rfl, rfl⟩
  · have h' : sigF f b = false := by simpa using h
    rw [h', if_neg (by decide)] at c
    unfold nanF sigF at *
    rw [c]; exact ⟨rfl, h'⟩
theorem quiet_cut (f b : Int) (h0 : 0 ≤ f) (hb : 0 ≤ b) : cutF f (quietF f b) = quietF f b := by
  by_cases h : sigF f b = true
  · obtain ⟨h4, _⟩ := sig_parts h
    rw [quiet_sig h0 hb h]
    have m := make_parts h0 h4 (negF f b) (expF f b) (fracF f b + 2 ^ (fP f - 2))
    exact Int.emod_eq_of_lt m.2.2.2.2.1 m.2.2.2.2.2
  · rw [quiet_not (by simpa using h)]; exact cut_cut f b
theorem quiet_quiet {f b : Int} (h0 : 0 ≤ f) (hb : 0 ≤ b) : quietF f (quietF f b) = quietF f b := by
  rw [quiet_not (quiet_nan h0 hb).2]; exact quiet_cut f b h0 hb
/-- The default NaN. -/
theorem def_cls {f : Int} (h0 : 0 ≤ f) (h4 : f < 4) : clsF f (defF f) = 4 ∧ cutF f (defF f) = defF f := by
  obtain ⟨p0, p1, p2, p3, p4, p5, p6, p7, p8⟩ := f_nums h0 h4
  have n2 : (2 : Int) ^ (fP f - 1) = 2 * 2 ^ (fP f - 2) := by rw [← Int.pow_succ', show fP f - 2 + 1 = fP f - 1 by omega]
  have hp := two_pow_pos (fP f - 2)
  obtain ⟨m1, m2, m3⟩ := make_fields h0 h4 false (2 * fE f + 1) (2 ^ (fP f - 2))
  rw [expOf_id h0 h4 (by omega) (by omega)] at m1
  rw [Int.emod_eq_of_lt (by omega) (by omega)] at m2
  constructor
  · unfold defF clsF
    rw [if_pos h4, m1, m2, if_neg (by omega), if_pos rfl, if_neg (by omega), if_pos (by omega)]
  · have m := make_parts h0 h4 false (2 * fE f + 1) (2 ^ (fP f - 2))
    exact Int.emod_eq_of_lt m.2.2.2.2.1 m.2.2.2.2.2
/-- What is picked is a quiet NaN. -/
theorem first_cls {f : Int} (h0 : 0 ≤ f) (h4 : f < 4) (xs : List Int) : clsF f (firstV f xs) = 4 ∧ cutF f (firstV f xs) = firstV f xs := by
  unfold firstV
  split
  · rename_i b hb
    have hn := List.find?_some hb
    have b0 := (mod_f b).1
    refine ⟨?_, quiet_cut f _ h0 b0⟩
    have c := quiet_cls (f := f) h0 b0
    rw [c]
    split
    · rfl
    · rename_i hs
      have cr := cls_range f (b % full)
      unfold nanF at hn; unfold sigF at hs
      simp at hn hs
      omega
  · exact def_cls h0 h4
theorem first_snoc (f : Int) (xs : List Int) (b : Int) : firstV f (xs ++ [b]) = if anyN f xs then firstV f xs else if nanF f (b % full) then quietF f (b % full) else firstV f xs := by
  unfold firstV anyN
  rw [List.find?_append]
  by_cases h : xs.any (fun b => nanF f (b % full)) = true
  · rw [if_pos h]
    obtain ⟨c, hc⟩ : ∃ c, xs.find? (fun b => nanF f (b % full)) = some c := by
      rw [← Option.isSome_iff_exists, List.find?_isSome]
      simpa using h
    rw [hc]; rfl
  · rw [if_neg h]
    have hc : xs.find? (fun b => nanF f (b % full)) = none := by
      rw [List.find?_eq_none]
      simpa using h
    rw [hc]
    by_cases hn : nanF f (b % full) = true
    · rw [if_pos hn]; simp [hn]
    · rw [if_neg hn]; simp [hn]

end Go.Proofs.YtfcffmihhpcjjaaDoor
