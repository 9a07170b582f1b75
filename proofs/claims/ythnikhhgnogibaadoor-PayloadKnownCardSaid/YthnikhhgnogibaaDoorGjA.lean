/-
  Texts of the ground put together: Math10, NanP, Ref10, Ref10P, NanC, NanD, NanI, NanG.
-/
import Derived.Test.YthnikhhgnogibaaDoorGdA
import Derived.Test.YthnikhhgnogibaaDoorGkA
import Derived.Test.YthnikhhgnogibaaDoorGfA
import Derived.Test.YthnikhhgnogibaaDoorGaA

/-
  NaNs made quiet, and which is picked: by definition, over numbers; plain arithmetic.
-/
set_option linter.unusedVariables false
set_option linter.unusedSimpArgs false
set_option maxRecDepth 100000
namespace Go.Proofs.YthnikhhgnogibaaDoor
open Go.RowKit

def defF (f : Int) : Int := makeF f false (2 * fE f + 1) (2 ^ (fP f - 2))
def quietF (f b : Int) : Int := cutF f b + (if sigF f b then 2 ^ (fP f - 2) else 0)
def anyN (f : Int) (xs : List Int) : Bool := xs.any fun b => nanF f (b % full)
def anyS (f : Int) (xs : List Int) : Bool := xs.any fun b => sigF f (b % full)
/-- The first NaN, made quiet; the default one if there is none. -/
def firstV (f : Int) (xs : List Int) : Int := match xs.find? (fun b => nanF f (b % full)) with
  | some b => quietF f (b % full)
  | none => defF f
def pickK (f : Int) (inv : Bool) (xs : List Int) : Bool := decide (f < 4) && (inv || anyN f xs)
def pickV (f : Int) (inv : Bool) (xs : List Int) : Int := if pickK f inv xs then firstV f xs else 0
def pickF (f : Int) (inv : Bool) (xs : List Int) : Int := if pickK f inv xs && (inv || anyS f xs) then 1 else 0

theorem sig_parts {f b : Int} (h : sigF f b = true) : f < 4 ∧ expF f b = 2 * fE f + 1 ∧ fracF f b ≠ 0 ∧ fracF f b < 2 ^ (fP f - 2) := by
  unfold sigF at h
  have c : clsF f b = 5 := by simpa using h
  have h4 : f < 4 := by
    rcases Int.lt_or_le f 4 with h | h
    · exact h
    · exfalso; have := cls_no (show ¬ f < 4 by omega) b; omega
  unfold clsF at c
  rw [if_pos h4] at c
  split at c
  · split at c <;> omega
  · split at c
    · split at c
      · omega
      · split at c
        · omega
        · rename_i a1 a2 a3 a4; exact ⟨h4, a2, a3, by omega⟩
    · omega
theorem sig_nan {f b : Int} (h : sigF f b = true) : nanF f b = true := by
  unfold sigF at h; unfold nanF
  have : clsF f b = 5 := by simpa using h
  simp [this]
theorem nan_known {f b : Int} (h : nanF f b = true) : f < 4 := by
  rcases Int.lt_or_le f 4 with h' | h'
  · exact h'
  · exfalso; unfold nanF at h; rw [cls_no (show ¬ f < 4 by omega) b] at h; simp at h
/-- A signaling NaN made quiet, by its fields. -/
theorem quiet_sig {f b : Int} (h0 : 0 ≤ f) (hb : 0 ≤ b) (h : sigF f b = true) : quietF f b = makeF f (negF f b) (expF f b) (fracF f b + 2 ^ (fP f - 2)) := by
  obtain ⟨h4, e, fr, lt⟩ := sig_parts h
  obtain ⟨p0, p1, p2, p3, p4, p5, p6, p7, p8⟩ := f_nums h0 h4
  obtain ⟨x0, x1, x2, x3⟩ := exp_range h0 h4 hb
  obtain ⟨r0, r1⟩ := frac_range (b := b) h0 h4
  have n2 : (2 : Int) ^ (fP f - 1) = 2 * 2 ^ (fP f - 2) := by rw [← Int.pow_succ', show fP f - 2 + 1 = fP f - 1 by omega]
  have hp := two_pow_pos (fP f - 2)
  unfold quietF
  rw [h, if_pos rfl, ← make_split h0 h4 hb]
  unfold makeF
  rw [if_pos h4, if_pos h4, Int.emod_eq_of_lt (a := fracF f b) (by omega) (by omega), Int.emod_eq_of_lt (a := fracF f b + 2 ^ (fP f - 2)) (by omega) (by omega)]
  omega
theorem quiet_not {f b : Int} (h : sigF f b = false) : quietF f b = cutF f b := by unfold quietF; rw [h, if_neg (by decide), Int.add_zero]
theorem quiet_full {f b : Int} (h0 : 0 ≤ f) (hb : 0 ≤ b) (hf : b < full) : 0 ≤ quietF f b ∧ quietF f b < full := by
  by_cases h : sigF f b = true
  · rw [quiet_sig h0 hb h]; exact make_full h0 ..
  · rw [quiet_not (by simpa using h)]
    have := cut_range (f := f) h0 hb
    omega
theorem def_full {f : Int} (h0 : 0 ≤ f) : 0 ≤ defF f ∧ defF f < full := make_full h0 ..
theorem first_full {f : Int} (h0 : 0 ≤ f) (xs : List Int) : 0 ≤ firstV f xs ∧ firstV f xs < full := by
  unfold firstV
  split
  · exact quiet_full h0 (mod_f _).1 (mod_f _).2
  · exact def_full h0
/-- The fields of a NaN made quiet. -/
theorem quiet_fields {f b : Int} (h0 : 0 ≤ f) (h4 : f < 4) (hb : 0 ≤ b) :
    negF f (quietF f b) = negF f b ∧ expF f (quietF f b) = expF f b ∧ fracF f (quietF f b) = fracF f b + (if sigF f b then 2 ^ (fP f - 2) else 0) := by
  by_cases h : sigF f b = true
  · obtain ⟨_, e, fr, lt⟩ := sig_parts h
    obtain ⟨p0, p1, p2, p3, p4, p5, p6, p7, p8⟩ := f_nums h0 h4
    obtain ⟨x0, x1, x2, x3⟩ := exp_range h0 h4 hb
    obtain ⟨r0, r1⟩ := frac_range (b := b) h0 h4
    have n2 : (2 : Int) ^ (fP f - 1) = 2 * 2 ^ (fP f - 2) := by rw [← Int.pow_succ', show fP f - 2 + 1 = fP f - 1 by omega]
    have hp := two_pow_pos (fP f - 2)
    obtain ⟨m1, m2, m3⟩ := make_fields h0 h4 (negF f b) (expF f b) (fracF f b + 2 ^ (fP f - 2))
    rw [expOf_id h0 h4 x0 x1] at m1
    rw [Int.emod_eq_of_lt (by omega) (by omega)] at m2
    rw [quiet_sig h0 hb h, h, if_pos rfl]
    exact ⟨m3, m1, m2⟩
  · have h' : sigF f b = false := by simpa using h
    rw [quiet_not h', h', if_neg (by decide), Int.add_zero]
    exact ⟨neg_cut h0 h4 b, exp_cut h0 h4 b, frac_cut h0 h4 b⟩
/-- The class of a NaN made quiet. -/
theorem quiet_cls {f b : Int} (h0 : 0 ≤ f) (hb : 0 ≤ b) : clsF f (quietF f b) = if sigF f b then 4 else clsF f b := by
  by_cases h4 : f < 4
  · obtain ⟨q1, q2, q3⟩ := quiet_fields h0 h4 hb
    by_cases h : sigF f b = true
    · obtain ⟨_, e, fr, lt⟩ := sig_parts h
      obtain ⟨p0, p1, p2, p3, p4, p5, p6, p7, p8⟩ := f_nums h0 h4
      obtain ⟨r0, r1⟩ := frac_range (b := b) h0 h4
      have hp := two_pow_pos (fP f - 2)
      rw [h, if_pos rfl] at q3 ⊢
      unfold clsF
      rw [if_pos h4, q2, q3, e, if_neg (by omega), if_pos rfl, if_neg (by omega), if_pos (by omega)]
    · have h' : sigF f b = false := by simpa using h
      rw [h', if_neg (by decide)] at q3 ⊢
      rw [Int.add_zero] at q3
      exact cls_congr q2 q3
  · have h' : sigF f b = false := by unfold sigF; rw [cls_no h4]; rfl
    rw [h', if_neg (by decide), cls_no h4, cls_no h4]
theorem quiet_nan {f b : Int} (h0 : 0 ≤ f) (hb : 0 ≤ b) : nanF f (quietF f b) = nanF f b ∧ sigF f (quietF f b) = false := by
  have c := quiet_cls h0 hb
  by_cases h : sigF f b = true
  · have n := sig_nan h
    rw [h, if_pos rfl] at c
    unfold nanF sigF at *
    rw [c, n]; exact ⟨rfl, rfl⟩
  · have h' : sigF f b = false := by simpa using h
    rw [h', if_neg (by decide)] at c
    unfold nanF sigF at *
    rw [c]; exact ⟨rfl, h'⟩
theorem quiet_cut (f b : Int) (h0 : 0 ≤ f) (hb : 0 ≤ b) : cutF f (quietF f b) = quietF f b := by
  by_cases h : sigF f b = true
  · obtain ⟨h4, _⟩ := sig_parts h
    rw [quiet_sig h0 hb h]
    have m := make_parts h0 h4 (negF f b) (expF f b) (fracF f b + 2 ^ (fP f - 2))
    exact Int.emod_eq_of_lt m.2.2.2.2.1 m.2.2.2.2.2
  · rw [quiet_not (by simpa using h)]; exact cut_cut f b
theorem quiet_quiet {f b : Int} (h0 : 0 ≤ f) (hb : 0 ≤ b) : quietF f (quietF f b) = quietF f b := by
  rw [quiet_not (quiet_nan h0 hb).2]; exact quiet_cut f b h0 hb
/-- The default NaN. -/
theorem def_cls {f : Int} (h0 : 0 ≤ f) (h4 : f < 4) : clsF f (defF f) = 4 ∧ cutF f (defF f) = defF f := by
  obtain ⟨p0, p1, p2, p3, p4, p5, p6, p7, p8⟩ := f_nums h0 h4
  have n2 : (2 : Int) ^ (fP f - 1) = 2 * 2 ^ (fP f - 2) := by rw [← Int.pow_succ', show fP f - 2 + 1 = fP f - 1 by omega]
  have hp := two_pow_pos (fP f - 2)
  obtain ⟨m1, m2, m3⟩ := make_fields h0 h4 false (2 * fE f + 1) (2 ^ (fP f - 2))
  rw [expOf_id h0 h4 (by omega) (by omega)] at m1
  rw [Int.emod_eq_of_lt (by omega) (by omega)] at m2
  constructor
  · unfold defF clsF
    rw [if_pos h4, m1, m2, if_neg (by omega), if_pos rfl, if_neg (by omega), if_pos (by omega)]
  · have m := make_parts h0 h4 false (2 * fE f + 1) (2 ^ (fP f - 2))
    exact Int.emod_eq_of_lt m.2.2.2.2.1 m.2.2.2.2.2
/-- What is picked is a quiet NaN. -/
theorem first_cls {f : Int} (h0 : 0 ≤ f) (h4 : f < 4) (xs : List Int) : clsF f (firstV f xs) = 4 ∧ cutF f (firstV f xs) = firstV f xs := by
  unfold firstV
  split
  · rename_i b hb
    have hn := List.find?_some hb
    have b0 := (mod_f b).1
    refine ⟨?_, quiet_cut f _ h0 b0⟩
    have c := quiet_cls (f := f) h0 b0
    rw [c]
    split
    · rfl
    · rename_i hs
      have cr := cls_range f (b % full)
      unfold nanF at hn; unfold sigF at hs
      simp at hn hs
      omega
  · exact def_cls h0 h4
theorem first_snoc (f : Int) (xs : List Int) (b : Int) : firstV f (xs ++ [b]) = if anyN f xs then firstV f xs else if nanF f (b % full) then quietF f (b % full) else firstV f xs := by
  unfold firstV anyN
  rw [List.find?_append]
  by_cases h : xs.any (fun b => nanF f (b % full)) = true
  · rw [if_pos h]
    obtain ⟨c, hc⟩ : ∃ c, xs.find? (fun b => nanF f (b % full)) = some c := by
      rw [← Option.isSome_iff_exists, List.find?_isSome]
      simpa using h
    rw [hc]; rfl
  · rw [if_neg h]
    have hc : xs.find? (fun b => nanF f (b % full)) = none := by
      rw [List.find?_eq_none]
      simpa using h
    rw [hc]
    by_cases hn : nanF f (b % full) = true
    · rw [if_pos hn]; simp [hn]
    · rw [if_neg hn]; simp [hn]

end Go.Proofs.YthnikhhgnogibaaDoor

/-
  What the document asks of package nan; what is picked, by cases.
-/
set_option linter.unusedVariables false
set_option linter.unusedSimpArgs false
namespace Go.Proofs.YthnikhhgnogibaaDoor
open Go.RowKit
attribute [local go_sem ↓] Go.wp_at_zero Go.wp_at_succ

/-- What the document asks of package nan. -/
structure NanOK : Prop where
  quiet : ∀ f b, 0 ≤ f → f ≤ 255 → ∀ w, FTab w → Calls Tryd.prog 16 #[.int .u8 f, .agg #[.int .u64 (hiOf (b)), .int .u64 (loOf (b))]] w fun e w' => e = .returned (.agg #[.int .u64 (hiOf (quietF f (b % full))), .int .u64 (loOf (quietF f (b % full)))]) ∧ Below w.heap.size w w'
  dflt : ∀ f, 0 ≤ f → f ≤ 255 → ∀ w, FTab w → Calls Tryd.prog 19 #[.int .u8 f] w fun e w' => e = .returned (.agg #[.int .u64 (hiOf (defF f)), .int .u64 (loOf (defF f))]) ∧ Below w.heap.size w w'

theorem stay_fields {f b : Int} (h0 : 0 ≤ f) (hb : 0 ≤ b) :
    negF f (quietF f b) = negF f b ∧ expF f (quietF f b) = expF f b ∧ fracF f (quietF f b) = fracF f b + (if sigF f b then 2 ^ (fP f - 2) else 0) := by
  by_cases h4 : f < 4
  · exact quiet_fields h0 h4 hb
  · have h' : sigF f b = false := by unfold sigF; rw [cls_no h4]; rfl
    rw [h', if_neg (by decide)]
    unfold negF expF fracF
    simp [h4]
theorem quiet_low {f b : Int} (h0 : 0 ≤ f) (hb : 0 ≤ b) (hf : b < full) : quietF f b % full = quietF f b := Int.emod_eq_of_lt (quiet_full h0 hb hf).1 (quiet_full h0 hb hf).2
theorem first_low {f : Int} (h0 : 0 ≤ f) (xs : List Int) : firstV f xs % full = firstV f xs := Int.emod_eq_of_lt (first_full h0 xs).1 (first_full h0 xs).2
theorem frac_low {f b : Int} (h0 : 0 ≤ f) : 0 ≤ fracF f b ∧ fracF f b < full := by
  by_cases h4 : f < 4
  · obtain ⟨p0, p1, p2, _⟩ := f_nums h0 h4
    obtain ⟨r0, r1⟩ := frac_range (b := b) h0 h4
    have e1 : (2 : Int) ^ (fP f - 1) ≤ 2 ^ fW f := two_pow_le (by omega)
    have := fW_full f
    omega
  · unfold fracF; rw [if_neg h4]; unfold full; omega
/-- What is picked, by cases. -/
theorem pick_no {f : Int} (h : ¬ f < 4) (inv : Bool) (xs : List Int) : pickV f inv xs = 0 ∧ pickF f inv xs = 0 ∧ pickK f inv xs = false := by
  have k : pickK f inv xs = false := by unfold pickK; simp [h]
  unfold pickV pickF; rw [k]; exact ⟨rfl, rfl, rfl⟩
theorem pick_none {f : Int} (xs : List Int) (hn : anyN f xs = false) : pickV f false xs = 0 ∧ pickF f false xs = 0 ∧ pickK f false xs = false := by
  have k : pickK f false xs = false := by unfold pickK; simp [hn]
  unfold pickV pickF; rw [k]; exact ⟨rfl, rfl, rfl⟩
theorem pick_inv {f : Int} (h : f < 4) (xs : List Int) : pickV f true xs = firstV f xs ∧ pickF f true xs = 1 ∧ pickK f true xs = true := by
  have k : pickK f true xs = true := by unfold pickK; simp [h]
  unfold pickV pickF; rw [k]; exact ⟨rfl, rfl, rfl⟩
theorem pick_nan {f : Int} (h : f < 4) (xs : List Int) (hn : anyN f xs = true) : pickV f false xs = firstV f xs ∧ pickF f false xs = (if anyS f xs then 1 else 0) ∧ pickK f false xs = true := by
  have k : pickK f false xs = true := by unfold pickK; simp [h, hn]
  unfold pickV pickF; rw [k]; exact ⟨rfl, by simp, rfl⟩


end Go.Proofs.YthnikhhgnogibaaDoor

/-
  NaNs made quiet and picked: the document's answers of layer 10, over numbers.
-/
set_option linter.unusedVariables false
set_option linter.unusedSimpArgs false
namespace Go.Proofs.YthnikhhgnogibaaDoor
open Go.RowKit
attribute [local go_sem ↓] Go.wp_at_zero Go.wp_at_succ

end Go.Proofs.YthnikhhgnogibaaDoor

/-
  NaNs picked: the document's answers of layer 10, over numbers.
-/
set_option linter.unusedVariables false
set_option linter.unusedSimpArgs false
namespace Go.Proofs.YthnikhhgnogibaaDoor
open Go.RowKit
attribute [local go_sem ↓] Go.wp_at_zero Go.wp_at_succ

theorem Bs.ofHB {W : World} {p : Nat} {T : TypeId} {vs : Array Value} (xs : List Int) (h : HB W p T vs) (hv : vs = (cellsOfB xs).toArray) (hl : xs.length ≤ 1000) : Bs W (some ⟨p, 0, none⟩) xs.length xs.length xs := by
  refine ⟨rfl, Nat.le_refl _, ⟨by omega, fun e => by cases e⟩, fun k hk => ⟨⟨p, 0, none⟩, rfl, ?_⟩⟩
  obtain ⟨c0, c1⟩ := cellsOfB_at xs k hk
  subst hv
  have e : ∀ j, Addr.add ⟨p, 0, none⟩ j = ⟨p, j, none⟩ := fun j => by unfold Addr.add; by_cases h : j = 0 <;> simp [h]
  rw [e]
  constructor
  · rw [h.cell (k * 2), List.getElem?_toArray]; exact c0
  · show W.cell? ⟨p, k * 2 + 1, none⟩ = _
    rw [h.cell (k * 2 + 1), List.getElem?_toArray]; exact c1
theorem Bs.two {w : World} {a : Addr} {n cap : Nat} {xs : List Int} (x : Bs w (some a) n cap xs) {k : Nat} (hk : k < n) :
    w.cell? (a.add (k * 2)) = some (.int .u64 (hiOf (xs.getD k 0))) ∧ w.cell? ⟨(a.add (k * 2)).block, (a.add (k * 2)).off + 1, none⟩ = some (.int .u64 (loOf (xs.getD k 0))) := by
  obtain ⟨b, hb, c0, c1⟩ := x.2.2.2 k hk
  obtain rfl := Option.some.inj hb
  exact ⟨c0, c1⟩
end Go.Proofs.YthnikhhgnogibaaDoor

/-
  Walks through package nan's functions.
-/
set_option linter.unusedVariables false
set_option linter.unusedSimpArgs false
namespace Go.Proofs.YthnikhhgnogibaaDoor
open Go.RowKit
attribute [local go_sem ↓] Go.wp_at_zero Go.wp_at_succ

set_option maxHeartbeats 4000000 in
set_option maxRecDepth 100000 in
theorem nan_quieted (f bh bl p q xh xl rh rl : Int)
    (h0 : Hid (∀ w, FTab w → Calls Tryd.prog 50 #[.int .u8 f] w fun e w' => e = .returned (.int .i64 p) ∧ Below w.heap.size w w'))
    (h1 : Hid (∀ w, Calls Tryd.prog 41 #[.agg #[.int .u64 0, .int .u64 1], .int .i64 q] w fun e w' => e = .returned (.agg #[.int .u64 xh, .int .u64 xl]) ∧ Below w.heap.size w w')) (v1 : IntKind.i64.wrap (p - 2) = q) (a1 : bits .or .u64 bh xh = rh) (a2 : bits .or .u64 bl xl = rl) (w : World) (ft : FTab w) :
    Calls Tryd.prog 38 #[.int .u8 f, .agg #[.int .u64 bh, .int .u64 bl]] w fun e w' => e = .returned (.agg #[.int .u64 rh, .int .u64 rl]) ∧ Below w.heap.size w w' := by
  go_enter Tryd.func38, Tryd.ntmps38
  go_wp2_with fail
  (with_reducible refine (h0.out _ (ft.later (bA (bA (Below.refl _ _) _) _))).mono ?_); rintro e w1 ⟨rfl, hb⟩
  have hz := bC (bA (bA (Below.refl _ _) _) _) hb
  have gX1 : w.heap.size ≤ w.heap.size + 1 := by omega
  have cX0_0 := cell_later hb (a := ⟨w.heap.size, 0, none⟩) (v := .int .u64 bh) (by go_simp)
  have cX0_1 := cell_later hb (a := ⟨w.heap.size, 1, none⟩) (v := .int .u64 bl) (by go_simp)
  have sX0 : w.heap.size < w1.heap.size := World.block_lt_of_cell? _ _ cX0_0
  have cX1_0 := cell_later hb (a := ⟨w.heap.size + 1, 0, none⟩) (v := .int .u64 0) (by go_simp)
  have cX1_1 := cell_later hb (a := ⟨w.heap.size + 1, 1, none⟩) (v := .int .u64 0) (by go_simp)
  have sX1 : w.heap.size + 1 < w1.heap.size ∧ w.heap.size < w1.heap.size := by have h : w.heap.size + 1 < w1.heap.size := World.block_lt_of_cell? _ _ cX1_0; exact ⟨h, by omega⟩
  have fX1_0 := frozen_later hb (a := ⟨w.heap.size + 1, 0, none⟩) (v := .int .u64 0) (by go_simp) (by go_simp)
  have fX1_1 := frozen_later hb (a := ⟨w.heap.size + 1, 1, none⟩) (v := .int .u64 0) (by go_simp) (by go_simp)
  have kk := hz
  clear hb hz
  go_wp2_with fail
  (with_reducible refine (h1.out _).mono ?_); rintro e w2 ⟨rfl, hb⟩
  replace cX0_0 := cell_later hb cX0_0; replace cX0_1 := cell_later hb cX0_1
  replace sX0 : w.heap.size < w2.heap.size := World.block_lt_of_cell? _ _ cX0_0
  replace fX1_0 := frozen_later hb cX1_0 fX1_0; replace fX1_1 := frozen_later hb cX1_1 fX1_1
  replace cX1_0 := cell_later hb cX1_0; replace cX1_1 := cell_later hb cX1_1
  replace sX1 : w.heap.size + 1 < w2.heap.size ∧ w.heap.size < w2.heap.size := by have h : w.heap.size + 1 < w2.heap.size := World.block_lt_of_cell? _ _ cX1_0; exact ⟨h, by omega⟩
  replace kk := bC kk hb
  clear hb
  have NW := BoxF.set (⟨Box.of cX1_0 cX1_1, fX1_0, fX1_1⟩ : BoxF w2 (w.heap.size + 1) _ _) rh rl
  have KEY : Hid ((((w2.setCell ⟨w.heap.size + 1, 0, none⟩ (.int .u64 rh)).setCell ⟨w.heap.size + 1, 1, none⟩ (.int .u64 rl)).alloc (.cells #[.int .u64 xh, .int .u64 xl] 25)).cell? ⟨w.heap.size + 1, 0, none⟩ = some (.int .u64 rh) ∧ (((w2.setCell ⟨w.heap.size + 1, 0, none⟩ (.int .u64 rh)).setCell ⟨w.heap.size + 1, 1, none⟩ (.int .u64 rl)).alloc (.cells #[.int .u64 xh, .int .u64 xl] 25)).cell? ⟨w.heap.size + 1, 1, none⟩ = some (.int .u64 rl) ∧ Below w.heap.size w (((w2.setCell ⟨w.heap.size + 1, 0, none⟩ (.int .u64 rh)).setCell ⟨w.heap.size + 1, 1, none⟩ (.int .u64 rl)).alloc (.cells #[.int .u64 xh, .int .u64 xl] 25))) := Lib.hid ⟨(cell_later (bA (Below.refl _ _) _) NW.1.2.1), (cell_later (bA (Below.refl _ _) _) NW.1.2.2), (bA (bS kk gX1 _ _) _)⟩
  clear NW
  go_wp2_with fail
  obtain ⟨e0, e1, kb⟩ := KEY.out
  clear KEY
  refine bodyPost_ret (v := .agg #[.int .u64 rh, .int .u64 rl]) ?_ rfl ⟨rfl, kb⟩
  simp [results, Tryd.results38, go_sem, e0, e1]

set_option maxHeartbeats 4000000 in
set_option maxRecDepth 100000 in
theorem nan_quiet_no (f bh bl ch cl : Int)
    (h0 : Hid (∀ w, FTab w → Calls Tryd.prog 37 #[.int .u8 f, .agg #[.int .u64 bh, .int .u64 bl]] w fun e w' => e = .returned (.agg #[.int .u64 ch, .int .u64 cl]) ∧ Below w.heap.size w w'))
    (h1 : Hid (∀ w, FTab w → Calls Tryd.prog 11 #[.int .u8 f, .agg #[.int .u64 ch, .int .u64 cl]] w fun e w' => e = .returned (.bool false) ∧ Below w.heap.size w w')) (w : World) (ft : FTab w) :
    Calls Tryd.prog 16 #[.int .u8 f, .agg #[.int .u64 bh, .int .u64 bl]] w fun e w' => e = .returned (.agg #[.int .u64 ch, .int .u64 cl]) ∧ Below w.heap.size w w' := by
  go_enter Tryd.func16, Tryd.ntmps16
  go_wp2_with fail
  (with_reducible refine (h0.out _ (ft.later (bA (bA (Below.refl _ _) _) _))).mono ?_); rintro e w1 ⟨rfl, hb⟩
  have hz := bC (bA (bA (Below.refl _ _) _) _) hb
  have gX0 : w.heap.size ≤ w.heap.size := by omega
  have gX1 : w.heap.size ≤ w.heap.size + 1 := by omega
  have cX0_0 := cell_later hb (a := ⟨w.heap.size, 0, none⟩) (v := .int .u64 bh) (by go_simp)
  have cX0_1 := cell_later hb (a := ⟨w.heap.size, 1, none⟩) (v := .int .u64 bl) (by go_simp)
  have sX0 : w.heap.size < w1.heap.size := World.block_lt_of_cell? _ _ cX0_0
  have fX0_0 := frozen_later hb (a := ⟨w.heap.size, 0, none⟩) (v := .int .u64 bh) (by go_simp) (by go_simp)
  have fX0_1 := frozen_later hb (a := ⟨w.heap.size, 1, none⟩) (v := .int .u64 bl) (by go_simp) (by go_simp)
  have cX1_0 := cell_later hb (a := ⟨w.heap.size + 1, 0, none⟩) (v := .int .u64 0) (by go_simp)
  have cX1_1 := cell_later hb (a := ⟨w.heap.size + 1, 1, none⟩) (v := .int .u64 0) (by go_simp)
  have sX1 : w.heap.size + 1 < w1.heap.size ∧ w.heap.size < w1.heap.size := by have h : w.heap.size + 1 < w1.heap.size := World.block_lt_of_cell? _ _ cX1_0; exact ⟨h, by omega⟩
  have fX1_0 := frozen_later hb (a := ⟨w.heap.size + 1, 0, none⟩) (v := .int .u64 0) (by go_simp) (by go_simp)
  have fX1_1 := frozen_later hb (a := ⟨w.heap.size + 1, 1, none⟩) (v := .int .u64 0) (by go_simp) (by go_simp)
  have kk := hz
  clear hb hz
  go_wp2_with fail
  (with_reducible refine (h1.out _ (ft.later ((((kk).setCell (p := ⟨w.heap.size, 0, none⟩) gX0 _)).setCell (p := ⟨w.heap.size, 1, none⟩) gX0 _))).mono ?_); rintro e w2 ⟨rfl, hb⟩
  replace kk := bC ((kk.setCell (p := ⟨w.heap.size, 0, none⟩) gX0 _).setCell (p := ⟨w.heap.size, 1, none⟩) gX0 _) hb
  have ncX0_0 := cell_later hb (a := ⟨w.heap.size, 0, none⟩) (v := .int .u64 ch) (by go_simp)
  have ncX0_1 := cell_later hb (a := ⟨w.heap.size, 1, none⟩) (v := .int .u64 cl) (by go_simp)
  have nfX0_0 := frozen_later hb (a := ⟨w.heap.size, 0, none⟩) (v := .int .u64 ch) (by go_simp) (by go_simp)
  have nfX0_1 := frozen_later hb (a := ⟨w.heap.size, 1, none⟩) (v := .int .u64 cl) (by go_simp) (by go_simp)
  have ncX1_0 := cell_later hb (a := ⟨w.heap.size + 1, 0, none⟩) (v := .int .u64 0) (by go_simp)
  have ncX1_1 := cell_later hb (a := ⟨w.heap.size + 1, 1, none⟩) (v := .int .u64 0) (by go_simp)
  have nfX1_0 := frozen_later hb (a := ⟨w.heap.size + 1, 0, none⟩) (v := .int .u64 0) (by go_simp) (by go_simp)
  have nfX1_1 := frozen_later hb (a := ⟨w.heap.size + 1, 1, none⟩) (v := .int .u64 0) (by go_simp) (by go_simp)
  clear cX0_0 cX0_1 sX0 fX0_0 fX0_1
  have cX0_0 := ncX0_0; clear ncX0_0
  have fX0_0 := nfX0_0; clear nfX0_0
  have cX0_1 := ncX0_1; clear ncX0_1
  have fX0_1 := nfX0_1; clear nfX0_1
  have sX0 : w.heap.size < w2.heap.size := World.block_lt_of_cell? _ _ cX0_0
  clear cX1_0 cX1_1 sX1 fX1_0 fX1_1
  have cX1_0 := ncX1_0; clear ncX1_0
  have fX1_0 := nfX1_0; clear nfX1_0
  have cX1_1 := ncX1_1; clear ncX1_1
  have fX1_1 := nfX1_1; clear nfX1_1
  have sX1 : w.heap.size + 1 < w2.heap.size ∧ w.heap.size < w2.heap.size := by have h : w.heap.size + 1 < w2.heap.size := World.block_lt_of_cell? _ _ cX1_0; exact ⟨h, by omega⟩
  clear hb
  have NW := BoxF.set (⟨Box.of cX1_0 cX1_1, fX1_0, fX1_1⟩ : BoxF w2 (w.heap.size + 1) _ _) ch cl
  have KEY : Hid (((w2.setCell ⟨w.heap.size + 1, 0, none⟩ (.int .u64 ch)).setCell ⟨w.heap.size + 1, 1, none⟩ (.int .u64 cl)).cell? ⟨w.heap.size + 1, 0, none⟩ = some (.int .u64 ch) ∧ ((w2.setCell ⟨w.heap.size + 1, 0, none⟩ (.int .u64 ch)).setCell ⟨w.heap.size + 1, 1, none⟩ (.int .u64 cl)).cell? ⟨w.heap.size + 1, 1, none⟩ = some (.int .u64 cl) ∧ Below w.heap.size w ((w2.setCell ⟨w.heap.size + 1, 0, none⟩ (.int .u64 ch)).setCell ⟨w.heap.size + 1, 1, none⟩ (.int .u64 cl))) := Lib.hid ⟨NW.1.2.1, NW.1.2.2, (bS kk gX1 _ _)⟩
  clear NW
  go_wp2_with fail
  obtain ⟨e0, e1, kb⟩ := KEY.out
  clear KEY
  refine bodyPost_ret (v := .agg #[.int .u64 ch, .int .u64 cl]) ?_ rfl ⟨rfl, kb⟩
  simp [results, Tryd.results16, go_sem, e0, e1]

set_option maxHeartbeats 4000000 in
set_option maxRecDepth 100000 in
theorem nan_quiet_yes (f bh bl ch cl rh rl : Int)
    (h0 : Hid (∀ w, FTab w → Calls Tryd.prog 37 #[.int .u8 f, .agg #[.int .u64 bh, .int .u64 bl]] w fun e w' => e = .returned (.agg #[.int .u64 ch, .int .u64 cl]) ∧ Below w.heap.size w w'))
    (h1 : Hid (∀ w, FTab w → Calls Tryd.prog 11 #[.int .u8 f, .agg #[.int .u64 ch, .int .u64 cl]] w fun e w' => e = .returned (.bool true) ∧ Below w.heap.size w w'))
    (h2 : Hid (∀ w, FTab w → Calls Tryd.prog 38 #[.int .u8 f, .agg #[.int .u64 ch, .int .u64 cl]] w fun e w' => e = .returned (.agg #[.int .u64 rh, .int .u64 rl]) ∧ Below w.heap.size w w')) (w : World) (ft : FTab w) :
    Calls Tryd.prog 16 #[.int .u8 f, .agg #[.int .u64 bh, .int .u64 bl]] w fun e w' => e = .returned (.agg #[.int .u64 rh, .int .u64 rl]) ∧ Below w.heap.size w w' := by
  go_enter Tryd.func16, Tryd.ntmps16
  go_wp2_with fail
  (with_reducible refine (h0.out _ (ft.later (bA (bA (Below.refl _ _) _) _))).mono ?_); rintro e w1 ⟨rfl, hb⟩
  have hz := bC (bA (bA (Below.refl _ _) _) _) hb
  have gX0 : w.heap.size ≤ w.heap.size := by omega
  have gX1 : w.heap.size ≤ w.heap.size + 1 := by omega
  have cX0_0 := cell_later hb (a := ⟨w.heap.size, 0, none⟩) (v := .int .u64 bh) (by go_simp)
  have cX0_1 := cell_later hb (a := ⟨w.heap.size, 1, none⟩) (v := .int .u64 bl) (by go_simp)
  have sX0 : w.heap.size < w1.heap.size := World.block_lt_of_cell? _ _ cX0_0
  have fX0_0 := frozen_later hb (a := ⟨w.heap.size, 0, none⟩) (v := .int .u64 bh) (by go_simp) (by go_simp)
  have fX0_1 := frozen_later hb (a := ⟨w.heap.size, 1, none⟩) (v := .int .u64 bl) (by go_simp) (by go_simp)
  have cX1_0 := cell_later hb (a := ⟨w.heap.size + 1, 0, none⟩) (v := .int .u64 0) (by go_simp)
  have cX1_1 := cell_later hb (a := ⟨w.heap.size + 1, 1, none⟩) (v := .int .u64 0) (by go_simp)
  have sX1 : w.heap.size + 1 < w1.heap.size ∧ w.heap.size < w1.heap.size := by have h : w.heap.size + 1 < w1.heap.size := World.block_lt_of_cell? _ _ cX1_0; exact ⟨h, by omega⟩
  have fX1_0 := frozen_later hb (a := ⟨w.heap.size + 1, 0, none⟩) (v := .int .u64 0) (by go_simp) (by go_simp)
  have fX1_1 := frozen_later hb (a := ⟨w.heap.size + 1, 1, none⟩) (v := .int .u64 0) (by go_simp) (by go_simp)
  have kk := hz
  clear hb hz
  go_wp2_with fail
  (with_reducible refine (h1.out _ (ft.later ((((kk).setCell (p := ⟨w.heap.size, 0, none⟩) gX0 _)).setCell (p := ⟨w.heap.size, 1, none⟩) gX0 _))).mono ?_); rintro e w2 ⟨rfl, hb⟩
  replace kk := bC ((kk.setCell (p := ⟨w.heap.size, 0, none⟩) gX0 _).setCell (p := ⟨w.heap.size, 1, none⟩) gX0 _) hb
  have ncX0_0 := cell_later hb (a := ⟨w.heap.size, 0, none⟩) (v := .int .u64 ch) (by go_simp)
  have ncX0_1 := cell_later hb (a := ⟨w.heap.size, 1, none⟩) (v := .int .u64 cl) (by go_simp)
  have nfX0_0 := frozen_later hb (a := ⟨w.heap.size, 0, none⟩) (v := .int .u64 ch) (by go_simp) (by go_simp)
  have nfX0_1 := frozen_later hb (a := ⟨w.heap.size, 1, none⟩) (v := .int .u64 cl) (by go_simp) (by go_simp)
  have ncX1_0 := cell_later hb (a := ⟨w.heap.size + 1, 0, none⟩) (v := .int .u64 0) (by go_simp)
  have ncX1_1 := cell_later hb (a := ⟨w.heap.size + 1, 1, none⟩) (v := .int .u64 0) (by go_simp)
  have nfX1_0 := frozen_later hb (a := ⟨w.heap.size + 1, 0, none⟩) (v := .int .u64 0) (by go_simp) (by go_simp)
  have nfX1_1 := frozen_later hb (a := ⟨w.heap.size + 1, 1, none⟩) (v := .int .u64 0) (by go_simp) (by go_simp)
  clear cX0_0 cX0_1 sX0 fX0_0 fX0_1
  have cX0_0 := ncX0_0; clear ncX0_0
  have fX0_0 := nfX0_0; clear nfX0_0
  have cX0_1 := ncX0_1; clear ncX0_1
  have fX0_1 := nfX0_1; clear nfX0_1
  have sX0 : w.heap.size < w2.heap.size := World.block_lt_of_cell? _ _ cX0_0
  clear cX1_0 cX1_1 sX1 fX1_0 fX1_1
  have cX1_0 := ncX1_0; clear ncX1_0
  have fX1_0 := nfX1_0; clear nfX1_0
  have cX1_1 := ncX1_1; clear ncX1_1
  have fX1_1 := nfX1_1; clear nfX1_1
  have sX1 : w.heap.size + 1 < w2.heap.size ∧ w.heap.size < w2.heap.size := by have h : w.heap.size + 1 < w2.heap.size := World.block_lt_of_cell? _ _ cX1_0; exact ⟨h, by omega⟩
  clear hb
  go_wp2_with fail
  (with_reducible refine (h2.out _ (ft.later kk)).mono ?_); rintro e w3 ⟨rfl, hb⟩
  clear cX0_0 cX0_1 sX0
  replace fX1_0 := frozen_later hb cX1_0 fX1_0; replace fX1_1 := frozen_later hb cX1_1 fX1_1
  replace cX1_0 := cell_later hb cX1_0; replace cX1_1 := cell_later hb cX1_1
  replace sX1 : w.heap.size + 1 < w3.heap.size ∧ w.heap.size < w3.heap.size := by have h : w.heap.size + 1 < w3.heap.size := World.block_lt_of_cell? _ _ cX1_0; exact ⟨h, by omega⟩
  replace kk := bC kk hb
  clear hb
  have NW := BoxF.set (⟨Box.of cX1_0 cX1_1, fX1_0, fX1_1⟩ : BoxF w3 (w.heap.size + 1) _ _) rh rl
  have KEY : Hid (((w3.setCell ⟨w.heap.size + 1, 0, none⟩ (.int .u64 rh)).setCell ⟨w.heap.size + 1, 1, none⟩ (.int .u64 rl)).cell? ⟨w.heap.size + 1, 0, none⟩ = some (.int .u64 rh) ∧ ((w3.setCell ⟨w.heap.size + 1, 0, none⟩ (.int .u64 rh)).setCell ⟨w.heap.size + 1, 1, none⟩ (.int .u64 rl)).cell? ⟨w.heap.size + 1, 1, none⟩ = some (.int .u64 rl) ∧ Below w.heap.size w ((w3.setCell ⟨w.heap.size + 1, 0, none⟩ (.int .u64 rh)).setCell ⟨w.heap.size + 1, 1, none⟩ (.int .u64 rl))) := Lib.hid ⟨NW.1.2.1, NW.1.2.2, (bS kk gX1 _ _)⟩
  clear NW
  go_wp2_with fail
  obtain ⟨e0, e1, kb⟩ := KEY.out
  clear KEY
  refine bodyPost_ret (v := .agg #[.int .u64 rh, .int .u64 rl]) ?_ rfl ⟨rfl, kb⟩
  simp [results, Tryd.results16, go_sem, e0, e1]

set_option maxHeartbeats 4000000 in
set_option maxRecDepth 100000 in
theorem nan_default_no (f : Int)
    (h0 : Hid (∀ w, FTab w → Calls Tryd.prog 12 #[.int .u8 f] w fun e w' => e = .returned (.bool false) ∧ Below w.heap.size w w')) (w : World) (ft : FTab w) :
    Calls Tryd.prog 19 #[.int .u8 f] w fun e w' => e = .returned (.agg #[.int .u64 0, .int .u64 0]) ∧ Below w.heap.size w w' := by
  go_enter Tryd.func19, Tryd.ntmps19
  go_wp2_with fail
  (with_reducible refine (h0.out _ (ft.later (bA (Below.refl _ _) _))).mono ?_); rintro e w1 ⟨rfl, hb⟩
  have hz := bC (bA (Below.refl _ _) _) hb
  have gX0 : w.heap.size ≤ w.heap.size := by omega
  have cX0_0 := cell_later hb (a := ⟨w.heap.size, 0, none⟩) (v := .int .u64 0) (by go_simp)
  have cX0_1 := cell_later hb (a := ⟨w.heap.size, 1, none⟩) (v := .int .u64 0) (by go_simp)
  have sX0 : w.heap.size < w1.heap.size := World.block_lt_of_cell? _ _ cX0_0
  have fX0_0 := frozen_later hb (a := ⟨w.heap.size, 0, none⟩) (v := .int .u64 0) (by go_simp) (by go_simp)
  have fX0_1 := frozen_later hb (a := ⟨w.heap.size, 1, none⟩) (v := .int .u64 0) (by go_simp) (by go_simp)
  have kk := hz
  clear hb hz
  have NW := BoxF.set (⟨Box.of cX0_0 cX0_1, fX0_0, fX0_1⟩ : BoxF w1 (w.heap.size) _ _) 0 0
  have KEY : Hid (((w1.setCell ⟨w.heap.size, 0, none⟩ (.int .u64 0)).setCell ⟨w.heap.size, 1, none⟩ (.int .u64 0)).cell? ⟨w.heap.size, 0, none⟩ = some (.int .u64 0) ∧ ((w1.setCell ⟨w.heap.size, 0, none⟩ (.int .u64 0)).setCell ⟨w.heap.size, 1, none⟩ (.int .u64 0)).cell? ⟨w.heap.size, 1, none⟩ = some (.int .u64 0) ∧ Below w.heap.size w ((w1.setCell ⟨w.heap.size, 0, none⟩ (.int .u64 0)).setCell ⟨w.heap.size, 1, none⟩ (.int .u64 0))) := Lib.hid ⟨NW.1.2.1, NW.1.2.2, (bS kk gX0 _ _)⟩
  clear NW
  go_wp2_with fail
  obtain ⟨e0, e1, kb⟩ := KEY.out
  clear KEY
  refine bodyPost_ret (v := .agg #[.int .u64 0, .int .u64 0]) ?_ rfl ⟨rfl, kb⟩
  simp [results, Tryd.results19, go_sem, e0, e1]

set_option maxHeartbeats 4000000 in
set_option maxRecDepth 100000 in
theorem nan_default_yes (f ih il rh rl : Int)
    (h0 : Hid (∀ w, FTab w → Calls Tryd.prog 12 #[.int .u8 f] w fun e w' => e = .returned (.bool true) ∧ Below w.heap.size w w'))
    (h1 : Hid (∀ w, FTab w → Calls Tryd.prog 17 #[.int .u8 f, .bool false] w fun e w' => e = .returned (.agg #[.int .u64 ih, .int .u64 il]) ∧ Below w.heap.size w w'))
    (h2 : Hid (∀ w, FTab w → Calls Tryd.prog 38 #[.int .u8 f, .agg #[.int .u64 ih, .int .u64 il]] w fun e w' => e = .returned (.agg #[.int .u64 rh, .int .u64 rl]) ∧ Below w.heap.size w w')) (w : World) (ft : FTab w) :
    Calls Tryd.prog 19 #[.int .u8 f] w fun e w' => e = .returned (.agg #[.int .u64 rh, .int .u64 rl]) ∧ Below w.heap.size w w' := by
  go_enter Tryd.func19, Tryd.ntmps19
  go_wp2_with fail
  (with_reducible refine (h0.out _ (ft.later (bA (Below.refl _ _) _))).mono ?_); rintro e w1 ⟨rfl, hb⟩
  have hz := bC (bA (Below.refl _ _) _) hb
  have gX0 : w.heap.size ≤ w.heap.size := by omega
  have cX0_0 := cell_later hb (a := ⟨w.heap.size, 0, none⟩) (v := .int .u64 0) (by go_simp)
  have cX0_1 := cell_later hb (a := ⟨w.heap.size, 1, none⟩) (v := .int .u64 0) (by go_simp)
  have sX0 : w.heap.size < w1.heap.size := World.block_lt_of_cell? _ _ cX0_0
  have fX0_0 := frozen_later hb (a := ⟨w.heap.size, 0, none⟩) (v := .int .u64 0) (by go_simp) (by go_simp)
  have fX0_1 := frozen_later hb (a := ⟨w.heap.size, 1, none⟩) (v := .int .u64 0) (by go_simp) (by go_simp)
  have kk := hz
  clear hb hz
  go_wp2_with fail
  (with_reducible refine (h1.out _ (ft.later kk)).mono ?_); rintro e w2 ⟨rfl, hb⟩
  replace fX0_0 := frozen_later hb cX0_0 fX0_0; replace fX0_1 := frozen_later hb cX0_1 fX0_1
  replace cX0_0 := cell_later hb cX0_0; replace cX0_1 := cell_later hb cX0_1
  replace sX0 : w.heap.size < w2.heap.size := World.block_lt_of_cell? _ _ cX0_0
  replace kk := bC kk hb
  clear hb
  go_wp2_with fail
  (with_reducible refine (h2.out _ (ft.later kk)).mono ?_); rintro e w3 ⟨rfl, hb⟩
  replace fX0_0 := frozen_later hb cX0_0 fX0_0; replace fX0_1 := frozen_later hb cX0_1 fX0_1
  replace cX0_0 := cell_later hb cX0_0; replace cX0_1 := cell_later hb cX0_1
  replace sX0 : w.heap.size < w3.heap.size := World.block_lt_of_cell? _ _ cX0_0
  replace kk := bC kk hb
  clear hb
  have NW := BoxF.set (⟨Box.of cX0_0 cX0_1, fX0_0, fX0_1⟩ : BoxF w3 (w.heap.size) _ _) rh rl
  have KEY : Hid (((w3.setCell ⟨w.heap.size, 0, none⟩ (.int .u64 rh)).setCell ⟨w.heap.size, 1, none⟩ (.int .u64 rl)).cell? ⟨w.heap.size, 0, none⟩ = some (.int .u64 rh) ∧ ((w3.setCell ⟨w.heap.size, 0, none⟩ (.int .u64 rh)).setCell ⟨w.heap.size, 1, none⟩ (.int .u64 rl)).cell? ⟨w.heap.size, 1, none⟩ = some (.int .u64 rl) ∧ Below w.heap.size w ((w3.setCell ⟨w.heap.size, 0, none⟩ (.int .u64 rh)).setCell ⟨w.heap.size, 1, none⟩ (.int .u64 rl))) := Lib.hid ⟨NW.1.2.1, NW.1.2.2, (bS kk gX0 _ _)⟩
  clear NW
  go_wp2_with fail
  obtain ⟨e0, e1, kb⟩ := KEY.out
  clear KEY
  refine bodyPost_ret (v := .agg #[.int .u64 rh, .int .u64 rl]) ?_ rfl ⟨rfl, kb⟩
  simp [results, Tryd.results19, go_sem, e0, e1]

end Go.Proofs.YthnikhhgnogibaaDoor

/-
  Walks through nan.Pick.
-/
set_option linter.unusedVariables false
set_option linter.unusedSimpArgs false
namespace Go.Proofs.YthnikhhgnogibaaDoor
open Go.RowKit
attribute [local go_sem ↓] Go.wp_at_zero Go.wp_at_succ

end Go.Proofs.YthnikhhgnogibaaDoor

/-
  slices.IndexFunc over encodings with the closure that nan.Pick makes: contracts.
-/
set_option linter.unusedVariables false
set_option linter.unusedSimpArgs false
namespace Go.Proofs.YthnikhhgnogibaaDoor
open Go.RowKit
attribute [local go_sem ↓] Go.wp_at_zero Go.wp_at_succ


/-- What the first NaN gives. -/
theorem first_at (f : Int) {xs : List Int} {k : Nat} (hk : k < xs.length) (h : nanF f (xs.getD k 0 % full) = true) (no : someB (fun b => nanF f (b % full)) xs k = false) : firstV f xs = quietF f (xs.getD k 0 % full) ∧ anyN f xs = true := by
  have e : xs.getD k 0 = xs[k] := by rw [List.getD_eq_getElem?_getD, List.getElem?_eq_getElem hk, Option.getD_some]
  have s : xs = xs.take k ++ xs[k] :: xs.drop (k + 1) := by rw [← List.drop_eq_getElem_cons hk, List.take_append_drop]
  have n0 : (xs.take k).find? (fun b => nanF f (b % full)) = none := by
    rw [List.find?_eq_none]
    unfold someB at no
    rw [List.any_eq_false] at no
    exact no
  have fd : xs.find? (fun b => nanF f (b % full)) = some xs[k] := by
    obtain ⟨v, hv⟩ : ∃ v, xs[k] = v := ⟨_, rfl⟩
    rw [hv] at s e ⊢
    rw [e] at h
    rw [s, List.find?_append, n0, Option.none_or, List.find?_cons_of_pos (p := fun b => nanF f (b % full)) h]
  constructor
  · unfold firstV; rw [fd, e]
  · unfold anyN; rw [List.any_eq_true]; exact ⟨xs[k], List.getElem_mem _, by rw [← e]; exact h⟩

end Go.Proofs.YthnikhhgnogibaaDoor

/-
  Package nan keeps what the document asks.
-/
set_option linter.unusedVariables false
set_option linter.unusedSimpArgs false
namespace Go.Proofs.YthnikhhgnogibaaDoor
open Go.RowKit
attribute [local go_sem ↓] Go.wp_at_zero Go.wp_at_succ


/-- A bit set by or. -/
theorem nat_or_top (X k : Nat) : X ||| 2 ^ k = if 2 ^ k ≤ X % 2 ^ (k + 1) then X else X + 2 ^ k := by
  have e2 : 2 ^ (k + 1) = 2 * 2 ^ k := Nat.pow_succ'
  have d : X = 2 ^ (k + 1) * (X / 2 ^ (k + 1)) + X % 2 ^ (k + 1) := (Nat.div_add_mod X _).symm
  have m : X % 2 ^ (k + 1) < 2 ^ (k + 1) := Nat.mod_lt _ (Nat.two_pow_pos _)
  generalize X / 2 ^ (k + 1) = q at *
  generalize X % 2 ^ (k + 1) = r at *
  subst d
  split
  · rename_i h
    obtain ⟨s, rfl⟩ : ∃ s, r = 2 ^ k + s := ⟨r - 2 ^ k, by omega⟩
    have hs : s < 2 ^ k := by omega
    have e : 2 ^ k + s = 2 ^ k ||| s := by have := Nat.two_pow_add_eq_or_of_lt hs 1; simpa using this
    rw [Nat.two_pow_add_eq_or_of_lt m, e, Nat.or_assoc, Nat.or_assoc, Nat.or_comm s, ← Nat.or_assoc (2 ^ k) (2 ^ k), Nat.or_self]
  · rename_i h
    have hs : r < 2 ^ k := by omega
    have e : 2 ^ k + r = 2 ^ k ||| r := by have := Nat.two_pow_add_eq_or_of_lt hs 1; simpa using this
    rw [Nat.add_assoc, Nat.add_comm r, Nat.two_pow_add_eq_or_of_lt m, Nat.two_pow_add_eq_or_of_lt (show 2 ^ k + r < 2 ^ (k + 1) by omega), e, Nat.or_assoc, Nat.or_comm r]
theorem or_top {x : Int} (k : Nat) (hk : k < 128) (x0 : 0 ≤ x) (x1 : x < full) :
    bits .or .u64 (hiOf x) (hiOf (2 ^ k)) = hiOf (if 2 ^ k ≤ x % 2 ^ (k + 1) then x else x + 2 ^ k) ∧ bits .or .u64 (loOf x) (loOf (2 ^ k)) = loOf (if 2 ^ k ≤ x % 2 ^ (k + 1) then x else x + 2 ^ k) := by
  obtain ⟨X, rfl⟩ := Int.eq_ofNat_of_zero_le x0
  have hX : X < 340282366920938463463374607431768211456 := by unfold full at x1; omega
  have hp : (2 : Nat) ^ k < 2 ^ 128 := Nat.pow_lt_pow_right (by decide) hk
  have e : (if (2 : Int) ^ k ≤ (X : Int) % 2 ^ (k + 1) then (X : Int) else X + 2 ^ k) = ((X ||| 2 ^ k : Nat) : Int) := by
    rw [nat_or_top]
    have c : ((2 : Int) ^ k ≤ (X : Int) % 2 ^ (k + 1)) ↔ 2 ^ k ≤ X % 2 ^ (k + 1) := by
      rw [← Int.ofNat_le]; push_cast; exact Iff.rfl
    by_cases h : 2 ^ k ≤ X % 2 ^ (k + 1)
    · rw [if_pos h, if_pos (c.2 h)]
    · rw [if_neg h, if_neg (fun g => h (c.1 g))]; push_cast; rfl
  rw [e, show (2 : Int) ^ k = ((2 ^ k : Nat) : Int) by push_cast; rfl]
  exact or_nat_hl hX (by omega)
theorem quietedN {f x : Int} (h0 : 0 ≤ f) (h : f < 4) (x0 : 0 ≤ x) (x1 : x < full) (w : World) (ft : FTab w) : Calls Tryd.prog 38 #[.int .u8 f, .agg #[.int .u64 (hiOf (x)), .int .u64 (loOf (x))]] w fun e w' => e = .returned (.agg #[.int .u64 (hiOf (if (2 : Int) ^ (fP f - 2) ≤ fracF f x then x else x + 2 ^ (fP f - 2))), .int .u64 (loOf (if (2 : Int) ^ (fP f - 2) ≤ fracF f x then x else x + 2 ^ (fP f - 2)))]) ∧ Below w.heap.size w w' := by
  obtain ⟨p0, p1, p2, p3, p4, p5, p6, p7, p8⟩ := f_nums h0 h
  have L := leftB 1 ((fP f - 2 : Nat) : Int) (by omega) (by omega)
  rw [Int.toNat_natCast, Int.one_mul] at L
  obtain ⟨a1, a2⟩   := or_top (fP f - 2) (by omega) x0 x1
  rw [show fP f - 2 + 1 = fP f - 1 by omega] at a1 a2
  rw [show fracF f x = x % 2 ^ (fP f - 1) by unfold fracF; rw [if_pos h]]
  exact nan_quieted f _ _ (fP f) ((fP f - 2 : Nat) : Int) _ _ _ _ (Lib.hid (formOK.prec f h0 (by omega))) (Lib.hid L) (by rw [IntWalk.i64_in _ (by omega)]; omega) a1 a2 w ft
theorem quietN (f b : Int) (f0 : 0 ≤ f) (f1 : f ≤ 255) (w : World) (ft : FTab w) : Calls Tryd.prog 16 #[.int .u8 f, .agg #[.int .u64 (hiOf (b)), .int .u64 (loOf (b))]] w fun e w' => e = .returned (.agg #[.int .u64 (hiOf (quietF f (b % full))), .int .u64 (loOf (quietF f (b % full)))]) ∧ Below w.heap.size w w' := by
  obtain ⟨b0, b1⟩ := mod_f b
  have CU := formOK.cut f b f0 f1
  have CN := classOK.nan f (cutF f (b % full)) f0 f1
  have cr := cut_range (f := f) f0 b0
  rw [Int.emod_eq_of_lt (a := cutF f (b % full)) cr.1 (by omega)] at CN
  generalize b % full = B at *
  by_cases h : f < 4
  · have ce := cls_congr (exp_cut f0 h B) (frac_cut f0 h B)
    have ne : nanF f (cutF f B) = nanF f B := by unfold nanF; rw [ce]
    rw [ne] at CN
    by_cases hn : nanF f B = true
    · rw [hn] at CN
      have Q := quietedN (x := cutF f B) f0 h cr.1 (by omega)
      rw [frac_cut f0 h B] at Q
      have q : (if (2 : Int) ^ (fP f - 2) ≤ fracF f B then cutF f B else cutF f B + 2 ^ (fP f - 2)) = quietF f B := by
        unfold quietF
        by_cases hs : sigF f B = true
        · obtain ⟨_, _, _, lt⟩ := sig_parts hs
          rw [hs, if_pos rfl, if_neg (by omega)]
        · have hs' : sigF f B = false := by simpa using hs
          rw [hs', if_neg (show ¬ (false = true) by decide), Int.add_zero]
          by_cases g : (2 : Int) ^ (fP f - 2) ≤ fracF f B
          · rw [if_pos g]
          · exfalso
            unfold nanF at hn
            unfold sigF at hs'
            have n4 : 4 ≤ clsF f B := by simpa using hn
            have n5 : clsF f B ≠ 5 := by simpa using hs'
            have cg := cls_range f B
            have c4 : clsF f B = 4 := by omega
            unfold clsF at c4
            rw [if_pos h] at c4
            split at c4
            · split at c4 <;> omega
            · split at c4
              · split at c4
                · omega
                · first
                  | omega
                  | (split at c4 <;> first | contradiction | omega)
              · omega
      rw [q] at Q
      exact nan_quiet_yes f _ _ _ _ _ _ (Lib.hid CU) (Lib.hid CN) (Lib.hid Q) w ft
    · have hn' : nanF f B = false := by simpa using hn
      rw [hn'] at CN
      have hs : sigF f B = false := by
        cases hs : sigF f B
        · rfl
        · rw [sig_nan hs] at hn'; exact absurd hn' (by decide)
      rw [quiet_not hs]
      exact nan_quiet_no f _ _ _ _ (Lib.hid CU) (Lib.hid CN) w ft
  · have hn : nanF f (cutF f B) = false := by unfold nanF; rw [cls_no h]; rfl
    have hs : sigF f B = false := by unfold sigF; rw [cls_no h]; rfl
    rw [hn] at CN
    rw [quiet_not hs]
    exact nan_quiet_no f _ _ _ _ (Lib.hid CU) (Lib.hid CN) w ft
theorem defN (f : Int) (f0 : 0 ≤ f) (f1 : f ≤ 255) (w : World) (ft : FTab w) : Calls Tryd.prog 19 #[.int .u8 f] w fun e w' => e = .returned (.agg #[.int .u64 (hiOf (defF f)), .int .u64 (loOf (defF f))]) ∧ Below w.heap.size w w' := by
  have K := formOK.known f f0 f1
  by_cases h : f < 4
  · rw [show decide (f < 4) = true by simp [h]] at K
    obtain ⟨p0, p1, p2, p3, p4, p5, p6, p7, p8⟩ := f_nums f0 h
    have hp := two_pow_pos (fP f - 2)
    have n2 : (2 : Int) ^ (fP f - 1) = 2 * 2 ^ (fP f - 2) := by rw [← Int.pow_succ', show fP f - 2 + 1 = fP f - 1 by omega]
    obtain ⟨m1, m2, m3⟩ := make_fields f0 h false (2 * fE f + 1) 0
    have i0 : 0 ≤ infF f false ∧ infF f false < full := make_full f0 ..
    have Q := quietedN (x := infF f false) f0 h i0.1 i0.2
    have e : (if (2 : Int) ^ (fP f - 2) ≤ fracF f (infF f false) then infF f false else infF f false + 2 ^ (fP f - 2)) = defF f := by
      unfold infF
      rw [m2, Int.zero_emod, if_neg (by omega)]
      unfold defF makeF
      rw [if_pos h, if_pos h, Int.zero_emod, Int.emod_eq_of_lt (a := 2 ^ (fP f - 2)) (by omega) (by omega)]
      simp
    rw [e] at Q
    exact nan_default_yes f _ _ _ _ (Lib.hid K) (Lib.hid (formOK.inf f false f0 f1)) (Lib.hid Q) w ft
  · rw [show decide (f < 4) = false by simp [h]] at K
    rw [show defF f = 0 by unfold defF makeF; rw [if_neg h], hl_zero.1, hl_zero.2]
    exact nan_default_no f (Lib.hid K) w ft
/-- Package nan keeps what the document asks. -/
theorem nanOK : NanOK where
  quiet f b f0 f1 w ft := quietN f b f0 f1 w ft
  dflt f f0 f1 w ft := defN f f0 f1 w ft

end Go.Proofs.YthnikhhgnogibaaDoor
