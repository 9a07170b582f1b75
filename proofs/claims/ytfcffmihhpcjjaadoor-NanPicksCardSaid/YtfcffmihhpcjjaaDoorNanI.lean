/-
  slices.IndexFunc over encodings with the closure that nan.Pick makes: contracts.
-/
import Derived.Test.YtfcffmihhpcjjaaDoorClassG
import Derived.Test.YtfcffmihhpcjjaaDoorNanP
set_option linter.unusedVariables false
set_option linter.unusedSimpArgs false
set_option maxRecDepth 100000
namespace Go.Proofs.YtfcffmihhpcjjaaDoor
open Go.RowKit
attribute [local go_sem ↓] Go.wp_at_zero Go.wp_at_succ


set_option maxRecDepth 100000 in
set_option maxHeartbeats 1000000 in
/-- The closure: whether an encoding is a NaN. -/
theorem nan_fun (f b : Int) (f0 : 0 ≤ f) (f1 : f ≤ 255) (bk : Nat) (w : World) (ft : FTab w) (c3 : w.cell? ⟨bk, 0, none⟩ = some (.int .u8 f)) :
    Calls Tryd.prog 38 #[.agg #[.int .u64 (hiOf b), .int .u64 (loOf b)], .pointer (some ⟨bk, 0, none⟩)] w fun e w' => e = .returned (.bool (nanF f (b % full))) ∧ Below w.heap.size w w' := by
  have H := Lib.hid (classOK.nan f b f0 f1)
  have FT := Lib.hid ft
  have q3 : bk < w.heap.size := World.block_lt_of_cell? _ _ c3
  obtain ⟨p, hp⟩ : ∃ p, nanF f (b % full) = p := ⟨_, rfl⟩
  rw [hp] at H ⊢
  clear ft f0 f1 hp
  go_enter Tryd.func38, Tryd.ntmps38
  go_wp2_with fail
  (with_reducible refine (H.out _ (FT.out.later (bA (Below.refl _ _) _))).mono ?_); rintro e w1 ⟨rfl, hb⟩
  have HB := Lib.hid (bC (bA (Below.refl _ _) _) hb)
  clear hb
  go_wp2_with fail
  go_ret
  exact ⟨rfl, HB.out⟩

set_option maxRecDepth 100000 in
set_option maxHeartbeats 1000000 in
/-- The first place of which it says yes. -/
theorem index_nan (p : Int → Bool) (bk : Nat) (ao : Option Addr) (n cap : Nat) (xs : List Int) (w : World) (x : Bs w ao n cap xs)
    (H : Hid (∀ b W, Below w.heap.size w W → Calls Tryd.prog 38 #[.agg #[.int .u64 (hiOf b), .int .u64 (loOf b)], .pointer (some ⟨bk, 0, none⟩)] W fun e W' => e = .returned (.bool (p b)) ∧ Below W.heap.size W W')) :
    Calls Tryd.prog 37 #[.slice ao n cap, .func (.func 38) #[] #[.pointer (some ⟨bk, 0, none⟩)]] w fun e w' => ∃ r : Int, e = .returned (.int .i64 r) ∧ ((r = -1 ∧ xs.any p = false) ∨ ∃ k : Nat, r = k ∧ k < n ∧ someB p xs k = false ∧ p (xs.getD k 0) = true) ∧ Below w.heap.size w w' := by
  have HX := Lib.hid x
  clear x
  go_enter Tryd.func37, Tryd.ntmps37
  go_wp2_with fail
  go_loopw [8] (fun i wr => ∃ k : Nat, k ≤ n ∧ i = .int .i64 k ∧ someB p xs k = false ∧ Below w.heap.size w wr) (fun i _ => n - (intOf i).toNat)
  case atStart => exact ⟨0, by omega, rfl, rfl, Below.refl _ _⟩
  case round =>
    obtain ⟨k, hk, rfl, hno, hb⟩ := hrel
    by_cases hlt : k < n
    · obtain ⟨a, hao, c0, c1⟩ := (HX.out.later hb).2.2.2 k hlt
      subst hao
      have su := someB_succ p xs k (HX.out.1 ▸ hlt)
      rw [hno, Bool.false_or] at su
      obtain ⟨y, hy⟩ : ∃ y, xs.getD k 0 = y := ⟨_, rfl⟩
      have HY := Lib.hid hy
      rw [hy] at c0 c1 su
      have gk : decide ((k : Int) < (n : Int)) = true := by simp; omega
      have inc : IntKind.i64.wrap ((k : Int) + 1) = ((k + 1 : Nat) : Int) := by have := HX.out.2.2.1.1; rw [IntKind.wrap_i64]; omega
      have HB := Lib.hid hb; have SU := Lib.hid su; have HK := Lib.hid (And.intro hk hlt); have HN := Lib.hid hno
      have HH := Lib.hid (H.out y _ hb)
      cases hv : p y
      · rw [hv] at SU HH
        clear hb su hno hk hy
        go_wp2_with fail
        (with_reducible refine (HH.out).mono ?_); rintro e w1 ⟨rfl, hb1⟩
        have K1 := Lib.hid (bC HB.out hb1)
        clear hb1 c0 c1
        go_wp2_with fail
        go_roundw
        case rel => exact ⟨k + 1, by have := HK.out; omega, by go_num, SU.out, K1.out⟩
        case measure => have := HK.out; simp [intOf]; omega
      · rw [hv] at SU HH
        have HV := Lib.hid hv
        clear hb su hno hk hy hv
        go_wp2_with fail
        (with_reducible refine (HH.out).mono ?_); rintro e w1 ⟨rfl, hb1⟩
        have K1 := Lib.hid (bC HB.out hb1)
        clear hb1 c0 c1
        go_wp2_with fail
        refine bodyPost_ret (v := .int .i64 k) (by simp [results, Tryd.results37, go_sem]) rfl ⟨_, rfl, .inr ⟨k, rfl, HK.out.2, HN.out, ?_⟩, K1.out⟩
        rw [HY.out]; exact HV.out
    · have gk : decide ((k : Int) < (n : Int)) = false := by simp; omega
      have e : k = n := by omega
      have HB := Lib.hid hb; have HE := Lib.hid (And.intro e hno)
      clear hb e hno
      go_wp2_with fail
      refine bodyPost_ret (v := .int .i64 (-1)) (by simp [results, Tryd.results37, go_sem]) rfl ⟨_, rfl, .inl ⟨rfl, ?_⟩, HB.out⟩
      rw [← someB_all p xs HX.out.1, ← HE.out.1, HE.out.2]

/-- The answer is one for a list: no NaN, or the place of the first. -/
theorem index_one (f : Int) (f0 : 0 ≤ f) (f1 : f ≤ 255) (ao : Option Addr) (n cap : Nat) (xs : List Int) (hn : n = xs.length) :
    (anyN f xs = false ∧ ∀ bk w, FTab w → Bs w ao n cap xs → w.cell? ⟨bk, 0, none⟩ = some (.int .u8 f) → Calls Tryd.prog 37 #[.slice ao n cap, .func (.func 38) #[] #[.pointer (some ⟨bk, 0, none⟩)]] w fun e w' => e = .returned (.int .i64 (-1)) ∧ Below w.heap.size w w') ∨
    ∃ k : Nat, k < n ∧ nanF f (xs.getD k 0 % full) = true ∧ someB (fun b => nanF f (b % full)) xs k = false ∧ ∀ bk w, FTab w → Bs w ao n cap xs → w.cell? ⟨bk, 0, none⟩ = some (.int .u8 f) → Calls Tryd.prog 37 #[.slice ao n cap, .func (.func 38) #[] #[.pointer (some ⟨bk, 0, none⟩)]] w fun e w' => e = .returned (.int .i64 (k : Int)) ∧ Below w.heap.size w w' := by
  have once : ∀ r : Int, ((r = -1 ∧ xs.any (fun b => nanF f (b % full)) = false) ∨ ∃ k : Nat, r = k ∧ k < n ∧ someB (fun b => nanF f (b % full)) xs k = false ∧ nanF f (xs.getD k 0 % full) = true) → ∀ s : Int, ((s = -1 ∧ xs.any (fun b => nanF f (b % full)) = false) ∨ ∃ k : Nat, s = k ∧ k < n ∧ someB (fun b => nanF f (b % full)) xs k = false ∧ nanF f (xs.getD k 0 % full) = true) → r = s := by
    have yes : ∀ k : Nat, k < n → nanF f (xs.getD k 0 % full) = true → xs.any (fun b => nanF f (b % full)) = true := fun k hk h => by
      rw [List.any_eq_true]
      refine ⟨xs.getD k 0, ?_, h⟩
      rw [List.getD_eq_getElem?_getD, List.getElem?_eq_getElem (by omega)]
      exact List.getElem_mem _
    have lt : ∀ k j : Nat, k < n → j < k → nanF f (xs.getD j 0 % full) = true → someB (fun b => nanF f (b % full)) xs k = true := fun k j hk hj h => by
      unfold someB
      rw [List.any_eq_true]
      refine ⟨xs.getD j 0, ?_, h⟩
      rw [List.getD_eq_getElem?_getD, List.getElem?_eq_getElem (by omega)]
      rw [List.mem_take_iff_getElem]
      exact ⟨j, by omega, rfl⟩
    rintro r (⟨rfl, h⟩ | ⟨k, rfl, hk, h1, h2⟩) s (⟨rfl, g⟩ | ⟨j, rfl, hj, g1, g2⟩)
    · rfl
    · rw [yes j hj g2] at h; exact absurd h (by decide)
    · rw [yes k hk h2] at g; exact absurd g (by decide)
    · rcases Nat.lt_trichotomy k j with q | q | q
      · rw [lt j k hj q h2] at g1; exact absurd g1 (by decide)
      · rw [q]
      · rw [lt k j hk q g2] at h1; exact absurd h1 (by decide)
  have C : ∀ bk w, FTab w → Bs w ao n cap xs → w.cell? ⟨bk, 0, none⟩ = some (.int .u8 f) → _ := fun bk w ft x c => index_nan (fun b => nanF f (b % full)) bk ao n cap xs w x (Lib.hid fun b W hb => nan_fun f b f0 f1 bk W (ft.later hb) (cell_later hb c))
  have fix : ∀ r : Int, ((r = -1 ∧ xs.any (fun b => nanF f (b % full)) = false) ∨ ∃ k : Nat, r = k ∧ k < n ∧ someB (fun b => nanF f (b % full)) xs k = false ∧ nanF f (xs.getD k 0 % full) = true) → ∀ bk w, FTab w → Bs w ao n cap xs → w.cell? ⟨bk, 0, none⟩ = some (.int .u8 f) → Calls Tryd.prog 37 #[.slice ao n cap, .func (.func 38) #[] #[.pointer (some ⟨bk, 0, none⟩)]] w fun e w' => e = .returned (.int .i64 r) ∧ Below w.heap.size w w' := fun r hr bk w ft x c => by
    refine (C bk w ft x c).mono ?_
    rintro e w' ⟨s, rfl, hs, hb⟩
    rw [once r hr s hs]
    exact ⟨rfl, hb⟩
  by_cases h : xs.any (fun b => nanF f (b % full)) = true
  · right
    have e : ∃ k : Nat, k < n ∧ nanF f (xs.getD k 0 % full) = true := by
      rw [List.any_eq_true] at h
      obtain ⟨y, hy, hp⟩ := h
      obtain ⟨k, hk, he⟩ := List.mem_iff_getElem.1 hy
      refine ⟨k, by omega, ?_⟩
      rw [List.getD_eq_getElem?_getD, List.getElem?_eq_getElem hk, Option.getD_some, he]; exact hp
    obtain ⟨k, ⟨hk, hp⟩, hmin⟩ : ∃ k : Nat, (k < n ∧ nanF f (xs.getD k 0 % full) = true) ∧ ∀ j, j < k → ¬ (j < n ∧ nanF f (xs.getD j 0 % full) = true) := by
      obtain ⟨k, hk⟩ := e
      induction k using Nat.strongRecOn with
      | ind k ih =>
        by_cases c : ∃ j, j < k ∧ (j < n ∧ nanF f (xs.getD j 0 % full) = true)
        · obtain ⟨j, hj, hc⟩ := c; exact ih j hj hc
        · exact ⟨k, hk, fun j hj hc => c ⟨j, hj, hc⟩⟩
    have no : someB (fun b => nanF f (b % full)) xs k = false := by
      unfold someB
      rw [List.any_eq_false]
      intro y hy
      rw [List.mem_take_iff_getElem] at hy
      obtain ⟨j, hj, rfl⟩ := hy
      have := hmin j (by omega)
      rw [List.getD_eq_getElem?_getD, List.getElem?_eq_getElem (by omega), Option.getD_some] at this
      intro hc; exact this ⟨by omega, hc⟩
    exact ⟨k, hk, hp, no, fix k (.inr ⟨k, rfl, hk, no, hp⟩)⟩
  · left
    have h' : xs.any (fun b => nanF f (b % full)) = false := by simpa using h
    exact ⟨h', fix (-1) (.inl ⟨rfl, h'⟩)⟩
/-- What the first NaN gives. -/
theorem first_at (f : Int) {xs : List Int} {k : Nat} (hk : k < xs.length) (h : nanF f (xs.getD k 0 % full) = true) (no : someB (fun b => nanF f (b % full)) xs k = false) : firstV f xs = quietF f (xs.getD k 0 % full) ∧ anyN f xs = true := by
  have e : xs.getD k 0 = xs[k] := by rw [List.getD_eq_getElem?_getD, List.getElem?_eq_getElem hk, Option.getD_some]
  have s : xs = xs.take k ++ xs[k] :: xs.drop (k + 1) := by rw [← List.drop_eq_getElem_cons hk, List.take_append_drop]
  have n0 : (xs.take k).find? (fun b => nanF f (b % full)) = none := by
    rw [List.find?_eq_none]
    unfold someB at no
    rw [List.any_eq_false] at no
    exact no
  have fd : xs.find? (fun b => nanF f (b % full)) = some xs[k] := by
    obtain ⟨v, hv⟩ : ∃ v, xs[k] = v := ⟨_, rfl⟩
    rw [hv] at s e ⊢
    rw [e] at h
    rw [s, List.find?_append, n0, Option.none_or, List.find?_cons_of_pos (p := fun b => nanF f (b % full)) h]
  constructor
  · unfold firstV; rw [fd, e]
  · unfold anyN; rw [List.any_eq_true]; exact ⟨xs[k], List.getElem_mem _, by rw [← e]; exact h⟩

end Go.Proofs.YtfcffmihhpcjjaaDoor
