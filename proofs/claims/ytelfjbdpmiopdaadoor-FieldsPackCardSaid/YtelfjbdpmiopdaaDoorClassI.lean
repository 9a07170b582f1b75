/-
  slices.Contains over classes, slices.ContainsFunc over encodings, the closure that class.Any makes: contracts.
-/
import Derived.Test.YtelfjbdpmiopdaaDoorClassC
import Derived.Test.YtelfjbdpmiopdaaDoorAny8
import Derived.Defers
import Derived.Recover
set_option linter.unusedVariables false
set_option linter.unusedSimpArgs false
set_option maxRecDepth 100000
namespace Go.Proofs.YtelfjbdpmiopdaaDoor
open Go.RowKit
attribute [local go_sem ↓] Go.wp_at_zero Go.wp_at_succ

/-- The cells of a list of classes. -/
def Us (w : World) (a : Addr) (xs : List Int) : Prop := ∀ k, k < xs.length → w.cell? (a.add k) = some (.int .u8 (xs.getD k 0))
theorem Us.later {W w1 : World} {a : Addr} {xs : List Int} (x : Us W a xs) (hb : Below W.heap.size W w1) : Us w1 a xs := fun k hk => cell_later hb (x k hk)
set_option maxRecDepth 100000 in
set_option maxHeartbeats 1000000 in
theorem index_u8 (a : Addr) (n cap : Nat) (xs : List Int) (v : Int) (hn : n = xs.length) (hm : n ≤ 9223372036854775807) (w : World) (x : Us w a xs) :
    Calls Tryd.prog 90 #[.slice (some a) n cap, .int .u8 v] w fun e w' => ∃ r : Int, e = .returned (.int .i64 r) ∧ decide (0 ≤ r) = xs.any (fun y => v == y) ∧ Below w.heap.size w w' := by
  have HX := Lib.hid x
  have HM := Lib.hid hm
  have HN := Lib.hid hn
  clear x hm hn
  go_enter Tryd.func90, Tryd.ntmps90
  go_wp2_with fail
  go_loopw [8] (fun i wr => ∃ k : Nat, k ≤ n ∧ i = .int .i64 k ∧ someB (fun y => v == y) xs k = false ∧ Below w.heap.size w wr) (fun i _ => n - (intOf i).toNat)
  case atStart => exact ⟨0, by omega, rfl, rfl, Below.refl _ _⟩
  case round =>
    obtain ⟨k, hk, rfl, hno, hb⟩ := hrel
    by_cases hlt : k < n
    · have c := (HX.out.later hb) k (HN.out ▸ hlt)
      have su := someB_succ (fun y => v == y) xs k (HN.out ▸ hlt)
      rw [hno, Bool.false_or] at su
      obtain ⟨y, hy⟩ : ∃ y, xs.getD k 0 = y := ⟨_, rfl⟩
      rw [hy] at c su
      have gk : decide ((k : Int) < (n : Int)) = true := by simp; omega
      have inc : IntKind.i64.wrap ((k : Int) + 1) = ((k + 1 : Nat) : Int) := by have := HM.out; rw [IntKind.wrap_i64]; omega
      have HB := Lib.hid hb; have SU := Lib.hid su; have HK := Lib.hid (And.intro hk hlt)
      by_cases hv : (v == y) = true
      · clear hb su hno
        go_wp2_with fail
        refine bodyPost_ret (v := .int .i64 k) (by simp [results, Tryd.results90, go_sem]) rfl ⟨_, rfl, ?_, HB.out⟩
        rw [show decide (0 ≤ (k : Int)) = true by simp]
        have h : someB (fun y => v == y) xs (k + 1) = true := by rw [SU.out]; exact hv
        unfold someB at h
        rw [List.any_eq_true] at h
        obtain ⟨z, hz, hp⟩ := h
        exact (List.any_eq_true.2 ⟨z, List.mem_of_mem_take hz, hp⟩).symm
      · have hv' : (v == y) = false := by simpa using hv
        clear hb su hno hv
        go_wp2_with fail
        go_roundw
        case rel => exact ⟨k + 1, by have := HK.out; omega, by go_num, by rw [SU.out]; exact hv', HB.out⟩
        case measure => have := HK.out; simp [intOf]; omega
    · have gk : decide ((k : Int) < (n : Int)) = false := by simp; omega
      have e : k = n := by omega
      have HB := Lib.hid hb; have HE := Lib.hid (And.intro e hno)
      clear hb e hno
      go_wp2_with fail
      refine bodyPost_ret (v := .int .i64 (-1)) (by simp [results, Tryd.results90, go_sem]) rfl ⟨_, rfl, ?_, HB.out⟩
      rw [← someB_all (fun y => v == y) xs HN.out, ← HE.out.1, HE.out.2]; rfl

theorem contains_u8 (a : Addr) (n cap : Nat) (xs : List Int) (v : Int) (hn : n = xs.length) (hm : n ≤ 9223372036854775807) (w : World) (x : Us w a xs) :
    Calls Tryd.prog 68 #[.slice (some a) n cap, .int .u8 v] w fun e w' => e = .returned (.bool (xs.any fun y => v == y)) ∧ Below w.heap.size w w' := by
  have K := Lib.hid (index_u8 a n cap xs v hn hm w x)
  clear x hn hm
  go_enter Tryd.func68, Tryd.ntmps68
  go_wp2_with fail
  (with_reducible refine (K.out).mono ?_); rintro e w1 ⟨r, rfl, hr, hb⟩
  have HB := Lib.hid hb; have HR := Lib.hid hr
  clear hb hr
  go_wp2_with fail
  go_ret
  exact ⟨congrArg (fun z => Ending.returned (.bool z)) HR.out, HB.out⟩

end Go.Proofs.YtelfjbdpmiopdaaDoor
