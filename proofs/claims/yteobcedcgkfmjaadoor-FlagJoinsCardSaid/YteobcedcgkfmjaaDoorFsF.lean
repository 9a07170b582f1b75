/-
  How an argument reads that is a slice of sets of flags.
-/
import Derived.Test.YteobcedcgkfmjaaDoorFrameK
import Derived.Test.YteobcedcgkfmjaaDoorFlagD
import Derived.Deep.Slices
import Derived.ChangeSlices
import Derived.ChangeSame
set_option linter.unusedVariables false
set_option maxRecDepth 100000
namespace Go.Proofs.YteobcedcgkfmjaaDoor
open Go.ChangeShapes Go.WideShapes Go.ChangeAt Go.RowKit Go.Joins Go.Deep

theorem cellsFl : Tryd.prog.cellsOf 23 = 1 := by kernel_rfl
theorem open_fs {H : Type} {enc : TypeId × Value → H} {W : World} {r : Reach} {b0 : Nat} {v : Value} {d : DataW H} {p : List MemPlace} (hv : Value.okWide Tryd.prog W r b0 22 v)
    (h : DataW.Trod enc Tryd.prog W 0 (fun _ => true) true 22 v d p) :
    ∃ ao n cap xs, v = .slice ao n cap ∧ Fs W ao n cap xs ∧ ∀ W', Below W.heap.size W W' → DataW.Trod enc Tryd.prog W' 0 (fun b => decide (b < W.heap.size)) true 22 v d p := by
  obtain ⟨ao, n, cap, rfl⟩ := okWide_slice Tryd.underlying22 hv
  obtain ⟨fuel, hf⟩ := h
  have hcs : (Value.slice ao n cap).cells.toList = [.slice ao n cap] := rfl
  rcases open_ints Tryd.underlying22 Tryd.underlying23 cellsFl hf with ⟨hcs0, hx⟩ | ⟨a, len, cp, zs, hcs0, _, hl, hm, hmm, hx, hcell, hwf⟩
  · obtain ⟨rfl, rfl, rfl⟩ : ao = none ∧ n = 0 ∧ cap = 0 := by simpa [Value.cells] using hcs0
    simp only [Prod.mk.injEq] at hx
    obtain ⟨rfl, rfl⟩ := hx
    refine ⟨none, 0, 0, [], rfl, Fs.nil _, fun W' _ => ⟨1, ?_⟩⟩
    simp [DataW.trod, Value.cells, Tryd.underlying22]
  · obtain ⟨rfl, rfl, rfl⟩ : ao = some a ∧ n = len ∧ cap = cp := by simpa [Value.cells] using hcs0
    simp only [if_true] at hmm
    simp only [Prod.mk.injEq] at hx
    obtain ⟨rfl, rfl⟩ := hx
    have hmx : cap ≤ 9223372036854775807 := hm
    refine ⟨some a, n, cap, (zs.take n).map Int.toNat, rfl, ⟨by simp; omega, hl, ⟨by omega, fun h => by cases h⟩, fun x hx => ?_, fun k hk => ⟨a, rfl, ?_⟩⟩, fun W' hb => ?_⟩
    · obtain ⟨z, hz, rfl⟩ := List.mem_map.1 hx
      have := bounds_u8 (hwf z (List.mem_of_mem_take hz))
      omega
    · have hk' : k < zs.length := by omega
      have c := hcell k hk'
      have b := bounds_u8 (hwf _ (List.getElem_mem hk'))
      rw [c]
      simp only [List.getD_eq_getElem?_getD, List.getElem?_map, List.getElem?_take_of_lt hk, List.getElem?_eq_getElem hk', Option.map_some, Option.getD_some]
      rw [Int.toNat_of_nonneg b.1]
    · by_cases hs : a.block < W.heap.size
      · exact ⟨2, shut_ints 0 Tryd.underlying22 Tryd.underlying23 cellsFl (Nat.zero_le _) hl hm (by simp [hs, hmm]) (fun i hi => cell_later hb (hcell i hi)) hwf⟩
      · have m0 : zs.length = 0 := by
          refine Nat.eq_zero_of_not_pos fun h => hs ?_
          have := World.block_lt_of_cell? _ _ (hcell 0 h)
          exact this
        have n0 : n = 0 := by omega
        subst n0
        exact ⟨2, shut_ints 0 Tryd.underlying22 Tryd.underlying23 cellsFl (Nat.zero_le _) hl hm (by simp [hs, m0]) (fun i hi => by omega) hwf⟩
end Go.Proofs.YteobcedcgkfmjaaDoor
