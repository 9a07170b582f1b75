/-
  How an argument reads that is a slice of encodings.
-/
import Derived.Test.YtfcffmihhpcjjaaDoorFrameK
import Derived.Test.YtfcffmihhpcjjaaDoorAny8
import Derived.Deep.Slices
import Derived.ChangeSame
set_option linter.unusedVariables false
set_option maxRecDepth 100000
namespace Go.Proofs.YtfcffmihhpcjjaaDoor
open Go.ChangeShapes Go.WideShapes Go.ChangeAt Go.RowKit Go.Joins Go.Deep

theorem cells2_later {W w1 : World} (hb : Below W.heap.size W w1) {b : Nat} {a : Addr} {cs : List Value} (h : W.cells? b a 2 = some cs) : w1.cells? b a 2 = some cs ∧ ∃ v0 v1, cs = [v0, v1] ∧ W.cell? a = some v0 ∧ W.cell? ⟨a.block, a.off + 1, none⟩ = some v1 ∧ a.block < W.heap.size := by
  obtain ⟨hb0, hl, hc⟩ := World.cells?_some h
  match cs, hl with
  | [v0, v1], _ =>
    have c0 : W.cell? a = some v0 := hc 0 (by omega)
    have c1 : W.cell? (a.add 1) = some v1 := hc 1 (by omega)
    refine ⟨?_, v0, v1, rfl, c0, c1, World.block_lt_of_cell? _ _ c0⟩
    have d0 : w1.cell? (a.add 0) = some v0 := cell_later hb c0
    have d1 := cell_later hb c1
    unfold World.cells?
    rw [if_pos hb0, show List.range 2 = [0, 1] from rfl]
    simp [d0, d1]
theorem hilo {h l : Int} (wh : (Lit.int .u64 h).wf = true) (wl : (Lit.int .u64 l).wf = true) : hiOf (val h l) = h ∧ loOf (val h l) = l := by
  exact hl_val (u64_of_wf wh) (u64_of_wf wl)
theorem elem_bits {H : Type} {enc : TypeId × Value → H} {W : World} {base : Nat} {sp : Nat → Bool} {held : Bool} {k : Nat} {v0 v1 : Value} {x : DataW H × List MemPlace} (h : DataW.trod enc Tryd.prog W base sp held k 25 [v0, v1] = some x) :
    ∃ a b : Int, v0 = .int .u64 a ∧ v1 = .int .u64 b ∧ x = (.agg [.lit (.int .u64 a), .lit (.int .u64 b)], []) ∧ (Lit.int .u64 a).wf = true ∧ (Lit.int .u64 b).wf = true := by
  obtain ⟨y0, y1, n, rfl, _, h0, h1⟩ := trod_struct2 Tryd.underlying25 h
  obtain ⟨a, ea, rfl, wa⟩ := DataW.trod_int Tryd.underlying23 h0
  obtain ⟨b, eb, rfl, wb⟩ := DataW.trod_int Tryd.underlying23 h1
  have c1 : Tryd.prog.cellsOf 23 = 1 := by kernel_rfl
  simp [c1] at ea eb
  exact ⟨a, b, ea, eb, rfl, wa, wb⟩
theorem open_bs {H : Type} {enc : TypeId × Value → H} {W : World} {r : Reach} {b0 : Nat} {v : Value} {d : DataW H} {p : List MemPlace} (hv : Value.okWide Tryd.prog W r b0 30 v)
    (h : DataW.Trod enc Tryd.prog W 0 (fun _ => true) true 30 v d p) :
    ∃ ao n cap xs, v = .slice ao n cap ∧ Bs W ao n cap xs ∧ ∀ W', Below W.heap.size W W' → DataW.Trod enc Tryd.prog W' 0 (fun b => decide (b < W.heap.size)) true 30 v d p := by
  obtain ⟨ao, n, cap, rfl⟩ := okWide_slice Tryd.underlying30 hv
  obtain ⟨fuel, hf⟩ := h
  have hcs : (Value.slice ao n cap).cells.toList = [.slice ao n cap] := rfl
  rcases open_slice Tryd.underlying30 hf with ⟨hcs0, hx⟩ | ⟨a, len, cp, m, k, D, Pl, hcs0, _, hl, hm, hmm, hx, hi⟩
  · obtain ⟨rfl, rfl, rfl⟩ : ao = none ∧ n = 0 ∧ cap = 0 := by simpa [Value.cells] using hcs0
    simp only [Prod.mk.injEq] at hx
    obtain ⟨rfl, rfl⟩ := hx
    refine ⟨none, 0, 0, [], rfl, ⟨rfl, by omega, ⟨by omega, fun _ => ⟨rfl, rfl⟩⟩, fun k hk => by omega⟩, fun W' _ => ⟨1, ?_⟩⟩
    simp [DataW.trod, Value.cells, Tryd.underlying30]
  · obtain ⟨rfl, rfl, rfl⟩ : ao = some a ∧ n = len ∧ cap = cp := by simpa [Value.cells] using hcs0
    simp only [if_true] at hmm
    subst hmm
    simp only [Prod.mk.injEq] at hx
    obtain ⟨rfl, rfl⟩ := hx
    rw [cellsB] at hi
    have each : ∀ i, i < m → ∃ q : Int × Int, W.cells? 0 (a.add (i * 2)) 2 = some [.int .u64 q.1, .int .u64 q.2] ∧ (D i, Pl i) = (.agg [.lit (.int .u64 q.1), .lit (.int .u64 q.2)], []) ∧ (Lit.int .u64 q.1).wf = true ∧ (Lit.int .u64 q.2).wf = true := fun i h => by
      obtain ⟨cs', h1, h2⟩ := hi i h
      obtain ⟨_, v0, v1, rfl, _⟩ := cells2_later (Below.refl _ W) h1
      obtain ⟨x, y, rfl, rfl, e, wx, wy⟩ := elem_bits h2
      exact ⟨(x, y), h1, e, wx, wy⟩
    obtain ⟨q, hq⟩ := choose_lt each
    have hmx : m ≤ 9223372036854775807 := hm
    refine ⟨some a, n, m, (List.range n).map fun i => val (q i).1 (q i).2, rfl, ⟨by simp, hl, ⟨by omega, fun h => by cases h⟩, fun k hk => ⟨a, rfl, ?_⟩⟩, fun W' hb => ?_⟩
    · obtain ⟨h1, _, wx, wy⟩ := hq k (by omega)
      obtain ⟨_, v0, v1, e, c0, c1, _⟩ := cells2_later (Below.refl _ W) h1
      simp only [List.cons.injEq, and_true] at e
      obtain ⟨rfl, rfl⟩ := e
      have g : ((List.range n).map fun i => val (q i).1 (q i).2).getD k 0 = val (q k).1 (q k).2 := by simp [List.getD_eq_getElem?_getD, List.getElem?_range hk]
      rw [g, (hilo wx wy).1, (hilo wx wy).2]
      exact ⟨c0, c1⟩
    · have back : ∀ (sp : Nat → Bool) i, i < m → ∃ cs n, W'.cells? 0 (a.add (i * Tryd.prog.cellsOf 25)) (Tryd.prog.cellsOf 25) = some cs ∧ DataW.trod enc Tryd.prog W' 0 sp true n 25 cs = some (D i, Pl i) := fun sp i h => by
        obtain ⟨h1, e, wx, wy⟩ := hq i h
        obtain ⟨n, hn⟩ := readsB enc W' sp _ _ wx wy
        rw [e, cellsB]
        exact ⟨_, n, (cells2_later hb h1).1, hn⟩
      by_cases hs : a.block < W.heap.size
      · exact shut_slice_whole_cells Tryd.underlying30 (Nat.zero_le _) hl hm (by simpa using hs) D Pl (back _)
      · have m0 : m = 0 := by
          refine Nat.eq_zero_of_not_pos fun h => hs ?_
          obtain ⟨h1, _⟩ := hq 0 h
          exact (cells2_later (Below.refl _ W) h1).2.choose_spec.choose_spec.2.2.2
        have n0 : n = 0 := by omega
        subst m0 n0
        exact shut_slice_cells Tryd.underlying30 (Nat.zero_le _) hl hm (by simpa using hs) D Pl (fun i h => by omega)
end Go.Proofs.YtfcffmihhpcjjaaDoor
