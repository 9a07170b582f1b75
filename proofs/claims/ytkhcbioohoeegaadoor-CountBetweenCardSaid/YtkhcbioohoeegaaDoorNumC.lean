/-
  Contracts of the document's own numbers: Add, Sub.
-/
import Derived.Test.YtkhcbioohoeegaaDoorNumB
set_option linter.unusedVariables false
set_option maxRecDepth 100000
namespace Go.Proofs.YtkhcbioohoeegaaDoor
open Go.RowKit

theorem info32 : (Tryd.prog.info? 55).map (fun i => (i.zero, i.size, i.bytes)) = some (some (.int .u32 0), 1, 4) := by kernel_rfl

/-- The call's own slice v holds the digits os. -/
def Own (w : World) (base : Nat) (v : Value) (os : List Int) : Prop :=
  w.ownsRow base 55 1 v os.length (os.map (Value.int .u32)) ∧ Digs os
theorem Own.nil (w : World) (base : Nat) : Own w base (.slice none 0 0) [] := ⟨World.ownsRow_nil w base _ 1, digs_nil⟩
theorem Own.dig {w : World} {base : Nat} {v : Value} {os : List Int} (h : Own w base v os) (hl : os.length ≤ 1000000) (h0 : 0 < os.length) : ∃ g cap, v = .slice (some ⟨g, 0, none⟩) os.length cap ∧ Dig w (some ⟨g, 0, none⟩) os.length cap os := by
  obtain ⟨⟨h1, h2⟩, hd⟩ := h
  rcases h2 with ⟨_, h3⟩ | ⟨g, cap, cur, rfl, hg, hh, hnc, hcm, hsz, htk⟩
  · omega
  · have hr : w.ownsRow base 55 1 (.slice (some ⟨g, 0, none⟩) os.length cap) os.length (os.map (Value.int .u32)) := ⟨h1, .inr ⟨g, cap, cur, rfl, hg, hh, hnc, hcm, hsz, htk⟩⟩
    have hlt := (hr.lt g rfl).2
    refine ⟨g, cap, rfl, rfl, hnc, hl, hd, fun _ => ⟨g, rfl, hlt, fun k hk => ?_⟩⟩
    rw [hr.cellAt k (by omega), List.getElem?_map, List.getElem?_eq_getElem hk, List.getD_eq_getElem?_getD, List.getElem?_eq_getElem hk]
    rfl
theorem Own.snoc {w w' : World} {base : Nat} {v v' : Value} {os : List Int} {d : Int} (h : Own w base v os) (hd : D32 d) (h' : w'.ownsRow base 55 1 v' (os.length + 1) (os.map (Value.int .u32) ++ [.int .u32 d])) : Own w' base v' (os ++ [d]) :=
  ⟨by simpa using h', digs_snoc h.2 hd⟩
theorem Own.digAny {w : World} {base : Nat} {v : Value} {os : List Int} (h : Own w base v os) (hl : os.length ≤ 1000000) : ∃ ao cap, v = .slice ao os.length cap ∧ Dig w ao os.length cap os := by
  by_cases h0 : 0 < os.length
  · obtain ⟨g, cap, e, hd⟩ := h.dig hl h0
    exact ⟨_, cap, e, hd⟩
  · have hz : os.length = 0 := by omega
    rcases h.1.2 with ⟨e, _⟩ | ⟨g, cap, cur, e, hg, hh, hnc, _⟩
    · exact ⟨none, 0, by rw [hz]; exact e, rfl, by omega, hl, h.2, fun h => absurd h h0⟩
    · exact ⟨_, cap, e, rfl, hnc, hl, h.2, fun h => absurd h h0⟩
/-- Behind an append: what lay below is as it was. -/
theorem bG {a w w' : World} {v : Value} {os : List Int} (h : Below a.heap.size a w) (ho : Own w a.heap.size v os) (hg : w.grownBy w' v.ownBlock) : Below a.heap.size a w' :=
  h.grown hg h.size (fun k hk => (ho.1.lt k hk).1)

theorem Own.later {W w1 : World} {base : Nat} {v : Value} {os : List Int} (x : Own W base v os) (hb : Below W.heap.size W w1) : Own w1 base v os := by
  refine ⟨⟨x.1.1, ?_⟩, x.2⟩
  rcases x.1.2 with h | ⟨g, cap, cur, rfl, hg, hh, r⟩
  · exact .inl h
  · refine .inr ⟨g, cap, cur, rfl, hg, ?_, r⟩
    have hlt := (x.1.lt g rfl).2
    exact (hb.block g hlt).trans hh

/-- out = append(out, d), out the call's own. -/
theorem append_u32 {ops : Array Oper} {rest : List Oper} {o : Oper} {a : Act} {Q : Exit → Act → World → Prop} {w : World} (hgd : o.guard = none) (s x : Operand)
    (ho : o.op = .call { callee := .builtin .append, args := #[s, x], argTypes := #[26, 26] })
    (base : Nat) (v : Value) (os : List Int) (hs : a.eval s = v) (hown : Own w base v os) (g : Nat) (hx : a.eval x = .slice (some ⟨g, 0, none⟩) 1 1) (d : Int) (hd : D32 d)
    (hc : w.cell? ⟨g, 0, none⟩ = some (.int .u32 d)) (hl : os.length < 1000000) (hbase : base ≤ w.heap.size)
    (h : ∀ v' w', Own w' base v' (os ++ [d]) → Below base w w' → wpList Tryd.prog ops Q rest (a.put o.dst v') w') : wpList Tryd.prog ops Q (o :: rest) a w := by
  obtain ⟨i0, hi, hz0, hz1, hz2⟩ := info_parts info32
  refine wpList_append_own w hgd s x _ ho base 55 i0 (.int .u32 0) 1 4 Tryd.underlying26 hi hz0 hz1 hz2 rfl (by omega) v os.length (os.map (Value.int .u32)) hs hown.1 ⟨g, 0, none⟩ 1 1 [.int .u32 d] hx rfl ?_ ?_ ?_ ?_ hbase ?_
  · intro j u hj
    match j, hj with
    | 0, hj => simp at hj; subst hj; simpa [Addr.add] using hc
  · intro u hu; simp at hu; subst hu; rfl
  · unfold maxLen; omega
  · omega
  · intro v' w' h1 h2 _
    exact h v' w' (hown.snoc hd h1) ((Below.refl _ _).grown h2 hbase (fun k hk => (hown.1.lt k hk).1))

/-- The same, the new slice written out. -/
theorem append_u32_last {ops : Array Oper} {rest : List Oper} {o : Oper} {a : Act} {Q : Exit → Act → World → Prop} {w : World} (hgd : o.guard = none) (s x : Operand)
    (ho : o.op = .call { callee := .builtin .append, args := #[s, x], argTypes := #[26, 26] })
    (base : Nat) (v : Value) (os : List Int) (hs : a.eval s = v) (hown : Own w base v os) (g : Nat) (hx : a.eval x = .slice (some ⟨g, 0, none⟩) 1 1) (d : Int) (hd : D32 d)
    (hc : w.cell? ⟨g, 0, none⟩ = some (.int .u32 d)) (hl : os.length < 1000000) (hbase : base ≤ w.heap.size)
    (h : ∀ g' n' cap' w', Dig w' (some ⟨g', 0, none⟩) n' cap' (os ++ [d]) → Below base w w' → wpList Tryd.prog ops Q rest (a.put o.dst (.slice (some ⟨g', 0, none⟩) n' cap')) w') : wpList Tryd.prog ops Q (o :: rest) a w := by
  refine append_u32 hgd s x ho base v os hs hown g hx d hd hc hl hbase ?_
  intro v' w' h1 h2
  obtain ⟨g', cap', rfl, hdig⟩ := h1.dig (by simp; omega) (by simp)
  exact h g' _ cap' w' hdig h2

theorem split32 (p s : Int) : p * (s % 4294967296) + 4294967296 * p * (s / 4294967296) = p * s := by
  have h := Int.emod_add_mul_ediv s 4294967296
  have e : 4294967296 * p * (s / 4294967296) = p * (4294967296 * (s / 4294967296)) := by rw [Int.mul_comm 4294967296 p, Int.mul_assoc]
  rw [e, ← Int.mul_add, h]

/-- At the head of a round of Add. -/
def AddInv (w : World) (a b : List Int) (k : Nat) (cy : Int) (v : Value) (wr : World) : Prop :=
  0 ≤ cy ∧ cy ≤ 1 ∧ ∃ os : List Int, os.length = k ∧ Own wr w.heap.size v os ∧ num os + bp k * cy = num (a.take k) + num (b.take k) ∧ Below w.heap.size w wr

theorem add_step {os a b : List Int} {k : Nat} {cy : Int} (hl : os.length = k) (h : num os + bp k * cy = num (a.take k) + num (b.take k)) :
    num (os ++ [(cy + a.getD k 0 + b.getD k 0) % 4294967296]) + bp (k + 1) * ((cy + a.getD k 0 + b.getD k 0) / 4294967296) = num (a.take (k + 1)) + num (b.take (k + 1)) := by
  rw [num_take, num_take, num_snoc, hl, bp_succ]
  have e := split32 (bp k) (cy + a.getD k 0 + b.getD k 0)
  rw [Int.mul_add, Int.mul_add] at e
  omega

/-- At the head of a round of Sub. -/
def SubInv (w : World) (a b : List Int) (k : Nat) (bo : Int) (v : Value) (wr : World) : Prop :=
  0 ≤ bo ∧ bo ≤ 1 ∧ ∃ os : List Int, os.length = k ∧ Own wr w.heap.size v os ∧ num os - bp k * bo = num (a.take k) - num (b.take k) ∧ Below w.heap.size w wr
theorem sub_step {os a b : List Int} {k : Nat} {bo : Int} (hl : os.length = k) (h : num os - bp k * bo = num (a.take k) - num (b.take k)) :
    num (os ++ [(a.getD k 0 + 4294967296 - b.getD k 0 - bo) % 4294967296]) - bp (k + 1) * (1 - (a.getD k 0 + 4294967296 - b.getD k 0 - bo) / 4294967296) = num (a.take (k + 1)) - num (b.take (k + 1)) := by
  rw [num_take, num_take, num_snoc, hl, bp_succ]
  have e := split32 (bp k) (a.getD k 0 + 4294967296 - b.getD k 0 - bo)
  rw [Int.mul_sub, Int.mul_sub, Int.mul_add] at e
  rw [Int.mul_sub]
  omega
theorem sub_end {os a b : List Int} {k : Nat} {bo : Int} (ho : Digs os) (hl : os.length = k) (h : num os - bp k * bo = num (a.take k) - num (b.take k)) (b0 : 0 ≤ bo) (b1 : bo ≤ 1) (ha : a.length = k) (hb : Digs b) (hnb : Norm b) (hda : Digs a) (hle : num b ≤ num a) : num os = num a - num b := by
  have hlb := norm_len_le hb hnb hda hle
  rw [num_take_all (by omega), num_take_all (by omega)] at h
  have := num_lt ho
  rw [hl] at this
  obtain rfl | rfl : bo = 0 ∨ bo = 1 := by omega
  · omega
  · omega

/-- What a call leaves that returns digits in new memory. -/
def RetDigF (w : World) (n : Int) (e : Ending) (w' : World) : Prop :=
  ∃ (ao : Option Addr) (k cap : Nat) (ds : List Int), e = .returned (.slice ao k cap) ∧ Dig w' ao k cap ds ∧ num ds = n ∧ Norm ds ∧ Below w.heap.size w w' ∧ ∀ g o, ao = some ⟨g, o, none⟩ → w.heap.size ≤ g

end Go.Proofs.YtkhcbioohoeegaaDoor
