import Derived.Test.YtjdjonekoodalaaGreatDoorRest0
set_option linter.unusedVariables false
set_option linter.unusedSimpArgs false
namespace Go.Proofs.YtjdjonekoodalaaGreatDoor
open Go.RowKit
attribute [local go_sem ↓] Go.wp_at_zero Go.wp_at_succ
theorem tri19 {w w' : World} {n : Int} {e : Ending} (h : RetNum w n e w') : ∃ s : Option Addr × Nat × Nat, e = .returned (.slice s.1 s.2.1 s.2.2) ∧ IsNum w' (.slice s.1 s.2.1 s.2.2) n ∧ Below w.heap.size w w' := by
  obtain ⟨v, he, nv, hb⟩ := h
  obtain ⟨ao, k, cap, ds, rfl, _⟩ := id nv
  exact ⟨(ao, k, cap), he, nv, hb⟩
theorem ofS19 (f b : Int) (f0 : 0 ≤ f) (hf : f < 4) (b0 : 0 ≤ b) (b1 : b < full) (w : World) : Calls Tryz.prog 30 #[.int .u8 f, .agg #[.int .u64 (hiOf (b)), .int .u64 (loOf (b))]] w fun e' w' => ∃ q : Option Addr × Nat × Nat, e' = .returned (.agg #[.bool ((negF f b)), .slice q.1 q.2.1 q.2.2, .int .i64 ((uX f b))]) ∧ IsNum w' (.slice q.1 q.2.1 q.2.2) ((uM f b)) ∧ Below w.heap.size w w' := by
  have h := ref9_of f b f0 hf w
  rw [Int.emod_eq_of_lt b0 b1] at h
  refine h.mono fun e w' hh => ?_
  obtain ⟨v, he, nv, hb⟩ := hh
  obtain ⟨ao, k, cap, ds, rfl, _⟩ := id nv
  exact ⟨(ao, k, cap), he, nv, hb⟩
theorem ref19_cls (f b : Int) (f0 : 0 ≤ f) (f1 : f ≤ 255) (b0 : 0 ≤ b) (b1 : b < full) (w : World) : Calls Tryz.prog 36 #[.int .u8 f, .agg #[.int .u64 (hiOf (b)), .int .u64 (loOf (b))]] w fun e w' => e = .returned (.tuple #[.int .u8 (clsF f b), .bool (negF f b)]) ∧ Below w.heap.size w w' := by
  have h := ref8_of f b f0 f1 w
  rw [Int.emod_eq_of_lt b0 b1] at h
  exact h
theorem uM_113 {f : Int} (f0 : 0 ≤ f) (hf : f < 4) (b : Int) : 0 ≤ uM f b ∧ uM f b < 2 ^ 113 := by
  obtain ⟨p0, p1, p2, p3, p4, p5, p6, p7, p8⟩ := f_nums f0 hf
  obtain ⟨r0, r1⟩ := frac_range (b := b) f0 hf
  have tp := pow_top (show 1 ≤ fP f by omega)
  have := two_pow_le p8
  unfold uM; split <;> omega
theorem uX_17000 {f b : Int} (f0 : 0 ≤ f) (hf : f < 4) (b0 : 0 ≤ b) : -17000 ≤ uX f b ∧ uX f b ≤ 17000 := by
  obtain ⟨p0, p1, p2, p3, p4, p5, p6, p7, p8⟩ := f_nums f0 hf
  obtain ⟨x0, x1, x2, x3⟩ := exp_range f0 hf b0
  unfold uX; split <;> omega
end Go.Proofs.YtjdjonekoodalaaGreatDoor
