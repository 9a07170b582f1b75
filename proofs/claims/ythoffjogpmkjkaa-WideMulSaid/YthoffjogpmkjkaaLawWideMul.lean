/-
  WideMul: proved for every input, with no condition: products hang on no order, and go by sums; by 1 they are the number, by 2^64 it is one part higher.
-/
import Derived.Test.YthoffjogpmkjkaaFrameK
import Derived.Test.YthoffjogpmkjkaaMul2L
set_option linter.unusedVariables false
namespace Go.Proofs.Ythoffjogpmkjkaa.lawWideMul
open Go.ChangeShapes Go.WideShapes Go.ChangeAt Go.RowKit Go.Joins Go.Proofs.Ythoffjogpmkjkaa

set_option maxRecDepth 100000 in
theorem lifted (os : Os) (started : os.Started) (H : Type) (enc : TypeId × Value → H) :
    ReturnsInHanded {} Try.checked os 6 .any (Rows.wideMulSpec.pre6 enc Try.prog Try.f6 Rows.wideMulRow.domain false) (Rows.wideMulSpec.post enc Try.prog Try.f6 false true false false) := by
  refine returnsInHanded_of_change (C := Try.checked) ownT started (by kernel_rfl) Try.func6
    (ChangeSpec.witness6 (enc := enc) (C := Try.checked) false ⟨#[], #[.agg #[.int .u64 0, .int .u64 0], .agg #[.int .u64 0, .int .u64 0], .agg #[.int .u64 0, .int .u64 0]], []⟩ 8 (by kernel_rfl) (by kernel_rfl) (by kernel_rfl) (by kernel_rfl)) ?_
  intro W base args ds gs before hval0 hW hcnd _
  have hval : ∀ (j : Nat) t v, Try.f6.params[j]? = some t → args[j]? = some v → Value.okWide Try.prog W .any base t v := hval0
  have hW' := hW
  obtain ⟨p, q, hA0, hV, rfl, hfz, hnd⟩ := hW
  have hA : DataW.TrodAll enc Try.prog W 0 (fun _ => true) true Try.f6.params.toList args.toList ds p := hA0
  rw [Try.params6] at hA hval
  obtain ⟨v0, vs0, d0, ds0, p0, q0, hargs, rfl, rfl, h0, r0⟩ := trodAll_cons hA
  obtain ⟨v1, vs1, d1, ds1, p1, q1, rfl, rfl, rfl, h1, r1⟩ := trodAll_cons r0
  obtain ⟨v2, vs2, d2, ds2, p2, q2, rfl, rfl, rfl, h2, r2⟩ := trodAll_cons r1
  obtain ⟨rfl, rfl, rfl⟩ := trodAll_nil r2
  obtain rfl : args = #[v0, v1, v2] := by cases args; simp_all
  obtain ⟨rfl, rfl⟩ := trodVars_none hV
  obtain ⟨ah0, al0, rfl, rfl, rfl, wh0, wl0⟩ := open_bits (hval 0 36 v0 rfl rfl) h0
  obtain ⟨ah1, al1, rfl, rfl, rfl, wh1, wl1⟩ := open_bits (hval 1 36 v1 rfl rfl) h1
  obtain ⟨ah2, al2, rfl, rfl, rfl, wh2, wl2⟩ := open_bits (hval 2 36 v2 rfl rfl) h2
  clear hA0 hval0
  simp only [List.append_nil] at hW'
  refine (mul2_law ah0 al0 ah1 al1 ah2 al2 (u64_of_wf wh0) (u64_of_wf wl0) (u64_of_wf wh1) (u64_of_wf wl1) (u64_of_wf wh2) (u64_of_wf wl2) W).mono fun e W' ⟨he, bel⟩ => ?_
  subst he
  exact ⟨_, rfl, _, _, _, [], [], [], hW', trodAll_mk1 (shut_bool Try.underlying4 _), (trodAll_cons_mk (readsB enc _ _ _ _ wh0 wl0) (trodAll_cons_mk (readsB enc _ _ _ _ wh1 wl1) (trodAll_cons_mk (readsB enc _ _ _ _ wh2 wl2) trodAll_mk0))), rfl, bel.frame _, fun h => by cases h⟩

theorem over : Rows.wideMulRow.holds Try.pinned (OpenSpec.ofChange Rows.wideMulSpec) :=
  OpenClaim.holds_of_wide 6 Try.f6 rfl rfl rfl rfl rfl rfl rfl ⟨rfl, rfl, rfl, rfl, rfl⟩ rfl rfl rfl rfl rfl (by kernel_rfl) Try.func6 (by kernel_rfl)
    (of_decide_eq_true (by kernel_rfl)) (by unfold Func.isWrapper; first | (rw [if_pos (by decide +kernel)]; kernel_rfl) | (rw [if_neg (by decide +kernel)]; exact ⟨rfl, rfl⟩))
    (fun os started H enc _ => lifted os started H enc)

theorem proved : Rows.WideMulSaid := over
#print axioms proved
end Go.Proofs.Ythoffjogpmkjkaa.lawWideMul
