/-
  MagSums: proved for every input, with no condition: every Of, Cmp, Sum, Diff.
-/
import Derived.Test.YtamigjdankkmjaaFrameK
import Derived.Test.YtamigjdankkmjaaFrameN
import Derived.Test.YtamigjdankkmjaaFrameM
import Derived.Test.YtamigjdankkmjaaMagG
import Derived.Test.YtamigjdankkmjaaSums17L
set_option linter.unusedVariables false
set_option maxRecDepth 100000
namespace Go.Proofs.Ytamigjdankkmjaa.lawMagSums
open Go.ChangeShapes Go.WideShapes Go.ChangeAt Go.RowKit Go.Joins Go.Proofs.Ytamigjdankkmjaa

set_option maxRecDepth 100000 in
theorem lifted (os : Os) (started : os.Started) (H : Type) (enc : TypeId × Value → H) :
    ReturnsInHanded {} Try.checked os 3 .any (Rows.magSumsSpec.pre6 enc Try.prog Try.f3 Rows.magSumsRow.domain false) (Rows.magSumsSpec.post enc Try.prog Try.f3 false true false false) := by
  refine returnsInHanded_of_change (C := Try.checked) ownT started (by kernel_rfl) Try.func3
    (ChangeSpec.witness6 (enc := enc) (C := Try.checked) false ⟨#[], #[.agg #[.int .i64 0, .int .u64 0, .int .u64 0, .int .u64 0, .int .u64 0], .agg #[.int .i64 0, .int .u64 0, .int .u64 0, .int .u64 0, .int .u64 0], .agg #[.bool false, .int .u8 0, .int .i64 0, .int .u64 0, .int .u64 0]], []⟩ 8 (by kernel_rfl) (by kernel_rfl) (by kernel_rfl) (by kernel_rfl)) ?_
  intro W base args ds gs before hval0 hW hcnd _
  have hval : ∀ (j : Nat) t v, Try.f3.params[j]? = some t → args[j]? = some v → Value.okWide Try.prog W .any base t v := hval0
  have hW' := hW
  obtain ⟨p, q, hA0, hV, rfl, hfz, hnd⟩ := hW
  have hA : DataW.TrodAll enc Try.prog W 0 (fun _ => true) true Try.f3.params.toList args.toList ds p := hA0
  rw [Try.params3] at hA hval
  obtain ⟨v0, vs0, d0, ds0, p0, q0, hargs, rfl, rfl, h0, r0⟩ := trodAll_cons hA
  obtain ⟨v1, vs1, d1, ds1, p1, q1, rfl, rfl, rfl, h1, r1⟩ := trodAll_cons r0
  obtain ⟨v2, vs2, d2, ds2, p2, q2, rfl, rfl, rfl, h2, r2⟩ := trodAll_cons r1
  obtain ⟨rfl, rfl, rfl⟩ := trodAll_nil r2
  obtain rfl : args = #[v0, v1, v2] := by cases args; simp_all
  obtain ⟨rfl, rfl⟩ := trodVars_none hV
  obtain ⟨ae0, x0_0, x0_1, x0_2, x0_3, rfl, rfl, rfl, we0, w0_0, w0_1, w0_2, w0_3⟩ := open_term (hval 0 26 v0 rfl rfl) h0
  obtain ⟨ae1, x1_0, x1_1, x1_2, x1_3, rfl, rfl, rfl, we1, w1_0, w1_1, w1_2, w1_3⟩ := open_term (hval 1 26 v1 rfl rfl) h1
  obtain ⟨ag2, ac2, ae2, ax2, ay2, rfl, rfl, rfl, wc2, we2, wx2, wy2⟩ := open_num (hval 2 31 v2 rfl rfl) h2
  clear hA0 hval0
  simp only [List.append_nil] at hW'
  refine (sums17_law magOK ae0 x0_0 x0_1 x0_2 x0_3 ae1 x1_0 x1_1 x1_2 x1_3 ag2 ac2 ae2 ax2 ay2 (i64_of_wf we0) (u64_of_wf w0_0) (u64_of_wf w0_1) (u64_of_wf w0_2) (u64_of_wf w0_3) (i64_of_wf we1) (u64_of_wf w1_0) (u64_of_wf w1_1) (u64_of_wf w1_2) (u64_of_wf w1_3) (bounds_u8 wc2) (i64_of_wf we2) (u64_of_wf wx2) (u64_of_wf wy2) W).mono fun e W' ⟨he, bel⟩ => ?_
  subst he
  exact ⟨_, rfl, _, _, _, [], [], [], hW', trodAll_mk1 (shut_bool Try.underlying4 _), (trodAll_cons_mk (readsM enc _ _ _ _ _ _ _ we0 w0_0 w0_1 w0_2 w0_3) (trodAll_cons_mk (readsM enc _ _ _ _ _ _ _ we1 w1_0 w1_1 w1_2 w1_3) (trodAll_cons_mk (readsN enc _ _ _ _ _ _ _ wc2 we2 wx2 wy2) trodAll_mk0))), rfl, bel.frame _, fun h => by cases h⟩

theorem over : Rows.magSumsRow.holds Try.pinned (OpenSpec.ofChange Rows.magSumsSpec) :=
  OpenClaim.holds_of_wide 3 Try.f3 rfl rfl rfl rfl rfl rfl rfl ⟨rfl, rfl, rfl, rfl, rfl⟩ rfl rfl rfl rfl rfl (by kernel_rfl) Try.func3 (by kernel_rfl)
    (of_decide_eq_true (by kernel_rfl)) (by unfold Func.isWrapper; first | (rw [if_pos (by decide +kernel)]; kernel_rfl) | (rw [if_neg (by decide +kernel)]; exact ⟨rfl, rfl⟩))
    (fun os started H enc _ => lifted os started H enc)

theorem proved : Rows.MagSumsSaid := over
#print axioms proved
end Go.Proofs.Ytamigjdankkmjaa.lawMagSums
