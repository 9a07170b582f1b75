/-
  MulTerms: proved for every input, with no condition: every Term and Bad.
-/
import Derived.Test.YtjnohbpebdnngaaGreatDoorFrameK
import Derived.Test.YtjnohbpebdnngaaGreatDoorFrameF
import Derived.Test.YtjnohbpebdnngaaGreatDoorCards
import Derived.Test.YtjnohbpebdnngaaGreatDoorFrameN
import Derived.Test.YtjnohbpebdnngaaGreatDoorMulG
import Derived.Test.YtjnohbpebdnngaaGreatDoorTerms19L
set_option linter.unusedVariables false
set_option maxRecDepth 100000
namespace Go.Proofs.YtjnohbpebdnngaaGreatDoor.lawMulTerms
open Go.ChangeShapes Go.WideShapes Go.ChangeAt Go.RowKit Go.Joins Go.Proofs.YtjnohbpebdnngaaGreatDoor

set_option maxRecDepth 100000 in
theorem lifted (os : Os) (started : os.Started) (H : Type) (enc : TypeId × Value → H) :
    ReturnsInHanded {} Tryz.checked os 4 .any (fun w args => (Rows.mulTermsSpec.pre enc Tryz.prog Tryz.f4 [] false w args ∧ laidMetH Tryz.prog tabF w) ∧ sizedMet enc Tryz.prog Tryz.f4 (OpenSpec.ofChange Rows.mulTermsSpec) false w args) (Rows.mulTermsSpec.post enc Tryz.prog Tryz.f4 false true false false) := by
  refine returnsInHanded_of_change_and (C := Tryz.checked) (X := fun w _ => laidMetH Tryz.prog tabF w) (fun _ _ _ hh h => h.of_heap hh) ownT started (by kernel_rfl) Tryz.func4
    (ChangeSpec.witness_shaped (enc := enc) (C := Tryz.checked) (os := os) (X := fun w _ => laidMetH Tryz.prog tabF w) false (World.doorLaid Tryz.prog 18 os) #[.agg #[.bool false, .int .u8 0, .int .i64 0, .int .u64 0, .int .u64 0], .agg #[.bool false, .int .u8 0, .int .i64 0, .int .u64 0, .int .u64 0]] 8 rfl (World.shaped_of_RefB (by kernel_rfl) (by kernel_rfl)) (by kernel_rfl) (by kernel_rfl) (by kernel_rfl) (doorF_met os _)) ?_
  intro W base args ds gs before hval0 hW _ _ hL _
  have tb := ftab_of hL
  have hval : ∀ (j : Nat) t v, Tryz.f4.params[j]? = some t → args[j]? = some v → Value.okWide Tryz.prog W .any base t v := hval0
  have hW' := hW
  obtain ⟨p, q, hA0, hV, rfl, hfz, hnd⟩ := hW
  have hA : DataW.TrodAll enc Tryz.prog W 0 (fun _ => true) true Tryz.f4.params.toList args.toList ds p := hA0
  rw [Tryz.params4] at hA hval
  obtain ⟨v0, vs0, d0, ds0, p0, q0, hargs, rfl, rfl, h0, r0⟩ := trodAll_cons hA
  obtain ⟨v1, vs1, d1, ds1, p1, q1, rfl, rfl, rfl, h1, r1⟩ := trodAll_cons r0
  obtain ⟨rfl, rfl, rfl⟩ := trodAll_nil r1
  obtain rfl : args = #[v0, v1] := by cases args; simp_all
  obtain ⟨rfl, rfl⟩ := trodVars_none hV
  obtain ⟨ag0, ac0, ae0, ax0, ay0, rfl, rfl, rfl, wc0, we0, wx0, wy0⟩ := open_num (hval 0 37 v0 rfl rfl) h0
  obtain ⟨ag1, ac1, ae1, ax1, ay1, rfl, rfl, rfl, wc1, we1, wx1, wy1⟩ := open_num (hval 1 37 v1 rfl rfl) h1
  clear hA0 hval0
  simp only [List.append_nil] at hW'
  refine (terms19_law mulOK ag0 ac0 ae0 ax0 ay0 ag1 ac1 ae1 ax1 ay1 (bounds_u8 wc0) (i64_wf19 we0) (u64_of_wf wx0) (u64_of_wf wy0) (bounds_u8 wc1) (i64_wf19 we1) (u64_of_wf wx1) (u64_of_wf wy1) W tb).mono fun e W' ⟨he, bel⟩ => ?_
  subst he
  exact ⟨_, rfl, _, _, _, [], [], [], hW', trodAll_mk1 (shut_bool Tryz.underlying4 _), (trodAll_cons_mk (readsN enc _ _ _ _ _ _ _ wc0 we0 wx0 wy0) (trodAll_cons_mk (readsN enc _ _ _ _ _ _ _ wc1 we1 wx1 wy1) trodAll_mk0)), rfl, bel.frame _, fun h => by cases h⟩

theorem over : Rows.mulTermsRow.holds Tryz.pinned (OpenSpec.ofChange Rows.mulTermsSpec) :=
  OpenClaim.holds_of_wide 4 Tryz.f4 rfl rfl rfl rfl rfl rfl rfl ⟨rfl, rfl, rfl, rfl, rfl⟩ rfl rfl rfl rfl rfl (by kernel_rfl) Tryz.func4 (by kernel_rfl)
    (of_decide_eq_true (by kernel_rfl)) (by unfold Func.isWrapper; first | (rw [if_pos (by decide +kernel)]; kernel_rfl) | (rw [if_neg (by decide +kernel)]; exact ⟨rfl, rfl⟩))
    (fun os started H enc _ => lifted os started H enc)

set_option maxRecDepth 100000 in
theorem proved : Rows.MulTermsCardSaid :=
  Claim7.holds_tied_plain_at .later [] [.data] true Rows.mulTermsCard.stood.harness Rows.mulTermsCard.stood.looks
    over (fun _ h => by cases h) (by kernel_rfl) (fun _ h => by cases h) mulTerms_row_tie rfl ⟨rfl, rfl⟩ (by kernel_rfl) rfl
    (fun f fn hf hfn => by
      obtain rfl : f = 4 := Option.some.inj ((show Tryz.prog.funcNamed "hairsbreadth/hairsbreadthlaw19.MulTerms" = some 4 by kernel_rfl).symm.trans hf) |>.symm
      obtain rfl : fn = Tryz.f4 := (Option.some.inj (Tryz.func4.symm.trans hfn)).symm
      exact ⟨by kernel_rfl, fun j t ht => by
        rw [Tryz.params4] at ht
        have hm : t ∈ [37, 37] := by simpa using Array.mem_of_getElem? ht
        have hall : ([37, 37].all fun u => !Tryz.prog.wantsStandIn u) = true := by kernel_rfl
        exact (show Tryz.prog.wantsStandIn t = false by simpa using List.all_eq_true.1 hall t hm)⟩)
    (by kernel_rfl)
#print axioms proved
end Go.Proofs.YtjnohbpebdnngaaGreatDoor.lawMulTerms
