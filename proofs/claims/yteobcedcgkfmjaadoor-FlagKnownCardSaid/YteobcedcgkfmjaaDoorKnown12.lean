/-
  FlagKnown: the walk.
-/
import Derived.Test.YteobcedcgkfmjaaDoorGoes12
set_option linter.unusedVariables false
set_option linter.unusedSimpArgs false
set_option maxRecDepth 100000
namespace Go.Proofs.YteobcedcgkfmjaaDoor
open Go.RowKit
attribute [local go_sem ↓] Go.wp_at_zero Go.wp_at_succ

set_option maxRecDepth 100000 in
set_option maxHeartbeats 4000000 in
theorem known12_law (w : World) (nt : NTab w) : Calls Tryd.prog 7 #[] w fun e w' => e = .returned (.bool true) ∧ Below w.heap.size w w' := by
  have NT := Lib.hid nt
  clear nt
  go_enter Tryd.func7, Tryd.ntmps7
  go_wp2_with fail
  refine (flag_namesR 1 1 [0] 1 rfl (by decide +kernel) rfl (by decide) _ (NT.out.later (Below.refl _ _))).mono ?_
  rintro e u0 ⟨ao0, cp0, rfl, hs, hb⟩
  have KK0 := Lib.hid (bC (Below.refl _ _) hb)
  clear hb
  have N0 := Lib.hid hs
  clear hs
  have S1_1 : Ss (u0.alloc (.cells #[.string ⟨#[105, 110, 118, 97, 108, 105, 100]⟩] 9)) (some ⟨u0.heap.size, 0, none⟩) 1 1 [0] := Ss.ofHB 1 [0] (HB.newAt (by first | rfl | simp) _ _) rfl (by simp) rfl
  go_wp2_with fail
  refine (textsR _ _ _ _ _ _ _ _ true (by decide +kernel) _ (N0.out.later (bA (Below.refl _ _) _)) S1_1).mono ?_
  rintro e u2 ⟨rfl, hb⟩
  have KK2 := Lib.hid (bC (bA KK0.out _) hb)
  clear hb
  clear S1_1 N0
  go_wp2_with fail
  refine (flag_namesR 2 2 [1] 1 rfl (by decide +kernel) rfl (by decide) _ (NT.out.later KK2.out)).mono ?_
  rintro e u3 ⟨ao3, cp3, rfl, hs, hb⟩
  have KK3 := Lib.hid (bC KK2.out hb)
  clear hb
  have N3 := Lib.hid hs
  clear hs
  have S4_2 : Ss (u3.alloc (.cells #[.string ⟨#[100, 105, 118, 122, 101, 114, 111]⟩] 9)) (some ⟨u3.heap.size, 0, none⟩) 1 1 [1] := Ss.ofHB 1 [1] (HB.newAt (by first | rfl | simp) _ _) rfl (by simp) rfl
  go_wp2_with fail
  refine (textsR _ _ _ _ _ _ _ _ true (by decide +kernel) _ (N3.out.later (bA (Below.refl _ _) _)) S4_2).mono ?_
  rintro e u5 ⟨rfl, hb⟩
  have KK5 := Lib.hid (bC (bA KK3.out _) hb)
  clear hb
  clear S4_2 N3
  go_wp2_with fail
  refine (flag_namesR 8 8 [3] 1 rfl (by decide +kernel) rfl (by decide) _ (NT.out.later KK5.out)).mono ?_
  rintro e u6 ⟨ao6, cp6, rfl, hs, hb⟩
  have KK6 := Lib.hid (bC KK5.out hb)
  clear hb
  have N6 := Lib.hid hs
  clear hs
  have S7_3 : Ss (u6.alloc (.cells #[.string ⟨#[117, 110, 100, 101, 114, 102, 108, 111, 119]⟩] 9)) (some ⟨u6.heap.size, 0, none⟩) 1 1 [3] := Ss.ofHB 1 [3] (HB.newAt (by first | rfl | simp) _ _) rfl (by simp) rfl
  go_wp2_with fail
  refine (textsR _ _ _ _ _ _ _ _ true (by decide +kernel) _ (N6.out.later (bA (Below.refl _ _) _)) S7_3).mono ?_
  rintro e u8 ⟨rfl, hb⟩
  have KK8 := Lib.hid (bC (bA KK6.out _) hb)
  clear hb
  clear S7_3 N6
  go_wp2_with fail
  refine (flag_namesR 0 0 [] 0 rfl (by decide +kernel) rfl (by decide) _ (NT.out.later KK8.out)).mono ?_
  rintro e u9 ⟨ao9, cp9, rfl, hs, hb⟩
  have KK9 := Lib.hid (bC KK8.out hb)
  clear hb
  have N9 := Lib.hid hs
  clear hs
  clear N9
  go_wp2_with fail
  refine (flag_namesR 224 224 [] 0 rfl (by decide +kernel) rfl (by decide) _ (NT.out.later KK9.out)).mono ?_
  rintro e u10 ⟨ao10, cp10, rfl, hs, hb⟩
  have KK10 := Lib.hid (bC KK9.out hb)
  clear hb
  have N10 := Lib.hid hs
  clear hs
  clear N10
  go_wp2_with fail
  refine (flag_namesR 255 255 [0, 1, 2, 3, 4] 5 rfl (by decide +kernel) rfl (by decide) _ (NT.out.later KK10.out)).mono ?_
  rintro e u11 ⟨ao11, cp11, rfl, hs, hb⟩
  have KK11 := Lib.hid (bC KK10.out hb)
  clear hb
  have N11 := Lib.hid hs
  clear hs
  clear N11
  have S12_4 : Fs (u11.alloc (.cells #[.int .u8 255, .int .u8 1] 23)) (some ⟨u11.heap.size, 0, none⟩) 2 2 [255, 1] := Fs.ofHB 2 [255, 1] (HB.newAt (by first | rfl | simp) _ _) rfl (by simp) rfl (by decide)
  go_wp2_with fail
  refine (flag_joinR _ 2 2 [255, 1] 31 (by decide +kernel) _ (NT.out.later (bA KK11.out _)) S12_4).mono ?_
  rintro e u13 ⟨rfl, hb⟩
  have KK13 := Lib.hid (bC (bA KK11.out _) hb)
  clear hb
  clear S12_4
  go_wp2_with fail
  refine (flag_hasR 0 0 0 0 true rfl rfl (by decide +kernel) (by decide) (by decide) _).mono ?_
  rintro e u14 ⟨rfl, rfl⟩
  go_wp2_with fail
  refine (flag_hasR 31 32 31 32 false rfl rfl (by decide +kernel) (by decide) (by decide) _).mono ?_
  rintro e u15 ⟨rfl, rfl⟩
  go_wp2_with fail
  refine (flag_goodR 0 0 true rfl (by decide +kernel) (by decide) _ (NT.out.later KK13.out)).mono ?_
  rintro e u16 ⟨rfl, hb⟩
  have KK16 := Lib.hid (bC KK13.out hb)
  clear hb
  go_wp2_with fail
  refine (goes12_any _ (NT.out.later KK16.out)).mono ?_
  rintro e u17 ⟨rfl, hb⟩
  have KK17 := Lib.hid (bC KK16.out hb)
  clear hb
  go_wp2_with fail
  go_ret
  exact ⟨rfl, KK17.out⟩

end Go.Proofs.YteobcedcgkfmjaaDoor
