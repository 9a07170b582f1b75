/-
  Calls at numbers; the example that every statement of stage 12 asks.
-/
import Derived.Test.YteobcedcgkfmjaaDoorText12
set_option linter.unusedVariables false
set_option linter.unusedSimpArgs false
set_option maxRecDepth 100000
namespace Go.Proofs.YteobcedcgkfmjaaDoor
open Go.RowKit
attribute [local go_sem ↓] Go.wp_at_zero Go.wp_at_succ

theorem flag_joinR (ao : Option Addr) (n cap : Nat) (xs : List Nat) (r : Int) (hr : ((joinN xs : Nat) : Int) = r) (w : World) (nt : NTab w) (x : Fs w ao n cap xs) : Calls Tryd.prog 8 #[.slice ao n cap] w fun e w' => e = .returned (.int .u8 r) ∧ Below w.heap.size w w' := by
  subst hr; exact flag_join ao n cap xs w nt x
theorem flag_hasR (s p : Nat) (S P : Int) (b : Bool) (hS : (s : Int) = S) (hP : (p : Int) = P) (hb : hasN s p = b) (hs : s < 256) (hp : p < 256) (w : World) : Calls Tryd.prog 10 #[.int .u8 S, .int .u8 P] w fun e w' => e = .returned (.bool b) ∧ w' = w := by
  subst hS hP hb; exact flag_has s p hs hp w
theorem flag_goodR (s : Nat) (S : Int) (b : Bool) (hS : (s : Int) = S) (hb : decide (s < 32) = b) (hs : s < 256) (w : World) (nt : NTab w) : Calls Tryd.prog 15 #[.int .u8 S] w fun e w' => e = .returned (.bool b) ∧ Below w.heap.size w w' := by
  subst hS hb; exact flag_good s hs w nt
theorem flag_namesR (s : Nat) (S : Int) (l : List (Fin 5)) (n : Nat) (hS : (s : Int) = S) (hl : namesN s = l) (hn : l.length = n) (hs : s < 256) (w : World) (nt : NTab w) : Calls Tryd.prog 13 #[.int .u8 S] w fun e w' => ∃ ao cap, e = .returned (.slice ao n cap) ∧ Ss w' ao n cap l ∧ Below w.heap.size w w' := by
  subst hS hl hn; exact flag_names s hs w nt
theorem textsR (ao bo : Option Addr) (n cap m cbp : Nat) (xs ys : List (Fin 5)) (b : Bool) (hb : decide (xs = ys) = b) (w : World) (x : Ss w ao n cap xs) (y : Ss w bo m cbp ys) : Calls Tryd.prog 12 #[.slice ao n cap, .slice bo m cbp] w fun e w' => e = .returned (.bool b) ∧ Below w.heap.size w w' := by
  subst hb; exact texts_any ao bo n cap m cbp xs ys w x y

set_option maxRecDepth 100000 in
set_option maxHeartbeats 4000000 in
theorem goes12_any (w : World) (nt : NTab w) : Calls Tryd.prog 16 #[] w fun e w' => e = .returned (.bool true) ∧ Below w.heap.size w w' := by
  have NT := Lib.hid nt
  clear nt
  go_enter Tryd.func16, Tryd.ntmps16
  have S0_1 : Fs (w.alloc (.cells #[.int .u8 1, .int .u8 16] 23)) (some ⟨w.heap.size, 0, none⟩) 2 2 [1, 16] := Fs.ofHB 2 [1, 16] (HB.newAt (by first | rfl | simp) _ _) rfl (by simp) rfl (by decide)
  go_wp2_with fail
  refine (flag_joinR _ 2 2 [1, 16] 17 (by decide +kernel) _ (NT.out.later (bA (Below.refl _ _) _)) S0_1).mono ?_
  rintro e u1 ⟨rfl, hb⟩
  have KK1 := Lib.hid (bC (bA (Below.refl _ _) _) hb)
  clear hb
  clear S0_1
  go_wp2_with fail
  refine (flag_joinR none 0 0 [] 0 (by decide +kernel) _ (NT.out.later KK1.out) (Fs.nil _)).mono ?_
  rintro e u2 ⟨rfl, hb⟩
  have KK2 := Lib.hid (bC KK1.out hb)
  clear hb
  go_wp2_with fail
  refine (flag_hasR 17 1 17 1 true rfl rfl (by decide +kernel) (by decide) (by decide) _).mono ?_
  rintro e u3 ⟨rfl, rfl⟩
  go_wp2_with fail
  refine (flag_hasR 16 1 16 1 false rfl rfl (by decide +kernel) (by decide) (by decide) _).mono ?_
  rintro e u4 ⟨rfl, rfl⟩
  go_wp2_with fail
  refine (flag_namesR 20 20 [2, 4] 2 rfl (by decide +kernel) rfl (by decide) _ (NT.out.later KK2.out)).mono ?_
  rintro e u5 ⟨ao5, cp5, rfl, hs, hb⟩
  have KK5 := Lib.hid (bC KK2.out hb)
  clear hb
  have N5 := Lib.hid hs
  clear hs
  have S6_2 : Ss (u5.alloc (.cells #[.string ⟨#[111, 118, 101, 114, 102, 108, 111, 119]⟩, .string ⟨#[105, 110, 101, 120, 97, 99, 116]⟩] 9)) (some ⟨u5.heap.size, 0, none⟩) 2 2 [2, 4] := Ss.ofHB 2 [2, 4] (HB.newAt (by first | rfl | simp) _ _) rfl (by simp) rfl
  go_wp2_with fail
  refine (textsR _ _ _ _ _ _ _ _ true (by decide +kernel) _ (N5.out.later (bA (Below.refl _ _) _)) S6_2).mono ?_
  rintro e u7 ⟨rfl, hb⟩
  have KK7 := Lib.hid (bC (bA KK5.out _) hb)
  clear hb
  clear S6_2 N5
  go_wp2_with fail
  refine (flag_goodR 32 32 false rfl (by decide +kernel) (by decide) _ (NT.out.later KK7.out)).mono ?_
  rintro e u8 ⟨rfl, hb⟩
  have KK8 := Lib.hid (bC KK7.out hb)
  clear hb
  go_wp2_with fail
  refine (flag_goodR 31 31 true rfl (by decide +kernel) (by decide) _ (NT.out.later KK8.out)).mono ?_
  rintro e u9 ⟨rfl, hb⟩
  have KK9 := Lib.hid (bC KK8.out hb)
  clear hb
  have S10_3 : Fs (u9.alloc (.cells #[.int .u8 32] 23)) (some ⟨u9.heap.size, 0, none⟩) 1 1 [32] := Fs.ofHB 1 [32] (HB.newAt (by first | rfl | simp) _ _) rfl (by simp) rfl (by decide)
  go_wp2_with fail
  refine (flag_joinR _ 1 1 [32] 0 (by decide +kernel) _ (NT.out.later (bA KK9.out _)) S10_3).mono ?_
  rintro e u11 ⟨rfl, hb⟩
  have KK11 := Lib.hid (bC (bA KK9.out _) hb)
  clear hb
  clear S10_3
  go_wp2_with fail
  go_ret
  exact ⟨rfl, KK11.out⟩

end Go.Proofs.YteobcedcgkfmjaaDoor
