/-
  PackTiny.
-/
import Derived.Test.YtbcjboaihahemaaDoorTiny16
import Derived.Test.YtbcjboaihahemaaDoorGoes16L
set_option linter.unusedVariables false
set_option linter.unusedSimpArgs false
set_option maxRecDepth 100000
namespace Go.Proofs.YtbcjboaihahemaaDoor
open Go.RowKit
attribute [local go_sem ↓] Go.wp_at_zero Go.wp_at_succ

theorem hl_sub16 (x d : Int) : hiOf (x - d % full) = hiOf (x - d) ∧ loOf (x - d % full) = loOf (x - d) := hl_congr (by unfold full; omega)
theorem sub16 (n m : Int) (w : World) : Calls Tryd.prog 20 #[.agg #[.int .u64 (hiOf n), .int .u64 (loOf n)], .agg #[.int .u64 (hiOf m), .int .u64 (loOf m)]] w fun e w' =>
    e = .returned (.tuple #[.agg #[.int .u64 (hiOf (n - m)), .int .u64 (loOf (n - m))], .bool (decide (n % full < m % full))]) ∧ Below w.heap.size w w' := by
  have h := sub_any (hiOf n) (loOf n) (hiOf m) (loOf m) (hiOf_u _) (loOf_u _) (hiOf_u _) (loOf_u _) w
  rw [val_hiLo_mod, val_hiLo_mod, (hl_sub16 (n % full) m).1, (hl_sub16 (n % full) m).2, (hl_congr (show (n % full - m) % full = (n - m) % full by unfold full; omega)).1, (hl_congr (show (n % full - m) % full = (n - m) % full by unfold full; omega)).2] at h
  exact h
theorem tiny16_law_n (C : FormOK) (O : PackOK) (f m : Int) (ng : Bool) (ex x : Int) (x0 : 0 ≤ x) (x1 : x < wfull) (uf : 0 ≤ f ∧ f ≤ 255) (um : 0 ≤ m ∧ m ≤ 255) (ue : -9223372036854775808 ≤ ex ∧ ex ≤ 9223372036854775807) (w : World) (ft : FTab w) : Calls Tryd.prog 7 #[.int .u8 f, .int .u8 m, .bool ng, .int .i64 ex, .agg #[.int .u64 (wd0 (x)), .int .u64 (wd1 (x)), .int .u64 (wd2 (x)), .int .u64 (wd3 (x))]] w fun e w' => e = .returned (.bool true) ∧ Below w.heap.size w w' := by
  have G := Lib.hid (goes16_any O)
  have RA := O.round f m true ng ex x uf.1 uf.2 um.1 um.2 ue.1 ue.2 x0 x1
  have RB := O.round f m false ng ex x uf.1 uf.2 um.1 um.2 ue.1 ue.2 x0 x1
  by_cases hn : (f < 4 ∧ m < 5) ∧ x ≠ 0
  · obtain ⟨⟨hf, hm⟩, z⟩ := hn
    rw [(pk_num hf hm z).1, (pk_num hf hm z).2] at RA RB
    obtain ⟨s0, s1⟩ := pkS_range (show 0 < x by omega) x1
    have N := tiny16 (f := f) (m := m) (e := pkE ex x) (ng := ng) uf.1 hf hm s0 s1 _ _ rfl rfl
    generalize numFl f m true ng (pkE ex x) (pkS x) = a at *
    generalize numFl f m false ng (pkE ex x) (pkS x) = b at *
    rcases N with ⟨rfl, rfl | rfl | rfl | rfl⟩ | ⟨rfl, rfl, v⟩
    · exact tiny16_0 f m ex _ _ _ _ _ _ ng (Lib.hid RA) (Lib.hid RB) G w ft
    · exact tiny16_16 f m ex _ _ _ _ _ _ ng (Lib.hid RA) (Lib.hid RB) G w ft
    · exact tiny16_20 f m ex _ _ _ _ _ _ ng (Lib.hid RA) (Lib.hid RB) G w ft
    · exact tiny16_24 f m ex _ _ _ _ _ _ ng (Lib.hid RA) (Lib.hid RB) G w ft
    · obtain ⟨p0, p1, p2, p3, p4, p5, p6, p7, p8⟩ := f_nums uf.1 hf
      have CT := C.cut f (numB f m ng (pkE ex x) (pkS x)) uf.1 uf.2
      obtain ⟨r0, r1⟩ := make_full uf.1 (f := f) ng 1 0
      obtain ⟨_, _, _, _, q5, q6⟩ := make_parts uf.1 hf ng 1 0
      have ci : cutF f (numB f m ng (pkE ex x) (pkS x) % full) = makeF f ng 1 0 := by
        rw [v, Int.emod_eq_of_lt r0 r1]; unfold cutF; exact Int.emod_eq_of_lt q5 q6
      rw [ci] at CT
      have NO := C.nought f ng uf.1 uf.2
      have SB := sub16 (makeF f ng 1 0) (makeF f ng 0 0)
      have MK := C.make f false 1 0 uf.1 uf.2 (by decide) (by decide)
      rw [Int.zero_emod] at MK
      have e : makeF f ng 1 0 - makeF f ng 0 0 = makeF f false 1 0 := by
        rw [nought_val uf.1 hf]
        cases ng
        · rw [if_neg (by decide), Int.sub_zero]
        · rw [if_pos rfl, make_sign hf]; omega
      rw [e] at SB
      exact tiny16_less f m ex _ _ _ _ _ _ _ _ _ _ _ _ ng _ (Lib.hid RA) (Lib.hid RB) (Lib.hid CT) (Lib.hid NO) (Lib.hid SB) (Lib.hid MK) G w ft
  · have fa : ∀ t, pkFl f m t ng ex x = 0 := fun t => by unfold pkFl; exact if_neg hn
    rw [fa] at RA RB
    exact tiny16_0 f m ex _ _ _ _ _ _ ng (Lib.hid RA) (Lib.hid RB) G w ft
theorem tiny16_law (C : FormOK) (O : PackOK) (f m : Int) (ng : Bool) (ex x0 x1 x2 x3 : Int) (uf : 0 ≤ f ∧ f ≤ 255) (um : 0 ≤ m ∧ m ≤ 255) (ue : -9223372036854775808 ≤ ex ∧ ex ≤ 9223372036854775807) (ux0 : U64 x0) (ux1 : U64 x1) (ux2 : U64 x2) (ux3 : U64 x3) (w : World) (ft : FTab w) : Calls Tryd.prog 7 #[.int .u8 f, .int .u8 m, .bool ng, .int .i64 ex, .agg #[.int .u64 x0, .int .u64 x1, .int .u64 x2, .int .u64 x3]] w fun e w' => e = .returned (.bool true) ∧ Below w.heap.size w w' := by
  obtain ⟨h0, h1⟩ := wval_range ux0 ux1 ux2 ux3
  obtain ⟨e0, e1, e2, e3⟩ := wd_wval ux0 ux1 ux2 ux3
  have h := tiny16_law_n C O f m ng ex (wval x0 x1 x2 x3) h0 h1 uf um ue w ft
  rw [e0, e1, e2, e3] at h
  exact h


end Go.Proofs.YtbcjboaihahemaaDoor
