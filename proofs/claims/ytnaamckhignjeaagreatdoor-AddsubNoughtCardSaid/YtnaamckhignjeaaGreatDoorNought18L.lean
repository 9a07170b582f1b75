/-
  AddsubNought.
-/
import Derived.Test.YtnaamckhignjeaaGreatDoorNought18
import Derived.Test.YtnaamckhignjeaaGreatDoorGoes18L
import Derived.Test.YtnaamckhignjeaaGreatDoorAdd18L
set_option linter.unusedVariables false
set_option linter.unusedSimpArgs false
set_option maxRecDepth 100000
namespace Go.Proofs.YtnaamckhignjeaaGreatDoor
open Go.RowKit
attribute [local go_sem ↓] Go.wp_at_zero Go.wp_at_succ

set_option maxHeartbeats 1000000 in
theorem nought18_law_n (C : FormOK) (D : ClassOK) (M : ModeOK) (A : AddOK) (f m : Int) (t : Bool) (a : Int) (ng : Bool) (a0 : 0 ≤ a) (a1 : a < full) (uf : 0 ≤ f ∧ f ≤ 255) (um : 0 ≤ m ∧ m ≤ 255) (w : World) (ft : FTab w) : Calls Tryz.prog 7 #[.int .u8 f, .agg #[.int .u8 m, .bool t], .agg #[.int .u64 (hiOf (a)), .int .u64 (loOf (a))], .bool ng] w fun e w' => e = .returned (.bool true) ∧ Below w.heap.size w w' := by
  have G := Lib.hid (goes18_any A)
  have K := C.known f uf.1 uf.2
  have MK := M.known m um.1 um.2
  have NA := D.nan f a uf.1 uf.2
  rw [Int.emod_eq_of_lt a0 a1] at NA
  by_cases hf : f < 4
  · rw [decide_eq_true hf] at K
    by_cases hm : m < 5
    · rw [decide_eq_true hm] at MK
      cases hn : nanF f a with
      | true =>
        rw [hn] at NA
        exact nought18_no3 f m _ _ t ng (Lib.hid K) (Lib.hid MK) (Lib.hid NA) G w ft
      | false =>
        rw [hn] at NA
        have OA := D.of f a uf.1 uf.2
        rw [Int.emod_eq_of_lt a0 a1] at OA
        have NZ := Lib.hid (C.nought f ng uf.1 uf.2)
        obtain ⟨z0, z1⟩ := make_full uf.1 (f := f) ng 0 0
        have zc := (nought_cls uf.1 hf ng).1
        have AB := A.add f m t a (makeF f ng 0 0) uf.1 uf.2 um.1 um.2 a0 a1 z0 z1
        have AS := A.sub f m t a (makeF f ng 0 0) uf.1 uf.2 um.1 um.2 a0 a1 z0 z1
        obtain ⟨p1, p2⟩ := ad_nought (m := m) (negF f (makeF f ng 0 0)) uf.1 hf hm a0 a1 z0 z1 zc hn
        obtain ⟨q1, q2⟩ := ad_nought (m := m) (!negF f (makeF f ng 0 0)) uf.1 hf hm a0 a1 z0 z1 zc hn
        by_cases c : clsF f a = 0
        · have gc : (clsF f a == 0) = true := beq_iff_eq.2 c
          have OR := D.of f (adB f m a (makeF f ng 0 0) (negF f (makeF f ng 0 0))) uf.1 uf.2
          obtain ⟨r0, r1, _⟩ := ad_res (m := m) (s := negF f (makeF f ng 0 0)) uf.1 hf hm a0 a1 z0 z1 (by omega) (by omega) _ rfl
          rw [Int.emod_eq_of_lt r0 r1, (p1 c).1] at OR
          exact nought18_main f m _ _ _ _ _ _ _ _ _ 0 0 _ _ t ng _ _ (Lib.hid K) (Lib.hid MK) (Lib.hid NA) (Lib.hid OA) NZ (Lib.hid AB) (Lib.hid AS) (.inl ⟨gc, by rw [(p1 c).2]; rfl, by rw [(q1 c).2]; rfl, Lib.hid OR, G⟩) w ft
        · have CA := C.cut f a uf.1 uf.2
          rw [Int.emod_eq_of_lt a0 a1] at CA
          rw [(p2 c).1, (p2 c).2] at AB
          rw [(q2 c).1, (q2 c).2] at AS
          exact nought18_main f m _ _ _ _ _ _ _ _ _ _ _ _ _ t ng _ false (Lib.hid K) (Lib.hid MK) (Lib.hid NA) (Lib.hid OA) NZ (Lib.hid AB) (Lib.hid AS) (.inr ⟨beq_eq_false_iff_ne.2 c, eqr18 _ _ _, eqr18 _ _ _, Lib.hid CA, G⟩) w ft
    · rw [decide_eq_false hm] at MK
      exact nought18_no2 f m _ _ t ng (Lib.hid K) (Lib.hid MK) G w ft
  · rw [decide_eq_false hf] at K
    exact nought18_no1 f m _ _ t ng (Lib.hid K) G w ft
theorem nought18_law (C : FormOK) (D : ClassOK) (M : ModeOK) (A : AddOK) (f m : Int) (t : Bool) (ah al : Int) (ng : Bool) (uf : 0 ≤ f ∧ f ≤ 255) (um : 0 ≤ m ∧ m ≤ 255) (uah : U64 ah) (ual : U64 al) (w : World) (ft : FTab w) : Calls Tryz.prog 7 #[.int .u8 f, .agg #[.int .u8 m, .bool t], .agg #[.int .u64 ah, .int .u64 al], .bool ng] w fun e w' => e = .returned (.bool true) ∧ Below w.heap.size w w' := by
  have hva := val_range uah ual
  have h := nought18_law_n C D M A f m t (val ah al) ng hva.1 hva.2 uf um w ft
  rw [(hl_val uah ual).1, (hl_val uah ual).2] at h
  exact h


end Go.Proofs.YtnaamckhignjeaaGreatDoor
