/-
  AddsubSubs.
-/
import Derived.Test.YtnaamckhignjeaaGreatDoorSubs18
import Derived.Test.YtnaamckhignjeaaGreatDoorGoes18L
import Derived.Test.YtnaamckhignjeaaGreatDoorRef18
set_option linter.unusedVariables false
set_option linter.unusedSimpArgs false
set_option maxRecDepth 100000
namespace Go.Proofs.YtnaamckhignjeaaGreatDoor
open Go.RowKit
attribute [local go_sem ↓] Go.wp_at_zero Go.wp_at_succ

theorem subs18_law_n (A : AddOK) (f m : Int) (t : Bool) (a b : Int) (x y : Bool) (a0 : 0 ≤ a) (a1 : a < full) (b0 : 0 ≤ b) (b1 : b < full) (uf : 0 ≤ f ∧ f ≤ 255) (um : 0 ≤ m ∧ m ≤ 255) (w : World) (ft : FTab w) : Calls Tryz.prog 4 #[.int .u8 f, .agg #[.int .u8 m, .bool t], .agg #[.int .u64 (hiOf (a)), .int .u64 (loOf (a))], .agg #[.int .u64 (hiOf (b)), .int .u64 (loOf (b))], .bool x, .bool y] w fun e w' => e = .returned (.bool true) ∧ Below w.heap.size w w' := by
  have G := Lib.hid (goes18_any A)
  have RS : Hid (∀ w, Calls Tryz.prog 14 #[.int .u8 f, .agg #[.int .u64 (hiOf (b)), .int .u64 (loOf (b))]] w (RetSplit w f b)) := Lib.hid fun w => by
    by_cases hf : f < 4
    · have h := ref7_split f b uf.1 hf w
      rw [Int.emod_eq_of_lt b0 b1] at h; exact h
    · have h := ref7_split_no f (hiOf b) (loOf b) uf.1 uf.2 hf w
      refine h.mono fun e w' hh => ?_
      obtain ⟨he, hb⟩ := hh
      refine ⟨.slice none 0 0, ?_, ?_, hb⟩
      · rw [he]; unfold negF expF; rw [if_neg hf, decide_eq_false hf, Bool.and_false]
      · unfold fracF; rw [if_neg hf]; exact nil_num w'
  have er := exp_i64 (f := f) (b := b) uf.1 b0
  have fr := frac_low (f := f) (b := b) uf.1
  have MK := Lib.hid fun w v (h : IsNum w v (fracF f b)) => ref7_make f (expF f b) (fracF f b) (!negF f b) v uf.1 uf.2 er.1 er.2 (small_full (by omega)) w h
  have SB := Lib.hid (A.sub f m t a b uf.1 uf.2 um.1 um.2 a0 a1 b0 b1)
  have RF := Lib.hid fun w => ref18_addN f m t a b true uf.1 uf.2 um.1 um.2 a0 a1 b0 b1 w (!negF f b) (by cases negF f b <;> rfl)
  have TN := Lib.hid (A.turn f b uf.1 uf.2 b0 b1)
  have NN := Lib.hid (A.nought m t x y um.1 um.2)
  cases x <;> cases y
  · exact subs18_core f m _ _ _ _ _ _ _ _ _ _ _ t _ _ _ SB RF TN RS MK (.inr (.inl ⟨rfl, rfl, NN, G⟩)) w ft
  · exact subs18_core f m _ _ _ _ _ _ _ _ _ _ _ t _ _ _ SB RF TN RS MK (.inr (.inr (.inr ⟨rfl, rfl, NN, G⟩))) w ft
  · exact subs18_core f m _ _ _ _ _ _ _ _ _ _ _ t _ _ _ SB RF TN RS MK (.inr (.inr (.inl ⟨rfl, rfl, NN, G⟩))) w ft
  · exact subs18_core f m _ _ _ _ _ _ _ _ _ _ _ t _ _ _ SB RF TN RS MK (.inl ⟨rfl, rfl, NN, G⟩) w ft
theorem subs18_law (A : AddOK) (f m : Int) (t : Bool) (ah al bh bl : Int) (x y : Bool) (uf : 0 ≤ f ∧ f ≤ 255) (um : 0 ≤ m ∧ m ≤ 255) (uah : U64 ah) (ual : U64 al) (ubh : U64 bh) (ubl : U64 bl) (w : World) (ft : FTab w) : Calls Tryz.prog 4 #[.int .u8 f, .agg #[.int .u8 m, .bool t], .agg #[.int .u64 ah, .int .u64 al], .agg #[.int .u64 bh, .int .u64 bl], .bool x, .bool y] w fun e w' => e = .returned (.bool true) ∧ Below w.heap.size w w' := by
  have hva := val_range uah ual
  have hvb := val_range ubh ubl
  have h := subs18_law_n A f m t (val ah al) (val bh bl) x y hva.1 hva.2 hvb.1 hvb.2 uf um w ft
  rw [(hl_val uah ual).1, (hl_val uah ual).2, (hl_val ubh ubl).1, (hl_val ubh ubl).2] at h
  exact h


end Go.Proofs.YtnaamckhignjeaaGreatDoor
