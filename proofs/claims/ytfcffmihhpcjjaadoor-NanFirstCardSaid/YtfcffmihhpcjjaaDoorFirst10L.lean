/-
  NanFirst over slices.
-/
import Derived.Test.YtfcffmihhpcjjaaDoorFirst10
import Derived.Test.YtfcffmihhpcjjaaDoorGoes10L
import Derived.Test.YtfcffmihhpcjjaaDoorAny8L
import Derived.Test.YtfcffmihhpcjjaaDoorNanP
set_option linter.unusedVariables false
set_option linter.unusedSimpArgs false
set_option maxRecDepth 100000
namespace Go.Proofs.YtfcffmihhpcjjaaDoor
open Go.RowKit
attribute [local go_sem ↓] Go.wp_at_zero Go.wp_at_succ

theorem first_plain (f : Int) (xs ys : List Int) (b : Int) (hb : nanF f (b % full) = true) : (plainN (fun b => nanF f (b % full)) xs xs.length ++ [b] ++ ys).find? (fun b => nanF f (b % full)) = some b := by
  unfold plainN
  rw [List.append_assoc, List.find?_append, List.take_length]
  have : (xs.filter fun b => !nanF f (b % full)).find? (fun b => nanF f (b % full)) = none := by
    rw [List.find?_eq_none]
    intro y hy
    have := (List.mem_filter.1 hy).2
    simpa using this
  rw [this]
  simp [hb]
theorem first10_law (D : ClassOK) (N : NanOK) (f : Int) (ao : Option Addr) (n cap : Nat) (xs : List Int) (bo : Option Addr) (m cbp : Nat) (ys : List Int) (bh bl : Int) (fb : 0 ≤ f ∧ f ≤ 255) (uh : U64 bh) (ul : U64 bl) (w : World) (ft : FTab w) (x : Bs w ao n cap xs) (y : Bs w bo m cbp ys) : Calls Tryd.prog 7 #[.int .u8 f, .slice ao n cap, .slice bo m cbp, .agg #[.int .u64 bh, .int .u64 bl]] w fun e w' => e = .returned (.bool true) ∧ Below w.heap.size w w' := by
  obtain ⟨f0, f1⟩ := fb
  obtain ⟨b, hb1, hb2⟩ : ∃ b, hiOf b = bh ∧ loOf b = bl := ⟨val bh bl, (hl_val uh ul).1, (hl_val uh ul).2⟩
  subst hb1; subst hb2
  have G := Lib.hid (goes10_any N)
  by_cases hn : n ≤ 20
  · by_cases hm : m ≤ 20
    · by_cases hb : nanF f (b % full) = true
      · have h4 := nan_known hb
        have hF := first_plain f xs ys b hb
        have hV : firstV f (plainN (fun b => nanF f (b % full)) xs xs.length ++ [b] ++ ys) = quietF f (b % full) := by unfold firstV; rw [hF]
        have hN : anyN f (plainN (fun b => nanF f (b % full)) xs xs.length ++ [b] ++ ys) = true := by unfold anyN; simp [hb]
        obtain ⟨e1, e2, e3⟩ := pick_nan h4 _ hN
        obtain ⟨g1, g2, g3⟩ := pick_inv h4 (plainN (fun b => nanF f (b % full)) xs xs.length ++ [b] ++ ys)
        rw [hV] at e1 g1
        refine first10_walk f b (hiOf (quietF f (b % full))) (loOf (quietF f (b % full))) (if anyS f (plainN (fun b => nanF f (b % full)) xs xs.length ++ [b] ++ ys) = true then 1 else 0) (fun b => nanF f (b % full)) ao bo n cap m cbp xs ys w ft hn hm x y hb (Lib.hid fun b => D.nan f b f0 f1) (Lib.hid fun ao n cap w ft x => ?_) (Lib.hid fun ao n cap w ft x => ?_) (Lib.hid (N.quiet f b f0 f1)) G
        · have h := N.pick f false ao n cap _ f0 f1 w ft x
          rw [e1, e2, e3] at h
          exact h
        · have h := N.pick f true ao n cap _ f0 f1 w ft x
          rw [g1, g2, g3] at h
          exact h
      · have hN := D.nan f b f0 f1
        rw [Bool.eq_false_iff.2 hb] at hN
        exact first10_not f b ao bo n cap m cbp w ft hn hm x.2.2.1.1 y.2.2.1.1 (Lib.hid hN) G
    · exact first10_behind f b ao bo n cap m cbp w ft hn (by omega) x.2.2.1.1 y.2.2.1.1 G
  · exact first10_ahead f b ao bo n cap m cbp w ft (by omega) x.2.2.1.1 y.2.2.1.1 G


end Go.Proofs.YtfcffmihhpcjjaaDoor
