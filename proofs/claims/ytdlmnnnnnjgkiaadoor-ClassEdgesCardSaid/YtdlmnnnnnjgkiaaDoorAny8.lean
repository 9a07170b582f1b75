/-
  ClassAny: slices of encodings; the walk.
-/
import Derived.Test.YtdlmnnnnnjgkiaaDoorCls8P
import Derived.Test.YtdlmnnnnnjgkiaaDoorGoes8L
import Derived.Test.YtdlmnnnnnjgkiaaDoorGaA
set_option linter.unusedVariables false
set_option linter.unusedSimpArgs false
set_option maxRecDepth 100000
namespace Go.Proofs.YtdlmnnnnnjgkiaaDoor
open Go.RowKit

/-- The slice '(ao, n, cap)' reads as the encodings xs. -/
def Bs (w : World) (ao : Option Addr) (n cap : Nat) (xs : List Int) : Prop :=
  n = xs.length ∧ n ≤ cap ∧ (n ≤ 9223372036854775807 ∧ (ao = none → n = 0 ∧ cap = 0)) ∧ ∀ k, k < n → ∃ a, ao = some a ∧ w.cell? (a.add (k * 2)) = some (.int .u64 (hiOf (xs.getD k 0))) ∧ w.cell? ⟨(a.add (k * 2)).block, (a.add (k * 2)).off + 1, none⟩ = some (.int .u64 (loOf (xs.getD k 0)))
theorem Bs.later {W w1 : World} {ao : Option Addr} {n cap : Nat} {xs : List Int} (x : Bs W ao n cap xs) (hb : Below W.heap.size W w1) : Bs w1 ao n cap xs := by
  obtain ⟨h1, h2, h3, h4⟩ := x
  refine ⟨h1, h2, h3, fun k hk => ?_⟩
  obtain ⟨a, e, c0, c1⟩ := h4 k hk
  exact ⟨a, e, cell_later hb c0, cell_later hb c1⟩
def someB (p : Int → Bool) (xs : List Int) (k : Nat) : Bool := (xs.take k).any p
theorem someB_succ (p : Int → Bool) (xs : List Int) (k : Nat) (h : k < xs.length) : someB p xs (k + 1) = (someB p xs k || p (xs.getD k 0)) := by
  unfold someB
  rw [List.take_add_one, List.any_append, List.getD_eq_getElem?_getD, List.getElem?_eq_getElem h]
  simp
theorem someB_all (p : Int → Bool) (xs : List Int) {n : Nat} (h : n = xs.length) : someB p xs n = xs.any p := by
  unfold someB; rw [h, List.take_length]

set_option maxRecDepth 100000 in
set_option maxHeartbeats 4000000 in
theorem any8_walk (f : Int) (ao : Option Addr) (n cap : Nat) (xs : List Int) (w : World) (ft : FTab w) (hn : n ≤ 50) (x : Bs w ao n cap xs) (nb sb : Bool) (hnb : nb = xs.any (fun b => nanF f (b % full))) (hsb : sb = xs.any fun b => sigF f (b % full))
    (RN : Hid (∀ b w, Calls Tryd.prog 12 #[.int .u8 f, .agg #[.int .u64 (hiOf b), .int .u64 (loOf b)]] w fun e w' => e = .returned (.bool (nanF f (b % full))) ∧ Below w.heap.size w w'))
    (RS : Hid (∀ b w, Calls Tryd.prog 14 #[.int .u8 f, .agg #[.int .u64 (hiOf b), .int .u64 (loOf b)]] w fun e w' => e = .returned (.bool (sigF f (b % full))) ∧ Below w.heap.size w w'))
    (AN : Hid (∀ w, FTab w → Bs w ao n cap xs → Calls Tryd.prog 17 #[.int .u8 f, .func (.func 11) #[] #[], .slice ao n cap] w fun e w' => e = .returned (.bool nb) ∧ Below w.heap.size w w'))
    (AS : Hid (∀ w, FTab w → Bs w ao n cap xs → Calls Tryd.prog 17 #[.int .u8 f, .func (.func 13) #[] #[], .slice ao n cap] w fun e w' => e = .returned (.bool sb) ∧ Below w.heap.size w w'))
    (A0 : Hid (∀ w, Calls Tryd.prog 17 #[.int .u8 f, Value.nilFunc, .slice ao n cap] w fun e w' => e = .returned (.bool false) ∧ Below w.heap.size w w'))
    (G : Hid (∀ w, FTab w → Calls Tryd.prog 16 #[] w fun e w' => e = .returned (.bool true) ∧ Below w.heap.size w w')) :
    Calls Tryd.prog 4 #[.int .u8 f, .slice ao n cap] w fun e w' => e = .returned (.bool true) ∧ Below w.heap.size w w' := by
  have HX := Lib.hid x
  have FT := Lib.hid ft
  have HN := Lib.hid hn
  have g : decide ((50 : Int) < (n : Int)) = false := by simp; omega
  have Hnb := Lib.hid hnb
  have Hsb := Lib.hid hsb
  clear x hnb hsb ft
  go_enter Tryd.func4, Tryd.ntmps4
  go_wp2_with fail
  go_loopw [5, 6, 7] (fun u v i wr => ∃ k : Nat, k ≤ n ∧ i = .int .i64 k ∧ u = .bool (someB (fun b => nanF f (b % full)) xs k) ∧ v = .bool (someB (fun b => sigF f (b % full)) xs k) ∧ Below w.heap.size w wr) (fun _ _ i _ => n - (intOf i).toNat)
  case atStart => exact ⟨0, by omega, rfl, rfl, rfl, Below.refl _ _⟩
  case round =>
    obtain ⟨k, hk, rfl, rfl, rfl, hb⟩ := hrel
    by_cases hlt : k < n
    · obtain ⟨a, hao, c0, c1⟩ := (HX.out.later hb).2.2.2 k hlt
      subst hao
      have sN := someB_succ (fun b => nanF f (b % full)) xs k (HX.out.1 ▸ hlt)
      have sS := someB_succ (fun b => sigF f (b % full)) xs k (HX.out.1 ▸ hlt)
      have SN := Lib.hid sN; have SS := Lib.hid sS
      obtain ⟨b, hbk⟩ : ∃ b, xs.getD k 0 = b := ⟨_, rfl⟩
      rw [hbk] at c0 c1
      have gk : decide ((k : Int) < (n : Int)) = true := by simp; omega
      have HB := Lib.hid hb
      clear sN sS hb
      have inc : IntKind.i64.wrap ((k : Int) + 1) = ((k + 1 : Nat) : Int) := by have := HN.out; rw [IntKind.wrap_i64]; omega
      cases hu : someB (fun b => nanF f (b % full)) xs k <;> cases hv : someB (fun b => sigF f (b % full)) xs k
      · have SNo := SN.out
        have SSo := SS.out
        rw [hu, hbk] at SNo
        rw [hv, hbk] at SSo
        have SNo := Lib.hid SNo; have SSo := Lib.hid SSo
        have hw := HB.out
        clear hw
        go_wp2_with fail
        (with_reducible refine (RN.out _ _).mono ?_); rintro e w1 ⟨rfl, hb1⟩
        have d0 := cell_later hb1 c0; have d1 := cell_later hb1 c1
        have K1 := Lib.hid (bC HB.out hb1)
        clear hb1 c0 c1
        go_wp2_with fail
        (with_reducible refine (RS.out _ _).mono ?_); rintro e w2 ⟨rfl, hb2⟩
        have K2 := Lib.hid (bC K1.out hb2)
        clear hb2
        go_wp2_with fail
        go_roundw
        case rel => exact ⟨k + 1, by omega, by go_num, congrArg Value.bool (by rw [SNo.out]; rfl), congrArg Value.bool (by rw [SSo.out]; rfl), K2.out⟩
        case measure => simp [intOf]; omega
      · have SNo := SN.out
        have SSo := SS.out
        rw [hu, hbk] at SNo
        rw [hv, hbk] at SSo
        have SNo := Lib.hid SNo; have SSo := Lib.hid SSo
        have hw := HB.out
        clear hw
        go_wp2_with fail
        (with_reducible refine (RN.out _ _).mono ?_); rintro e w1 ⟨rfl, hb1⟩
        have d0 := cell_later hb1 c0; have d1 := cell_later hb1 c1
        have K1 := Lib.hid (bC HB.out hb1)
        clear hb1 c0 c1
        go_wp2_with fail
        go_roundw
        case rel => exact ⟨k + 1, by omega, by go_num, congrArg Value.bool (by rw [SNo.out]; rfl), congrArg Value.bool (by rw [SSo.out]; rfl), K1.out⟩
        case measure => simp [intOf]; omega
      · have SNo := SN.out
        have SSo := SS.out
        rw [hu, hbk] at SNo
        rw [hv, hbk] at SSo
        have SNo := Lib.hid SNo; have SSo := Lib.hid SSo
        have hw := HB.out
        clear hw
        go_wp2_with fail
        (with_reducible refine (RS.out _ _).mono ?_); rintro e w2 ⟨rfl, hb2⟩
        have K2 := Lib.hid (bC HB.out hb2)
        clear hb2
        go_wp2_with fail
        go_roundw
        case rel => exact ⟨k + 1, by omega, by go_num, congrArg Value.bool (by rw [SNo.out]; rfl), congrArg Value.bool (by rw [SSo.out]; rfl), K2.out⟩
        case measure => simp [intOf]; omega
      · have SNo := SN.out
        have SSo := SS.out
        rw [hu, hbk] at SNo
        rw [hv, hbk] at SSo
        have SNo := Lib.hid SNo; have SSo := Lib.hid SSo
        have hw := HB.out
        clear hw
        go_wp2_with fail
        go_roundw
        case rel => exact ⟨k + 1, by omega, by go_num, congrArg Value.bool (by rw [SNo.out]; rfl), congrArg Value.bool (by rw [SSo.out]; rfl), HB.out⟩
        case measure => simp [intOf]; omega
    · have gk : decide ((k : Int) < (n : Int)) = false := by simp; omega
      have hkn : k = n := by omega
      subst hkn
      rw [someB_all _ _ HX.out.1, someB_all _ _ HX.out.1, ← Hnb.out, ← Hsb.out]
      have HB := Lib.hid hb
      clear hb
      cases nb <;> cases sb
      all_goals
        go_wp2_with fail
        (with_reducible refine (AN.out _ (FT.out.later HB.out) (HX.out.later HB.out)).mono ?_); rintro e w1 ⟨rfl, hb1⟩
        have K1 := Lib.hid (bC HB.out hb1)
        clear hb1
        go_wp2_with fail
        (with_reducible refine (AS.out _ (FT.out.later K1.out) (HX.out.later K1.out)).mono ?_); rintro e w2 ⟨rfl, hb2⟩
        have K2 := Lib.hid (bC K1.out hb2)
        clear hb2
        go_wp2_with fail
        (with_reducible refine (A0.out _).mono ?_); rintro e w3 ⟨rfl, hb3⟩
        have K3 := Lib.hid (bC K2.out hb3)
        clear hb3
        go_wp2_with fail
        (with_reducible refine (G.out _ (FT.out.later K3.out)).mono ?_); rintro e w4 ⟨rfl, hb4⟩
        have K4 := Lib.hid (bC K3.out hb4)
        clear hb4
        go_wp2_with fail
        go_ret
        exact ⟨rfl, K4.out⟩
end Go.Proofs.YtdlmnnnnnjgkiaaDoor
