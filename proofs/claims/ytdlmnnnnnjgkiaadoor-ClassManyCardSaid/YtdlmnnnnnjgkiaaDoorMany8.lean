/-
  ClassMany: the walk.
-/
import Derived.Test.YtdlmnnnnnjgkiaaDoorBsA
import Derived.Test.YtdlmnnnnnjgkiaaDoorGaA
set_option linter.unusedVariables false
set_option linter.unusedSimpArgs false
set_option maxRecDepth 100000
namespace Go.Proofs.YtdlmnnnnnjgkiaaDoor
open Go.RowKit

theorem OwnB.bs {w : World} {base : Nat} {v : Value} {os : List Int} (h : OwnB w base v os) (hl : os.length ≤ 1000000) : ∃ ao n cap, v = .slice ao n cap ∧ Bs w ao n cap os := by
  rcases id h.2 with ⟨hv, h0⟩ | ⟨g, cap, cur, hv, _, hg, hnc, _⟩
  · exact ⟨none, 0, 0, hv, h0.symm, by omega, ⟨by omega, fun _ => ⟨rfl, rfl⟩⟩, fun k hk => by omega⟩
  · refine ⟨_, os.length, cap, hv, rfl, hnc, ⟨by omega, fun e => by cases e⟩, fun k hk => ⟨_, rfl, ?_⟩⟩
    subst hv
    obtain ⟨g0, g1⟩ := cellsOfB_at os k hk
    have c0 := World.ownsRow.cellAt h (k * 2) (by omega)
    have c1 := World.ownsRow.cellAt h (k * 2 + 1) (by omega)
    rw [show (⟨g, 0, none⟩ : Addr).add (k * 2) = ⟨g, k * 2, none⟩ by unfold Addr.add; by_cases h : k * 2 = 0 <;> simp [h]]
    exact ⟨c0.trans g0, c1.trans g1⟩

set_option maxRecDepth 100000 in
set_option maxHeartbeats 8000000 in
theorem many8_walk (f : Int) (ao bo : Option Addr) (n cap m cbp : Nat) (xs ys : List Int) (w : World) (ft : FTab w) (hn : n ≤ 50) (hm : m ≤ 50) (x : Bs w ao n cap xs) (y : Bs w bo m cbp ys)
    (AN : Hid (∀ ao n cap xs w, FTab w → Bs w ao n cap xs → Calls Tryd.prog 17 #[.int .u8 f, .func (.func 11) #[] #[], .slice ao n cap] w fun e w' => e = .returned (.bool (xs.any fun b => nanF f (b % full))) ∧ Below w.heap.size w w'))
    (AF : Hid (∀ ao n cap xs w, FTab w → Bs w ao n cap xs → Calls Tryd.prog 17 #[.int .u8 f, .func (.func 15) #[] #[], .slice ao n cap] w fun e w' => e = .returned (.bool (xs.any fun b => finF f (b % full))) ∧ Below w.heap.size w w'))
    (G : Hid (∀ w, FTab w → Calls Tryd.prog 16 #[] w fun e w' => e = .returned (.bool true) ∧ Below w.heap.size w w')) :
    Calls Tryd.prog 7 #[.int .u8 f, .slice ao n cap, .slice bo m cbp] w fun e w' => e = .returned (.bool true) ∧ Below w.heap.size w w' := by
  have HX := Lib.hid x
  have HY := Lib.hid y
  have FT := Lib.hid ft
  have HN := Lib.hid hn
  have HM := Lib.hid hm
  have g1 : decide ((50 : Int) < (n : Int)) = false := by simp; omega
  have g2 : decide ((50 : Int) < (m : Int)) = false := by simp; omega
  clear x y ft hn hm
  go_enter Tryd.func7, Tryd.ntmps7
  go_wp2_with (at_builtin; first | (refine wpList_append_bits rfl (.tmp 16) (.tmp 17) rfl w.heap.size _ [] rfl (World.ownsRow_lit (size := 2) (e := 25) w #[] 0 (Nat.le_refl _) (by decide) rfl) ao n cap xs rfl (HX.out.later (bA (Below.refl _ _) _)) (by have := HN.out; simp; omega) (by simp) ?_; intro v1 w1 o1 hb1; have B1 := Lib.hid ((bA (Below.refl _ w) (.cells #[] 25)).trans hb1); have O1 := Lib.hid o1; clear o1 hb1) | (refine wpList_append_bits rfl (.tmp 18) (.tmp 19) rfl w.heap.size _ _ rfl O1.out bo m cbp ys rfl (HY.out.later B1.out) (by have := HN.out; have := HM.out; have := HX.out.1; simp; omega) B1.out.size ?_; intro v2 w2 o2 hb2; have K0 := Lib.hid (B1.out.trans hb2); obtain ⟨zo, k, zc, rfl, z⟩ := OwnB.bs o2 (by have := HN.out; have := HM.out; have := HX.out.1; have := HY.out.1; simp; omega); have Z0 := Lib.hid z; clear o2 hb2 z))
  have eN : (([] ++ xs) ++ ys).any (fun b => nanF f (b % full)) = (xs.any (fun b => nanF f (b % full)) || ys.any (fun b => nanF f (b % full))) := by simp
  have eF : (([] ++ xs) ++ ys).any (fun b => finF f (b % full)) = (xs.any (fun b => finF f (b % full)) || ys.any (fun b => finF f (b % full))) := by simp
  have AN1 := Lib.hid (AN.out zo k zc (([] ++ xs) ++ ys))
  have AN2 := Lib.hid (AN.out ao n cap xs)
  have AN3 := Lib.hid (AN.out bo m cbp ys)
  have AF1 := Lib.hid (AF.out zo k zc (([] ++ xs) ++ ys))
  have AF2 := Lib.hid (AF.out ao n cap xs)
  have AF3 := Lib.hid (AF.out bo m cbp ys)
  rw [eN] at AN1
  rw [eF] at AF1
  clear AN AF eN eF
  generalize xs.any (fun b => nanF f (b % full)) = n1 at *
  generalize ys.any (fun b => nanF f (b % full)) = n2 at *
  generalize xs.any (fun b => finF f (b % full)) = f1 at *
  generalize ys.any (fun b => finF f (b % full)) = f2 at *
  cases n1 <;> cases n2 <;> cases f1 <;> cases f2
  · (with_reducible refine (AN1.out _ (FT.out.later K0.out) Z0.out).mono ?_); rintro e w3 ⟨rfl, hb⟩
    have K1 := Lib.hid (bC K0.out hb)
    have Z1 := Lib.hid (Z0.out.later hb)
    clear hb
    go_wp2_with fail
    (with_reducible refine (AN2.out _ (FT.out.later K1.out) (HX.out.later K1.out)).mono ?_); rintro e w4 ⟨rfl, hb⟩
    have K2 := Lib.hid (bC K1.out hb)
    have Z2 := Lib.hid (Z1.out.later hb)
    clear hb
    go_wp2_with fail
    (with_reducible refine (AN3.out _ (FT.out.later K2.out) (HY.out.later K2.out)).mono ?_); rintro e w5 ⟨rfl, hb⟩
    have K3 := Lib.hid (bC K2.out hb)
    have Z3 := Lib.hid (Z2.out.later hb)
    clear hb
    go_wp2_with fail
    (with_reducible refine (AF1.out _ (FT.out.later K3.out) Z3.out).mono ?_); rintro e w6 ⟨rfl, hb⟩
    have K4 := Lib.hid (bC K3.out hb)
    have Z4 := Lib.hid (Z3.out.later hb)
    clear hb
    go_wp2_with fail
    (with_reducible refine (AF2.out _ (FT.out.later K4.out) (HX.out.later K4.out)).mono ?_); rintro e w7 ⟨rfl, hb⟩
    have K5 := Lib.hid (bC K4.out hb)
    have Z5 := Lib.hid (Z4.out.later hb)
    clear hb
    go_wp2_with fail
    (with_reducible refine (AF3.out _ (FT.out.later K5.out) (HY.out.later K5.out)).mono ?_); rintro e w8 ⟨rfl, hb⟩
    have K6 := Lib.hid (bC K5.out hb)
    have Z6 := Lib.hid (Z5.out.later hb)
    clear hb
    go_wp2_with fail
    (with_reducible refine (G.out _ (FT.out.later K6.out)).mono ?_); rintro e wl ⟨rfl, hb⟩
    have KL := Lib.hid (bC K6.out hb)
    clear hb
    go_wp2_with fail
    go_ret
    exact ⟨rfl, KL.out⟩
  · (with_reducible refine (AN1.out _ (FT.out.later K0.out) Z0.out).mono ?_); rintro e w3 ⟨rfl, hb⟩
    have K1 := Lib.hid (bC K0.out hb)
    have Z1 := Lib.hid (Z0.out.later hb)
    clear hb
    go_wp2_with fail
    (with_reducible refine (AN2.out _ (FT.out.later K1.out) (HX.out.later K1.out)).mono ?_); rintro e w4 ⟨rfl, hb⟩
    have K2 := Lib.hid (bC K1.out hb)
    have Z2 := Lib.hid (Z1.out.later hb)
    clear hb
    go_wp2_with fail
    (with_reducible refine (AN3.out _ (FT.out.later K2.out) (HY.out.later K2.out)).mono ?_); rintro e w5 ⟨rfl, hb⟩
    have K3 := Lib.hid (bC K2.out hb)
    have Z3 := Lib.hid (Z2.out.later hb)
    clear hb
    go_wp2_with fail
    (with_reducible refine (AF1.out _ (FT.out.later K3.out) Z3.out).mono ?_); rintro e w6 ⟨rfl, hb⟩
    have K4 := Lib.hid (bC K3.out hb)
    have Z4 := Lib.hid (Z3.out.later hb)
    clear hb
    go_wp2_with fail
    (with_reducible refine (AF2.out _ (FT.out.later K4.out) (HX.out.later K4.out)).mono ?_); rintro e w7 ⟨rfl, hb⟩
    have K5 := Lib.hid (bC K4.out hb)
    have Z5 := Lib.hid (Z4.out.later hb)
    clear hb
    go_wp2_with fail
    (with_reducible refine (AF3.out _ (FT.out.later K5.out) (HY.out.later K5.out)).mono ?_); rintro e w8 ⟨rfl, hb⟩
    have K6 := Lib.hid (bC K5.out hb)
    have Z6 := Lib.hid (Z5.out.later hb)
    clear hb
    go_wp2_with fail
    (with_reducible refine (G.out _ (FT.out.later K6.out)).mono ?_); rintro e wl ⟨rfl, hb⟩
    have KL := Lib.hid (bC K6.out hb)
    clear hb
    go_wp2_with fail
    go_ret
    exact ⟨rfl, KL.out⟩
  · (with_reducible refine (AN1.out _ (FT.out.later K0.out) Z0.out).mono ?_); rintro e w3 ⟨rfl, hb⟩
    have K1 := Lib.hid (bC K0.out hb)
    have Z1 := Lib.hid (Z0.out.later hb)
    clear hb
    go_wp2_with fail
    (with_reducible refine (AN2.out _ (FT.out.later K1.out) (HX.out.later K1.out)).mono ?_); rintro e w4 ⟨rfl, hb⟩
    have K2 := Lib.hid (bC K1.out hb)
    have Z2 := Lib.hid (Z1.out.later hb)
    clear hb
    go_wp2_with fail
    (with_reducible refine (AN3.out _ (FT.out.later K2.out) (HY.out.later K2.out)).mono ?_); rintro e w5 ⟨rfl, hb⟩
    have K3 := Lib.hid (bC K2.out hb)
    have Z3 := Lib.hid (Z2.out.later hb)
    clear hb
    go_wp2_with fail
    (with_reducible refine (AF1.out _ (FT.out.later K3.out) Z3.out).mono ?_); rintro e w6 ⟨rfl, hb⟩
    have K4 := Lib.hid (bC K3.out hb)
    have Z4 := Lib.hid (Z3.out.later hb)
    clear hb
    go_wp2_with fail
    (with_reducible refine (AF2.out _ (FT.out.later K4.out) (HX.out.later K4.out)).mono ?_); rintro e w7 ⟨rfl, hb⟩
    have K5 := Lib.hid (bC K4.out hb)
    have Z5 := Lib.hid (Z4.out.later hb)
    clear hb
    go_wp2_with fail
    (with_reducible refine (G.out _ (FT.out.later K5.out)).mono ?_); rintro e wl ⟨rfl, hb⟩
    have KL := Lib.hid (bC K5.out hb)
    clear hb
    go_wp2_with fail
    go_ret
    exact ⟨rfl, KL.out⟩
  · (with_reducible refine (AN1.out _ (FT.out.later K0.out) Z0.out).mono ?_); rintro e w3 ⟨rfl, hb⟩
    have K1 := Lib.hid (bC K0.out hb)
    have Z1 := Lib.hid (Z0.out.later hb)
    clear hb
    go_wp2_with fail
    (with_reducible refine (AN2.out _ (FT.out.later K1.out) (HX.out.later K1.out)).mono ?_); rintro e w4 ⟨rfl, hb⟩
    have K2 := Lib.hid (bC K1.out hb)
    have Z2 := Lib.hid (Z1.out.later hb)
    clear hb
    go_wp2_with fail
    (with_reducible refine (AN3.out _ (FT.out.later K2.out) (HY.out.later K2.out)).mono ?_); rintro e w5 ⟨rfl, hb⟩
    have K3 := Lib.hid (bC K2.out hb)
    have Z3 := Lib.hid (Z2.out.later hb)
    clear hb
    go_wp2_with fail
    (with_reducible refine (AF1.out _ (FT.out.later K3.out) Z3.out).mono ?_); rintro e w6 ⟨rfl, hb⟩
    have K4 := Lib.hid (bC K3.out hb)
    have Z4 := Lib.hid (Z3.out.later hb)
    clear hb
    go_wp2_with fail
    (with_reducible refine (AF2.out _ (FT.out.later K4.out) (HX.out.later K4.out)).mono ?_); rintro e w7 ⟨rfl, hb⟩
    have K5 := Lib.hid (bC K4.out hb)
    have Z5 := Lib.hid (Z4.out.later hb)
    clear hb
    go_wp2_with fail
    (with_reducible refine (G.out _ (FT.out.later K5.out)).mono ?_); rintro e wl ⟨rfl, hb⟩
    have KL := Lib.hid (bC K5.out hb)
    clear hb
    go_wp2_with fail
    go_ret
    exact ⟨rfl, KL.out⟩
  · (with_reducible refine (AN1.out _ (FT.out.later K0.out) Z0.out).mono ?_); rintro e w3 ⟨rfl, hb⟩
    have K1 := Lib.hid (bC K0.out hb)
    have Z1 := Lib.hid (Z0.out.later hb)
    clear hb
    go_wp2_with fail
    (with_reducible refine (AN2.out _ (FT.out.later K1.out) (HX.out.later K1.out)).mono ?_); rintro e w4 ⟨rfl, hb⟩
    have K2 := Lib.hid (bC K1.out hb)
    have Z2 := Lib.hid (Z1.out.later hb)
    clear hb
    go_wp2_with fail
    (with_reducible refine (AN3.out _ (FT.out.later K2.out) (HY.out.later K2.out)).mono ?_); rintro e w5 ⟨rfl, hb⟩
    have K3 := Lib.hid (bC K2.out hb)
    have Z3 := Lib.hid (Z2.out.later hb)
    clear hb
    go_wp2_with fail
    (with_reducible refine (AF1.out _ (FT.out.later K3.out) Z3.out).mono ?_); rintro e w6 ⟨rfl, hb⟩
    have K4 := Lib.hid (bC K3.out hb)
    have Z4 := Lib.hid (Z3.out.later hb)
    clear hb
    go_wp2_with fail
    (with_reducible refine (AF2.out _ (FT.out.later K4.out) (HX.out.later K4.out)).mono ?_); rintro e w7 ⟨rfl, hb⟩
    have K5 := Lib.hid (bC K4.out hb)
    have Z5 := Lib.hid (Z4.out.later hb)
    clear hb
    go_wp2_with fail
    (with_reducible refine (AF3.out _ (FT.out.later K5.out) (HY.out.later K5.out)).mono ?_); rintro e w8 ⟨rfl, hb⟩
    have K6 := Lib.hid (bC K5.out hb)
    have Z6 := Lib.hid (Z5.out.later hb)
    clear hb
    go_wp2_with fail
    (with_reducible refine (G.out _ (FT.out.later K6.out)).mono ?_); rintro e wl ⟨rfl, hb⟩
    have KL := Lib.hid (bC K6.out hb)
    clear hb
    go_wp2_with fail
    go_ret
    exact ⟨rfl, KL.out⟩
  · (with_reducible refine (AN1.out _ (FT.out.later K0.out) Z0.out).mono ?_); rintro e w3 ⟨rfl, hb⟩
    have K1 := Lib.hid (bC K0.out hb)
    have Z1 := Lib.hid (Z0.out.later hb)
    clear hb
    go_wp2_with fail
    (with_reducible refine (AN2.out _ (FT.out.later K1.out) (HX.out.later K1.out)).mono ?_); rintro e w4 ⟨rfl, hb⟩
    have K2 := Lib.hid (bC K1.out hb)
    have Z2 := Lib.hid (Z1.out.later hb)
    clear hb
    go_wp2_with fail
    (with_reducible refine (AN3.out _ (FT.out.later K2.out) (HY.out.later K2.out)).mono ?_); rintro e w5 ⟨rfl, hb⟩
    have K3 := Lib.hid (bC K2.out hb)
    have Z3 := Lib.hid (Z2.out.later hb)
    clear hb
    go_wp2_with fail
    (with_reducible refine (AF1.out _ (FT.out.later K3.out) Z3.out).mono ?_); rintro e w6 ⟨rfl, hb⟩
    have K4 := Lib.hid (bC K3.out hb)
    have Z4 := Lib.hid (Z3.out.later hb)
    clear hb
    go_wp2_with fail
    (with_reducible refine (AF2.out _ (FT.out.later K4.out) (HX.out.later K4.out)).mono ?_); rintro e w7 ⟨rfl, hb⟩
    have K5 := Lib.hid (bC K4.out hb)
    have Z5 := Lib.hid (Z4.out.later hb)
    clear hb
    go_wp2_with fail
    (with_reducible refine (AF3.out _ (FT.out.later K5.out) (HY.out.later K5.out)).mono ?_); rintro e w8 ⟨rfl, hb⟩
    have K6 := Lib.hid (bC K5.out hb)
    have Z6 := Lib.hid (Z5.out.later hb)
    clear hb
    go_wp2_with fail
    (with_reducible refine (G.out _ (FT.out.later K6.out)).mono ?_); rintro e wl ⟨rfl, hb⟩
    have KL := Lib.hid (bC K6.out hb)
    clear hb
    go_wp2_with fail
    go_ret
    exact ⟨rfl, KL.out⟩
  · (with_reducible refine (AN1.out _ (FT.out.later K0.out) Z0.out).mono ?_); rintro e w3 ⟨rfl, hb⟩
    have K1 := Lib.hid (bC K0.out hb)
    have Z1 := Lib.hid (Z0.out.later hb)
    clear hb
    go_wp2_with fail
    (with_reducible refine (AN2.out _ (FT.out.later K1.out) (HX.out.later K1.out)).mono ?_); rintro e w4 ⟨rfl, hb⟩
    have K2 := Lib.hid (bC K1.out hb)
    have Z2 := Lib.hid (Z1.out.later hb)
    clear hb
    go_wp2_with fail
    (with_reducible refine (AN3.out _ (FT.out.later K2.out) (HY.out.later K2.out)).mono ?_); rintro e w5 ⟨rfl, hb⟩
    have K3 := Lib.hid (bC K2.out hb)
    have Z3 := Lib.hid (Z2.out.later hb)
    clear hb
    go_wp2_with fail
    (with_reducible refine (AF1.out _ (FT.out.later K3.out) Z3.out).mono ?_); rintro e w6 ⟨rfl, hb⟩
    have K4 := Lib.hid (bC K3.out hb)
    have Z4 := Lib.hid (Z3.out.later hb)
    clear hb
    go_wp2_with fail
    (with_reducible refine (AF2.out _ (FT.out.later K4.out) (HX.out.later K4.out)).mono ?_); rintro e w7 ⟨rfl, hb⟩
    have K5 := Lib.hid (bC K4.out hb)
    have Z5 := Lib.hid (Z4.out.later hb)
    clear hb
    go_wp2_with fail
    (with_reducible refine (G.out _ (FT.out.later K5.out)).mono ?_); rintro e wl ⟨rfl, hb⟩
    have KL := Lib.hid (bC K5.out hb)
    clear hb
    go_wp2_with fail
    go_ret
    exact ⟨rfl, KL.out⟩
  · (with_reducible refine (AN1.out _ (FT.out.later K0.out) Z0.out).mono ?_); rintro e w3 ⟨rfl, hb⟩
    have K1 := Lib.hid (bC K0.out hb)
    have Z1 := Lib.hid (Z0.out.later hb)
    clear hb
    go_wp2_with fail
    (with_reducible refine (AN2.out _ (FT.out.later K1.out) (HX.out.later K1.out)).mono ?_); rintro e w4 ⟨rfl, hb⟩
    have K2 := Lib.hid (bC K1.out hb)
    have Z2 := Lib.hid (Z1.out.later hb)
    clear hb
    go_wp2_with fail
    (with_reducible refine (AN3.out _ (FT.out.later K2.out) (HY.out.later K2.out)).mono ?_); rintro e w5 ⟨rfl, hb⟩
    have K3 := Lib.hid (bC K2.out hb)
    have Z3 := Lib.hid (Z2.out.later hb)
    clear hb
    go_wp2_with fail
    (with_reducible refine (AF1.out _ (FT.out.later K3.out) Z3.out).mono ?_); rintro e w6 ⟨rfl, hb⟩
    have K4 := Lib.hid (bC K3.out hb)
    have Z4 := Lib.hid (Z3.out.later hb)
    clear hb
    go_wp2_with fail
    (with_reducible refine (AF2.out _ (FT.out.later K4.out) (HX.out.later K4.out)).mono ?_); rintro e w7 ⟨rfl, hb⟩
    have K5 := Lib.hid (bC K4.out hb)
    have Z5 := Lib.hid (Z4.out.later hb)
    clear hb
    go_wp2_with fail
    (with_reducible refine (G.out _ (FT.out.later K5.out)).mono ?_); rintro e wl ⟨rfl, hb⟩
    have KL := Lib.hid (bC K5.out hb)
    clear hb
    go_wp2_with fail
    go_ret
    exact ⟨rfl, KL.out⟩
  · (with_reducible refine (AN1.out _ (FT.out.later K0.out) Z0.out).mono ?_); rintro e w3 ⟨rfl, hb⟩
    have K1 := Lib.hid (bC K0.out hb)
    have Z1 := Lib.hid (Z0.out.later hb)
    clear hb
    go_wp2_with fail
    (with_reducible refine (AN2.out _ (FT.out.later K1.out) (HX.out.later K1.out)).mono ?_); rintro e w4 ⟨rfl, hb⟩
    have K2 := Lib.hid (bC K1.out hb)
    have Z2 := Lib.hid (Z1.out.later hb)
    clear hb
    go_wp2_with fail
    (with_reducible refine (AF1.out _ (FT.out.later K2.out) Z2.out).mono ?_); rintro e w5 ⟨rfl, hb⟩
    have K3 := Lib.hid (bC K2.out hb)
    have Z3 := Lib.hid (Z2.out.later hb)
    clear hb
    go_wp2_with fail
    (with_reducible refine (AF2.out _ (FT.out.later K3.out) (HX.out.later K3.out)).mono ?_); rintro e w6 ⟨rfl, hb⟩
    have K4 := Lib.hid (bC K3.out hb)
    have Z4 := Lib.hid (Z3.out.later hb)
    clear hb
    go_wp2_with fail
    (with_reducible refine (AF3.out _ (FT.out.later K4.out) (HY.out.later K4.out)).mono ?_); rintro e w7 ⟨rfl, hb⟩
    have K5 := Lib.hid (bC K4.out hb)
    have Z5 := Lib.hid (Z4.out.later hb)
    clear hb
    go_wp2_with fail
    (with_reducible refine (G.out _ (FT.out.later K5.out)).mono ?_); rintro e wl ⟨rfl, hb⟩
    have KL := Lib.hid (bC K5.out hb)
    clear hb
    go_wp2_with fail
    go_ret
    exact ⟨rfl, KL.out⟩
  · (with_reducible refine (AN1.out _ (FT.out.later K0.out) Z0.out).mono ?_); rintro e w3 ⟨rfl, hb⟩
    have K1 := Lib.hid (bC K0.out hb)
    have Z1 := Lib.hid (Z0.out.later hb)
    clear hb
    go_wp2_with fail
    (with_reducible refine (AN2.out _ (FT.out.later K1.out) (HX.out.later K1.out)).mono ?_); rintro e w4 ⟨rfl, hb⟩
    have K2 := Lib.hid (bC K1.out hb)
    have Z2 := Lib.hid (Z1.out.later hb)
    clear hb
    go_wp2_with fail
    (with_reducible refine (AF1.out _ (FT.out.later K2.out) Z2.out).mono ?_); rintro e w5 ⟨rfl, hb⟩
    have K3 := Lib.hid (bC K2.out hb)
    have Z3 := Lib.hid (Z2.out.later hb)
    clear hb
    go_wp2_with fail
    (with_reducible refine (AF2.out _ (FT.out.later K3.out) (HX.out.later K3.out)).mono ?_); rintro e w6 ⟨rfl, hb⟩
    have K4 := Lib.hid (bC K3.out hb)
    have Z4 := Lib.hid (Z3.out.later hb)
    clear hb
    go_wp2_with fail
    (with_reducible refine (AF3.out _ (FT.out.later K4.out) (HY.out.later K4.out)).mono ?_); rintro e w7 ⟨rfl, hb⟩
    have K5 := Lib.hid (bC K4.out hb)
    have Z5 := Lib.hid (Z4.out.later hb)
    clear hb
    go_wp2_with fail
    (with_reducible refine (G.out _ (FT.out.later K5.out)).mono ?_); rintro e wl ⟨rfl, hb⟩
    have KL := Lib.hid (bC K5.out hb)
    clear hb
    go_wp2_with fail
    go_ret
    exact ⟨rfl, KL.out⟩
  · (with_reducible refine (AN1.out _ (FT.out.later K0.out) Z0.out).mono ?_); rintro e w3 ⟨rfl, hb⟩
    have K1 := Lib.hid (bC K0.out hb)
    have Z1 := Lib.hid (Z0.out.later hb)
    clear hb
    go_wp2_with fail
    (with_reducible refine (AN2.out _ (FT.out.later K1.out) (HX.out.later K1.out)).mono ?_); rintro e w4 ⟨rfl, hb⟩
    have K2 := Lib.hid (bC K1.out hb)
    have Z2 := Lib.hid (Z1.out.later hb)
    clear hb
    go_wp2_with fail
    (with_reducible refine (AF1.out _ (FT.out.later K2.out) Z2.out).mono ?_); rintro e w5 ⟨rfl, hb⟩
    have K3 := Lib.hid (bC K2.out hb)
    have Z3 := Lib.hid (Z2.out.later hb)
    clear hb
    go_wp2_with fail
    (with_reducible refine (AF2.out _ (FT.out.later K3.out) (HX.out.later K3.out)).mono ?_); rintro e w6 ⟨rfl, hb⟩
    have K4 := Lib.hid (bC K3.out hb)
    have Z4 := Lib.hid (Z3.out.later hb)
    clear hb
    go_wp2_with fail
    (with_reducible refine (G.out _ (FT.out.later K4.out)).mono ?_); rintro e wl ⟨rfl, hb⟩
    have KL := Lib.hid (bC K4.out hb)
    clear hb
    go_wp2_with fail
    go_ret
    exact ⟨rfl, KL.out⟩
  · (with_reducible refine (AN1.out _ (FT.out.later K0.out) Z0.out).mono ?_); rintro e w3 ⟨rfl, hb⟩
    have K1 := Lib.hid (bC K0.out hb)
    have Z1 := Lib.hid (Z0.out.later hb)
    clear hb
    go_wp2_with fail
    (with_reducible refine (AN2.out _ (FT.out.later K1.out) (HX.out.later K1.out)).mono ?_); rintro e w4 ⟨rfl, hb⟩
    have K2 := Lib.hid (bC K1.out hb)
    have Z2 := Lib.hid (Z1.out.later hb)
    clear hb
    go_wp2_with fail
    (with_reducible refine (AF1.out _ (FT.out.later K2.out) Z2.out).mono ?_); rintro e w5 ⟨rfl, hb⟩
    have K3 := Lib.hid (bC K2.out hb)
    have Z3 := Lib.hid (Z2.out.later hb)
    clear hb
    go_wp2_with fail
    (with_reducible refine (AF2.out _ (FT.out.later K3.out) (HX.out.later K3.out)).mono ?_); rintro e w6 ⟨rfl, hb⟩
    have K4 := Lib.hid (bC K3.out hb)
    have Z4 := Lib.hid (Z3.out.later hb)
    clear hb
    go_wp2_with fail
    (with_reducible refine (G.out _ (FT.out.later K4.out)).mono ?_); rintro e wl ⟨rfl, hb⟩
    have KL := Lib.hid (bC K4.out hb)
    clear hb
    go_wp2_with fail
    go_ret
    exact ⟨rfl, KL.out⟩
  · (with_reducible refine (AN1.out _ (FT.out.later K0.out) Z0.out).mono ?_); rintro e w3 ⟨rfl, hb⟩
    have K1 := Lib.hid (bC K0.out hb)
    have Z1 := Lib.hid (Z0.out.later hb)
    clear hb
    go_wp2_with fail
    (with_reducible refine (AN2.out _ (FT.out.later K1.out) (HX.out.later K1.out)).mono ?_); rintro e w4 ⟨rfl, hb⟩
    have K2 := Lib.hid (bC K1.out hb)
    have Z2 := Lib.hid (Z1.out.later hb)
    clear hb
    go_wp2_with fail
    (with_reducible refine (AF1.out _ (FT.out.later K2.out) Z2.out).mono ?_); rintro e w5 ⟨rfl, hb⟩
    have K3 := Lib.hid (bC K2.out hb)
    have Z3 := Lib.hid (Z2.out.later hb)
    clear hb
    go_wp2_with fail
    (with_reducible refine (AF2.out _ (FT.out.later K3.out) (HX.out.later K3.out)).mono ?_); rintro e w6 ⟨rfl, hb⟩
    have K4 := Lib.hid (bC K3.out hb)
    have Z4 := Lib.hid (Z3.out.later hb)
    clear hb
    go_wp2_with fail
    (with_reducible refine (AF3.out _ (FT.out.later K4.out) (HY.out.later K4.out)).mono ?_); rintro e w7 ⟨rfl, hb⟩
    have K5 := Lib.hid (bC K4.out hb)
    have Z5 := Lib.hid (Z4.out.later hb)
    clear hb
    go_wp2_with fail
    (with_reducible refine (G.out _ (FT.out.later K5.out)).mono ?_); rintro e wl ⟨rfl, hb⟩
    have KL := Lib.hid (bC K5.out hb)
    clear hb
    go_wp2_with fail
    go_ret
    exact ⟨rfl, KL.out⟩
  · (with_reducible refine (AN1.out _ (FT.out.later K0.out) Z0.out).mono ?_); rintro e w3 ⟨rfl, hb⟩
    have K1 := Lib.hid (bC K0.out hb)
    have Z1 := Lib.hid (Z0.out.later hb)
    clear hb
    go_wp2_with fail
    (with_reducible refine (AN2.out _ (FT.out.later K1.out) (HX.out.later K1.out)).mono ?_); rintro e w4 ⟨rfl, hb⟩
    have K2 := Lib.hid (bC K1.out hb)
    have Z2 := Lib.hid (Z1.out.later hb)
    clear hb
    go_wp2_with fail
    (with_reducible refine (AF1.out _ (FT.out.later K2.out) Z2.out).mono ?_); rintro e w5 ⟨rfl, hb⟩
    have K3 := Lib.hid (bC K2.out hb)
    have Z3 := Lib.hid (Z2.out.later hb)
    clear hb
    go_wp2_with fail
    (with_reducible refine (AF2.out _ (FT.out.later K3.out) (HX.out.later K3.out)).mono ?_); rintro e w6 ⟨rfl, hb⟩
    have K4 := Lib.hid (bC K3.out hb)
    have Z4 := Lib.hid (Z3.out.later hb)
    clear hb
    go_wp2_with fail
    (with_reducible refine (AF3.out _ (FT.out.later K4.out) (HY.out.later K4.out)).mono ?_); rintro e w7 ⟨rfl, hb⟩
    have K5 := Lib.hid (bC K4.out hb)
    have Z5 := Lib.hid (Z4.out.later hb)
    clear hb
    go_wp2_with fail
    (with_reducible refine (G.out _ (FT.out.later K5.out)).mono ?_); rintro e wl ⟨rfl, hb⟩
    have KL := Lib.hid (bC K5.out hb)
    clear hb
    go_wp2_with fail
    go_ret
    exact ⟨rfl, KL.out⟩
  · (with_reducible refine (AN1.out _ (FT.out.later K0.out) Z0.out).mono ?_); rintro e w3 ⟨rfl, hb⟩
    have K1 := Lib.hid (bC K0.out hb)
    have Z1 := Lib.hid (Z0.out.later hb)
    clear hb
    go_wp2_with fail
    (with_reducible refine (AN2.out _ (FT.out.later K1.out) (HX.out.later K1.out)).mono ?_); rintro e w4 ⟨rfl, hb⟩
    have K2 := Lib.hid (bC K1.out hb)
    have Z2 := Lib.hid (Z1.out.later hb)
    clear hb
    go_wp2_with fail
    (with_reducible refine (AF1.out _ (FT.out.later K2.out) Z2.out).mono ?_); rintro e w5 ⟨rfl, hb⟩
    have K3 := Lib.hid (bC K2.out hb)
    have Z3 := Lib.hid (Z2.out.later hb)
    clear hb
    go_wp2_with fail
    (with_reducible refine (AF2.out _ (FT.out.later K3.out) (HX.out.later K3.out)).mono ?_); rintro e w6 ⟨rfl, hb⟩
    have K4 := Lib.hid (bC K3.out hb)
    have Z4 := Lib.hid (Z3.out.later hb)
    clear hb
    go_wp2_with fail
    (with_reducible refine (G.out _ (FT.out.later K4.out)).mono ?_); rintro e wl ⟨rfl, hb⟩
    have KL := Lib.hid (bC K4.out hb)
    clear hb
    go_wp2_with fail
    go_ret
    exact ⟨rfl, KL.out⟩
  · (with_reducible refine (AN1.out _ (FT.out.later K0.out) Z0.out).mono ?_); rintro e w3 ⟨rfl, hb⟩
    have K1 := Lib.hid (bC K0.out hb)
    have Z1 := Lib.hid (Z0.out.later hb)
    clear hb
    go_wp2_with fail
    (with_reducible refine (AN2.out _ (FT.out.later K1.out) (HX.out.later K1.out)).mono ?_); rintro e w4 ⟨rfl, hb⟩
    have K2 := Lib.hid (bC K1.out hb)
    have Z2 := Lib.hid (Z1.out.later hb)
    clear hb
    go_wp2_with fail
    (with_reducible refine (AF1.out _ (FT.out.later K2.out) Z2.out).mono ?_); rintro e w5 ⟨rfl, hb⟩
    have K3 := Lib.hid (bC K2.out hb)
    have Z3 := Lib.hid (Z2.out.later hb)
    clear hb
    go_wp2_with fail
    (with_reducible refine (AF2.out _ (FT.out.later K3.out) (HX.out.later K3.out)).mono ?_); rintro e w6 ⟨rfl, hb⟩
    have K4 := Lib.hid (bC K3.out hb)
    have Z4 := Lib.hid (Z3.out.later hb)
    clear hb
    go_wp2_with fail
    (with_reducible refine (G.out _ (FT.out.later K4.out)).mono ?_); rintro e wl ⟨rfl, hb⟩
    have KL := Lib.hid (bC K4.out hb)
    clear hb
    go_wp2_with fail
    go_ret
    exact ⟨rfl, KL.out⟩
end Go.Proofs.YtdlmnnnnnjgkiaaDoor
