/-
  The walk of the statement NanFirst.
-/
import Derived.Test.YtfcffmihhpcjjaaDoorMany8
import Derived.Test.YtfcffmihhpcjjaaDoorRef10P
import Derived.Test.YtfcffmihhpcjjaaDoorForm7T
import Derived.Test.YtfcffmihhpcjjaaDoorGaA
set_option linter.unusedVariables false
set_option linter.unusedSimpArgs false
set_option maxRecDepth 100000
namespace Go.Proofs.YtfcffmihhpcjjaaDoor
open Go.RowKit
attribute [local go_sem ↓] Go.wp_at_zero Go.wp_at_succ

theorem OwnB.later {w w1 : World} {base : Nat} {v : Value} {os : List Int} (h : OwnB w base v os) (hb : Below w.heap.size w w1) : OwnB w1 base v os :=
  World.ownsRow.kept (row := none) h ⟨hb.os, hb.tape, hb.output, hb.size, fun k hk _ => hb.block k hk⟩ (by cases v.ownBlock <;> simp)
theorem below_less {B C : Nat} {w w' : World} (h : Below B w w') (hl : C ≤ B) : Below C w w' := ⟨h.os, h.tape, h.output, h.size, fun k hk => h.block k (by omega)⟩
theorem OwnB.nil (w : World) (base : Nat) : OwnB w base (.slice none 0 0) [] := World.ownsRow_nil _ _ _ _

set_option maxRecDepth 100000 in
set_option maxHeartbeats 1000000 in
theorem first10_ahead (f b : Int) (ao bo : Option Addr) (n cap m cbp : Nat) (w : World) (ft : FTab w) (hn : 20 < n) (mn : n ≤ 9223372036854775807) (mm : m ≤ 9223372036854775807) (G : Hid (∀ w, FTab w → Calls Tryd.prog 13 #[] w fun e w' => e = .returned (.bool true) ∧ Below w.heap.size w w')) :
    Calls Tryd.prog 7 #[.int .u8 f, .slice ao n cap, .slice bo m cbp, .agg #[.int .u64 (hiOf b), .int .u64 (loOf b)]] w fun e w' => e = .returned (.bool true) ∧ Below w.heap.size w w' := by
  have FT := Lib.hid ft
  have g1 : decide ((20 : Int) < (n : Int)) = true := by simp; omega
  clear ft
  go_enter Tryd.func7, Tryd.ntmps7
  go_wp2_with fail
  (with_reducible refine (G.out _ (FT.out.later (bA (Below.refl _ _) _))).mono ?_); rintro e wl ⟨rfl, hb⟩
  have KL := Lib.hid (bC (bA (Below.refl _ _) _) hb); clear hb
  go_wp2_with fail
  go_ret
  exact ⟨rfl, KL.out⟩

set_option maxRecDepth 100000 in
set_option maxHeartbeats 1000000 in
theorem first10_behind (f b : Int) (ao bo : Option Addr) (n cap m cbp : Nat) (w : World) (ft : FTab w) (hn : n ≤ 20) (hm : 20 < m) (mn : n ≤ 9223372036854775807) (mm : m ≤ 9223372036854775807) (G : Hid (∀ w, FTab w → Calls Tryd.prog 13 #[] w fun e w' => e = .returned (.bool true) ∧ Below w.heap.size w w')) :
    Calls Tryd.prog 7 #[.int .u8 f, .slice ao n cap, .slice bo m cbp, .agg #[.int .u64 (hiOf b), .int .u64 (loOf b)]] w fun e w' => e = .returned (.bool true) ∧ Below w.heap.size w w' := by
  have FT := Lib.hid ft
  have g1 : decide ((20 : Int) < (n : Int)) = false := by simp; omega
  have g2 : decide ((20 : Int) < (m : Int)) = true := by simp; omega
  clear ft
  go_enter Tryd.func7, Tryd.ntmps7
  go_wp2_with fail
  (with_reducible refine (G.out _ (FT.out.later (bA (Below.refl _ _) _))).mono ?_); rintro e wl ⟨rfl, hb⟩
  have KL := Lib.hid (bC (bA (Below.refl _ _) _) hb); clear hb
  go_wp2_with fail
  go_ret
  exact ⟨rfl, KL.out⟩

set_option maxRecDepth 100000 in
set_option maxHeartbeats 1000000 in
theorem first10_not (f b : Int) (ao bo : Option Addr) (n cap m cbp : Nat) (w : World) (ft : FTab w) (hn : n ≤ 20) (hm : m ≤ 20) (mn : n ≤ 9223372036854775807) (mm : m ≤ 9223372036854775807)
    (NN : Hid (∀ w, FTab w → Calls Tryd.prog 18 #[.int .u8 f, .agg #[.int .u64 (hiOf b), .int .u64 (loOf b)]] w fun e w' => e = .returned (.bool false) ∧ Below w.heap.size w w')) (G : Hid (∀ w, FTab w → Calls Tryd.prog 13 #[] w fun e w' => e = .returned (.bool true) ∧ Below w.heap.size w w')) :
    Calls Tryd.prog 7 #[.int .u8 f, .slice ao n cap, .slice bo m cbp, .agg #[.int .u64 (hiOf b), .int .u64 (loOf b)]] w fun e w' => e = .returned (.bool true) ∧ Below w.heap.size w w' := by
  have FT := Lib.hid ft
  have g1 : decide ((20 : Int) < (n : Int)) = false := by simp; omega
  have g2 : decide ((20 : Int) < (m : Int)) = false := by simp; omega
  clear ft
  go_enter Tryd.func7, Tryd.ntmps7
  go_wp2_with fail
  (with_reducible refine (NN.out _ (FT.out.later (bA (Below.refl _ _) _))).mono ?_); rintro e w1 ⟨rfl, hb⟩
  have K0 := Lib.hid (bC (bA (Below.refl _ _) _) hb); clear hb
  go_wp2_with fail
  (with_reducible refine (G.out _ (FT.out.later K0.out)).mono ?_); rintro e wl ⟨rfl, hb⟩
  have KL := Lib.hid (bC K0.out hb); clear hb
  go_wp2_with fail
  go_ret
  exact ⟨rfl, KL.out⟩

/-- What of a list is no NaN, up to k. -/
def plainN (p : Int → Bool) (xs : List Int) (k : Nat) : List Int := (xs.take k).filter fun b => !p b
theorem plain_succ (p : Int → Bool) (xs : List Int) (k : Nat) (h : k < xs.length) : plainN p xs (k + 1) = plainN p xs k ++ (if p (xs.getD k 0) then [] else [xs.getD k 0]) := by
  unfold plainN
  rw [List.take_add_one, List.filter_append, List.getD_eq_getElem?_getD, List.getElem?_eq_getElem h]
  cases hp : p xs[k] <;> simp [hp]
theorem plain_len (p : Int → Bool) (xs : List Int) (k : Nat) : (plainN p xs k).length ≤ k := by
  unfold plainN
  exact Nat.le_trans (List.length_filter_le _ _) (by rw [List.length_take]; omega)

set_option maxRecDepth 100000 in
set_option maxHeartbeats 8000000 in
theorem first10_walk (f b qh ql fl : Int) (p : Int → Bool) (ao bo : Option Addr) (n cap m cbp : Nat) (xs ys : List Int) (w : World) (ft : FTab w) (hn : n ≤ 20) (hm : m ≤ 20) (x : Bs w ao n cap xs) (y : Bs w bo m cbp ys) (hb : p b = true)
    (NN : Hid (∀ b w, FTab w → Calls Tryd.prog 18 #[.int .u8 f, .agg #[.int .u64 (hiOf b), .int .u64 (loOf b)]] w fun e w' => e = .returned (.bool (p b)) ∧ Below w.heap.size w w'))
    (P0 : Hid (∀ ao n cap w, FTab w → Bs w ao n cap ((plainN p xs xs.length ++ [b]) ++ ys) → Calls Tryd.prog 14 #[.int .u8 f, .bool false, .slice ao n cap] w fun e w' => e = .returned (.tuple #[.agg #[.int .u64 qh, .int .u64 ql, .int .u8 fl], .bool true]) ∧ Below w.heap.size w w'))
    (P1 : Hid (∀ ao n cap w, FTab w → Bs w ao n cap ((plainN p xs xs.length ++ [b]) ++ ys) → Calls Tryd.prog 14 #[.int .u8 f, .bool true, .slice ao n cap] w fun e w' => e = .returned (.tuple #[.agg #[.int .u64 qh, .int .u64 ql, .int .u8 1], .bool true]) ∧ Below w.heap.size w w'))
    (Q : Hid (∀ w, FTab w → Calls Tryd.prog 9 #[.int .u8 f, .agg #[.int .u64 (hiOf b), .int .u64 (loOf b)]] w fun e w' => e = .returned (.agg #[.int .u64 qh, .int .u64 ql]) ∧ Below w.heap.size w w'))
    (G : Hid (∀ w, FTab w → Calls Tryd.prog 13 #[] w fun e w' => e = .returned (.bool true) ∧ Below w.heap.size w w')) :
    Calls Tryd.prog 7 #[.int .u8 f, .slice ao n cap, .slice bo m cbp, .agg #[.int .u64 (hiOf b), .int .u64 (loOf b)]] w fun e w' => e = .returned (.bool true) ∧ Below w.heap.size w w' := by
  have HX := Lib.hid x
  have HY := Lib.hid y
  have FT := Lib.hid ft
  have HN := Lib.hid hn
  have HM := Lib.hid hm
  have g1 : decide ((20 : Int) < (n : Int)) = false := by simp; omega
  have g2 : decide ((20 : Int) < (m : Int)) = false := by simp; omega
  have NB := Lib.hid (NN.out b)
  rw [hb] at NB
  clear x y ft hn hm hb
  go_enter Tryd.func7, Tryd.ntmps7
  go_wp2_with fail
  (with_reducible refine (NB.out _ (FT.out.later (bA (Below.refl _ _) _))).mono ?_); rintro e w1 ⟨rfl, hb⟩
  have xb : HB w1 w.heap.size 25 #[.int .u64 (hiOf b), .int .u64 (loOf b)] := (HB.new w _ _).later hb
  have kk := bC (bA (Below.refl _ _) _) hb
  clear hb
  go_wp2_with fail
  go_loopw [9, 10] (fun v i wr => ∃ k : Nat, k ≤ n ∧ i = .int .i64 k ∧ OwnB wr w1.heap.size v (plainN p xs k) ∧ HB wr w.heap.size 25 #[.int .u64 (hiOf b), .int .u64 (loOf b)] ∧ w1.heap.size ≤ wr.heap.size ∧ Below w.heap.size w wr) (fun _ i _ => n - (intOf i).toNat)
  case atStart => exact ⟨0, by omega, rfl, OwnB.nil _ _, xb, Nat.le_refl _, kk⟩
  case round =>
    have l0 := xb.lt
    clear xb kk
    obtain ⟨k, hk, rfl, ow, xb, ge, kk⟩ := hrel
    rename_i v _
    have HK := Lib.hid (And.intro hk ge)
    clear hk ge
    by_cases hlt : k < n
    · obtain ⟨a, hao, c0, c1⟩ := (HX.out.later kk).2.2.2 k hlt
      subst hao
      have SU := Lib.hid (plain_succ p xs k (HX.out.1 ▸ hlt))
      obtain ⟨y, hy⟩ : ∃ y, xs.getD k 0 = y := ⟨_, rfl⟩
      rw [hy] at c0 c1 SU
      have gk : decide ((k : Int) < (n : Int)) = true := by simp; omega
      have inc : IntKind.i64.wrap ((k : Int) + 1) = ((k + 1 : Nat) : Int) := by have := HN.out; rw [IntKind.wrap_i64]; omega
      have KZ := Lib.hid (And.intro ow (And.intro xb kk))
      have NY := Lib.hid (NN.out y)
      clear ow xb kk
      have HL := Lib.hid hlt
      cases hp : p y
      · rw [hp] at NY SU
        go_wp2_with fail
        (with_reducible refine (NY.out _ (FT.out.later KZ.out.2.2)).mono ?_); rintro e w2 ⟨rfl, hb⟩
        have KY := Lib.hid (And.intro (KZ.out.1.later hb) (And.intro (KZ.out.2.1.later hb) (And.intro (Nat.le_trans HK.out.2 hb.size) (bC KZ.out.2.2 hb))))
        have d0 := cell_later hb c0; have d1 := cell_later hb c1
        clear hb c0 c1
        go_wp2_with (at_builtin; (refine wpList_append_bits rfl (.tmp 43) (.tmp 48) rfl w1.heap.size _ (plainN p xs k) rfl (KY.out.1.later (bA (Below.refl _ _) _)) (some ⟨w2.heap.size, 0, none⟩) 1 1 [y] rfl (Bs.ofHB [y] (HB.new _ _ _) (by rfl) (by simp)) (by have := plain_len p xs k; have := HN.out; have := HL.out; simp; omega) (by have := KY.out.2.2.1; simp; omega) ?_; intro v3 w3 o3 hb3; have B3 := Lib.hid hb3; have O3 := Lib.hid o3; clear o3 hb3))
        go_roundw
        case rel => exact ⟨k + 1, by have := HL.out; omega, by go_num, (by rw [SU.out]; simpa using O3.out), (B3.out.block _ l0).trans (HB.alloc KY.out.2.1 _), Nat.le_trans KY.out.2.2.1 (Nat.le_trans (by simp) B3.out.size), (bA KY.out.2.2.2 _).trans (below_less B3.out (Nat.le_of_lt l0))⟩
        case measure => have := HL.out; simp [intOf]; omega
      · rw [hp] at NY SU
        go_wp2_with fail
        (with_reducible refine (NY.out _ (FT.out.later KZ.out.2.2)).mono ?_); rintro e w2 ⟨rfl, hb⟩
        have KY := Lib.hid (And.intro (KZ.out.1.later hb) (And.intro (KZ.out.2.1.later hb) (And.intro (Nat.le_trans HK.out.2 hb.size) (bC KZ.out.2.2 hb))))
        clear hb c0 c1
        go_wp2_with fail
        go_roundw
        case rel => exact ⟨k + 1, by have := HL.out; omega, by go_num, (by rw [SU.out]; simpa using KY.out.1), KY.out.2.1, KY.out.2.2.1, KY.out.2.2.2⟩
        case measure => have := HL.out; simp [intOf]; omega
    · have gk : decide ((k : Int) < (n : Int)) = false := by simp; omega
      obtain rfl : k = n := by have := HK.out.1; omega
      have EX := Lib.hid HX.out.1
      have c0 := xb.cell 0; have c1 := xb.cell 1; dsimp at c0 c1
      have KZ := Lib.hid (And.intro ow (And.intro xb kk))
      clear ow xb kk
      go_wp2_with (at_builtin; first | (refine wpList_append_bits rfl (.tmp 50) (.tmp 52) rfl w1.heap.size _ (plainN p xs k) rfl (KZ.out.1.later (bA (Below.refl _ _) _)) (some ⟨wr.heap.size, 0, none⟩) 1 1 [b] rfl (Bs.ofHB [b] (HB.new _ _ _) (by rfl) (by simp)) (by have := plain_len p xs k; have := HN.out; simp; omega) (by have := HK.out.2; simp; omega) ?_; intro v3 w3 o3 hb3; have X3 := Lib.hid (And.intro ((hb3.block _ l0).trans (HB.alloc KZ.out.2.1 _)) (And.intro (Nat.le_trans HK.out.2 (Nat.le_trans (by simp) hb3.size)) ((bA KZ.out.2.2 _).trans (below_less hb3 (Nat.le_of_lt l0))))); have O3 := Lib.hid o3; clear o3 hb3) | (refine wpList_append_bits rfl (.tmp 53) (.tmp 54) rfl w1.heap.size _ _ rfl O3.out bo m cbp ys rfl (HY.out.later X3.out.2.2) (by have := plain_len p xs k; have := HN.out; have := HM.out; simp; omega) X3.out.2.1 ?_; intro v4 w4 o4 hb4; have X4 := Lib.hid (And.intro ((hb4.block _ l0).trans X3.out.1) (X3.out.2.2.trans (below_less hb4 (Nat.le_of_lt l0)))); obtain ⟨zo, kz, zc, rfl, z⟩ := OwnB.bs o4 (by have := plain_len p xs k; have := HN.out; have := HM.out; have := HY.out.1; simp; omega); have Z0 := Lib.hid z; clear o4 hb4 z))
      rw [EX.out] at Z0
      clear c0 c1
      (with_reducible refine (P0.out zo _ zc _ (FT.out.later X4.out.2) Z0.out).mono ?_); rintro e w5 ⟨rfl, hb⟩
      have X5 := Lib.hid (And.intro (HB.later X4.out.1 hb) (bC X4.out.2 hb)); have Z1 := Lib.hid (Z0.out.later hb)
      clear hb
      go_wp2_with fail
      (with_reducible refine (P1.out zo _ zc _ (FT.out.later (bA X5.out.2 _)) (Z1.out.later (bA (Below.refl _ _) _))).mono ?_); rintro e w6 ⟨rfl, hb⟩
      have r0 : HB w6 w5.heap.size 33 #[.int .u64 qh, .int .u64 ql, .int .u8 fl] := (HB.newAt (by simp) _ _).later hb
      have xb : HB w6 w.heap.size 25 #[.int .u64 (hiOf b), .int .u64 (loOf b)] := (HB.alloc X5.out.1 _).later hb
      have kk := bC (bA X5.out.2 _) hb
      clear hb
      go_wp2_with fail
      refine wp_forget (fun W => HB W w6.heap.size 33 #[.int .u64 qh, .int .u64 ql, .int .u8 1] ∧ HB W w5.heap.size 33 #[.int .u64 qh, .int .u64 ql, .int .u8 fl] ∧ HB W w.heap.size 25 #[.int .u64 (hiOf b), .int .u64 (loOf b)] ∧ Below w.heap.size w W) ⟨HB.newAt (by simp) _ _, r0.alloc _, xb.alloc _, bA kk _⟩ (fun w7 hst => ?_)
      clear r0 xb kk
      obtain ⟨s0, r0, xb, kk⟩ := hst
      have c0 := xb.cell 0; have c1 := xb.cell 1; have d0 := r0.cell 0; have d1 := r0.cell 1; have e0 := s0.cell 0; have e1 := s0.cell 1; have e2 := s0.cell 2; dsimp at c0 c1 d0 d1 e0 e1 e2
      clear s0 r0 xb
      refine wp_region_noPanic ?_
      refine wp_region_F [] [] (LS w7 (fun _ _ => True) (fun _ _ _ => True)) (by kernel_rfl) (bs := []) (vs := []) (by kernel_rfl) rfl (LS.before noBits_nil (Below.refl _ _).drew trivial) ?_
      refine wpF_yield (i := 0) (v := ?vq10) rfl (by kernel_rfl) (by kernel_rfl) (fun _ _ _ h => h) (Or.inl ⟨by rfl, ?yq10⟩) ?rq10
      case yq10 => (intro wq; go_simp; try (with_reducible rfl))
      try simp only [List.getElem_toArray, List.getElem_cons_zero, List.getElem_cons_succ, Act.put, List.setIfInBounds_toArray, List.set_cons_zero, List.set_cons_succ]
      refine wpF_yield (i := 1) (v := ?vq11) rfl (by kernel_rfl) (by kernel_rfl) (fun _ _ _ h => h) (Or.inl ⟨by rfl, ?yq11⟩) ?rq11
      case yq11 => (intro wq; go_simp; try (with_reducible rfl))
      try simp only [List.getElem_toArray, List.getElem_cons_zero, List.getElem_cons_succ, Act.put, List.setIfInBounds_toArray, List.set_cons_zero, List.set_cons_succ]
      refine wpF_yield (i := 2) (v := ?vq12) rfl (by kernel_rfl) (by kernel_rfl) (fun _ _ _ h => h) (Or.inl ⟨by rfl, ?yq12⟩) ?rq12
      case yq12 => (intro wq; go_simp; try (with_reducible rfl))
      try simp only [List.getElem_toArray, List.getElem_cons_zero, List.getElem_cons_succ, Act.put, List.setIfInBounds_toArray, List.set_cons_zero, List.set_cons_succ]
      refine wpF_yield (i := 3) (v := ?vq13) rfl (by kernel_rfl) (by kernel_rfl) (fun _ _ _ h => h) (Or.inl ⟨by rfl, ?yq13⟩) ?rq13
      case yq13 => (intro wq; go_simp; try (with_reducible rfl))
      try simp only [List.getElem_toArray, List.getElem_cons_zero, List.getElem_cons_succ, Act.put, List.setIfInBounds_toArray, List.set_cons_zero, List.set_cons_succ]
      refine wpF_yield (i := 4) (v := ?vq14) rfl (by kernel_rfl) (by kernel_rfl) (fun _ _ _ h => h) (Or.inl ⟨by rfl, ?yq14⟩) ?rq14
      case yq14 => (intro wq; go_simp; try (with_reducible rfl))
      try simp only [List.getElem_toArray, List.getElem_cons_zero, List.getElem_cons_succ, Act.put, List.setIfInBounds_toArray, List.set_cons_zero, List.set_cons_succ]
      refine wpF_yield (i := 5) (v := ?vq15) rfl (by kernel_rfl) (by kernel_rfl) (fun _ _ _ h => h) (Or.inl ⟨by rfl, ?yq15⟩) ?rq15
      case yq15 => (intro wq; go_simp; try (with_reducible rfl))
      try simp only [List.getElem_toArray, List.getElem_cons_zero, List.getElem_cons_succ, Act.put, List.setIfInBounds_toArray, List.set_cons_zero, List.set_cons_succ]
      refine wpF_take (i := 6) (v := ?vq16) rfl (by kernel_rfl) (by kernel_rfl) (fun _ _ _ h => h) (LS.load (by rfl) ?yq16) ?rq16
      case yq16 => (intro wq hb; have ld0 := cell_later hb d0; have ld1 := cell_later hb d1; go_simp; try (with_reducible rfl))
      try simp only [List.getElem_toArray, List.getElem_cons_zero, List.getElem_cons_succ, Act.put, List.setIfInBounds_toArray, List.set_cons_zero, List.set_cons_succ]
      refine wpF_yield (i := 7) (v := ?vq17) rfl (by kernel_rfl) (by kernel_rfl) (fun _ _ _ h => h) (Or.inl ⟨by rfl, ?yq17⟩) ?rq17
      case yq17 => (intro wq; go_simp; try (with_reducible rfl))
      try simp only [List.getElem_toArray, List.getElem_cons_zero, List.getElem_cons_succ, Act.put, List.setIfInBounds_toArray, List.set_cons_zero, List.set_cons_succ]
      refine wpF_take (i := 8) (v := ?vq18) rfl (by kernel_rfl) (by kernel_rfl) (fun _ _ _ h => h) (LS.load (by rfl) ?yq18) ?rq18
      case yq18 => (intro wq hb; have lc0 := cell_later hb c0; have lc1 := cell_later hb c1; go_simp; try (with_reducible rfl))
      try simp only [List.getElem_toArray, List.getElem_cons_zero, List.getElem_cons_succ, Act.put, List.setIfInBounds_toArray, List.set_cons_zero, List.set_cons_succ]
      refine wpF_take (i := 9) (v := _) rfl (by kernel_rfl) (by kernel_rfl) (fun _ _ _ h => h) (LS.callW lasts_true (by rfl) _ _ ?yq19 ((fun W hb => Q.out W (FT.out.later (bC kk hb))))) ?rq19
      case yq19 => (intro wq; go_simp; try (with_reducible rfl))
      try simp only [List.getElem_toArray, List.getElem_cons_zero, List.getElem_cons_succ, Act.put, List.setIfInBounds_toArray, List.set_cons_zero, List.set_cons_succ]
      refine wpF_yield (i := 10) (v := ?vq20) rfl (by kernel_rfl) (by kernel_rfl) (fun _ _ _ h => h) (Or.inl ⟨by rfl, ?yq20⟩) ?rq20
      case yq20 => (intro wq; go_simp; try (with_reducible rfl))
      try simp only [List.getElem_toArray, List.getElem_cons_zero, List.getElem_cons_succ, Act.put, List.setIfInBounds_toArray, List.set_cons_zero, List.set_cons_succ]
      refine wpF_yield (i := 11) (v := ?vq21) rfl (by kernel_rfl) (by kernel_rfl) (fun _ _ _ h => h) (Or.inl ⟨by rfl, ?yq21⟩) ?rq21
      case yq21 => (intro wq; go_simp; try (with_reducible rfl))
      try simp only [List.getElem_toArray, List.getElem_cons_zero, List.getElem_cons_succ, Act.put, List.setIfInBounds_toArray, List.set_cons_zero, List.set_cons_succ]
      refine wpF_yield (i := 12) (v := ?vq22) rfl (by kernel_rfl) (by kernel_rfl) (fun _ _ _ h => h) (Or.inl ⟨by rfl, ?yq22⟩) ?rq22
      case yq22 => (intro wq; go_simp; try (with_reducible rfl))
      try simp only [List.getElem_toArray, List.getElem_cons_zero, List.getElem_cons_succ, Act.put, List.setIfInBounds_toArray, List.set_cons_zero, List.set_cons_succ]
      refine wpF_yield (i := 13) (v := ?vq23) rfl (by kernel_rfl) (by kernel_rfl) (fun _ _ _ h => h) (Or.inl ⟨by rfl, ?yq23⟩) ?rq23
      case yq23 => (intro wq; go_simp; try (with_reducible rfl))
      try simp only [List.getElem_toArray, List.getElem_cons_zero, List.getElem_cons_succ, Act.put, List.setIfInBounds_toArray, List.set_cons_zero, List.set_cons_succ]
      refine wpF_take (i := 14) (v := ?vq24) rfl (by kernel_rfl) (by kernel_rfl) (fun _ _ _ h => h) (LS.load (by rfl) ?yq24) ?rq24
      case yq24 => (intro wq hb; have le0 := cell_later hb e0; have le1 := cell_later hb e1; go_simp; try (with_reducible rfl))
      try simp only [List.getElem_toArray, List.getElem_cons_zero, List.getElem_cons_succ, Act.put, List.setIfInBounds_toArray, List.set_cons_zero, List.set_cons_succ]
      refine wpF_yield (i := 15) (v := ?vq25) rfl (by kernel_rfl) (by kernel_rfl) (fun _ _ _ h => h) (Or.inl ⟨by rfl, ?yq25⟩) ?rq25
      case yq25 => (intro wq; go_simp; try (with_reducible rfl))
      try simp only [List.getElem_toArray, List.getElem_cons_zero, List.getElem_cons_succ, Act.put, List.setIfInBounds_toArray, List.set_cons_zero, List.set_cons_succ]
      refine wpF_take (i := 16) (v := ?vq26) rfl (by kernel_rfl) (by kernel_rfl) (fun _ _ _ h => h) (LS.load (by rfl) ?yq26) ?rq26
      case yq26 => (intro wq hb; have ld0 := cell_later hb d0; have ld1 := cell_later hb d1; go_simp; try (with_reducible rfl))
      try simp only [List.getElem_toArray, List.getElem_cons_zero, List.getElem_cons_succ, Act.put, List.setIfInBounds_toArray, List.set_cons_zero, List.set_cons_succ]
      refine wpF_yield (i := 17) (v := ?vq27) rfl (by kernel_rfl) (by kernel_rfl) (fun _ _ _ h => h) (Or.inl ⟨by rfl, ?yq27⟩) ?rq27
      case yq27 => (intro wq; go_simp; try (with_reducible rfl))
      try simp only [List.getElem_toArray, List.getElem_cons_zero, List.getElem_cons_succ, Act.put, List.setIfInBounds_toArray, List.set_cons_zero, List.set_cons_succ]
      refine wpF_yield (i := 18) (v := ?vq28) rfl (by kernel_rfl) (by kernel_rfl) (fun _ _ _ h => h) (Or.inl ⟨by rfl, ?yq28⟩) ?rq28
      case yq28 => (intro wq; go_simp; try (with_reducible rfl))
      try simp only [List.getElem_toArray, List.getElem_cons_zero, List.getElem_cons_succ, Act.put, List.setIfInBounds_toArray, List.set_cons_zero, List.set_cons_succ]
      refine wpF_yield (i := 19) (v := ?vq29) rfl (by kernel_rfl) (by kernel_rfl) (fun _ _ _ h => h) (Or.inl ⟨by rfl, ?yq29⟩) ?rq29
      case yq29 => (intro wq; go_simp; try (with_reducible rfl))
      try simp only [List.getElem_toArray, List.getElem_cons_zero, List.getElem_cons_succ, Act.put, List.setIfInBounds_toArray, List.set_cons_zero, List.set_cons_succ]
      refine wpF_yield (i := 20) (v := ?vq30) rfl (by kernel_rfl) (by kernel_rfl) (fun _ _ _ h => h) (Or.inl ⟨by rfl, ?yq30⟩) ?rq30
      case yq30 => (intro wq; go_simp; try (with_reducible rfl))
      try simp only [List.getElem_toArray, List.getElem_cons_zero, List.getElem_cons_succ, Act.put, List.setIfInBounds_toArray, List.set_cons_zero, List.set_cons_succ]
      refine wpF_take (i := 21) (v := ?vq31) rfl (by kernel_rfl) (by kernel_rfl) (fun _ _ _ h => h) (LS.load (by rfl) ?yq31) ?rq31
      case yq31 => (intro wq hb; have le2 := cell_later hb e2; go_simp; try (with_reducible rfl))
      try simp only [List.getElem_toArray, List.getElem_cons_zero, List.getElem_cons_succ, Act.put, List.setIfInBounds_toArray, List.set_cons_zero, List.set_cons_succ]
      refine wpF_yield (i := 22) (v := ?vq32) rfl (by kernel_rfl) (by kernel_rfl) (fun _ _ _ h => h) (Or.inl ⟨by rfl, ?yq32⟩) ?rq32
      case yq32 => (intro wq; go_simp; try (with_reducible rfl))
      try simp only [List.getElem_toArray, List.getElem_cons_zero, List.getElem_cons_succ, Act.put, List.setIfInBounds_toArray, List.set_cons_zero, List.set_cons_succ]
      refine wpF_yield (i := 23) (v := ?vq33) rfl (by kernel_rfl) (by kernel_rfl) (fun _ _ _ h => h) (Or.inl ⟨by rfl, ?yq33⟩) ?rq33
      case yq33 => (intro wq; go_simp; try (with_reducible rfl))
      try simp only [List.getElem_toArray, List.getElem_cons_zero, List.getElem_cons_succ, Act.put, List.setIfInBounds_toArray, List.set_cons_zero, List.set_cons_succ]
      refine wpF_yield (i := 24) (v := ?vq34) rfl (by kernel_rfl) (by kernel_rfl) (fun _ _ _ h => h) (Or.inl ⟨by rfl, ?yq34⟩) ?rq34
      case yq34 => (intro wq; go_simp; try (with_reducible rfl))
      try simp only [List.getElem_toArray, List.getElem_cons_zero, List.getElem_cons_succ, Act.put, List.setIfInBounds_toArray, List.set_cons_zero, List.set_cons_succ]
      refine wpF_take (i := 25) (v := _) rfl (by kernel_rfl) (by kernel_rfl) (fun _ _ _ h => h) (LS.callW lasts_true (by rfl) _ _ ?yq35 ((fun W hb => G.out W (FT.out.later (bC kk hb))))) ?rq35
      case yq35 => (intro wq; go_simp; try (with_reducible rfl))
      try simp only [List.getElem_toArray, List.getElem_cons_zero, List.getElem_cons_succ, Act.put, List.setIfInBounds_toArray, List.set_cons_zero, List.set_cons_succ]
      refine wpF_yield (i := 26) (v := ?vq36) rfl (by kernel_rfl) (by kernel_rfl) (fun _ _ _ h => h) (Or.inl ⟨by rfl, ?yq36⟩) ?rq36
      case yq36 => (intro wq; go_simp; try (with_reducible rfl))
      try simp only [List.getElem_toArray, List.getElem_cons_zero, List.getElem_cons_succ, Act.put, List.setIfInBounds_toArray, List.set_cons_zero, List.set_cons_succ]
      refine wpF_yield (i := 27) (v := ?vq37) rfl (by kernel_rfl) (by kernel_rfl) (fun _ _ _ h => h) (Or.inl ⟨by rfl, ?yq37⟩) ?rq37
      case yq37 => (intro wq; go_simp; try (with_reducible rfl))
      try simp only [List.getElem_toArray, List.getElem_cons_zero, List.getElem_cons_succ, Act.put, List.setIfInBounds_toArray, List.set_cons_zero, List.set_cons_succ]
      refine wpF_done (bs := []) (vs := []) (by kernel_rfl) (by kernel_rfl) rfl (fun w8 hS => ?_) _
      refine NoPanic.normal ?_
      obtain ⟨hb, _⟩ := hS.1 noBits_nil
      clear hS
      replace kk := bC kk hb
      clear hb c0 c1 d0 d1 e0 e1 e2
      go_wp2_with fail
      go_ret
      exact ⟨rfl, kk⟩

end Go.Proofs.YtfcffmihhpcjjaaDoor
