/-
  The walk of the statement NanPicks.
-/
import Derived.Test.YtfcffmihhpcjjaaDoorMany8
import Derived.Test.YtfcffmihhpcjjaaDoorRef10P
import Derived.Test.YtfcffmihhpcjjaaDoorForm7T
import Derived.Test.YtfcffmihhpcjjaaDoorGaA
set_option linter.unusedVariables false
set_option linter.unusedSimpArgs false
set_option maxRecDepth 100000
namespace Go.Proofs.YtfcffmihhpcjjaaDoor
open Go.RowKit
attribute [local go_sem ↓] Go.wp_at_zero Go.wp_at_succ

set_option maxRecDepth 100000 in
set_option maxHeartbeats 4000000 in
theorem picks10_walk (f rh rl fl : Int) (inv K : Bool) (ao : Option Addr) (n cap : Nat) (xs : List Int) (w : World) (ft : FTab w) (hn : n ≤ 50) (x : Bs w ao n cap xs)
    (PK : Hid (∀ ao n cap w, FTab w → Bs w ao n cap xs → Calls Tryd.prog 14 #[.int .u8 f, .bool inv, .slice ao n cap] w fun e w' => e = .returned (.tuple #[.agg #[.int .u64 rh, .int .u64 rl, .int .u8 fl], .bool K]) ∧ Below w.heap.size w w'))
    (RP : Hid (∀ w, Bs w ao n cap xs → Calls Tryd.prog 15 #[.int .u8 f, .bool inv, .slice ao n cap] w fun e w' => e = .returned (.tuple #[.agg #[.int .u64 rh, .int .u64 rl, .int .u8 fl], .bool K]) ∧ Below w.heap.size w w'))
    (G : Hid (∀ w, FTab w → Calls Tryd.prog 13 #[] w fun e w' => e = .returned (.bool true) ∧ Below w.heap.size w w')) :
    Calls Tryd.prog 4 #[.int .u8 f, .bool inv, .slice ao n cap] w fun e w' => e = .returned (.bool true) ∧ Below w.heap.size w w' := by
  have HX := Lib.hid x
  have FT := Lib.hid ft
  have HN := Lib.hid hn
  have g1 : decide ((50 : Int) < (n : Int)) = false := by simp; omega
  clear x ft hn
  go_enter Tryd.func4, Tryd.ntmps4
  go_wp2_with (at_builtin; (refine wpList_append_bits rfl (.tmp 16) (.tmp 17) rfl w.heap.size _ [] rfl (World.ownsRow_lit (size := 2) (e := 25) w #[] 0 (Nat.le_refl _) (by decide) rfl) ao n cap xs rfl (HX.out.later (bA (Below.refl _ _) _)) (by have := HN.out; simp; omega) (by simp) ?_; intro v1 w1 o1 hb1; rw [List.nil_append] at o1; have K0 := Lib.hid ((bA (Below.refl _ w) (.cells #[] 25)).trans hb1); obtain ⟨zo, kz, zc, rfl, z⟩ := OwnB.bs o1 (by have := HN.out; have := HX.out.1; omega); have Z0 := Lib.hid z; clear o1 hb1 z))
  obtain rfl : kz = n := Z0.out.1.trans HX.out.1.symm
  (with_reducible refine (PK.out zo _ zc _ (FT.out.later K0.out) Z0.out).mono ?_); rintro e w2 ⟨rfl, hb⟩
  have K1 := Lib.hid (bC K0.out hb); have Z1 := Lib.hid (Z0.out.later hb)
  clear hb
  go_wp2_with fail
  (with_reducible refine (RP.out _ (HX.out.later (bA K1.out _))).mono ?_); rintro e w3 ⟨rfl, hb⟩
  have r0 : HB w3 w2.heap.size 33 #[.int .u64 rh, .int .u64 rl, .int .u8 fl] := (HB.newAt (by simp) _ _).later hb
  have Z2 := Lib.hid ((Z1.out.later (bA (Below.refl _ _) _)).later hb)
  have kk := bC (bA K1.out _) hb
  have l0 := r0.lt
  clear hb
  go_wp2_with fail
  go_loopw [12] (fun i wr => ∃ k : Nat, k ≤ kz ∧ i = .int .i64 k ∧ HB wr w2.heap.size 33 #[.int .u64 rh, .int .u64 rl, .int .u8 fl] ∧ HB wr w3.heap.size 33 #[.int .u64 rh, .int .u64 rl, .int .u8 fl] ∧ Bs wr zo kz zc xs ∧ Below w.heap.size w wr) (fun i _ => kz - (intOf i).toNat)
  case atStart => exact ⟨0, by omega, rfl, r0.alloc _, HB.newAt (by simp) _ _, Z2.out.later (bA (Below.refl _ _) _), bA kk _⟩
  case round =>
    clear r0 kk
    obtain ⟨k, hk, rfl, r0, r1, z, kk⟩ := hrel
    by_cases hlt : k < kz
    · obtain ⟨a, hao, c0, c1⟩ := (HX.out.later kk).2.2.2 k hlt
      obtain ⟨a2, hzo, d0, d1⟩ := z.2.2.2 k hlt
      subst hao; subst hzo
      obtain ⟨y, hy⟩ : ∃ y, xs.getD k 0 = y := ⟨_, rfl⟩
      rw [hy] at c0 c1 d0 d1
      have gk : decide ((k : Int) < (kz : Int)) = true := by simp; omega
      have inc : IntKind.i64.wrap ((k : Int) + 1) = ((k + 1 : Nat) : Int) := by have := HN.out; rw [IntKind.wrap_i64]; omega
      have KZ := Lib.hid (And.intro r0 (And.intro r1 (And.intro z kk)))
      have HK := Lib.hid hk
      clear r0 r1 z kk hk
      go_wp2_with fail
      refine wp_region_noPanic ?_
      refine wp_region_F [] [] (LS wr (fun _ _ => True) (fun _ _ _ => True)) (by kernel_rfl) (bs := []) (vs := []) (by kernel_rfl) rfl (LS.before noBits_nil (Below.refl _ _).drew trivial) ?_
      refine wpF_yield (i := 0) (v := ?vq1) rfl (by kernel_rfl) (by kernel_rfl) (fun _ _ _ h => h) (Or.inl ⟨by rfl, ?yq1⟩) ?rq1
      case yq1 => (intro wq; go_simp; try (with_reducible rfl))
      try simp only [List.getElem_toArray, List.getElem_cons_zero, List.getElem_cons_succ, Act.put, List.setIfInBounds_toArray, List.set_cons_zero, List.set_cons_succ]
      refine wpF_yield (i := 1) (v := ?vq2) rfl (by kernel_rfl) (by kernel_rfl) (fun _ _ _ h => h) (Or.inl ⟨by rfl, ?yq2⟩) ?rq2
      case yq2 => (intro wq; go_simp; try (with_reducible rfl))
      try simp only [List.getElem_toArray, List.getElem_cons_zero, List.getElem_cons_succ, Act.put, List.setIfInBounds_toArray, List.set_cons_zero, List.set_cons_succ]
      refine wpF_yield (i := 2) (v := ?vq3) rfl (by kernel_rfl) (by kernel_rfl) (fun _ _ _ h => h) (Or.inl ⟨by rfl, ?yq3⟩) ?rq3
      case yq3 => (intro wq; go_simp; try (with_reducible rfl))
      try simp only [List.getElem_toArray, List.getElem_cons_zero, List.getElem_cons_succ, Act.put, List.setIfInBounds_toArray, List.set_cons_zero, List.set_cons_succ]
      refine wpF_take (i := 3) (v := ?vq4) rfl (by kernel_rfl) (by kernel_rfl) (fun _ _ _ h => h) (LS.load (by rfl) ?yq4) ?rq4
      case yq4 => (intro wq hb; have ld0 := cell_later hb d0; have ld1 := cell_later hb d1; go_simp; try (with_reducible rfl))
      try simp only [List.getElem_toArray, List.getElem_cons_zero, List.getElem_cons_succ, Act.put, List.setIfInBounds_toArray, List.set_cons_zero, List.set_cons_succ]
      refine wpF_yield (i := 4) (v := ?vq5) rfl (by kernel_rfl) (by kernel_rfl) (fun _ _ _ h => h) (Or.inl ⟨by rfl, ?yq5⟩) ?rq5
      case yq5 => (intro wq; go_simp; try (with_reducible rfl))
      try simp only [List.getElem_toArray, List.getElem_cons_zero, List.getElem_cons_succ, Act.put, List.setIfInBounds_toArray, List.set_cons_zero, List.set_cons_succ]
      refine wpF_yield (i := 5) (v := ?vq6) rfl (by kernel_rfl) (by kernel_rfl) (fun _ _ _ h => h) (Or.inl ⟨by rfl, ?yq6⟩) ?rq6
      case yq6 => (intro wq; go_simp; try (with_reducible rfl))
      try simp only [List.getElem_toArray, List.getElem_cons_zero, List.getElem_cons_succ, Act.put, List.setIfInBounds_toArray, List.set_cons_zero, List.set_cons_succ]
      refine wpF_yield (i := 6) (v := ?vq7) rfl (by kernel_rfl) (by kernel_rfl) (fun _ _ _ h => h) (Or.inl ⟨by rfl, ?yq7⟩) ?rq7
      case yq7 => (intro wq; go_simp; try (with_reducible rfl))
      try simp only [List.getElem_toArray, List.getElem_cons_zero, List.getElem_cons_succ, Act.put, List.setIfInBounds_toArray, List.set_cons_zero, List.set_cons_succ]
      refine wpF_take (i := 7) (v := ?vq8) rfl (by kernel_rfl) (by kernel_rfl) (fun _ _ _ h => h) (LS.load (by rfl) ?yq8) ?rq8
      case yq8 => (intro wq hb; have lc0 := cell_later hb c0; have lc1 := cell_later hb c1; go_simp; try (with_reducible rfl))
      try simp only [List.getElem_toArray, List.getElem_cons_zero, List.getElem_cons_succ, Act.put, List.setIfInBounds_toArray, List.set_cons_zero, List.set_cons_succ]
      refine wpF_yield (i := 8) (v := ?vq9) rfl (by kernel_rfl) (by kernel_rfl) (fun _ _ _ h => h) (Or.inl ⟨by rfl, ?yq9⟩) ?rq9
      case yq9 => (intro wq; go_simp; try (with_reducible rfl))
      try simp only [List.getElem_toArray, List.getElem_cons_zero, List.getElem_cons_succ, Act.put, List.setIfInBounds_toArray, List.set_cons_zero, List.set_cons_succ]
      refine wpF_done (bs := []) (vs := []) (by kernel_rfl) (by kernel_rfl) rfl (fun w4 hS => ?_) _
      refine NoPanic.normal ?_
      obtain ⟨hb, _⟩ := hS.1 noBits_nil
      clear hS
      obtain ⟨q0, q1, q2, q3⟩ := KZ.out
      have KY := Lib.hid (And.intro (q0.later hb) (And.intro (q1.later hb) (And.intro (q2.later hb) (bC q3 hb))))
      clear hb c0 c1 d0 d1 q0 q1 q2 q3
      go_wp2_with fail
      go_roundw
      case rel => exact ⟨k + 1, by omega, by go_num, KY.out.1, KY.out.2.1, KY.out.2.2.1, KY.out.2.2.2⟩
      case measure => simp [intOf]; omega
    · have gk : decide ((k : Int) < (kz : Int)) = false := by simp; omega
      have c0 := r0.cell 0; have c1 := r0.cell 1; have c2 := r0.cell 2; have s0 := r0.lt; have d0 := r1.cell 0; have d1 := r1.cell 1; have d2 := r1.cell 2; have s1 := r1.lt; dsimp at c0 c1 c2 d0 d1 d2
      clear r0 r1 z
      have KW := Lib.hid kk; clear kk
      go_wp2_with fail
      (with_reducible refine (G.out _ (FT.out.later KW.out)).mono ?_); rintro e wl ⟨rfl, hb⟩
      have KL := Lib.hid (bC KW.out hb)
      clear hb c0 c1 c2 d0 d1 d2
      go_wp2_with fail
      go_ret
      exact ⟨rfl, KL.out⟩

set_option maxRecDepth 100000 in
set_option maxHeartbeats 1000000 in
theorem picks10_long (f : Int) (inv : Bool) (ao : Option Addr) (n cap : Nat) (w : World) (hn : 50 < n) (hm : n ≤ 9223372036854775807) : Calls Tryd.prog 4 #[.int .u8 f, .bool inv, .slice ao n cap] w fun e w' => e = .returned (.bool true) ∧ Below w.heap.size w w' := by
  have g : decide ((50 : Int) < (n : Int)) = true := by simp; omega
  go_enter Tryd.func4, Tryd.ntmps4
  go_wp2_with fail
  go_ret
  exact ⟨rfl, Below.refl _ _⟩

end Go.Proofs.YtfcffmihhpcjjaaDoor
