/-
  The walk of the statement AddsubKnown.
-/
import Derived.BigRegion
import Derived.Test.YtnaamckhignjeaaGreatDoorAdd18M
import Derived.Test.YtnaamckhignjeaaGreatDoorW2
import Derived.Test.YtnaamckhignjeaaGreatDoorGfA
import Derived.Test.YtnaamckhignjeaaGreatDoorGhA
import Derived.Test.YtnaamckhignjeaaGreatDoorGaA
import Derived.Test.YtnaamckhignjeaaGreatDoorGoes18
set_option linter.unusedVariables false
set_option linter.unusedSimpArgs false
set_option maxRecDepth 100000
namespace Go.Proofs.YtnaamckhignjeaaGreatDoor
open Go.RowKit
attribute [local go_sem ↓] Go.wp_at_zero Go.wp_at_succ

theorem addz (p n : Nat) : (⟨p, 0, none⟩ : Addr).add n = ⟨p, n, none⟩ := by unfold Addr.add; by_cases h : n = 0 <;> simp [h]
theorem rowA0 {W : World} {p n : Nat} {t : TypeId} {vs : Array Value} {v : Value} {a : Addr} (x : HB W p t vs) (h : vs[n]? = some v) (hA : (⟨p, 0, none⟩ : Addr) = a) : W.cell? (a.add n) = some v := by
  subst hA; rw [addz]; exact (x.cell _).trans h
theorem rowA {W : World} {p n : Nat} {t : TypeId} {vs : Array Value} {v : Value} {a : Addr} (x : HB W p t vs) (j : Nat) (h : vs[n + j]? = some v) (hA : (⟨p, 0, none⟩ : Addr) = a) : W.cell? ⟨(a.add n).block, (a.add n).off + j, none⟩ = some v := by
  subst hA; rw [addz]; exact (x.cell _).trans h
theorem offA {W w : World} {x : Addr} {v : Value} (h : Off [] W w) (hx : W.cell? x = some v) : w.cell? x = some v := by
  cases hh : W.heap[x.block]? with
  | none => simp [World.cell?, hh] at hx
  | some o => simpa [World.cell?, hh, h x.block o (by simp) hh] using hx

set_option maxHeartbeats 4000000 in
theorem known18_core 
    (h2 : Hid (∀ w, FTab w → Ca 16 #[.int .u8 0, .agg #[.int .u8 0, .bool false], U2 0 15360, U2 0 15360] w (.agg #[.int .u64 0, .int .u64 0, .int .u8 0])))
    (h5 : Hid (∀ w, FTab w → Ca 11 #[.int .u8 0, .agg #[.int .u8 2, .bool false], U2 0 15360, U2 0 1] w (.agg #[.int .u64 0, .int .u64 15361, .int .u8 16])))
    (h8 : Hid (∀ w, FTab w → Ca 11 #[.int .u8 0, .agg #[.int .u8 0, .bool false], U2 0 32768, U2 0 32768] w (.agg #[.int .u64 0, .int .u64 32768, .int .u8 0])))
    (h11 : Hid (∀ w, FTab w → Ca 11 #[.int .u8 0, .agg #[.int .u8 0, .bool false], U2 0 32768, U2 0 0] w (.agg #[.int .u64 0, .int .u64 0, .int .u8 0])))
    (h14 : Hid (∀ w, FTab w → Ca 16 #[.int .u8 0, .agg #[.int .u8 0, .bool false], U2 0 32768, U2 0 0] w (.agg #[.int .u64 0, .int .u64 32768, .int .u8 0])))
    (h17 : Hid (∀ w, FTab w → Ca 11 #[.int .u8 0, .agg #[.int .u8 0, .bool false], U2 0 31744, U2 0 15360] w (.agg #[.int .u64 0, .int .u64 31744, .int .u8 0])))
    (h20 : Hid (∀ w, FTab w → Ca 16 #[.int .u8 0, .agg #[.int .u8 0, .bool false], U2 0 15360, U2 0 31744] w (.agg #[.int .u64 0, .int .u64 64512, .int .u8 0])))
    (h23 : Hid (∀ w, FTab w → Ca 16 #[.int .u8 0, .agg #[.int .u8 0, .bool false], U2 0 31744, U2 0 31744] w (.agg #[.int .u64 0, .int .u64 32256, .int .u8 1])))
    (h26 : Hid (∀ w, FTab w → Ca 16 #[.int .u8 0, .agg #[.int .u8 0, .bool false], U2 0 15360, U2 0 31745] w (.agg #[.int .u64 0, .int .u64 32257, .int .u8 1])))
    (h29 : Hid (∀ w, FTab w → Ca 16 #[.int .u8 0, .agg #[.int .u8 0, .bool false], U2 0 65029, U2 0 32257] w (.agg #[.int .u64 0, .int .u64 65029, .int .u8 0])))
    (h32 : Hid (∀ w, FTab w → Ca 11 #[.int .u8 0, .agg #[.int .u8 0, .bool false], U2 0 1, U2 0 33792] w (.agg #[.int .u64 0, .int .u64 33791, .int .u8 0])))
    (h35 : Hid (∀ w, FTab w → Ca 11 #[.int .u8 0, .agg #[.int .u8 5, .bool false], U2 0 15360, U2 0 15360] w (.agg #[.int .u64 0, .int .u64 0, .int .u8 0])))
    (h38 : Hid (∀ w, FTab w → Ca 11 #[.int .u8 4, .agg #[.int .u8 0, .bool false], U2 0 15360, U2 0 15360] w (.agg #[.int .u64 0, .int .u64 0, .int .u8 0])))
    (h41 : Hid (∀ w, FTab w → Ca 11 #[.int .u8 0, .agg #[.int .u8 0, .bool false], U2 0 26624, U2 0 15360] w (.agg #[.int .u64 0, .int .u64 26624, .int .u8 16])))
    (h44 : Hid (∀ w, FTab w → Ca 11 #[.int .u8 0, .agg #[.int .u8 0, .bool false], U2 0 26625, U2 0 15360] w (.agg #[.int .u64 0, .int .u64 26626, .int .u8 16])))
    (h46 : Hid (∀ w, FTab w → Ca 17 #[.int .u8 0, U2 0 32261] w (U2 0 65029)))
    (h49 : Hid (∀ w, FTab w → Ca 17 #[.int .u8 4, U2 0 1] w (U2 0 0)))
    (h50 : Hid (∀ w, Ca 18 #[.agg #[.int .u8 0, .bool false], .bool true, .bool true] w (.bool true)))
    (h51 : Hid (∀ w, Ca 18 #[.agg #[.int .u8 0, .bool false], .bool true, .bool false] w (.bool false)))
    (h52 : Hid (∀ w, FTab w → Ca 13 #[] w (.bool true))) (w : World) (ft : FTab w) :
    Ca 10 #[] w (.bool true) := by
  simp only [Ca, U2] at *
  go_enter Tryz.func10, Tryz.ntmps10
  go_wp2_with fail
  simp only [List.append_eq, List.cons_append, List.nil_append]
  refine vF2 fun w1 b1 X0 X1 => ?_
  refine vR [] fun w2 kz2 S => ?_
  refine vT 0 S ?_ (hy := by intro wq hb; have q := (hb.hb X0 (by simp)).o; go_simp; try (with_reducible rfl))
  refine vT 5 S ?_ (hy := by intro wq hb; have q := (hb.hb X1 (by simp)).o; go_simp; try (with_reducible rfl))
  refine vT 10 S ?_ (hy := by intro wq hb; have q := (hb.hb X0 (by simp)).o; go_simp; try (with_reducible rfl))
  refine vT 15 S ?_ (hy := by intro wq hb; have q := (hb.hb X0 (by simp)).o; go_simp; try (with_reducible rfl))
  refine vT 20 S ?_ (hy := by intro wq hb; have q := (hb.hb X0 (by simp)).o; go_simp; try (with_reducible rfl))
  refine vT 25 S ?_ (hy := by intro wq hb; have q := (hb.hb X0 (by simp)).o; go_simp; try (with_reducible rfl))
  refine vT 30 S ?_ (hy := by intro wq hb; have q := (hb.hb X0 (by simp)).o; go_simp; try (with_reducible rfl))
  refine vT 35 S ?_ (hy := by intro wq hb; have q := (hb.hb X0 (by simp)).o; go_simp; try (with_reducible rfl))
  refine vT 40 S ?_ (hy := by intro wq hb; have q := (hb.hb X0 (by simp)).o; go_simp; try (with_reducible rfl))
  refine vT 45 S ?_ (hy := by intro wq hb; have q := (hb.hb X0 (by simp)).o; go_simp; try (with_reducible rfl))
  refine vT 50 S ?_ (hy := by intro wq hb; have q := (hb.hb X0 (by simp)).o; go_simp; try (with_reducible rfl))
  refine vT 55 S ?_
  refine vT 60 S ?_ (hy := by intro wq hb; have q := (hb.hb X0 (by simp)).o; go_simp; try (with_reducible rfl))
  refine vT 65 S ?_ (hy := by intro wq hb; have q := (hb.hb X0 (by simp)).o; go_simp; try (with_reducible rfl))
  refine vT 70 S ?_ (hy := by intro wq hb; have q := (hb.hb X0 (by simp)).o; go_simp; try (with_reducible rfl))
  refine vY1 (cC 1 S (half18 _ _) fun w3 b3 => ?_)
  replace kz2 := bC kz2 b3
  replace S := Off.ofB kz2; clear b3 w2
  refine vY1 (cC 2 S (half18 _ _) fun w4 b4 => ?_)
  replace kz2 := bC kz2 b4
  replace S := Off.ofB kz2; clear b4 w3
  refine vY1 (cC 3 S (h2.out _ (ft.later (bC b1 kz2))) fun w5 b5 => ?_)
  replace kz2 := bC kz2 b5
  refine vT 4 (Off.ofB kz2) ?_
  replace S := Off.ofB kz2; clear b5 w4
  refine vY1 (cC 6 S (half18 _ _) fun w6 b6 => ?_)
  replace kz2 := bC kz2 b6
  replace S := Off.ofB kz2; clear b6 w5
  refine vY1 (cC 7 S (half18 _ _) fun w7 b7 => ?_)
  replace kz2 := bC kz2 b7
  replace S := Off.ofB kz2; clear b7 w6
  refine vY1 (cC 8 S (h5.out _ (ft.later (bC b1 kz2))) fun w8 b8 => ?_)
  replace kz2 := bC kz2 b8
  refine vT 9 (Off.ofB kz2) ?_
  replace S := Off.ofB kz2; clear b8 w7
  refine vY1 (cC 11 S (half18 _ _) fun w9 b9 => ?_)
  replace kz2 := bC kz2 b9
  replace S := Off.ofB kz2; clear b9 w8
  refine vY1 (cC 12 S (half18 _ _) fun w10 b10 => ?_)
  replace kz2 := bC kz2 b10
  replace S := Off.ofB kz2; clear b10 w9
  refine vY1 (cC 13 S (h8.out _ (ft.later (bC b1 kz2))) fun w11 b11 => ?_)
  replace kz2 := bC kz2 b11
  refine vT 14 (Off.ofB kz2) ?_
  replace S := Off.ofB kz2; clear b11 w10
  refine vY1 (cC 16 S (half18 _ _) fun w12 b12 => ?_)
  replace kz2 := bC kz2 b12
  replace S := Off.ofB kz2; clear b12 w11
  refine vY1 (cC 17 S (half18 _ _) fun w13 b13 => ?_)
  replace kz2 := bC kz2 b13
  replace S := Off.ofB kz2; clear b13 w12
  refine vY1 (cC 18 S (h11.out _ (ft.later (bC b1 kz2))) fun w14 b14 => ?_)
  replace kz2 := bC kz2 b14
  refine vT 19 (Off.ofB kz2) ?_
  replace S := Off.ofB kz2; clear b14 w13
  refine vY1 (cC 21 S (half18 _ _) fun w15 b15 => ?_)
  replace kz2 := bC kz2 b15
  replace S := Off.ofB kz2; clear b15 w14
  refine vY1 (cC 22 S (half18 _ _) fun w16 b16 => ?_)
  replace kz2 := bC kz2 b16
  replace S := Off.ofB kz2; clear b16 w15
  refine vY1 (cC 23 S (h14.out _ (ft.later (bC b1 kz2))) fun w17 b17 => ?_)
  replace kz2 := bC kz2 b17
  refine vT 24 (Off.ofB kz2) ?_
  replace S := Off.ofB kz2; clear b17 w16
  refine vY1 (cC 26 S (half18 _ _) fun w18 b18 => ?_)
  replace kz2 := bC kz2 b18
  replace S := Off.ofB kz2; clear b18 w17
  refine vY1 (cC 27 S (half18 _ _) fun w19 b19 => ?_)
  replace kz2 := bC kz2 b19
  replace S := Off.ofB kz2; clear b19 w18
  refine vY1 (cC 28 S (h17.out _ (ft.later (bC b1 kz2))) fun w20 b20 => ?_)
  replace kz2 := bC kz2 b20
  refine vT 29 (Off.ofB kz2) ?_
  replace S := Off.ofB kz2; clear b20 w19
  refine vY1 (cC 31 S (half18 _ _) fun w21 b21 => ?_)
  replace kz2 := bC kz2 b21
  replace S := Off.ofB kz2; clear b21 w20
  refine vY1 (cC 32 S (half18 _ _) fun w22 b22 => ?_)
  replace kz2 := bC kz2 b22
  replace S := Off.ofB kz2; clear b22 w21
  refine vY1 (cC 33 S (h20.out _ (ft.later (bC b1 kz2))) fun w23 b23 => ?_)
  replace kz2 := bC kz2 b23
  refine vT 34 (Off.ofB kz2) ?_
  replace S := Off.ofB kz2; clear b23 w22
  refine vY1 (cC 36 S (half18 _ _) fun w24 b24 => ?_)
  replace kz2 := bC kz2 b24
  replace S := Off.ofB kz2; clear b24 w23
  refine vY1 (cC 37 S (half18 _ _) fun w25 b25 => ?_)
  replace kz2 := bC kz2 b25
  replace S := Off.ofB kz2; clear b25 w24
  refine vY1 (cC 38 S (h23.out _ (ft.later (bC b1 kz2))) fun w26 b26 => ?_)
  replace kz2 := bC kz2 b26
  refine vT 39 (Off.ofB kz2) ?_
  replace S := Off.ofB kz2; clear b26 w25
  refine vY1 (cC 41 S (half18 _ _) fun w27 b27 => ?_)
  replace kz2 := bC kz2 b27
  replace S := Off.ofB kz2; clear b27 w26
  refine vY1 (cC 42 S (half18 _ _) fun w28 b28 => ?_)
  replace kz2 := bC kz2 b28
  replace S := Off.ofB kz2; clear b28 w27
  refine vY1 (cC 43 S (h26.out _ (ft.later (bC b1 kz2))) fun w29 b29 => ?_)
  replace kz2 := bC kz2 b29
  refine vT 44 (Off.ofB kz2) ?_
  replace S := Off.ofB kz2; clear b29 w28
  refine vY1 (cC 46 S (half18 _ _) fun w30 b30 => ?_)
  replace kz2 := bC kz2 b30
  replace S := Off.ofB kz2; clear b30 w29
  refine vY1 (cC 47 S (half18 _ _) fun w31 b31 => ?_)
  replace kz2 := bC kz2 b31
  replace S := Off.ofB kz2; clear b31 w30
  refine vY1 (cC 48 S (h29.out _ (ft.later (bC b1 kz2))) fun w32 b32 => ?_)
  replace kz2 := bC kz2 b32
  refine vT 49 (Off.ofB kz2) ?_
  replace S := Off.ofB kz2; clear b32 w31
  refine vY1 (cC 51 S (half18 _ _) fun w33 b33 => ?_)
  replace kz2 := bC kz2 b33
  replace S := Off.ofB kz2; clear b33 w32
  refine vY1 (cC 52 S (half18 _ _) fun w34 b34 => ?_)
  replace kz2 := bC kz2 b34
  replace S := Off.ofB kz2; clear b34 w33
  refine vY1 (cC 53 S (h32.out _ (ft.later (bC b1 kz2))) fun w35 b35 => ?_)
  replace kz2 := bC kz2 b35
  refine vT 54 (Off.ofB kz2) ?_
  replace S := Off.ofB kz2; clear b35 w34
  refine vY1 (cC 56 S (half18 _ _) fun w36 b36 => ?_)
  replace kz2 := bC kz2 b36
  replace S := Off.ofB kz2; clear b36 w35
  refine vY1 (cC 57 S (half18 _ _) fun w37 b37 => ?_)
  replace kz2 := bC kz2 b37
  replace S := Off.ofB kz2; clear b37 w36
  refine vY1 (cC 58 S (h35.out _ (ft.later (bC b1 kz2))) fun w38 b38 => ?_)
  replace kz2 := bC kz2 b38
  refine vT 59 (Off.ofB kz2) ?_
  replace S := Off.ofB kz2; clear b38 w37
  refine vY1 (cC 61 S (half18 _ _) fun w39 b39 => ?_)
  replace kz2 := bC kz2 b39
  replace S := Off.ofB kz2; clear b39 w38
  refine vY1 (cC 62 S (half18 _ _) fun w40 b40 => ?_)
  replace kz2 := bC kz2 b40
  replace S := Off.ofB kz2; clear b40 w39
  refine vY1 (cC 63 S (h38.out _ (ft.later (bC b1 kz2))) fun w41 b41 => ?_)
  replace kz2 := bC kz2 b41
  refine vT 64 (Off.ofB kz2) ?_
  replace S := Off.ofB kz2; clear b41 w40
  refine vY1 (cC 66 S (half18 _ _) fun w42 b42 => ?_)
  replace kz2 := bC kz2 b42
  replace S := Off.ofB kz2; clear b42 w41
  refine vY1 (cC 67 S (half18 _ _) fun w43 b43 => ?_)
  replace kz2 := bC kz2 b43
  replace S := Off.ofB kz2; clear b43 w42
  refine vY1 (cC 68 S (h41.out _ (ft.later (bC b1 kz2))) fun w44 b44 => ?_)
  replace kz2 := bC kz2 b44
  refine vT 69 (Off.ofB kz2) ?_
  replace S := Off.ofB kz2; clear b44 w43
  refine vY1 (cC 71 S (half18 _ _) fun w45 b45 => ?_)
  replace kz2 := bC kz2 b45
  replace S := Off.ofB kz2; clear b45 w44
  refine vY1 (cC 72 S (half18 _ _) fun w46 b46 => ?_)
  replace kz2 := bC kz2 b46
  replace S := Off.ofB kz2; clear b46 w45
  refine vY1 (cC 73 S (h44.out _ (ft.later (bC b1 kz2))) fun w47 b47 => ?_)
  replace kz2 := bC kz2 b47
  refine vT 74 (Off.ofB kz2) ?_
  replace S := Off.ofB kz2; clear b47 w46
  refine vY1 (cB (n := 15) 75 S fun w48 pp1_0 h X2 b48 => ?_)
  have jX2 := (Nat.le_trans kz2.size h); replace kz2 := bC kz2 b48
  refine vT 76 (Off.ofB kz2) ?_
  clear S b48 h w47
  revert kz2; revert jX2; revert X2; revert pp1_0; revert w48
  refine ?s2_45; rotate_left
  intro w49 pp1_0 X2 jX2 kz2
  refine vD ?_
  have gX2 : w.heap.size ≤ pp1_0 := by have := b1.size; omega
  replace X0 := X0.later kz2
  have row : ∀ k : Nat, k < 15 → ∃ b f : Int, (#[.int .u64 0, .int .u64 0, .int .u8 0, .int .u64 0, .int .u8 0, .int .u64 0, .int .u64 15361, .int .u8 16, .int .u64 15361, .int .u8 16, .int .u64 0, .int .u64 32768, .int .u8 0, .int .u64 32768, .int .u8 0, .int .u64 0, .int .u64 0, .int .u8 0, .int .u64 0, .int .u8 0, .int .u64 0, .int .u64 32768, .int .u8 0, .int .u64 32768, .int .u8 0, .int .u64 0, .int .u64 31744, .int .u8 0, .int .u64 31744, .int .u8 0, .int .u64 0, .int .u64 64512, .int .u8 0, .int .u64 64512, .int .u8 0, .int .u64 0, .int .u64 32256, .int .u8 1, .int .u64 32256, .int .u8 1, .int .u64 0, .int .u64 32257, .int .u8 1, .int .u64 32257, .int .u8 1, .int .u64 0, .int .u64 65029, .int .u8 0, .int .u64 65029, .int .u8 0, .int .u64 0, .int .u64 33791, .int .u8 0, .int .u64 33791, .int .u8 0, .int .u64 0, .int .u64 0, .int .u8 0, .int .u64 0, .int .u8 0, .int .u64 0, .int .u64 0, .int .u8 0, .int .u64 0, .int .u8 0, .int .u64 0, .int .u64 26624, .int .u8 16, .int .u64 26624, .int .u8 16, .int .u64 0, .int .u64 26626, .int .u8 16, .int .u64 26626, .int .u8 16] : Array Value)[k * 5]? = some (.int .u64 0) ∧ (#[.int .u64 0, .int .u64 0, .int .u8 0, .int .u64 0, .int .u8 0, .int .u64 0, .int .u64 15361, .int .u8 16, .int .u64 15361, .int .u8 16, .int .u64 0, .int .u64 32768, .int .u8 0, .int .u64 32768, .int .u8 0, .int .u64 0, .int .u64 0, .int .u8 0, .int .u64 0, .int .u8 0, .int .u64 0, .int .u64 32768, .int .u8 0, .int .u64 32768, .int .u8 0, .int .u64 0, .int .u64 31744, .int .u8 0, .int .u64 31744, .int .u8 0, .int .u64 0, .int .u64 64512, .int .u8 0, .int .u64 64512, .int .u8 0, .int .u64 0, .int .u64 32256, .int .u8 1, .int .u64 32256, .int .u8 1, .int .u64 0, .int .u64 32257, .int .u8 1, .int .u64 32257, .int .u8 1, .int .u64 0, .int .u64 65029, .int .u8 0, .int .u64 65029, .int .u8 0, .int .u64 0, .int .u64 33791, .int .u8 0, .int .u64 33791, .int .u8 0, .int .u64 0, .int .u64 0, .int .u8 0, .int .u64 0, .int .u8 0, .int .u64 0, .int .u64 0, .int .u8 0, .int .u64 0, .int .u8 0, .int .u64 0, .int .u64 26624, .int .u8 16, .int .u64 26624, .int .u8 16, .int .u64 0, .int .u64 26626, .int .u8 16, .int .u64 26626, .int .u8 16] : Array Value)[k * 5 + 1]? = some (.int .u64 b) ∧ (#[.int .u64 0, .int .u64 0, .int .u8 0, .int .u64 0, .int .u8 0, .int .u64 0, .int .u64 15361, .int .u8 16, .int .u64 15361, .int .u8 16, .int .u64 0, .int .u64 32768, .int .u8 0, .int .u64 32768, .int .u8 0, .int .u64 0, .int .u64 0, .int .u8 0, .int .u64 0, .int .u8 0, .int .u64 0, .int .u64 32768, .int .u8 0, .int .u64 32768, .int .u8 0, .int .u64 0, .int .u64 31744, .int .u8 0, .int .u64 31744, .int .u8 0, .int .u64 0, .int .u64 64512, .int .u8 0, .int .u64 64512, .int .u8 0, .int .u64 0, .int .u64 32256, .int .u8 1, .int .u64 32256, .int .u8 1, .int .u64 0, .int .u64 32257, .int .u8 1, .int .u64 32257, .int .u8 1, .int .u64 0, .int .u64 65029, .int .u8 0, .int .u64 65029, .int .u8 0, .int .u64 0, .int .u64 33791, .int .u8 0, .int .u64 33791, .int .u8 0, .int .u64 0, .int .u64 0, .int .u8 0, .int .u64 0, .int .u8 0, .int .u64 0, .int .u64 0, .int .u8 0, .int .u64 0, .int .u8 0, .int .u64 0, .int .u64 26624, .int .u8 16, .int .u64 26624, .int .u8 16, .int .u64 0, .int .u64 26626, .int .u8 16, .int .u64 26626, .int .u8 16] : Array Value)[k * 5 + 2]? = some (.int .u8 f) ∧ (#[.int .u64 0, .int .u64 0, .int .u8 0, .int .u64 0, .int .u8 0, .int .u64 0, .int .u64 15361, .int .u8 16, .int .u64 15361, .int .u8 16, .int .u64 0, .int .u64 32768, .int .u8 0, .int .u64 32768, .int .u8 0, .int .u64 0, .int .u64 0, .int .u8 0, .int .u64 0, .int .u8 0, .int .u64 0, .int .u64 32768, .int .u8 0, .int .u64 32768, .int .u8 0, .int .u64 0, .int .u64 31744, .int .u8 0, .int .u64 31744, .int .u8 0, .int .u64 0, .int .u64 64512, .int .u8 0, .int .u64 64512, .int .u8 0, .int .u64 0, .int .u64 32256, .int .u8 1, .int .u64 32256, .int .u8 1, .int .u64 0, .int .u64 32257, .int .u8 1, .int .u64 32257, .int .u8 1, .int .u64 0, .int .u64 65029, .int .u8 0, .int .u64 65029, .int .u8 0, .int .u64 0, .int .u64 33791, .int .u8 0, .int .u64 33791, .int .u8 0, .int .u64 0, .int .u64 0, .int .u8 0, .int .u64 0, .int .u8 0, .int .u64 0, .int .u64 0, .int .u8 0, .int .u64 0, .int .u8 0, .int .u64 0, .int .u64 26624, .int .u8 16, .int .u64 26624, .int .u8 16, .int .u64 0, .int .u64 26626, .int .u8 16, .int .u64 26626, .int .u8 16] : Array Value)[k * 5 + 3]? = some (.int .u64 b) ∧ (#[.int .u64 0, .int .u64 0, .int .u8 0, .int .u64 0, .int .u8 0, .int .u64 0, .int .u64 15361, .int .u8 16, .int .u64 15361, .int .u8 16, .int .u64 0, .int .u64 32768, .int .u8 0, .int .u64 32768, .int .u8 0, .int .u64 0, .int .u64 0, .int .u8 0, .int .u64 0, .int .u8 0, .int .u64 0, .int .u64 32768, .int .u8 0, .int .u64 32768, .int .u8 0, .int .u64 0, .int .u64 31744, .int .u8 0, .int .u64 31744, .int .u8 0, .int .u64 0, .int .u64 64512, .int .u8 0, .int .u64 64512, .int .u8 0, .int .u64 0, .int .u64 32256, .int .u8 1, .int .u64 32256, .int .u8 1, .int .u64 0, .int .u64 32257, .int .u8 1, .int .u64 32257, .int .u8 1, .int .u64 0, .int .u64 65029, .int .u8 0, .int .u64 65029, .int .u8 0, .int .u64 0, .int .u64 33791, .int .u8 0, .int .u64 33791, .int .u8 0, .int .u64 0, .int .u64 0, .int .u8 0, .int .u64 0, .int .u8 0, .int .u64 0, .int .u64 0, .int .u8 0, .int .u64 0, .int .u8 0, .int .u64 0, .int .u64 26624, .int .u8 16, .int .u64 26624, .int .u8 16, .int .u64 0, .int .u64 26626, .int .u8 16, .int .u64 26626, .int .u8 16] : Array Value)[k * 5 + 4]? = some (.int .u8 f) := by
    intro k hk
    rcases (by omega : k = 0 ∨ k = 1 ∨ k = 2 ∨ k = 3 ∨ k = 4 ∨ k = 5 ∨ k = 6 ∨ k = 7 ∨ k = 8 ∨ k = 9 ∨ k = 10 ∨ k = 11 ∨ k = 12 ∨ k = 13 ∨ k = 14) with rfl | rfl | rfl | rfl | rfl | rfl | rfl | rfl | rfl | rfl | rfl | rfl | rfl | rfl | rfl
    all_goals exact ⟨_, _, rfl, rfl, rfl, rfl, rfl⟩
  go_wp2_with fail
  go_loopw [4] (fun iv wi => (∃ k : Nat, k ≤ 15 ∧ iv = .int .i64 k) ∧ HB wi w.heap.size 25 #[.int .u8 0, .bool false] ∧ HB wi pp1_0 58 #[.int .u64 0, .int .u64 0, .int .u8 0, .int .u64 0, .int .u8 0, .int .u64 0, .int .u64 15361, .int .u8 16, .int .u64 15361, .int .u8 16, .int .u64 0, .int .u64 32768, .int .u8 0, .int .u64 32768, .int .u8 0, .int .u64 0, .int .u64 0, .int .u8 0, .int .u64 0, .int .u8 0, .int .u64 0, .int .u64 32768, .int .u8 0, .int .u64 32768, .int .u8 0, .int .u64 0, .int .u64 31744, .int .u8 0, .int .u64 31744, .int .u8 0, .int .u64 0, .int .u64 64512, .int .u8 0, .int .u64 64512, .int .u8 0, .int .u64 0, .int .u64 32256, .int .u8 1, .int .u64 32256, .int .u8 1, .int .u64 0, .int .u64 32257, .int .u8 1, .int .u64 32257, .int .u8 1, .int .u64 0, .int .u64 65029, .int .u8 0, .int .u64 65029, .int .u8 0, .int .u64 0, .int .u64 33791, .int .u8 0, .int .u64 33791, .int .u8 0, .int .u64 0, .int .u64 0, .int .u8 0, .int .u64 0, .int .u8 0, .int .u64 0, .int .u64 0, .int .u8 0, .int .u64 0, .int .u8 0, .int .u64 0, .int .u64 26624, .int .u8 16, .int .u64 26624, .int .u8 16, .int .u64 0, .int .u64 26626, .int .u8 16, .int .u64 26626, .int .u8 16] ∧ Below w.heap.size w wi) (fun iv _ => 16 - (intOf iv).toNat)
  case atStart => exact ⟨⟨0, by omega, rfl⟩, X0, X2, (bC b1 kz2)⟩
  case round =>
    clear X0 X2
    obtain ⟨⟨k, hk, rfl⟩, X0, X2, kl⟩ := hrel
    by_cases hlt : k < 15
    · obtain ⟨b, f, r0, r1, r2, r3, r4⟩ := row k hlt
      clear row
      generalize hA : (⟨pp1_0, 0, none⟩ : Addr) = a
      have c0 := rowA0 X2 r0 hA
      have c1 := rowA X2 1 r1 hA
      have c2 := rowA X2 2 r2 hA
      have c3 := rowA X2 3 r3 hA
      have c4 := rowA X2 4 r4 hA
      clear hA r0 r1 r2 r3 r4
      have hli : (k : Int) < 15 := by omega
      have gk : decide ((k : Int) < 15) = true := by simp; omega
      have inc : IntKind.i64.wrap ((k : Int) + 1) = ((k + 1 : Nat) : Int) := by rw [IntKind.wrap_i64]; omega
      have KZ := Lib.hid (And.intro X0 (And.intro X2 kl))
      have HK := Lib.hid (And.intro hk hlt)
      clear hk X0 X2 kl
      go_wp2_with fail
      refine vR [] fun wa ba Sa => ?_
      refine vT 0 Sa ?_
      refine vT 1 Sa ?_
      refine vT 2 Sa ?_
      refine vT 3 Sa ?_
      refine vT 4 Sa ?_ (hy := by intro wq hb; have l0 := offA hb c0; have l1 := offA hb c1; have l2 := offA hb c2; have l3 := offA hb c3; have l4 := offA hb c4; go_simp; try (with_reducible rfl))
      refine vT 5 Sa ?_
      refine vT 6 Sa ?_
      refine vT 7 Sa ?_
      refine vT 8 Sa ?_
      refine vT 9 Sa ?_ (hy := by intro wq hb; have l0 := offA hb c0; have l1 := offA hb c1; have l2 := offA hb c2; have l3 := offA hb c3; have l4 := offA hb c4; go_simp; try (with_reducible rfl))
      refine vT 11 Sa ?_
      refine vT 12 Sa ?_
      refine vT 13 Sa ?_
      refine vT 14 Sa ?_
      refine vT 15 Sa ?_ (hy := by intro wq hb; have l0 := offA hb c0; have l1 := offA hb c1; have l2 := offA hb c2; have l3 := offA hb c3; have l4 := offA hb c4; go_simp; try (with_reducible rfl))
      refine vY1 (cC 10 Sa (half18 _ _) fun wb bb => ?_)
      have Sb := Sa.later bb
      refine vT 16 Sb ?_
      refine vT 17 Sb ?_
      refine vD ?_
      obtain ⟨X0, X2, kl⟩ := KZ.out
      have KY := Lib.hid (And.intro (X0.later (bC ba bb)) (And.intro (X2.later (bC ba bb)) (bC kl (bC ba bb))))
      clear X0 X2 kl ba bb c0 c1 c2 c3 c4
      go_wp2_with fail
      go_roundw
      case rel => exact ⟨⟨k + 1, by have := HK.out; omega, by go_num⟩, KY.out.1, KY.out.2.1, KY.out.2.2⟩
      case measure => have := HK.out; simp [intOf]; omega
    obtain rfl : k = 15 := by omega
    clear row hk hlt
    have kk := kl
    go_wp2_with fail
    refine vM (half18 _ _) fun w50 b50 => ?_
    go_wp2_with fail
    refine vM (h46.out _ (ft.later (bC kk b50))) fun w51 b51 => ?_
    go_wp2_with fail
    refine vM (half18 _ _) fun w52 b52 => ?_
    go_wp2_with fail
    refine vM (half18 _ _) fun w53 b53 => ?_
    go_wp2_with fail
    refine vM (h49.out _ (ft.later (bC kk (bC (bC (bC b50 b51) b52) b53)))) fun w54 b54 => ?_
    replace X0 := X0.later (bC (bC (bC (bC b50 b51) b52) b53) b54)
    have oX0 := X0.o
    go_wp2_with fail
    refine vM (h50.out _) fun w55 b55 => ?_
    clear oX0
    replace X0 := X0.later b55
    have oX0 := X0.o
    go_wp2_with fail
    refine vM (h51.out _) fun w56 b56 => ?_
    clear oX0
    go_wp2_with fail
    refine vM (h52.out _ (ft.later (bC kk (bC (bC (bC (bC (bC (bC b50 b51) b52) b53) b54) b55) b56)))) fun w57 b57 => ?_
    go_wp2_with fail
    go_ret
    exact ⟨rfl, (bC kk (bC (bC (bC (bC (bC (bC (bC b50 b51) b52) b53) b54) b55) b56) b57))⟩



end Go.Proofs.YtnaamckhignjeaaGreatDoor
