import Derived.BigRegion
import Derived.Test.YtdcdbcccchadfaaGreatDoorGwA
import Derived.Test.YtdcdbcccchadfaaGreatDoorGaB
import Derived.Test.YtdcdbcccchadfaaGreatDoorGfA
import Derived.Test.YtdcdbcccchadfaaGreatDoorGhA
import Derived.Test.YtdcdbcccchadfaaGreatDoorGaA
import Derived.Test.YtdcdbcccchadfaaGreatDoorGuA
import Derived.Test.YtdcdbcccchadfaaGreatDoorRest0
set_option maxHeartbeats 4000000
set_option linter.unusedVariables false
set_option linter.unusedSimpArgs false
set_option maxRecDepth 100000
namespace Go.Proofs.YtdcdbcccchadfaaGreatDoor
open Go.RowKit
attribute [local go_sem ↓] Go.wp_at_zero Go.wp_at_succ
theorem addz (p n : Nat) : (⟨p, 0, none⟩ : Addr).add n = ⟨p, n, none⟩ := by unfold Addr.add; by_cases h : n = 0 <;> simp [h]
theorem rowA0 {W : World} {p n : Nat} {t : TypeId} {vs : Array Value} {v : Value} {a : Addr} (x : HB W p t vs) (h : vs[n]? = some v) (hA : (⟨p, 0, none⟩ : Addr) = a) : W.cell? (a.add n) = some v := by
  subst hA; rw [addz]; exact (x.cell _).trans h
theorem rowA {W : World} {p n : Nat} {t : TypeId} {vs : Array Value} {v : Value} {a : Addr} (x : HB W p t vs) (j : Nat) (h : vs[n + j]? = some v) (hA : (⟨p, 0, none⟩ : Addr) = a) : W.cell? ⟨(a.add n).block, (a.add n).off + j, none⟩ = some v := by
  subst hA; rw [addz]; exact (x.cell _).trans h
theorem offA {W w : World} {x : Addr} {v : Value} (h : Off [] W w) (hx : W.cell? x = some v) : w.cell? x = some v := by
  cases hh : W.heap[x.block]? with
  | none => simp [World.cell?, hh] at hx
  | some o => simpa [World.cell?, hh, h x.block o (by simp) hh] using hx
theorem known20_core
    (h3 : Hid (∀ w, FTab w → Ca 10 #[.int .u8 0, .agg #[.int .u8 0, .bool false], U2 0 16384, U2 0 15360, U2 0 49152] w (.agg #[.int .u64 0, .int .u64 0, .int .u8 0])))
    (h7 : Hid (∀ w, FTab w → Ca 10 #[.int .u8 0, .agg #[.int .u8 3, .bool false], U2 0 16384, U2 0 15360, U2 0 49152] w (.agg #[.int .u64 0, .int .u64 32768, .int .u8 0])))
    (h11 : Hid (∀ w, FTab w → Ca 10 #[.int .u8 0, .agg #[.int .u8 0, .bool false], U2 0 32768, U2 0 15360, U2 0 32768] w (.agg #[.int .u64 0, .int .u64 32768, .int .u8 0])))
    (h15 : Hid (∀ w, FTab w → Ca 10 #[.int .u8 0, .agg #[.int .u8 0, .bool false], U2 0 31744, U2 0 15360, U2 0 31744] w (.agg #[.int .u64 0, .int .u64 31744, .int .u8 0])))
    (h19 : Hid (∀ w, FTab w → Ca 10 #[.int .u8 0, .agg #[.int .u8 0, .bool false], U2 0 15360, U2 0 15360, U2 0 64512] w (.agg #[.int .u64 0, .int .u64 64512, .int .u8 0])))
    (h23 : Hid (∀ w, FTab w → Ca 10 #[.int .u8 0, .agg #[.int .u8 0, .bool false], U2 0 31743, U2 0 16384, U2 0 64511] w (.agg #[.int .u64 0, .int .u64 31743, .int .u8 0])))
    (h27 : Hid (∀ w, FTab w → Ca 10 #[.int .u8 0, .agg #[.int .u8 0, .bool false], U2 0 1, U2 0 1, U2 0 1] w (.agg #[.int .u64 0, .int .u64 1, .int .u8 24])))
    (h31 : Hid (∀ w, FTab w → Ca 10 #[.int .u8 0, .agg #[.int .u8 2, .bool false], U2 0 1, U2 0 1, U2 0 1] w (.agg #[.int .u64 0, .int .u64 2, .int .u8 24])))
    (h35 : Hid (∀ w, FTab w → Ca 10 #[.int .u8 0, .agg #[.int .u8 0, .bool false], U2 0 31745, U2 0 32258, U2 0 32259] w (.agg #[.int .u64 0, .int .u64 32257, .int .u8 1])))
    (h39 : Hid (∀ w, FTab w → Ca 10 #[.int .u8 0, .agg #[.int .u8 0, .bool false], U2 0 15360, U2 0 32258, U2 0 31747] w (.agg #[.int .u64 0, .int .u64 32258, .int .u8 1])))
    (h43 : Hid (∀ w, FTab w → Ca 10 #[.int .u8 0, .agg #[.int .u8 0, .bool false], U2 0 1, U2 0 1, U2 0 15360] w (.agg #[.int .u64 0, .int .u64 15360, .int .u8 16])))
    (h47 : Hid (∀ w, FTab w → Ca 10 #[.int .u8 0, .agg #[.int .u8 3, .bool false], U2 0 32769, U2 0 1, U2 0 15360] w (.agg #[.int .u64 0, .int .u64 15359, .int .u8 16])))
    (h51 : Hid (∀ w, FTab w → Ca 10 #[.int .u8 4, .agg #[.int .u8 0, .bool false], U2 0 1, U2 0 1, U2 0 1] w (.agg #[.int .u64 0, .int .u64 0, .int .u8 0])))
    (h52 : Hid (∀ w, FTab w → Ca 12 #[] w (.bool true))) (w : World) (ft : FTab w) :
    Ca 9 #[] w (.bool true) := by
  simp only [Ca, U2] at *
  go_enter Tryz.func9, Tryz.ntmps9
  go_wp2_with fail
  simp only [List.append_eq, List.cons_append, List.nil_append]
  refine vF2 fun w1 b1 X0 X1 => ?_
  refine vR [] fun w2 kz2 S => ?_
  refine vT 0 S ?_ (hy := by intro wq hb; have q := (hb.hb X0 (by simp)).o; go_simp; try (with_reducible rfl))
  refine vT 6 S ?_ (hy := by intro wq hb; have q := (hb.hb X1 (by simp)).o; go_simp; try (with_reducible rfl))
  refine vT 12 S ?_ (hy := by intro wq hb; have q := (hb.hb X0 (by simp)).o; go_simp; try (with_reducible rfl))
  refine vT 18 S ?_ (hy := by intro wq hb; have q := (hb.hb X0 (by simp)).o; go_simp; try (with_reducible rfl))
  refine vT 24 S ?_ (hy := by intro wq hb; have q := (hb.hb X0 (by simp)).o; go_simp; try (with_reducible rfl))
  refine vT 30 S ?_ (hy := by intro wq hb; have q := (hb.hb X0 (by simp)).o; go_simp; try (with_reducible rfl))
  refine vT 36 S ?_ (hy := by intro wq hb; have q := (hb.hb X0 (by simp)).o; go_simp; try (with_reducible rfl))
  refine vT 42 S ?_
  refine vT 48 S ?_ (hy := by intro wq hb; have q := (hb.hb X0 (by simp)).o; go_simp; try (with_reducible rfl))
  refine vT 54 S ?_ (hy := by intro wq hb; have q := (hb.hb X0 (by simp)).o; go_simp; try (with_reducible rfl))
  refine vT 60 S ?_ (hy := by intro wq hb; have q := (hb.hb X0 (by simp)).o; go_simp; try (with_reducible rfl))
  refine vT 66 S ?_ (hy := by intro wq hb; have q := (hb.hb X1 (by simp)).o; go_simp; try (with_reducible rfl))
  refine vT 72 S ?_ (hy := by intro wq hb; have q := (hb.hb X0 (by simp)).o; go_simp; try (with_reducible rfl))
  refine vY1 (cC 1 S (half20 _ _) fun w3 b3 => ?_)
  replace kz2 := bC kz2 b3
  replace S := Off.ofB kz2; clear b3 w2
  refine vY1 (cC 2 S (half20 _ _) fun w4 b4 => ?_)
  replace kz2 := bC kz2 b4
  replace S := Off.ofB kz2; clear b4 w3
  refine vY1 (cC 3 S (half20 _ _) fun w5 b5 => ?_)
  replace kz2 := bC kz2 b5
  replace S := Off.ofB kz2; clear b5 w4
  refine vY1 (cC 4 S (h3.out _ (ft.later (bC b1 kz2))) fun w6 b6 => ?_)
  replace kz2 := bC kz2 b6
  refine vT 5 (Off.ofB kz2) ?_
  replace S := Off.ofB kz2; clear b6 w5
  refine vY1 (cC 7 S (half20 _ _) fun w7 b7 => ?_)
  replace kz2 := bC kz2 b7
  replace S := Off.ofB kz2; clear b7 w6
  refine vY1 (cC 8 S (half20 _ _) fun w8 b8 => ?_)
  replace kz2 := bC kz2 b8
  replace S := Off.ofB kz2; clear b8 w7
  refine vY1 (cC 9 S (half20 _ _) fun w9 b9 => ?_)
  replace kz2 := bC kz2 b9
  replace S := Off.ofB kz2; clear b9 w8
  refine vY1 (cC 10 S (h7.out _ (ft.later (bC b1 kz2))) fun w10 b10 => ?_)
  replace kz2 := bC kz2 b10
  refine vT 11 (Off.ofB kz2) ?_
  replace S := Off.ofB kz2; clear b10 w9
  refine vY1 (cC 13 S (half20 _ _) fun w11 b11 => ?_)
  replace kz2 := bC kz2 b11
  replace S := Off.ofB kz2; clear b11 w10
  refine vY1 (cC 14 S (half20 _ _) fun w12 b12 => ?_)
  replace kz2 := bC kz2 b12
  replace S := Off.ofB kz2; clear b12 w11
  refine vY1 (cC 15 S (half20 _ _) fun w13 b13 => ?_)
  replace kz2 := bC kz2 b13
  replace S := Off.ofB kz2; clear b13 w12
  refine vY1 (cC 16 S (h11.out _ (ft.later (bC b1 kz2))) fun w14 b14 => ?_)
  replace kz2 := bC kz2 b14
  refine vT 17 (Off.ofB kz2) ?_
  replace S := Off.ofB kz2; clear b14 w13
  refine vY1 (cC 19 S (half20 _ _) fun w15 b15 => ?_)
  replace kz2 := bC kz2 b15
  replace S := Off.ofB kz2; clear b15 w14
  refine vY1 (cC 20 S (half20 _ _) fun w16 b16 => ?_)
  replace kz2 := bC kz2 b16
  replace S := Off.ofB kz2; clear b16 w15
  refine vY1 (cC 21 S (half20 _ _) fun w17 b17 => ?_)
  replace kz2 := bC kz2 b17
  replace S := Off.ofB kz2; clear b17 w16
  refine vY1 (cC 22 S (h15.out _ (ft.later (bC b1 kz2))) fun w18 b18 => ?_)
  replace kz2 := bC kz2 b18
  refine vT 23 (Off.ofB kz2) ?_
  replace S := Off.ofB kz2; clear b18 w17
  refine vY1 (cC 25 S (half20 _ _) fun w19 b19 => ?_)
  replace kz2 := bC kz2 b19
  replace S := Off.ofB kz2; clear b19 w18
  refine vY1 (cC 26 S (half20 _ _) fun w20 b20 => ?_)
  replace kz2 := bC kz2 b20
  replace S := Off.ofB kz2; clear b20 w19
  refine vY1 (cC 27 S (half20 _ _) fun w21 b21 => ?_)
  replace kz2 := bC kz2 b21
  replace S := Off.ofB kz2; clear b21 w20
  refine vY1 (cC 28 S (h19.out _ (ft.later (bC b1 kz2))) fun w22 b22 => ?_)
  replace kz2 := bC kz2 b22
  refine vT 29 (Off.ofB kz2) ?_
  replace S := Off.ofB kz2; clear b22 w21
  refine vY1 (cC 31 S (half20 _ _) fun w23 b23 => ?_)
  replace kz2 := bC kz2 b23
  replace S := Off.ofB kz2; clear b23 w22
  refine vY1 (cC 32 S (half20 _ _) fun w24 b24 => ?_)
  replace kz2 := bC kz2 b24
  replace S := Off.ofB kz2; clear b24 w23
  refine vY1 (cC 33 S (half20 _ _) fun w25 b25 => ?_)
  replace kz2 := bC kz2 b25
  replace S := Off.ofB kz2; clear b25 w24
  refine vY1 (cC 34 S (h23.out _ (ft.later (bC b1 kz2))) fun w26 b26 => ?_)
  replace kz2 := bC kz2 b26
  refine vT 35 (Off.ofB kz2) ?_
  replace S := Off.ofB kz2; clear b26 w25
  refine vY1 (cC 37 S (half20 _ _) fun w27 b27 => ?_)
  replace kz2 := bC kz2 b27
  replace S := Off.ofB kz2; clear b27 w26
  refine vY1 (cC 38 S (half20 _ _) fun w28 b28 => ?_)
  replace kz2 := bC kz2 b28
  replace S := Off.ofB kz2; clear b28 w27
  refine vY1 (cC 39 S (half20 _ _) fun w29 b29 => ?_)
  replace kz2 := bC kz2 b29
  replace S := Off.ofB kz2; clear b29 w28
  refine vY1 (cC 40 S (h27.out _ (ft.later (bC b1 kz2))) fun w30 b30 => ?_)
  replace kz2 := bC kz2 b30
  refine vT 41 (Off.ofB kz2) ?_
  replace S := Off.ofB kz2; clear b30 w29
  refine vY1 (cC 43 S (half20 _ _) fun w31 b31 => ?_)
  replace kz2 := bC kz2 b31
  replace S := Off.ofB kz2; clear b31 w30
  refine vY1 (cC 44 S (half20 _ _) fun w32 b32 => ?_)
  replace kz2 := bC kz2 b32
  replace S := Off.ofB kz2; clear b32 w31
  refine vY1 (cC 45 S (half20 _ _) fun w33 b33 => ?_)
  replace kz2 := bC kz2 b33
  replace S := Off.ofB kz2; clear b33 w32
  refine vY1 (cC 46 S (h31.out _ (ft.later (bC b1 kz2))) fun w34 b34 => ?_)
  replace kz2 := bC kz2 b34
  refine vT 47 (Off.ofB kz2) ?_
  replace S := Off.ofB kz2; clear b34 w33
  refine vY1 (cC 49 S (half20 _ _) fun w35 b35 => ?_)
  replace kz2 := bC kz2 b35
  replace S := Off.ofB kz2; clear b35 w34
  refine vY1 (cC 50 S (half20 _ _) fun w36 b36 => ?_)
  replace kz2 := bC kz2 b36
  replace S := Off.ofB kz2; clear b36 w35
  refine vY1 (cC 51 S (half20 _ _) fun w37 b37 => ?_)
  replace kz2 := bC kz2 b37
  replace S := Off.ofB kz2; clear b37 w36
  refine vY1 (cC 52 S (h35.out _ (ft.later (bC b1 kz2))) fun w38 b38 => ?_)
  replace kz2 := bC kz2 b38
  refine vT 53 (Off.ofB kz2) ?_
  replace S := Off.ofB kz2; clear b38 w37
  refine vY1 (cC 55 S (half20 _ _) fun w39 b39 => ?_)
  replace kz2 := bC kz2 b39
  replace S := Off.ofB kz2; clear b39 w38
  refine vY1 (cC 56 S (half20 _ _) fun w40 b40 => ?_)
  replace kz2 := bC kz2 b40
  replace S := Off.ofB kz2; clear b40 w39
  refine vY1 (cC 57 S (half20 _ _) fun w41 b41 => ?_)
  replace kz2 := bC kz2 b41
  replace S := Off.ofB kz2; clear b41 w40
  refine vY1 (cC 58 S (h39.out _ (ft.later (bC b1 kz2))) fun w42 b42 => ?_)
  replace kz2 := bC kz2 b42
  refine vT 59 (Off.ofB kz2) ?_
  replace S := Off.ofB kz2; clear b42 w41
  refine vY1 (cC 61 S (half20 _ _) fun w43 b43 => ?_)
  replace kz2 := bC kz2 b43
  replace S := Off.ofB kz2; clear b43 w42
  refine vY1 (cC 62 S (half20 _ _) fun w44 b44 => ?_)
  replace kz2 := bC kz2 b44
  replace S := Off.ofB kz2; clear b44 w43
  refine vY1 (cC 63 S (half20 _ _) fun w45 b45 => ?_)
  replace kz2 := bC kz2 b45
  replace S := Off.ofB kz2; clear b45 w44
  refine vY1 (cC 64 S (h43.out _ (ft.later (bC b1 kz2))) fun w46 b46 => ?_)
  replace kz2 := bC kz2 b46
  refine vT 65 (Off.ofB kz2) ?_
  replace S := Off.ofB kz2; clear b46 w45
  refine vY1 (cC 67 S (half20 _ _) fun w47 b47 => ?_)
  replace kz2 := bC kz2 b47
  replace S := Off.ofB kz2; clear b47 w46
  refine vY1 (cC 68 S (half20 _ _) fun w48 b48 => ?_)
  replace kz2 := bC kz2 b48
  replace S := Off.ofB kz2; clear b48 w47
  refine vY1 (cC 69 S (half20 _ _) fun w49 b49 => ?_)
  replace kz2 := bC kz2 b49
  replace S := Off.ofB kz2; clear b49 w48
  refine vY1 (cC 70 S (h47.out _ (ft.later (bC b1 kz2))) fun w50 b50 => ?_)
  replace kz2 := bC kz2 b50
  refine vT 71 (Off.ofB kz2) ?_
  replace S := Off.ofB kz2; clear b50 w49
  refine vY1 (cC 73 S (half20 _ _) fun w51 b51 => ?_)
  replace kz2 := bC kz2 b51
  replace S := Off.ofB kz2; clear b51 w50
  refine vY1 (cC 74 S (half20 _ _) fun w52 b52 => ?_)
  replace kz2 := bC kz2 b52
  replace S := Off.ofB kz2; clear b52 w51
  refine vY1 (cC 75 S (half20 _ _) fun w53 b53 => ?_)
  replace kz2 := bC kz2 b53
  replace S := Off.ofB kz2; clear b53 w52
  refine vY1 (cC 76 S (h51.out _ (ft.later (bC b1 kz2))) fun w54 b54 => ?_)
  replace kz2 := bC kz2 b54
  refine vT 77 (Off.ofB kz2) ?_
  replace S := Off.ofB kz2; clear b54 w53
  refine vY1 (cB (n := 13) 78 S fun w55 pp1_0 h X2 b55 => ?_)
  have jX2 := (lZ kz2.size h); replace kz2 := bC kz2 b55
  refine vT 79 (Off.ofB kz2) ?_
  clear S b55 h w54
  revert kz2; revert jX2; revert X2; revert pp1_0; revert w55
  refine ?s2_52; rotate_left
  intro w56 pp1_0 X2 jX2 kz2
  refine vD ?_
  have gX2 : w.heap.size ≤ pp1_0 := by have := b1.size; omega
  have row : ∀ k : Nat, k < 13 → ∃ b f : Int, (#[.int .u64 0, .int .u64 0, .int .u8 0, .int .u64 0, .int .u8 0, .int .u64 0, .int .u64 32768, .int .u8 0, .int .u64 32768, .int .u8 0, .int .u64 0, .int .u64 32768, .int .u8 0, .int .u64 32768, .int .u8 0, .int .u64 0, .int .u64 31744, .int .u8 0, .int .u64 31744, .int .u8 0, .int .u64 0, .int .u64 64512, .int .u8 0, .int .u64 64512, .int .u8 0, .int .u64 0, .int .u64 31743, .int .u8 0, .int .u64 31743, .int .u8 0, .int .u64 0, .int .u64 1, .int .u8 24, .int .u64 1, .int .u8 24, .int .u64 0, .int .u64 2, .int .u8 24, .int .u64 2, .int .u8 24, .int .u64 0, .int .u64 32257, .int .u8 1, .int .u64 32257, .int .u8 1, .int .u64 0, .int .u64 32258, .int .u8 1, .int .u64 32258, .int .u8 1, .int .u64 0, .int .u64 15360, .int .u8 16, .int .u64 15360, .int .u8 16, .int .u64 0, .int .u64 15359, .int .u8 16, .int .u64 15359, .int .u8 16, .int .u64 0, .int .u64 0, .int .u8 0, .int .u64 0, .int .u8 0] : Array Value)[k * 5]? = some (.int .u64 0) ∧ (#[.int .u64 0, .int .u64 0, .int .u8 0, .int .u64 0, .int .u8 0, .int .u64 0, .int .u64 32768, .int .u8 0, .int .u64 32768, .int .u8 0, .int .u64 0, .int .u64 32768, .int .u8 0, .int .u64 32768, .int .u8 0, .int .u64 0, .int .u64 31744, .int .u8 0, .int .u64 31744, .int .u8 0, .int .u64 0, .int .u64 64512, .int .u8 0, .int .u64 64512, .int .u8 0, .int .u64 0, .int .u64 31743, .int .u8 0, .int .u64 31743, .int .u8 0, .int .u64 0, .int .u64 1, .int .u8 24, .int .u64 1, .int .u8 24, .int .u64 0, .int .u64 2, .int .u8 24, .int .u64 2, .int .u8 24, .int .u64 0, .int .u64 32257, .int .u8 1, .int .u64 32257, .int .u8 1, .int .u64 0, .int .u64 32258, .int .u8 1, .int .u64 32258, .int .u8 1, .int .u64 0, .int .u64 15360, .int .u8 16, .int .u64 15360, .int .u8 16, .int .u64 0, .int .u64 15359, .int .u8 16, .int .u64 15359, .int .u8 16, .int .u64 0, .int .u64 0, .int .u8 0, .int .u64 0, .int .u8 0] : Array Value)[k * 5 + 1]? = some (.int .u64 b) ∧ (#[.int .u64 0, .int .u64 0, .int .u8 0, .int .u64 0, .int .u8 0, .int .u64 0, .int .u64 32768, .int .u8 0, .int .u64 32768, .int .u8 0, .int .u64 0, .int .u64 32768, .int .u8 0, .int .u64 32768, .int .u8 0, .int .u64 0, .int .u64 31744, .int .u8 0, .int .u64 31744, .int .u8 0, .int .u64 0, .int .u64 64512, .int .u8 0, .int .u64 64512, .int .u8 0, .int .u64 0, .int .u64 31743, .int .u8 0, .int .u64 31743, .int .u8 0, .int .u64 0, .int .u64 1, .int .u8 24, .int .u64 1, .int .u8 24, .int .u64 0, .int .u64 2, .int .u8 24, .int .u64 2, .int .u8 24, .int .u64 0, .int .u64 32257, .int .u8 1, .int .u64 32257, .int .u8 1, .int .u64 0, .int .u64 32258, .int .u8 1, .int .u64 32258, .int .u8 1, .int .u64 0, .int .u64 15360, .int .u8 16, .int .u64 15360, .int .u8 16, .int .u64 0, .int .u64 15359, .int .u8 16, .int .u64 15359, .int .u8 16, .int .u64 0, .int .u64 0, .int .u8 0, .int .u64 0, .int .u8 0] : Array Value)[k * 5 + 2]? = some (.int .u8 f) ∧ (#[.int .u64 0, .int .u64 0, .int .u8 0, .int .u64 0, .int .u8 0, .int .u64 0, .int .u64 32768, .int .u8 0, .int .u64 32768, .int .u8 0, .int .u64 0, .int .u64 32768, .int .u8 0, .int .u64 32768, .int .u8 0, .int .u64 0, .int .u64 31744, .int .u8 0, .int .u64 31744, .int .u8 0, .int .u64 0, .int .u64 64512, .int .u8 0, .int .u64 64512, .int .u8 0, .int .u64 0, .int .u64 31743, .int .u8 0, .int .u64 31743, .int .u8 0, .int .u64 0, .int .u64 1, .int .u8 24, .int .u64 1, .int .u8 24, .int .u64 0, .int .u64 2, .int .u8 24, .int .u64 2, .int .u8 24, .int .u64 0, .int .u64 32257, .int .u8 1, .int .u64 32257, .int .u8 1, .int .u64 0, .int .u64 32258, .int .u8 1, .int .u64 32258, .int .u8 1, .int .u64 0, .int .u64 15360, .int .u8 16, .int .u64 15360, .int .u8 16, .int .u64 0, .int .u64 15359, .int .u8 16, .int .u64 15359, .int .u8 16, .int .u64 0, .int .u64 0, .int .u8 0, .int .u64 0, .int .u8 0] : Array Value)[k * 5 + 3]? = some (.int .u64 b) ∧ (#[.int .u64 0, .int .u64 0, .int .u8 0, .int .u64 0, .int .u8 0, .int .u64 0, .int .u64 32768, .int .u8 0, .int .u64 32768, .int .u8 0, .int .u64 0, .int .u64 32768, .int .u8 0, .int .u64 32768, .int .u8 0, .int .u64 0, .int .u64 31744, .int .u8 0, .int .u64 31744, .int .u8 0, .int .u64 0, .int .u64 64512, .int .u8 0, .int .u64 64512, .int .u8 0, .int .u64 0, .int .u64 31743, .int .u8 0, .int .u64 31743, .int .u8 0, .int .u64 0, .int .u64 1, .int .u8 24, .int .u64 1, .int .u8 24, .int .u64 0, .int .u64 2, .int .u8 24, .int .u64 2, .int .u8 24, .int .u64 0, .int .u64 32257, .int .u8 1, .int .u64 32257, .int .u8 1, .int .u64 0, .int .u64 32258, .int .u8 1, .int .u64 32258, .int .u8 1, .int .u64 0, .int .u64 15360, .int .u8 16, .int .u64 15360, .int .u8 16, .int .u64 0, .int .u64 15359, .int .u8 16, .int .u64 15359, .int .u8 16, .int .u64 0, .int .u64 0, .int .u8 0, .int .u64 0, .int .u8 0] : Array Value)[k * 5 + 4]? = some (.int .u8 f) := by
    intro k hk
    rcases (by omega : k = 0 ∨ k = 1 ∨ k = 2 ∨ k = 3 ∨ k = 4 ∨ k = 5 ∨ k = 6 ∨ k = 7 ∨ k = 8 ∨ k = 9 ∨ k = 10 ∨ k = 11 ∨ k = 12) with rfl | rfl | rfl | rfl | rfl | rfl | rfl | rfl | rfl | rfl | rfl | rfl | rfl
    all_goals exact ⟨_, _, rfl, rfl, rfl, rfl, rfl⟩
  go_wp2_with fail
  go_loopw [4] (fun iv wi => (∃ k : Nat, k ≤ 13 ∧ iv = .int .i64 k) ∧ HB wi pp1_0 57 #[.int .u64 0, .int .u64 0, .int .u8 0, .int .u64 0, .int .u8 0, .int .u64 0, .int .u64 32768, .int .u8 0, .int .u64 32768, .int .u8 0, .int .u64 0, .int .u64 32768, .int .u8 0, .int .u64 32768, .int .u8 0, .int .u64 0, .int .u64 31744, .int .u8 0, .int .u64 31744, .int .u8 0, .int .u64 0, .int .u64 64512, .int .u8 0, .int .u64 64512, .int .u8 0, .int .u64 0, .int .u64 31743, .int .u8 0, .int .u64 31743, .int .u8 0, .int .u64 0, .int .u64 1, .int .u8 24, .int .u64 1, .int .u8 24, .int .u64 0, .int .u64 2, .int .u8 24, .int .u64 2, .int .u8 24, .int .u64 0, .int .u64 32257, .int .u8 1, .int .u64 32257, .int .u8 1, .int .u64 0, .int .u64 32258, .int .u8 1, .int .u64 32258, .int .u8 1, .int .u64 0, .int .u64 15360, .int .u8 16, .int .u64 15360, .int .u8 16, .int .u64 0, .int .u64 15359, .int .u8 16, .int .u64 15359, .int .u8 16, .int .u64 0, .int .u64 0, .int .u8 0, .int .u64 0, .int .u8 0] ∧ Below w.heap.size w wi) (fun iv _ => 14 - (intOf iv).toNat)
  case atStart => exact ⟨⟨0, by omega, rfl⟩, X2, (bC b1 kz2)⟩
  case round =>
    clear X2
    obtain ⟨⟨k, hk, rfl⟩, X2, kl⟩ := hrel
    by_cases hlt : k < 13
    · obtain ⟨b, f, r0, r1, r2, r3, r4⟩ := row k hlt
      clear row
      generalize hA : (⟨pp1_0, 0, none⟩ : Addr) = a
      have c0 := rowA0 X2 r0 hA
      have c1 := rowA X2 1 r1 hA
      have c2 := rowA X2 2 r2 hA
      have c3 := rowA X2 3 r3 hA
      have c4 := rowA X2 4 r4 hA
      clear hA r0 r1 r2 r3 r4
      have hli : (k : Int) < 13 := by omega
      have gk : decide ((k : Int) < 13) = true := by simp; omega
      have inc : IntKind.i64.wrap ((k : Int) + 1) = ((k + 1 : Nat) : Int) := by rw [IntKind.wrap_i64]; omega
      have KZ := lH (And.intro X2 kl)
      have HK := lH (And.intro hk hlt)
      clear hk X2 kl
      go_wp2_with fail
      refine vR [] fun wa ba Sa => ?_
      refine vT 0 Sa ?_
      refine vT 1 Sa ?_
      refine vT 2 Sa ?_
      refine vT 3 Sa ?_
      refine vT 4 Sa ?_ (hy := by intro wq hb; have l0 := offA hb c0; have l1 := offA hb c1; have l2 := offA hb c2; have l3 := offA hb c3; have l4 := offA hb c4; go_simp; try (with_reducible rfl))
      refine vT 5 Sa ?_
      refine vT 6 Sa ?_
      refine vT 7 Sa ?_
      refine vT 8 Sa ?_
      refine vT 9 Sa ?_ (hy := by intro wq hb; have l0 := offA hb c0; have l1 := offA hb c1; have l2 := offA hb c2; have l3 := offA hb c3; have l4 := offA hb c4; go_simp; try (with_reducible rfl))
      refine vT 11 Sa ?_
      refine vT 12 Sa ?_
      refine vT 13 Sa ?_
      refine vT 14 Sa ?_
      refine vT 15 Sa ?_ (hy := by intro wq hb; have l0 := offA hb c0; have l1 := offA hb c1; have l2 := offA hb c2; have l3 := offA hb c3; have l4 := offA hb c4; go_simp; try (with_reducible rfl))
      refine vY1 (cC 10 Sa (half20 _ _) fun wb bb => ?_)
      have Sb := Sa.later bb
      refine vT 16 Sb ?_
      refine vT 17 Sb ?_
      refine vD ?_
      obtain ⟨X2, kl⟩ := KZ.out
      have KY := lH (And.intro (X2.later (bC ba bb)) (bC kl (bC ba bb)))
      clear X2 kl ba bb c0 c1 c2 c3 c4
      go_wp2_with fail
      go_roundw
      case rel => exact ⟨⟨k + 1, by have := HK.out; omega, by go_num⟩, KY.out.1, KY.out.2⟩
      case measure => have := HK.out; simp [intOf]; omega
    obtain rfl : k = 13 := by omega
    clear row hk hlt
    have kk := kl
    go_wp2_with fail
    refine vM (h52.out _ (ft.later kk)) fun w57 b57 => ?_
    go_wp2_with fail
    go_ret
    exact ⟨rfl, (bC kk b57)⟩
end Go.Proofs.YtdcdbcccchadfaaGreatDoor
