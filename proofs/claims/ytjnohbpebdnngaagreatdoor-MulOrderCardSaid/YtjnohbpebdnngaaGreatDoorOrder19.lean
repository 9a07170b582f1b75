/-
  The walk of the statement MulOrder.
-/
import Derived.Test.YtjnohbpebdnngaaGreatDoorW2
import Derived.Test.YtjnohbpebdnngaaGreatDoorGaB
import Derived.Test.YtjnohbpebdnngaaGreatDoorGfA
import Derived.Test.YtjnohbpebdnngaaGreatDoorGhA
import Derived.Test.YtjnohbpebdnngaaGreatDoorGaA
import Derived.Test.YtjnohbpebdnngaaGreatDoorGoes19
set_option linter.unusedVariables false
set_option linter.unusedSimpArgs false
set_option maxRecDepth 100000
namespace Go.Proofs.YtjnohbpebdnngaaGreatDoor
open Go.RowKit
attribute [local go_sem ↓] Go.wp_at_zero Go.wp_at_succ

theorem oG {a b c : Nat} (h : a < b) (k : b ≤ c) : c ≠ a := Nat.ne_of_gt (Nat.lt_of_lt_of_le h k)
theorem oL {a b c : Nat} (h : a < b) (k : b ≤ c) : a ≠ c := Nat.ne_of_lt (Nat.lt_of_lt_of_le h k)

set_option maxHeartbeats 4000000 in
theorem size19 (f ex bh bl qh ql rh rl : Int) (ng : Bool)
    (h0 : Hid (∀ w, FTab w → Ca 52 #[.int .u8 f, U2 bh bl] w (.tuple #[.bool ng, .int .i64 ex, U2 qh ql])))
    (h1 : Hid (∀ w, FTab w → Ca 28 #[.int .u8 f, .bool false, .int .i64 ex, U2 qh ql] w (U2 rh rl))) (w : World) (ft : FTab w) :
    Ca 33 #[.int .u8 f, U2 bh bl] w (U2 rh rl) := by
  simp only [Ca, U2] at *
  go_enter Tryz.func33, Tryz.ntmps33
  go_wp2_with fail
  refine vM (h0.out _ (ft.later (bA (bA (Below.refl _ _) _) _))) fun w1 b1 => ?_
  have gX1 : w.heap.size ≤ w.heap.size + 1 := by omega
  have X1 := (HB.newAt (b := w.heap.size + 1) (by simp) _ _).later b1
  go_wp2_with fail
  refine vM (h1.out _ (ft.later (bA (bC (bA (bA (Below.refl _ _) _) _) b1) _))) fun w2 b2 => ?_
  replace X1 := X1.later (bC (bA (Below.refl _ _) _) b2)
  have oX1 := X1.o
  go_wp2_with fail
  refine bodyPost_ret (v := .agg #[.int .u64 rh, .int .u64 rl]) ?_ rfl ⟨rfl, (((bC (bC (bA (bA (Below.refl _ _) _) _) b1) (bC (bA (Below.refl _ _) _) b2)).setCell (p := ⟨w.heap.size + 1, 0, none⟩) gX1 _).setCell (p := ⟨w.heap.size + 1, 1, none⟩) gX1 _)⟩
  simp [results, Tryz.results33, go_sem, oX1]

set_option maxHeartbeats 4000000 in
theorem order19_nf (f m ah al bh bl kh kl mm ck : Int) (t kn : Bool)
    (h0 : Hid (∀ w, FTab w → Ca 32 #[.int .u8 f, U2 kh kl] w (.tuple #[.int .u8 ck, .bool kn])))
    (h1 : Hid (∀ w, FTab w → Ca 22 #[.int .u8 f] w (.bool false)))
    (h3 : Hid (∀ w, FTab w → Ca 13 #[] w (.bool true))) (m2 : m.tmod 5 = mm) (m3 : m % 5 = mm) (w : World) (ft : FTab w) :
    Ca 8 #[.int .u8 f, .agg #[.int .u8 m, .bool t], U2 ah al, U2 bh bl, U2 kh kl] w (.bool true) := by
  simp only [Ca, U2] at *
  go_enter Tryz.func8, Tryz.ntmps8
  go_wp2_with fail
  refine vM (h0.out _ (ft.later (bA (bA (bA (bA (Below.refl _ _) _) _) _) _))) fun w1 b1 => ?_
  go_wp2_with fail
  refine vM (h1.out _ (ft.later (bC (bA (bA (bA (bA (Below.refl _ _) _) _) _) _) b1))) fun w2 b2 => ?_
  go_wp2_with fail
  refine vM (h3.out _ (ft.later (bC (bC (bA (bA (bA (bA (Below.refl _ _) _) _) _) _) b1) b2))) fun w3 b3 => ?_
  go_wp2_with fail
  go_ret
  exact ⟨rfl, (bC (bC (bC (bA (bA (bA (bA (Below.refl _ _) _) _) _) _) b1) b2) b3)⟩

set_option maxHeartbeats 4000000 in
theorem order19_na (f m ah al bh bl kh kl mm ck : Int) (t kn : Bool)
    (h0 : Hid (∀ w, FTab w → Ca 32 #[.int .u8 f, U2 kh kl] w (.tuple #[.int .u8 ck, .bool kn])))
    (h1 : Hid (∀ w, FTab w → Ca 22 #[.int .u8 f] w (.bool true)))
    (h3 : Hid (∀ w, FTab w → Ca 13 #[] w (.bool true))) (m2 : m.tmod 5 = mm) (m3 : m % 5 = mm) (AN : Hid (∀ w, FTab w → ∀ p T, HB w p T #[.int .u64 ah, .int .u64 al, .int .u64 bh, .int .u64 bl] → Ca 24 #[.int .u8 f, .func (.func 25) #[] #[], .slice (some ⟨p, 0, none⟩) 2 2] w (.bool true))) (w : World) (ft : FTab w) :
    Ca 8 #[.int .u8 f, .agg #[.int .u8 m, .bool t], U2 ah al, U2 bh bl, U2 kh kl] w (.bool true) := by
  simp only [Ca, U2] at *
  go_enter Tryz.func8, Tryz.ntmps8
  go_wp2_with fail
  refine vM (h0.out _ (ft.later (bA (bA (bA (bA (Below.refl _ _) _) _) _) _))) fun w1 b1 => ?_
  have X1 := (((HB.newAt (b := w.heap.size + 1) (by simp) _ _).alloc _).alloc _).later b1
  have X2 := ((HB.newAt (b := w.heap.size + 1 + 1) (by simp) _ _).alloc _).later b1
  go_wp2_with fail
  refine vM (h1.out _ (ft.later (bC (bA (bA (bA (bA (Below.refl _ _) _) _) _) _) b1))) fun w2 b2 => ?_
  replace X1 := X1.later b2
  have oX1 := X1.o
  replace X2 := X2.later b2
  have oX2 := X2.o
  go_wp2_with fail
  refine vM (AN.out _ (ft.later (bA (bC (bC (bA (bA (bA (bA (Below.refl _ _) _) _) _) _) b1) b2) _)) _ _ (HB.newAt (b := w2.heap.size) (by simp) _ _)) fun w3 b3 => ?_
  clear oX1 oX2
  go_wp2_with fail
  refine vM (h3.out _ (ft.later (bC (bC (bC (bA (bA (bA (bA (Below.refl _ _) _) _) _) _) b1) b2) (bC (bA (Below.refl _ _) _) b3)))) fun w4 b4 => ?_
  go_wp2_with fail
  go_ret
  exact ⟨rfl, (bC (bC (bC (bC (bA (bA (bA (bA (Below.refl _ _) _) _) _) _) b1) b2) (bC (bA (Below.refl _ _) _) b3)) b4)⟩

set_option maxHeartbeats 4000000 in
theorem order19_nk (f m ah al bh bl kh kl mm ck : Int) (t kn : Bool)
    (h0 : Hid (∀ w, FTab w → Ca 32 #[.int .u8 f, U2 kh kl] w (.tuple #[.int .u8 ck, .bool kn])))
    (h1 : Hid (∀ w, FTab w → Ca 22 #[.int .u8 f] w (.bool true)))
    (h3 : Hid (∀ w, FTab w → Ca 13 #[] w (.bool true))) (m2 : m.tmod 5 = mm) (m3 : m % 5 = mm) (AN : Hid (∀ w, FTab w → ∀ p T, HB w p T #[.int .u64 ah, .int .u64 al, .int .u64 bh, .int .u64 bl] → Ca 24 #[.int .u8 f, .func (.func 25) #[] #[], .slice (some ⟨p, 0, none⟩) 2 2] w (.bool false))) (k1 : (ck != 1) = true) (k2 : (ck != 2) = true) (w : World) (ft : FTab w) :
    Ca 8 #[.int .u8 f, .agg #[.int .u8 m, .bool t], U2 ah al, U2 bh bl, U2 kh kl] w (.bool true) := by
  simp only [Ca, U2] at *
  go_enter Tryz.func8, Tryz.ntmps8
  go_wp2_with fail
  refine vM (h0.out _ (ft.later (bA (bA (bA (bA (Below.refl _ _) _) _) _) _))) fun w1 b1 => ?_
  have X1 := (((HB.newAt (b := w.heap.size + 1) (by simp) _ _).alloc _).alloc _).later b1
  have X2 := ((HB.newAt (b := w.heap.size + 1 + 1) (by simp) _ _).alloc _).later b1
  go_wp2_with fail
  refine vM (h1.out _ (ft.later (bC (bA (bA (bA (bA (Below.refl _ _) _) _) _) _) b1))) fun w2 b2 => ?_
  replace X1 := X1.later b2
  have oX1 := X1.o
  replace X2 := X2.later b2
  have oX2 := X2.o
  go_wp2_with fail
  refine vM (AN.out _ (ft.later (bA (bC (bC (bA (bA (bA (bA (Below.refl _ _) _) _) _) _) b1) b2) _)) _ _ (HB.newAt (b := w2.heap.size) (by simp) _ _)) fun w3 b3 => ?_
  clear oX1 oX2
  go_wp2_with fail
  refine vM (h3.out _ (ft.later (bC (bC (bC (bA (bA (bA (bA (Below.refl _ _) _) _) _) _) b1) b2) (bC (bA (Below.refl _ _) _) b3)))) fun w4 b4 => ?_
  go_wp2_with fail
  go_ret
  exact ⟨rfl, (bC (bC (bC (bC (bA (bA (bA (bA (Below.refl _ _) _) _) _) _) b1) b2) (bC (bA (Below.refl _ _) _) b3)) b4)⟩



end Go.Proofs.YtjnohbpebdnngaaGreatDoor
