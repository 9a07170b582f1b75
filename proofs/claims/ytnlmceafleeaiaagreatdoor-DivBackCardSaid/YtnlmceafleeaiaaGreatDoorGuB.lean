import Derived.Test.YtnlmceafleeaiaaGreatDoorGwA
import Derived.Test.YtnlmceafleeaiaaGreatDoorGfA
import Derived.Test.YtnlmceafleeaiaaGreatDoorGaB
import Derived.Test.YtnlmceafleeaiaaGreatDoorGhA
import Derived.Test.YtnlmceafleeaiaaGreatDoorGaA
set_option maxHeartbeats 4000000
set_option linter.unusedVariables false
set_option linter.unusedSimpArgs false
set_option maxRecDepth 100000
namespace Go.Proofs.YtnlmceafleeaiaaGreatDoor
open Go.RowKit
attribute [local go_sem ↓] Go.wp_at_zero Go.wp_at_succ
theorem fm_inf1 (ca ea xh xl : Int) (sa : Bool)
     (w : World) :
    Ca 122 #[.agg #[.bool sa, .int .u8 ca, .int .i64 ea, .int .u64 xh, .int .u64 xl]] w (.bool ((ca == 3))) := by
  simp only [Ca] at *
  go_enter Tryz.func122, Tryz.ntmps122
  go_wp2_with fail
  go_ret
  exact ⟨rfl, (bA bR _)⟩
theorem fm_index1 (p : Nat) (T : TypeId) (sc : Bool) (kc ec zh zl : Int) (w : World) (x : HB w p T #[.bool sc, .int .u8 kc, .int .i64 ec, .int .u64 zh, .int .u64 zl]) : Calls Tryz.prog 163 #[.slice (some ⟨p, 0, none⟩) 1 1, .func (.func 122) #[] #[]] w fun e w' => e = .returned (.int .i64 (if kc == 3 then 0 else -1)) ∧ Below w.heap.size w w' := by
  have HX := lH x
  have i1 : IntKind.i64.wrap (0 + 1) = 1 := by decide +kernel
  have i2 : IntKind.i64.wrap (1 + 1) = 2 := by decide +kernel
  have Tkc : ∃ b, (kc == 3) = b := ⟨_, rfl⟩
  clear x
  go_enter Tryz.func163, Tryz.ntmps163
  go_wp2_with fail
  go_loopw [8] (fun i wr => (i = .int .i64 0 ∨ (i = .int .i64 1 ∧ (kc == 3) = false)) ∧ Below w.heap.size w wr) (fun i _ => 1 - (intOf i).toNat)
  case atStart => exact ⟨.inl rfl, bR⟩
  case round =>
    obtain ⟨hr, hb⟩ := hrel
    rcases hr with rfl | ⟨rfl, k0⟩
    · have KX := lH (fm_inf1 kc ec zh zl sc)
      obtain ⟨b, hbv⟩ := Tkc
      rw [hbv] at KX
      cases b
      · have o := HB.o (HB.later HX.out hb)
        have HB := lH hb
        clear hb
        go_wp2_with fail
        refine vM (KX.out _) fun w1 b1 => ?_
        have HC := lH (bC HB.out b1)
        clear HB b1
        go_wp2_with fail
        go_roundw
        case rel => exact ⟨.inr ⟨by go_num, hbv⟩, HC.out⟩
        case measure => simp [intOf]
      · have o := HB.o (HB.later HX.out hb)
        have HB := lH hb
        clear hb
        go_wp2_with fail
        refine vM (KX.out _) fun w1 b1 => ?_
        have HC := lH (bC HB.out b1)
        clear HB b1
        go_wp2_with fail
        exact bodyPost_ret (v := .int .i64 0) (by simp [results, Tryz.results163, go_sem]) rfl ⟨by simp [hbv], HC.out⟩
    · have HB := lH hb
      clear hb
      go_wp2_with fail
      exact bodyPost_ret (v := .int .i64 (-1)) (by simp [results, Tryz.results163, go_sem]) rfl ⟨by simp [k0], HB.out⟩
theorem fm_contains1 (p : Nat) (T : TypeId) (sc : Bool) (kc ec zh zl : Int) (w : World) (x : HB w p T #[.bool sc, .int .u8 kc, .int .i64 ec, .int .u64 zh, .int .u64 zl]) : Calls Tryz.prog 121 #[.slice (some ⟨p, 0, none⟩) 1 1, .func (.func 122) #[] #[]] w fun e w' => e = .returned (.bool (kc == 3)) ∧ Below w.heap.size w w' := by
  have K := lH (fm_index1 p T sc kc ec zh zl w x)
  have HR : decide (0 ≤ (if kc == 3 then 0 else -1 : Int)) = (kc == 3) := by cases kc == 3 <;> rfl
  generalize (if kc == 3 then 0 else -1 : Int) = r at *
  clear x
  go_enter Tryz.func121, Tryz.ntmps121
  go_wp2_with fail
  (with_reducible refine (K.out).mono ?_); rintro e w1 ⟨rfl, hb⟩
  have HB := lH hb
  clear hb
  go_wp2_with fail
  go_ret
  exact ⟨rfl, HB.out⟩
theorem fm_infinite1 (p : Nat) (T : TypeId) (sc : Bool) (kc ec zh zl : Int) (w : World) (x : HB w p T #[.bool sc, .int .u8 kc, .int .i64 ec, .int .u64 zh, .int .u64 zl]) : Calls Tryz.prog 53 #[.slice (some ⟨p, 0, none⟩) 1 1] w fun e w' => e = .returned (.bool (kc == 3)) ∧ Below w.heap.size w w' := by
  have hmf : ∀ (fn : Fn) (first cap : Array Value) (w : World), (Instr.makeFunc fn first cap).run Tryz.prog w = .ok (.func fn first cap) w := fun _ _ _ _ => rfl
  have K := lH (fm_contains1 p T sc kc ec zh zl w x)
  clear x
  go_enter Tryz.func53, Tryz.ntmps53
  go_wp2_with fail
  (with_reducible refine (K.out).mono ?_); rintro e w1 ⟨rfl, hb⟩
  have HB := lH hb
  clear hb
  go_wp2_with fail
  go_ret
  exact ⟨rfl, HB.out⟩
theorem fm_index2 (p : Nat) (T : TypeId) (sa sb : Bool) (ca ea xh xl cb eb yh yl : Int) (w : World) (x : HB w p T #[.bool sa, .int .u8 ca, .int .i64 ea, .int .u64 xh, .int .u64 xl, .bool sb, .int .u8 cb, .int .i64 eb, .int .u64 yh, .int .u64 yl]) : Calls Tryz.prog 163 #[.slice (some ⟨p, 0, none⟩) 2 2, .func (.func 122) #[] #[]] w fun e w' => e = .returned (.int .i64 (if ca == 3 then 0 else if cb == 3 then 1 else -1)) ∧ Below w.heap.size w w' := by
  have HX := lH x
  have i1 : IntKind.i64.wrap (0 + 1) = 1 := by decide +kernel
  have i2 : IntKind.i64.wrap (1 + 1) = 2 := by decide +kernel
  have Tca : ∃ b, (ca == 3) = b := ⟨_, rfl⟩
  have Tcb : ∃ b, (cb == 3) = b := ⟨_, rfl⟩
  clear x
  go_enter Tryz.func163, Tryz.ntmps163
  go_wp2_with fail
  go_loopw [8] (fun i wr => (i = .int .i64 0 ∨ (i = .int .i64 1 ∧ (ca == 3) = false) ∨ (i = .int .i64 2 ∧ (ca == 3) = false ∧ (cb == 3) = false)) ∧ Below w.heap.size w wr) (fun i _ => 2 - (intOf i).toNat)
  case atStart => exact ⟨.inl rfl, bR⟩
  case round =>
    obtain ⟨hr, hb⟩ := hrel
    rcases hr with rfl | ⟨rfl, k0⟩ | ⟨rfl, k0, k1⟩
    · have KX := lH (fm_inf1 ca ea xh xl sa)
      obtain ⟨b, hbv⟩ := Tca
      rw [hbv] at KX
      cases b
      · have o := HB.o (HB.later HX.out hb)
        have HB := lH hb
        clear hb
        go_wp2_with fail
        refine vM (KX.out _) fun w1 b1 => ?_
        have HC := lH (bC HB.out b1)
        clear HB b1
        go_wp2_with fail
        go_roundw
        case rel => exact ⟨.inr (.inl ⟨by go_num, hbv⟩), HC.out⟩
        case measure => simp [intOf]
      · have o := HB.o (HB.later HX.out hb)
        have HB := lH hb
        clear hb
        go_wp2_with fail
        refine vM (KX.out _) fun w1 b1 => ?_
        have HC := lH (bC HB.out b1)
        clear HB b1
        go_wp2_with fail
        exact bodyPost_ret (v := .int .i64 0) (by simp [results, Tryz.results163, go_sem]) rfl ⟨by simp [hbv], HC.out⟩
    · have KX := lH (fm_inf1 cb eb yh yl sb)
      obtain ⟨b, hbv⟩ := Tcb
      rw [hbv] at KX
      cases b
      · have o := HB.o (HB.later HX.out hb)
        have HB := lH hb
        clear hb
        go_wp2_with fail
        refine vM (KX.out _) fun w1 b1 => ?_
        have HC := lH (bC HB.out b1)
        clear HB b1
        go_wp2_with fail
        go_roundw
        case rel => exact ⟨.inr (.inr ⟨by go_num, k0, hbv⟩), HC.out⟩
        case measure => simp [intOf]
      · have o := HB.o (HB.later HX.out hb)
        have HB := lH hb
        clear hb
        go_wp2_with fail
        refine vM (KX.out _) fun w1 b1 => ?_
        have HC := lH (bC HB.out b1)
        clear HB b1
        go_wp2_with fail
        exact bodyPost_ret (v := .int .i64 1) (by simp [results, Tryz.results163, go_sem]) rfl ⟨by simp [k0, hbv], HC.out⟩
    · have HB := lH hb
      clear hb
      go_wp2_with fail
      exact bodyPost_ret (v := .int .i64 (-1)) (by simp [results, Tryz.results163, go_sem]) rfl ⟨by simp [k0, k1], HB.out⟩
theorem fm_contains2 (p : Nat) (T : TypeId) (sa sb : Bool) (ca ea xh xl cb eb yh yl : Int) (w : World) (x : HB w p T #[.bool sa, .int .u8 ca, .int .i64 ea, .int .u64 xh, .int .u64 xl, .bool sb, .int .u8 cb, .int .i64 eb, .int .u64 yh, .int .u64 yl]) : Calls Tryz.prog 121 #[.slice (some ⟨p, 0, none⟩) 2 2, .func (.func 122) #[] #[]] w fun e w' => e = .returned (.bool (ca == 3 || cb == 3)) ∧ Below w.heap.size w w' := by
  have K := lH (fm_index2 p T sa sb ca ea xh xl cb eb yh yl w x)
  have HR : decide (0 ≤ (if ca == 3 then 0 else if cb == 3 then 1 else -1 : Int)) = (ca == 3 || cb == 3) := by cases ca == 3 <;> cases cb == 3 <;> rfl
  generalize (if ca == 3 then 0 else if cb == 3 then 1 else -1 : Int) = r at *
  clear x
  go_enter Tryz.func121, Tryz.ntmps121
  go_wp2_with fail
  (with_reducible refine (K.out).mono ?_); rintro e w1 ⟨rfl, hb⟩
  have HB := lH hb
  clear hb
  go_wp2_with fail
  go_ret
  exact ⟨rfl, HB.out⟩
theorem fm_infinite2 (p : Nat) (T : TypeId) (sa sb : Bool) (ca ea xh xl cb eb yh yl : Int) (w : World) (x : HB w p T #[.bool sa, .int .u8 ca, .int .i64 ea, .int .u64 xh, .int .u64 xl, .bool sb, .int .u8 cb, .int .i64 eb, .int .u64 yh, .int .u64 yl]) : Calls Tryz.prog 53 #[.slice (some ⟨p, 0, none⟩) 2 2] w fun e w' => e = .returned (.bool (ca == 3 || cb == 3)) ∧ Below w.heap.size w w' := by
  have hmf : ∀ (fn : Fn) (first cap : Array Value) (w : World), (Instr.makeFunc fn first cap).run Tryz.prog w = .ok (.func fn first cap) w := fun _ _ _ _ => rfl
  have K := lH (fm_contains2 p T sa sb ca ea xh xl cb eb yh yl w x)
  clear x
  go_enter Tryz.func53, Tryz.ntmps53
  go_wp2_with fail
  (with_reducible refine (K.out).mono ?_); rintro e w1 ⟨rfl, hb⟩
  have HB := lH hb
  clear hb
  go_wp2_with fail
  go_ret
  exact ⟨rfl, HB.out⟩
theorem fm_multiplied (ca cb ea eb xh xl yh yl e s0 s1 s2 s3 : Int) (sa sb io : Bool)
    (h0 : Hid (∀ w, Ca 47 #[.agg #[.bool sa, .int .u8 ca, .int .i64 ea, .int .u64 xh, .int .u64 xl], .agg #[.bool sb, .int .u8 cb, .int .i64 eb, .int .u64 yh, .int .u64 yl]] w (.tuple #[.int .i64 e, U4 s0 s1 s2 s3]))) (IN : Hid (∀ w, ∀ p T, HB w p T #[.bool sa, .int .u8 ca, .int .i64 ea, .int .u64 xh, .int .u64 xl, .bool sb, .int .u8 cb, .int .i64 eb, .int .u64 yh, .int .u64 yl] → Ca 53 #[.slice (some ⟨p, 0, none⟩) 2 2] w (.bool io))) (w : World) :
    Ca 51 #[.agg #[.bool sa, .int .u8 ca, .int .i64 ea, .int .u64 xh, .int .u64 xl], .agg #[.bool sb, .int .u8 cb, .int .i64 eb, .int .u64 yh, .int .u64 yl]] w (.agg #[.int .i64 e, .int .u64 s0, .int .u64 s1, .int .u64 s2, .int .u64 s3, .bool ((!(sa == sb))), .bool io]) := by
  simp only [Ca, U4] at *
  go_enter Tryz.func51, Tryz.ntmps51
  go_wp2_with fail
  refine vM (h0.out _) fun w1 b1 => ?_
  have gX2 : w.heap.size ≤ w.heap.size + 1 + 1 := by omega
  have X0 := (((HB.newAt (b := w.heap.size) (by simp) _ _).alloc _).alloc _).later b1
  have X1 := ((HB.newAt (b := w.heap.size + 1) (by simp) _ _).alloc _).later b1
  have X2 := (HB.newAt (b := w.heap.size + 1 + 1) (by simp) _ _).later b1
  go_wp2_with fail
  have nX2_X3 : w.heap.size + 1 + 1 < w1.heap.size := by have := X2.lt; omega
  refine vF1 fun w2 b2 X3 => ?_
  replace X0 := X0.later b2
  replace X1 := X1.later b2
  replace X2 := X2.later b2
  refine vR [w.heap.size + 1 + 1] fun w3 b3 S3 => ?_
  refine vT 0 S3 ?_
  refine vT 1 S3 ?_ (hy := by intro wq hb; have q := (hb.hb X3 (by simp <;> omega)).o; go_simp; try (with_reducible rfl))
  refine vT 2 S3 ?_
  refine vT 3 S3 ?_
  refine vT 4 S3 ?_ (hy := by intro wq hb; have q := (hb.hb X0 (by simp <;> omega)).o; go_simp; try (with_reducible rfl))
  refine vT 5 S3 ?_
  refine vT 6 S3 ?_ (hy := by intro wq hb; have q := (hb.hb X1 (by simp <;> omega)).o; go_simp; try (with_reducible rfl))
  refine vT 7 S3 ?_
  refine vT 8 S3 ?_ (hy := by intro wq hb; have q := (hb.hb X0 (by simp <;> omega)).o; go_simp; try (with_reducible rfl))
  refine vT 9 S3 ?_ (hy := by intro wq hb; have q := (hb.hb X1 (by simp <;> omega)).o; go_simp; try (with_reducible rfl))
  replace X2 := X2.later b3
  refine vY1 (vB (n := 2) 10 S3 (fun _ _ => Off.later) fun w4 pp2_0 hX4 X4 b4 S4 => ?_)
  have nX2_X4 : w.heap.size + 1 + 1 < pp2_0 := by have := X2.lt; omega
  have gX4 : w.heap.size ≤ pp2_0 := by have := (bC (bC (bC (bA (bA (bA bR _) _) _) b1) b2) b3).size; omega
  have jX4 : w2.heap.size ≤ pp2_0 := by have := b3.size; omega
  refine vY1 (vC 11 S4 (IN.out _ _ _ X4) (fun _ _ => Off.later) fun w5 b5 S5 => ?_)
  refine vT 12 S5 ?_
  refine vY1 (vO 13 fun K hK => ?_)
  replace X2 := X2.later (bC b4 b5)
  replace X4 := X4.later b5
  have q := X2.o
  have mX4 : ¬ (pp2_0 = w.heap.size + 1 + 1) := by omega
  go_simp
  refine vW (fun W => HB W (w.heap.size + 1 + 1) 98 #[.int .i64 e, .int .u64 s0, .int .u64 s1, .int .u64 s2, .int .u64 s3, .bool ((!(sa == sb))), .bool io] ∧ HB W pp2_0 55 #[.bool sa, .int .u8 ca, .int .i64 ea, .int .u64 xh, .int .u64 xl, .bool sb, .int .u8 cb, .int .i64 eb, .int .u64 yh, .int .u64 yl] ∧ Below w.heap.size w W ∧ Off [w.heap.size + 1 + 1] w2 W) ⟨(((((((X2.set 0 _).set 1 _).set 2 _).set 3 _).set 4 _).set 5 _).set 6 _), (((((((X4.other mX4 0 _).other mX4 1 _).other mX4 2 _).other mX4 3 _).other mX4 4 _).other mX4 5 _).other mX4 6 _), ((((((((bC (bC (bC (bC (bC (bA (bA (bA bR _) _) _) b1) b2) b3) b4) b5).setCell (p := ⟨w.heap.size + 1 + 1, 0, none⟩) gX2 _).setCell (p := ⟨w.heap.size + 1 + 1, 1, none⟩) gX2 _).setCell (p := ⟨w.heap.size + 1 + 1, 2, none⟩) gX2 _).setCell (p := ⟨w.heap.size + 1 + 1, 3, none⟩) gX2 _).setCell (p := ⟨w.heap.size + 1 + 1, 4, none⟩) gX2 _).setCell (p := ⟨w.heap.size + 1 + 1, 5, none⟩) gX2 _).setCell (p := ⟨w.heap.size + 1 + 1, 6, none⟩) gX2 _), (Off.set (by simp) (Off.set (by simp) (Off.set (by simp) (Off.set (by simp) (Off.set (by simp) (Off.set (by simp) (Off.set (by simp) S5)))))))⟩ (fun w6 hz => ?_)
  clear q mX4 X2 X4
  obtain ⟨X2, X4, kk, hS⟩ := hz
  refine hK.out _ _ hS fun S6 => ?_
  clear hK K hS
  refine vP ?_
  refine vD ?_
  clear S6 S5 b5 w5 jX4 S4 b4 X4 hX4 w4
  revert kk; revert nX2_X4; revert gX4; revert X2; revert pp2_0; revert w6
  refine ?rest3
  rotate_left
  intro w7 pp2_0 X2 gX4 nX2_X4 kk
  have oX2 := X2.o
  go_wp2_with fail
  refine bodyPost_ret (v := .agg #[.int .i64 e, .int .u64 s0, .int .u64 s1, .int .u64 s2, .int .u64 s3, .bool ((!(sa == sb))), .bool io]) ?_ rfl ⟨rfl, kk⟩
  simp [results, Tryz.results51, go_sem, oX2]
theorem fm_opp_a (e s0 s1 s2 s3 kc ec zh zl : Int) (pn sc : Bool)
     (w : World) :
    Ca 52 #[.agg #[.int .i64 e, .int .u64 s0, .int .u64 s1, .int .u64 s2, .int .u64 s3, .bool pn, .bool false], .agg #[.bool sc, .int .u8 kc, .int .i64 ec, .int .u64 zh, .int .u64 zl]] w (.bool false) := by
  simp only [Ca] at *
  go_enter Tryz.func52, Tryz.ntmps52
  go_wp2_with fail
  go_ret
  exact ⟨rfl, (bA (bA bR _) _)⟩
theorem fm_opp_b (e s0 s1 s2 s3 kc ec zh zl : Int) (pn sc : Bool)
     (IN : Hid (∀ w, ∀ p T, HB w p T #[.bool sc, .int .u8 kc, .int .i64 ec, .int .u64 zh, .int .u64 zl] → Ca 53 #[.slice (some ⟨p, 0, none⟩) 1 1] w (.bool false))) (w : World) :
    Ca 52 #[.agg #[.int .i64 e, .int .u64 s0, .int .u64 s1, .int .u64 s2, .int .u64 s3, .bool pn, .bool true], .agg #[.bool sc, .int .u8 kc, .int .i64 ec, .int .u64 zh, .int .u64 zl]] w (.bool false) := by
  simp only [Ca] at *
  go_enter Tryz.func52, Tryz.ntmps52
  go_wp2_with fail
  refine vM (IN.out _ _ _ (HB.newAt (b := w.heap.size + 1 + 1) (by simp) _ _)) fun w1 b1 => ?_
  have X0 := (((HB.newAt (b := w.heap.size) (by simp) _ _).alloc _).alloc _).later b1
  have X1 := ((HB.newAt (b := w.heap.size + 1) (by simp) _ _).alloc _).later b1
  have oX0 := X0.o
  have oX1 := X1.o
  go_wp2_with fail
  go_ret
  exact ⟨rfl, (bC (bA (bA (bA bR _) _) _) b1)⟩
theorem fm_opp_c (e s0 s1 s2 s3 kc ec zh zl : Int) (pn sc : Bool)
     (IN : Hid (∀ w, ∀ p T, HB w p T #[.bool sc, .int .u8 kc, .int .i64 ec, .int .u64 zh, .int .u64 zl] → Ca 53 #[.slice (some ⟨p, 0, none⟩) 1 1] w (.bool true))) (w : World) :
    Ca 52 #[.agg #[.int .i64 e, .int .u64 s0, .int .u64 s1, .int .u64 s2, .int .u64 s3, .bool pn, .bool true], .agg #[.bool sc, .int .u8 kc, .int .i64 ec, .int .u64 zh, .int .u64 zl]] w (.bool ((pn != sc))) := by
  simp only [Ca] at *
  go_enter Tryz.func52, Tryz.ntmps52
  go_wp2_with fail
  refine vM (IN.out _ _ _ (HB.newAt (b := w.heap.size + 1 + 1) (by simp) _ _)) fun w1 b1 => ?_
  have X0 := (((HB.newAt (b := w.heap.size) (by simp) _ _).alloc _).alloc _).later b1
  have X1 := ((HB.newAt (b := w.heap.size + 1) (by simp) _ _).alloc _).later b1
  have oX0 := X0.o
  have oX1 := X1.o
  go_wp2_with fail
  go_ret
  exact ⟨rfl, (bC (bA (bA (bA bR _) _) _) b1)⟩
theorem fm_raised_yes (e s0 s1 s2 s3 d0 d1 d2 d3 : Int) (pn pi : Bool)
    (h0 : Hid (∀ w, Ca 152 #[U4 s0 s1 s2 s3, U4 s0 s1 s2 s3] w (.tuple #[U4 d0 d1 d2 d3, .bool true]))) (w : World) :
    Ca 124 #[.agg #[.int .i64 e, .int .u64 s0, .int .u64 s1, .int .u64 s2, .int .u64 s3, .bool pn, .bool pi]] w (T5 e s0 s1 s2 s3) := by
  simp only [Ca, U4, T5] at *
  go_enter Tryz.func124, Tryz.ntmps124
  go_wp2_with fail
  refine vM (h0.out _) fun w1 b1 => ?_
  have gX1 : w.heap.size ≤ w.heap.size + 1 := by omega
  have X0 := ((HB.newAt (b := w.heap.size) (by simp) _ _).alloc _).later b1
  have X1 := (HB.newAt (b := w.heap.size + 1) (by simp) _ _).later b1
  have oX0 := X0.o
  have oX1 := X1.o
  have mX0_X1 : ¬ (w.heap.size = w.heap.size + 1) := by omega
  have mX1_X0 : ¬ (w.heap.size + 1 = w.heap.size) := by omega
  go_wp2_with fail
  refine bodyPost_ret (v := .agg #[.int .i64 e, .int .u64 s0, .int .u64 s1, .int .u64 s2, .int .u64 s3]) ?_ rfl ⟨rfl, (bA ((((((bC (bA (bA bR _) _) b1).setCell (p := ⟨w.heap.size + 1, 0, none⟩) gX1 _).setCell (p := ⟨w.heap.size + 1, 1, none⟩) gX1 _).setCell (p := ⟨w.heap.size + 1, 2, none⟩) gX1 _).setCell (p := ⟨w.heap.size + 1, 3, none⟩) gX1 _).setCell (p := ⟨w.heap.size + 1, 4, none⟩) gX1 _) _)⟩
  simp [results, Tryz.results124, go_sem, oX1, mX0_X1, mX1_X0]
theorem fm_raised_no (e e1 s0 s1 s2 s3 d0 d1 d2 d3 : Int) (pn pi : Bool)
    (h0 : Hid (∀ w, Ca 152 #[U4 s0 s1 s2 s3, U4 s0 s1 s2 s3] w (.tuple #[U4 d0 d1 d2 d3, .bool false]))) (w1 : IntKind.i64.wrap (e - 1) = e1) (w1x : wrap64 (e - 1) = e1) (w : World) :
    Ca 124 #[.agg #[.int .i64 e, .int .u64 s0, .int .u64 s1, .int .u64 s2, .int .u64 s3, .bool pn, .bool pi]] w (T5 e1 d0 d1 d2 d3) := by
  simp only [Ca, U4, T5] at *
  go_enter Tryz.func124, Tryz.ntmps124
  go_wp2_with fail
  refine vM (h0.out _) fun w1 b1 => ?_
  have gX1 : w.heap.size ≤ w.heap.size + 1 := by omega
  have X0 := ((HB.newAt (b := w.heap.size) (by simp) _ _).alloc _).later b1
  have X1 := (HB.newAt (b := w.heap.size + 1) (by simp) _ _).later b1
  have oX0 := X0.o
  have oX1 := X1.o
  have mX0_X1 : ¬ (w.heap.size = w.heap.size + 1) := by omega
  have mX1_X0 : ¬ (w.heap.size + 1 = w.heap.size) := by omega
  go_wp2_with fail
  refine bodyPost_ret (v := .agg #[.int .i64 e1, .int .u64 d0, .int .u64 d1, .int .u64 d2, .int .u64 d3]) ?_ rfl ⟨rfl, (bA ((((((bC (bA (bA bR _) _) b1).setCell (p := ⟨w.heap.size + 1, 0, none⟩) gX1 _).setCell (p := ⟨w.heap.size + 1, 1, none⟩) gX1 _).setCell (p := ⟨w.heap.size + 1, 2, none⟩) gX1 _).setCell (p := ⟨w.heap.size + 1, 3, none⟩) gX1 _).setCell (p := ⟨w.heap.size + 1, 4, none⟩) gX1 _) _)⟩
  simp [results, Tryz.results124, go_sem, oX1, mX0_X1, mX1_X0]
theorem fm_plus_same (e er em s0 s1 s2 s3 r0 r1 r2 r3 q0 q1 q2 q3 kc ec zh zl : Int) (pn pi sc : Bool)
    (h0 : Hid (∀ w, Ca 124 #[.agg #[.int .i64 e, .int .u64 s0, .int .u64 s1, .int .u64 s2, .int .u64 s3, .bool pn, .bool pi]] w (T5 er r0 r1 r2 r3)))
    (h1 : Hid (∀ w, Ca 125 #[.agg #[.bool sc, .int .u8 kc, .int .i64 ec, .int .u64 zh, .int .u64 zl]] w (T5 ec 0 0 zl zh)))
    (h2 : Hid (∀ w, Ca 123 #[T5 er r0 r1 r2 r3, T5 ec 0 0 zl zh] w (T5 em q0 q1 q2 q3))) (g1 : (pn == sc) = true) (w : World) :
    Ca 54 #[.agg #[.int .i64 e, .int .u64 s0, .int .u64 s1, .int .u64 s2, .int .u64 s3, .bool pn, .bool pi], .agg #[.bool sc, .int .u8 kc, .int .i64 ec, .int .u64 zh, .int .u64 zl]] w (.tuple #[T5 em q0 q1 q2 q3, .bool pn]) := by
  simp only [Ca, T5] at *
  go_enter Tryz.func54, Tryz.ntmps54
  go_wp2_with fail
  have gX2 : w.heap.size ≤ w.heap.size + 1 + 1 := by omega
  refine vF3 fun w1 b1 X0 X1 X2 => ?_
  refine vR [w.heap.size + 1 + 1] fun w2 b2 S2 => ?_
  refine vT 0 S2 ?_ (hy := by intro wq hb; have q := (hb.hb X0 (by simp <;> omega)).o; go_simp; try (with_reducible rfl))
  refine vT 2 S2 ?_ (hy := by intro wq hb; have q := (hb.hb X1 (by simp <;> omega)).o; go_simp; try (with_reducible rfl))
  refine vT 5 S2 ?_
  refine vT 6 S2 ?_ (hy := by intro wq hb; have q := (hb.hb X0 (by simp <;> omega)).o; go_simp; try (with_reducible rfl))
  refine vY1 (vC 1 S2 (h0.out _) (fun _ _ => Off.later) fun w3 b3 S3 => ?_)
  refine vY1 (vC 3 S3 (h1.out _) (fun _ _ => Off.later) fun w4 b4 S4 => ?_)
  refine vY1 (vC 4 S4 (h2.out _) (fun _ _ => Off.later) fun w5 b5 S5 => ?_)
  refine vY1 (vO 7 fun K hK => ?_)
  replace X2 := X2.later (bC (bC (bC b2 b3) b4) b5)
  have oX2 := X2.o
  go_simp
  refine hK.out _ _ (Off.set (by simp) (Off.set (by simp) (Off.set (by simp) (Off.set (by simp) (Off.set (by simp) S5))))) fun S6 => ?_
  clear hK K
  refine vP ?_
  refine vT 8 S6 ?_
  refine vD ?_
  go_wp2_with fail
  refine bodyPost_ret (v := .tuple #[.agg #[.int .i64 em, .int .u64 q0, .int .u64 q1, .int .u64 q2, .int .u64 q3], .bool pn]) ?_ rfl ⟨rfl, ((((((bC (bC (bC (bC b1 b2) b3) b4) b5).setCell (p := ⟨w.heap.size + 1 + 1, 0, none⟩) gX2 _).setCell (p := ⟨w.heap.size + 1 + 1, 1, none⟩) gX2 _).setCell (p := ⟨w.heap.size + 1 + 1, 2, none⟩) gX2 _).setCell (p := ⟨w.heap.size + 1 + 1, 3, none⟩) gX2 _).setCell (p := ⟨w.heap.size + 1 + 1, 4, none⟩) gX2 _)⟩
  simp [results, Tryz.results54, go_sem, oX2]
theorem fm_plus_diff (e er em s0 s1 s2 s3 r0 r1 r2 r3 q0 q1 q2 q3 kc ec zh zl : Int) (pn pi sc tu : Bool)
    (h0 : Hid (∀ w, Ca 124 #[.agg #[.int .i64 e, .int .u64 s0, .int .u64 s1, .int .u64 s2, .int .u64 s3, .bool pn, .bool pi]] w (T5 er r0 r1 r2 r3)))
    (h1 : Hid (∀ w, Ca 125 #[.agg #[.bool sc, .int .u8 kc, .int .i64 ec, .int .u64 zh, .int .u64 zl]] w (T5 ec 0 0 zl zh)))
    (h2 : Hid (∀ w, Ca 126 #[T5 er r0 r1 r2 r3, T5 ec 0 0 zl zh] w (.tuple #[T5 em q0 q1 q2 q3, .bool tu]))) (g1 : (pn == sc) = false) (w : World) :
    Ca 54 #[.agg #[.int .i64 e, .int .u64 s0, .int .u64 s1, .int .u64 s2, .int .u64 s3, .bool pn, .bool pi], .agg #[.bool sc, .int .u8 kc, .int .i64 ec, .int .u64 zh, .int .u64 zl]] w (.tuple #[T5 em q0 q1 q2 q3, .bool ((!(pn == tu)))]) := by
  simp only [Ca, T5] at *
  go_enter Tryz.func54, Tryz.ntmps54
  go_wp2_with fail
  have gX2 : w.heap.size ≤ w.heap.size + 1 + 1 := by omega
  refine vF3 fun w1 b1 X0 X1 X2 => ?_
  refine vR [] fun w2 kz2 S => ?_
  refine vT 0 S ?_ (hy := by intro wq hb; have q := (hb.hb X0 (by simp)).o; go_simp; try (with_reducible rfl))
  refine vT 2 S ?_ (hy := by intro wq hb; have q := (hb.hb X1 (by simp)).o; go_simp; try (with_reducible rfl))
  refine vY2 (cC 1 S (h0.out _) fun w3 b3 => ?_) (cA 8 S fun w4 pp1_0 h X3 b4 => ?_)
  replace kz2 := bC kz2 b3
  clear S b3 w2
  revert kz2; revert w3
  refine ?s2_0; rotate_left
  have jX3 := (lZ kz2.size h); replace kz2 := bC kz2 b4
  clear S b4 h w2
  revert kz2; revert jX3; revert X3; revert pp1_0; revert w4
  refine ?s2_1; rotate_left
  intro w5 kz2
  have S := Off.ofB kz2
  refine vY2 (cC 3 S (h1.out _) fun w6 b6 => ?_) (cA 8 S fun w7 pp1_0 h X3 b7 => ?_)
  replace kz2 := bC kz2 b6
  clear S b6 w5
  revert kz2; revert w6
  refine ?s2_2; rotate_left
  have jX3 := (lZ kz2.size h); replace kz2 := bC kz2 b7
  clear S b7 h w5
  revert kz2; revert jX3; revert X3; revert pp1_0; revert w7
  refine ?s2_3; rotate_left
  intro w8 pp1_0 X3 jX3 kz2
  have S := Off.ofB kz2
  refine vY1 (cC 1 S (h0.out _) fun w9 b9 => ?s2_3 w9 pp1_0 (X3.later b9) jX3 (bC kz2 b9))
  intro w10 kz2
  have S := Off.ofB kz2
  refine vY2 (cC 4 S (h2.out _) fun w11 b11 => ?_) (cA 8 S fun w12 pp1_0 h X3 b12 => ?_)
  replace kz2 := bC kz2 b11
  refine vT 5 (Off.ofB kz2) ?_
  refine vT 6 (Off.ofB kz2) ?_
  refine vT 7 (Off.ofB kz2) ?_
  clear S b11 w10
  revert kz2; revert w11
  refine ?s2_4; rotate_left
  have jX3 := (lZ kz2.size h); replace kz2 := bC kz2 b12
  clear S b12 h w10
  revert kz2; revert jX3; revert X3; revert pp1_0; revert w12
  refine ?s2_5; rotate_left
  intro w13 pp1_0 X3 jX3 kz2
  have S := Off.ofB kz2
  refine vY1 (cC 3 S (h1.out _) fun w14 b14 => ?s2_5 w14 pp1_0 (X3.later b14) jX3 (bC kz2 b14))
  intro w15 kz2
  have S := Off.ofB kz2
  refine vY1 (cA 8 S fun w16 pp1_0 h X3 b16 => ?_)
  have jX3 := (lZ kz2.size h); replace kz2 := bC kz2 b16
  clear S b16 h w15
  revert kz2; revert jX3; revert X3; revert pp1_0; revert w16
  refine ?s2_6; rotate_left
  intro w17 pp1_0 X3 jX3 kz2
  have S := Off.ofB kz2
  refine vY1 (cC 4 S (h2.out _) fun w18 b18 => ?_)
  replace X3 := (X3.later b18); replace kz2 := bC kz2 b18
  refine vT 5 (Off.ofB kz2) ?_
  refine vT 6 (Off.ofB kz2) ?_
  refine vT 7 (Off.ofB kz2) ?_
  clear S b18 w17
  revert kz2; revert jX3; revert X3; revert pp1_0; revert w18
  exact ?s2_6
  intro w19 pp1_0 X3 jX3 kz2
  have S := Off.ofB kz2
  refine vY1 (vO 9 fun K hK => ?_)
  have q := X3.o
  go_simp
  refine vW (fun W => HB W pp1_0 96 #[.int .i64 em, .int .u64 q0, .int .u64 q1, .int .u64 q2, .int .u64 q3] ∧ Below w1.heap.size w1 W) ⟨(((((X3.set 0 _).set 1 _).set 2 _).set 3 _).set 4 _), (((((kz2.setCell (p := ⟨pp1_0, 0, none⟩) jX3 _).setCell (p := ⟨pp1_0, 1, none⟩) jX3 _).setCell (p := ⟨pp1_0, 2, none⟩) jX3 _).setCell (p := ⟨pp1_0, 3, none⟩) jX3 _).setCell (p := ⟨pp1_0, 4, none⟩) jX3 _)⟩ fun w21 hz => ?_
  clear q X3 S kz2 w19; obtain ⟨X3, kz2⟩ := hz
  refine hK.out _ _ (Off.ofB kz2) fun S => ?_; clear hK K S; refine vP ?_
  refine vT 10 (Off.ofB kz2) ?_
  revert kz2; revert jX3; revert X3; revert pp1_0; revert w21
  refine ?s2_7; rotate_left
  intro w22 pp1_0 X3 jX3 kz2
  refine vD ?_
  have nX0_X3 : w.heap.size < pp1_0 := by have := X0.lt; omega
  have nX2_X3 : w.heap.size + 1 + 1 < pp1_0 := by have := X2.lt; omega
  have gX3 : w.heap.size ≤ pp1_0 := by have := b1.size; omega
  go_wp2_with fail
  replace X0 := X0.later kz2
  replace X2 := X2.later kz2
  refine vR [w.heap.size + 1 + 1] fun w23 b23 S23 => ?_
  refine vT 0 S23 ?_ (hy := by intro wq hb; have q := (hb.hb X3 (by simp <;> omega)).o; go_simp; try (with_reducible rfl))
  refine vT 1 S23 ?_
  refine vT 2 S23 ?_ (hy := by intro wq hb; have q := (hb.hb X0 (by simp <;> omega)).o; go_simp; try (with_reducible rfl))
  refine vT 3 S23 ?_
  refine vT 4 S23 ?_
  refine vY1 (vO 5 fun K hK => ?_)
  replace X2 := X2.later b23
  have oX2 := X2.o
  go_simp
  refine hK.out _ _ (Off.set (by simp) (Off.set (by simp) (Off.set (by simp) (Off.set (by simp) (Off.set (by simp) S23))))) fun S24 => ?_
  clear hK K
  refine vP ?_
  refine vT 6 S24 ?_
  refine vD ?_
  go_wp2_with fail
  refine bodyPost_ret (v := .tuple #[.agg #[.int .i64 em, .int .u64 q0, .int .u64 q1, .int .u64 q2, .int .u64 q3], .bool ((!(pn == tu)))]) ?_ rfl ⟨rfl, ((((((bC (bC b1 kz2) b23).setCell (p := ⟨w.heap.size + 1 + 1, 0, none⟩) gX2 _).setCell (p := ⟨w.heap.size + 1 + 1, 1, none⟩) gX2 _).setCell (p := ⟨w.heap.size + 1 + 1, 2, none⟩) gX2 _).setCell (p := ⟨w.heap.size + 1 + 1, 3, none⟩) gX2 _).setCell (p := ⟨w.heap.size + 1 + 1, 4, none⟩) gX2 _)⟩
  simp [results, Tryz.results54, go_sem, oX2]
end Go.Proofs.YtnlmceafleeaiaaGreatDoor
namespace Go.Proofs.YtnlmceafleeaiaaGreatDoor
open Go.RowKit
attribute [local go_sem ↓] Go.wp_at_zero Go.wp_at_succ
theorem fm_Fma_no1 (f m ah al bh bl ch cl : Int) (t : Bool)
    (h0 : Hid (∀ w, FTab w → Ca 20 #[.int .u8 f] w (.bool false))) (w : World) (ft : FTab w) :
    Ca 17 #[.int .u8 f, .agg #[.int .u8 m, .bool t], U2 ah al, U2 bh bl, U2 ch cl] w (.agg #[.int .u64 0, .int .u64 0, .int .u8 0]) := by
  simp only [Ca, U2] at *
  go_enter Tryz.func17, Tryz.ntmps17
  go_wp2_with fail
  refine vM (h0.out _ (ft.later (bA (bA (bA (bA (bA bR _) _) _) _) _))) fun w1 b1 => ?_
  have gX4 : w.heap.size ≤ w.heap.size + 1 + 1 + 1 + 1 := by omega
  have X4 := (HB.newAt (b := w.heap.size + 1 + 1 + 1 + 1) (by simp) _ _).later b1
  have oX4 := X4.o
  go_wp2_with fail
  refine bodyPost_ret (v := .agg #[.int .u64 0, .int .u64 0, .int .u8 0]) ?_ rfl ⟨rfl, ((((bC (bA (bA (bA (bA (bA bR _) _) _) _) _) b1).setCell (p := ⟨w.heap.size + 1 + 1 + 1 + 1, 0, none⟩) gX4 _).setCell (p := ⟨w.heap.size + 1 + 1 + 1 + 1, 1, none⟩) gX4 _).setCell (p := ⟨w.heap.size + 1 + 1 + 1 + 1, 2, none⟩) gX4 _)⟩
  simp [results, Tryz.results17, go_sem, oX4]
theorem fm_Fma_no2 (f m ah al bh bl ch cl : Int) (t : Bool)
    (h0 : Hid (∀ w, FTab w → Ca 20 #[.int .u8 f] w (.bool true)))
    (h1 : Hid (∀ w, Ca 21 #[.int .u8 m] w (.bool false))) (w : World) (ft : FTab w) :
    Ca 17 #[.int .u8 f, .agg #[.int .u8 m, .bool t], U2 ah al, U2 bh bl, U2 ch cl] w (.agg #[.int .u64 0, .int .u64 0, .int .u8 0]) := by
  simp only [Ca, U2] at *
  go_enter Tryz.func17, Tryz.ntmps17
  go_wp2_with fail
  refine vM (h0.out _ (ft.later (bA (bA (bA (bA (bA bR _) _) _) _) _))) fun w1 b1 => ?_
  have gX4 : w.heap.size ≤ w.heap.size + 1 + 1 + 1 + 1 := by omega
  have X0 := (((((HB.newAt (b := w.heap.size) (by simp) _ _).alloc _).alloc _).alloc _).alloc _).later b1
  have X4 := (HB.newAt (b := w.heap.size + 1 + 1 + 1 + 1) (by simp) _ _).later b1
  have oX0 := X0.o
  go_wp2_with fail
  refine vM (h1.out _) fun w2 b2 => ?_
  clear oX0
  replace X4 := X4.later b2
  have oX4 := X4.o
  go_wp2_with fail
  refine bodyPost_ret (v := .agg #[.int .u64 0, .int .u64 0, .int .u8 0]) ?_ rfl ⟨rfl, ((((bC (bC (bA (bA (bA (bA (bA bR _) _) _) _) _) b1) b2).setCell (p := ⟨w.heap.size + 1 + 1 + 1 + 1, 0, none⟩) gX4 _).setCell (p := ⟨w.heap.size + 1 + 1 + 1 + 1, 1, none⟩) gX4 _).setCell (p := ⟨w.heap.size + 1 + 1 + 1 + 1, 2, none⟩) gX4 _)⟩
  simp [results, Tryz.results17, go_sem, oX4]
end Go.Proofs.YtnlmceafleeaiaaGreatDoor
