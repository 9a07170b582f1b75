import Derived.Laws.EntriesVeiled
import Derived.Test.YtnlmceafleeaiaaGreatDoorGwA
import Derived.Test.YtnlmceafleeaiaaGreatDoorGfA
import Derived.Test.YtnlmceafleeaiaaGreatDoorGaB
import Derived.Test.YtnlmceafleeaiaaGreatDoorGhA
import Derived.Test.YtnlmceafleeaiaaGreatDoorGaA
set_option maxHeartbeats 40000000
set_option linter.unusedVariables false
set_option linter.unusedSimpArgs false
set_option maxRecDepth 100000
namespace Go.Proofs.YtnlmceafleeaiaaGreatDoor
open Go.RowKit
attribute [local go_sem ↓] Go.wp_at_zero Go.wp_at_succ
theorem dv_Div_no1 (f m ah al bh bl : Int) (t : Bool)
    (h0 : Hid (∀ w, FTab w → Ca 20 #[.int .u8 f] w (.bool false))) (w : World) (ft : FTab w) :
    Ca 10 #[.int .u8 f, .agg #[.int .u8 m, .bool t], U2 ah al, U2 bh bl] w (.agg #[.int .u64 0, .int .u64 0, .int .u8 0]) := by
  simp only [Ca, U2] at *
  go_enter Tryz.func10, Tryz.ntmps10
  go_wp2_with fail
  refine vM (h0.out _ (ft.later (bA (bA (bA (bA bR _) _) _) _))) fun w1 b1 => ?_
  have gX3 : w.heap.size ≤ w.heap.size + 1 + 1 + 1 := by omega
  have X3 := (HB.newAt (b := w.heap.size + 1 + 1 + 1) (by simp) _ _).later b1
  have oX3 := X3.o
  go_wp2_with fail
  refine bodyPost_ret (v := .agg #[.int .u64 0, .int .u64 0, .int .u8 0]) ?_ rfl ⟨rfl, ((((bC (bA (bA (bA (bA bR _) _) _) _) b1).setCell (p := ⟨w.heap.size + 1 + 1 + 1, 0, none⟩) gX3 _).setCell (p := ⟨w.heap.size + 1 + 1 + 1, 1, none⟩) gX3 _).setCell (p := ⟨w.heap.size + 1 + 1 + 1, 2, none⟩) gX3 _)⟩
  simp [results, Tryz.results10, go_sem, oX3]
theorem dv_Div_no2 (f m ah al bh bl : Int) (t : Bool)
    (h0 : Hid (∀ w, FTab w → Ca 20 #[.int .u8 f] w (.bool true)))
    (h1 : Hid (∀ w, Ca 21 #[.int .u8 m] w (.bool false))) (w : World) (ft : FTab w) :
    Ca 10 #[.int .u8 f, .agg #[.int .u8 m, .bool t], U2 ah al, U2 bh bl] w (.agg #[.int .u64 0, .int .u64 0, .int .u8 0]) := by
  simp only [Ca, U2] at *
  go_enter Tryz.func10, Tryz.ntmps10
  go_wp2_with fail
  refine vM (h0.out _ (ft.later (bA (bA (bA (bA bR _) _) _) _))) fun w1 b1 => ?_
  have gX3 : w.heap.size ≤ w.heap.size + 1 + 1 + 1 := by omega
  have X0 := ((((HB.newAt (b := w.heap.size) (by simp) _ _).alloc _).alloc _).alloc _).later b1
  have X3 := (HB.newAt (b := w.heap.size + 1 + 1 + 1) (by simp) _ _).later b1
  have oX0 := X0.o
  go_wp2_with fail
  refine vM (h1.out _) fun w2 b2 => ?_
  clear oX0
  replace X3 := X3.later b2
  have oX3 := X3.o
  go_wp2_with fail
  refine bodyPost_ret (v := .agg #[.int .u64 0, .int .u64 0, .int .u8 0]) ?_ rfl ⟨rfl, ((((bC (bC (bA (bA (bA (bA bR _) _) _) _) b1) b2).setCell (p := ⟨w.heap.size + 1 + 1 + 1, 0, none⟩) gX3 _).setCell (p := ⟨w.heap.size + 1 + 1 + 1, 1, none⟩) gX3 _).setCell (p := ⟨w.heap.size + 1 + 1 + 1, 2, none⟩) gX3 _)⟩
  simp [results, Tryz.results10, go_sem, oX3]
theorem wl_load {P : Program} {ops : Array Oper} {Q : Exit → Act → World → Prop} {a : Act} {w : World} {rest : List Oper} {o : Oper} {ty t : TypeId} {x : Operand} {p : Nat} {c : Array Value} {d : TypeDesc} (h : HB w p t c) (hg : o.guard = none) (ho : o.op = .load ty x) (hx : a.eval x = .pointer (some ⟨p, 0, none⟩))
    (hu : P.underlying ty = some d) (hd : (match d with | .struct _ | .array _ _ => true | _ => false) = true) (hi : (P.info? ty).map (·.size) = some c.size) (hk : wpList P ops Q rest (a.put o.dst (.agg c)) w) : wpList P ops Q (o :: rest) a w :=
  wpList_plain hg fun K hK => wp_load_row ty x ho p hx t c (0, 0) d h hu hd hi (hK _ _ hk)
theorem dv_specials (w : World) : Calls Tryz.prog 31 #[] w fun e w' => ∃ p : Nat, e = .returned (.slice (some ⟨p, 0, none⟩) 4 4) ∧ HB w' p 64 #[.func (.func 72) #[] #[], .func (.func 73) #[] #[], .func (.func 74) #[] #[], .func (.func 75) #[] #[], .func (.func 76) #[] #[], .func (.func 77) #[] #[], .func (.func 78) #[] #[], .func (.func 79) #[] #[]] ∧ Below w.heap.size w w' := by
  go_enter Tryz.func31, Tryz.ntmps31
  go_wp2_with fail
  go_ret
  exact ⟨_, rfl, HB.newAt (by simp) _ _, (bA bR _)⟩
theorem dv_Div_yes (f m ah al bh bl ca ea xh xl cb eb yh yl rh rl fl : Int) (t sa sb tv0 tv1 tv2 tv3 : Bool)
    (h0 : Hid (∀ w, FTab w → Ca 20 #[.int .u8 f] w (.bool true)))
    (h1 : Hid (∀ w, Ca 21 #[.int .u8 m] w (.bool true)))
    (h2 : Hid (∀ w, FTab w → Ca 30 #[.int .u8 f, U2 ah al] w (.agg #[.bool sa, .int .u8 ca, .int .i64 ea, .int .u64 xh, .int .u64 xl])))
    (h3 : Hid (∀ w, FTab w → Ca 30 #[.int .u8 f, U2 bh bl] w (.agg #[.bool sb, .int .u8 cb, .int .i64 eb, .int .u64 yh, .int .u64 yl])))
    (H0 : Hid (∀ w, FTab w → Ca 72 #[.agg #[.int .u8 f, .int .u8 m, .bool t, .int .u64 ah, .int .u64 al, .int .u64 bh, .int .u64 bl, .bool sa, .int .u8 ca, .int .i64 ea, .int .u64 xh, .int .u64 xl, .bool sb, .int .u8 cb, .int .i64 eb, .int .u64 yh, .int .u64 yl]] w (.bool tv0)))
    (H1 : Hid (∀ w, FTab w → Ca 74 #[.agg #[.int .u8 f, .int .u8 m, .bool t, .int .u64 ah, .int .u64 al, .int .u64 bh, .int .u64 bl, .bool sa, .int .u8 ca, .int .i64 ea, .int .u64 xh, .int .u64 xl, .bool sb, .int .u8 cb, .int .i64 eb, .int .u64 yh, .int .u64 yl]] w (.bool tv1)))
    (H2 : Hid (∀ w, FTab w → Ca 76 #[.agg #[.int .u8 f, .int .u8 m, .bool t, .int .u64 ah, .int .u64 al, .int .u64 bh, .int .u64 bl, .bool sa, .int .u8 ca, .int .i64 ea, .int .u64 xh, .int .u64 xl, .bool sb, .int .u8 cb, .int .i64 eb, .int .u64 yh, .int .u64 yl]] w (.bool tv2)))
    (H3 : Hid (∀ w, FTab w → Ca 78 #[.agg #[.int .u8 f, .int .u8 m, .bool t, .int .u64 ah, .int .u64 al, .int .u64 bh, .int .u64 bl, .bool sa, .int .u8 ca, .int .i64 ea, .int .u64 xh, .int .u64 xl, .bool sb, .int .u8 cb, .int .i64 eb, .int .u64 yh, .int .u64 yl]] w (.bool tv3)))
    (R0 : Hid (tv0 = true → ∀ w, FTab w → Ca 73 #[.agg #[.int .u8 f, .int .u8 m, .bool t, .int .u64 ah, .int .u64 al, .int .u64 bh, .int .u64 bl, .bool sa, .int .u8 ca, .int .i64 ea, .int .u64 xh, .int .u64 xl, .bool sb, .int .u8 cb, .int .i64 eb, .int .u64 yh, .int .u64 yl]] w (.agg #[.int .u64 rh, .int .u64 rl, .int .u8 fl])))
    (R1 : Hid (tv0 = false → tv1 = true → ∀ w, FTab w → Ca 75 #[.agg #[.int .u8 f, .int .u8 m, .bool t, .int .u64 ah, .int .u64 al, .int .u64 bh, .int .u64 bl, .bool sa, .int .u8 ca, .int .i64 ea, .int .u64 xh, .int .u64 xl, .bool sb, .int .u8 cb, .int .i64 eb, .int .u64 yh, .int .u64 yl]] w (.agg #[.int .u64 rh, .int .u64 rl, .int .u8 fl])))
    (R2 : Hid (tv0 = false → tv1 = false → tv2 = true → ∀ w, FTab w → Ca 77 #[.agg #[.int .u8 f, .int .u8 m, .bool t, .int .u64 ah, .int .u64 al, .int .u64 bh, .int .u64 bl, .bool sa, .int .u8 ca, .int .i64 ea, .int .u64 xh, .int .u64 xl, .bool sb, .int .u8 cb, .int .i64 eb, .int .u64 yh, .int .u64 yl]] w (.agg #[.int .u64 rh, .int .u64 rl, .int .u8 fl])))
    (R3 : Hid (tv0 = false → tv1 = false → tv2 = false → tv3 = true → ∀ w, FTab w → Ca 79 #[.agg #[.int .u8 f, .int .u8 m, .bool t, .int .u64 ah, .int .u64 al, .int .u64 bh, .int .u64 bl, .bool sa, .int .u8 ca, .int .i64 ea, .int .u64 xh, .int .u64 xl, .bool sb, .int .u8 cb, .int .i64 eb, .int .u64 yh, .int .u64 yl]] w (.agg #[.int .u64 rh, .int .u64 rl, .int .u8 fl])))
    (R4 : Hid (tv0 = false → tv1 = false → tv2 = false → tv3 = false → ∀ w, FTab w → Ca 32 #[.agg #[.int .u8 f, .int .u8 m, .bool t, .int .u64 ah, .int .u64 al, .int .u64 bh, .int .u64 bl, .bool sa, .int .u8 ca, .int .i64 ea, .int .u64 xh, .int .u64 xl, .bool sb, .int .u8 cb, .int .i64 eb, .int .u64 yh, .int .u64 yl]] w (.agg #[.int .u64 rh, .int .u64 rl, .int .u8 fl]))) (w : World) (ft : FTab w) :
    Ca 10 #[.int .u8 f, .agg #[.int .u8 m, .bool t], U2 ah al, U2 bh bl] w (.agg #[.int .u64 rh, .int .u64 rl, .int .u8 fl]) := by
  simp only [Ca, U2] at *
  go_enter Tryz.func10, Tryz.ntmps10
  go_wp2_with fail
  refine vM (h0.out _ (ft.later (bA (bA (bA (bA bR _) _) _) _))) fun w1 b1 => ?_
  have gX3 : w.heap.size ≤ w.heap.size + 1 + 1 + 1 := by omega
  have X0 := ((((HB.newAt (b := w.heap.size) (by simp) _ _).alloc _).alloc _).alloc _).later b1
  have X1 := (((HB.newAt (b := w.heap.size + 1) (by simp) _ _).alloc _).alloc _).later b1
  have X2 := ((HB.newAt (b := w.heap.size + 1 + 1) (by simp) _ _).alloc _).later b1
  have X3 := (HB.newAt (b := w.heap.size + 1 + 1 + 1) (by simp) _ _).later b1
  have oX0 := X0.o
  go_wp2_with fail
  refine vM (h1.out _) fun w2 b2 => ?_
  clear oX0
  go_wp2_with fail
  replace X0 := X0.later b2
  replace X1 := X1.later b2
  replace X2 := X2.later b2
  refine' (have s3_5 : Hid (_ : Prop) := ?ns3_5; ?ms3_5)
  case' ms3_5 => skip
  refine' (have s3_4 : Hid (_ : Prop) := ?ns3_4; ?ms3_4)
  case' ms3_4 => skip
  refine' (have s3_3 : Hid (_ : Prop) := ?ns3_3; ?ms3_3)
  case' ms3_3 => skip
  refine' (have s3_2 : Hid (_ : Prop) := ?ns3_2; ?ms3_2)
  case' ms3_2 => skip
  refine' (have s3_1 : Hid (_ : Prop) := ?ns3_1; ?ms3_1)
  case' ms3_1 => skip
  refine' (have s3_0 : Hid (_ : Prop) := ?ns3_0; ?ms3_0)
  case' ms3_0 => skip
  refine vR [] fun w3 kz3 S => ?_
  refine uT 0 S ?_
  refine uT 1 S ?_ (hy := by intro wq hb; have q := (hb.hb X0 (by simp)).o; go_simp; try (with_reducible rfl))
  refine uT 2 S ?_ (hy := by intro wq hb; have q := (hb.hb X1 (by simp)).o; go_simp; try (with_reducible rfl))
  refine uT 3 S ?_ (hy := by intro wq hb; have q := (hb.hb X2 (by simp)).o; go_simp; try (with_reducible rfl))
  refine uT 4 S ?_
  refine uT 5 S ?_ (hy := by intro wq hb; have q := (hb.hb X1 (by simp)).o; go_simp; try (with_reducible rfl))
  refine uT 7 S ?_
  refine uT 8 S ?_ (hy := by intro wq hb; have q := (hb.hb X2 (by simp)).o; go_simp; try (with_reducible rfl))
  refine uY2 (cC 6 S (h2.out _ (ft.later (bC (bC (bC (bA (bA (bA (bA bR _) _) _) _) b1) b2) kz3))) fun w4 b4 => ?_) (cA 11 S fun w5 pp2_0 h X4 b5 => ?_)
  replace kz3 := bC kz3 b4
  clear S b4 w3
  revert kz3; revert w4
  exact s3_0.out
  have jX4 := (lZ kz3.size h); replace kz3 := bC kz3 b5
  clear S b5 h w3
  revert kz3; revert jX4; revert X4; revert pp2_0; revert w5
  exact s3_1.out
  case' ns3_0 => refine lH ?_
  intro w6 kz3
  have S := Off.ofB kz3
  refine uY2 (cC 9 S (h3.out _ (ft.later (bC (bC (bC (bA (bA (bA (bA bR _) _) _) _) b1) b2) kz3))) fun w7 b7 => ?_) (cA 11 S fun w8 pp2_0 h X4 b8 => ?_)
  replace kz3 := bC kz3 b7
  refine uT 10 (Off.ofB kz3) ?_
  clear S b7 w6
  revert kz3; revert w7
  exact s3_2.out
  have jX4 := (lZ kz3.size h); replace kz3 := bC kz3 b8
  clear S b8 h w6
  revert kz3; revert jX4; revert X4; revert pp2_0; revert w8
  exact s3_3.out
  case' ns3_1 => refine lH ?_
  intro w9 pp2_0 X4 jX4 kz3
  have S := Off.ofB kz3
  refine uY1 (cC 6 S (h2.out _ (ft.later (bC (bC (bC (bA (bA (bA (bA bR _) _) _) _) b1) b2) kz3))) fun w10 b10 => s3_3.out w10 pp2_0 (X4.later b10) jX4 (bC kz3 b10))
  case' ns3_2 => refine lH ?_
  intro w11 kz3
  have S := Off.ofB kz3
  refine uY1 (cA 11 S fun w12 pp2_0 h X4 b12 => ?_)
  have jX4 := (lZ kz3.size h); replace kz3 := bC kz3 b12
  clear S b12 h w11
  revert kz3; revert jX4; revert X4; revert pp2_0; revert w12
  exact s3_4.out
  case' ns3_3 => refine lH ?_
  intro w13 pp2_0 X4 jX4 kz3
  have S := Off.ofB kz3
  refine uY1 (cC 9 S (h3.out _ (ft.later (bC (bC (bC (bA (bA (bA (bA bR _) _) _) _) b1) b2) kz3))) fun w14 b14 => ?_)
  replace X4 := (X4.later b14); replace kz3 := bC kz3 b14
  refine uT 10 (Off.ofB kz3) ?_
  clear S b14 w13
  revert kz3; revert jX4; revert X4; revert pp2_0; revert w14
  exact s3_4.out
  case' ns3_4 => refine lH ?_
  intro w15 pp2_0 X4 jX4 kz3
  have S := Off.ofB kz3
  refine uY1 (vS 12 kz3 X4 jX4 fun w17 YY kk9 => ?_)
  clear S X4 kz3 w15
  have X4 := YY; have kz3 := kk9; clear YY kk9
  revert kz3; revert jX4; revert X4; revert pp2_0; revert w17
  exact s3_5.out
  case' ns3_5 => refine lH ?_
  intro w18 pp2_0 X4 jX4 kz3
  refine vD ?_
  as_aux_lemma =>
    replace X3 := X3.later b2
    have nX3_X4 : w.heap.size + 1 + 1 + 1 < pp2_0 := by have := X3.lt; omega
    have gX4 : w.heap.size ≤ pp2_0 := by have := (bC (bC (bA (bA (bA (bA bR _) _) _) _) b1) b2).size; omega
    go_wp2_with fail
    refine vE (dv_specials _) fun ps w19 nps b19 => ?_
    replace X4 := X4.later b19
    replace X3 := X3.later (bC kz3 b19)
    have i1 : IntKind.i64.wrap (0 + 1) = 1 := by decide +kernel
    have i2 : IntKind.i64.wrap (1 + 1) = 2 := by decide +kernel
    have i3 : IntKind.i64.wrap (2 + 1) = 3 := by decide +kernel
    have i4 : IntKind.i64.wrap (3 + 1) = 4 := by decide +kernel
    have gR : w.heap.size ≤ w.heap.size + 1 + 1 + 1 := by omega
    have FT := lH ft
    clear ft
    go_wp2_with fail
    go_loopw [35] (fun iv wr => (iv = .int .i64 0 ∨ (iv = .int .i64 1 ∧ tv0 = false) ∨ (iv = .int .i64 2 ∧ tv0 = false ∧ tv1 = false) ∨ (iv = .int .i64 3 ∧ tv0 = false ∧ tv1 = false ∧ tv2 = false) ∨ (iv = .int .i64 4 ∧ tv0 = false ∧ tv1 = false ∧ tv2 = false ∧ tv3 = false)) ∧ HB wr pp2_0 58 #[.int .u8 f, .int .u8 m, .bool t, .int .u64 ah, .int .u64 al, .int .u64 bh, .int .u64 bl, .bool sa, .int .u8 ca, .int .i64 ea, .int .u64 xh, .int .u64 xl, .bool sb, .int .u8 cb, .int .i64 eb, .int .u64 yh, .int .u64 yl] ∧ HB wr (w.heap.size + 1 + 1 + 1) 31 #[.int .u64 0, .int .u64 0, .int .u8 0] ∧ HB wr ps 64 #[.func (.func 72) #[] #[], .func (.func 73) #[] #[], .func (.func 74) #[] #[], .func (.func 75) #[] #[], .func (.func 76) #[] #[], .func (.func 77) #[] #[], .func (.func 78) #[] #[], .func (.func 79) #[] #[]] ∧ Below w.heap.size w wr) (fun iv _ => 5 - (intOf iv).toNat)
    case atStart => exact ⟨.inl rfl, X4, X3, nps, (bC (bC (bC (bC (bA (bA (bA (bA bR _) _) _) _) b1) b2) kz3) b19)⟩
    case round =>
      clear X4 X3 nps
      obtain ⟨hi, XD, XR, XS, kl⟩ := hrel
      rcases hi with rfl | ⟨rfl, k0⟩ | ⟨rfl, k0, k1⟩ | ⟨rfl, k0, k1, k2⟩ | ⟨rfl, k0, k1, k2, k3⟩
      · as_aux_lemma =>
          obtain ⟨bv, hbv⟩ : ∃ bv, tv0 = bv := ⟨_, rfl⟩
          have KX := H0
          rw [hbv] at KX
          have oS := XS.o
          go_wp2_with (refine wl_load (ty := 58) (x := .tmp 9) (XD.alloc _) rfl rfl rfl Tryz.underlying58 rfl (by kernel_rfl) ?_)
          refine vM (KX.out _ (FT.out.later (bA kl _))) fun w1 b1 => ?_
          clear oS KX
          have XE := (HB.newAt (b := wr.heap.size) (by simp) _ _).later b1
          have kb := bC (bA bR _) b1
          cases bv
          · have KY := lH (And.intro (XD.later kb) (And.intro (XR.later kb) (And.intro (XS.later kb) (bC kl kb))))
            clear XD XR XS kl kb b1 XE
            go_wp2_with fail
            go_roundw
            case rel => exact ⟨.inr (.inl ⟨by go_num, hbv⟩), KY.out.1, KY.out.2.1, KY.out.2.2.1, KY.out.2.2.2⟩
            case measure => simp [intOf]
          · have oE := XE.o
            go_wp2_with (refine wl_load (ty := 58) (x := .tmp 9) (XD.later kb) rfl rfl rfl Tryz.underlying58 rfl (by kernel_rfl) ?_)
            refine vM (R0.out  hbv _ (FT.out.later (bC kl kb))) fun w2 b2 => ?_
            clear oE
            have oR := (XR.later (bC kb b2)).o
            have kz := bC kl (bC kb b2)
            clear XD XR XS XE kl kb b1 b2
            go_wp2_with fail
            exact bodyPost_ret (v := .agg #[.int .u64 rh, .int .u64 rl, .int .u8 fl]) (by simp [results, Tryz.results10, go_sem, oR]) rfl ⟨rfl, ((kz.setCell (p := ⟨w.heap.size + 1 + 1 + 1, 0, none⟩) gR _).setCell (p := ⟨w.heap.size + 1 + 1 + 1, 1, none⟩) gR _).setCell (p := ⟨w.heap.size + 1 + 1 + 1, 2, none⟩) gR _⟩
      · as_aux_lemma =>
          obtain ⟨bv, hbv⟩ : ∃ bv, tv1 = bv := ⟨_, rfl⟩
          have KX := H1
          rw [hbv] at KX
          have oS := XS.o
          go_wp2_with (refine wl_load (ty := 58) (x := .tmp 9) (XD.alloc _) rfl rfl rfl Tryz.underlying58 rfl (by kernel_rfl) ?_)
          refine vM (KX.out _ (FT.out.later (bA kl _))) fun w1 b1 => ?_
          clear oS KX
          have XE := (HB.newAt (b := wr.heap.size) (by simp) _ _).later b1
          have kb := bC (bA bR _) b1
          cases bv
          · have KY := lH (And.intro (XD.later kb) (And.intro (XR.later kb) (And.intro (XS.later kb) (bC kl kb))))
            clear XD XR XS kl kb b1 XE
            go_wp2_with fail
            go_roundw
            case rel => exact ⟨.inr (.inr (.inl ⟨by go_num, k0, hbv⟩)), KY.out.1, KY.out.2.1, KY.out.2.2.1, KY.out.2.2.2⟩
            case measure => simp [intOf]
          · have oE := XE.o
            go_wp2_with (refine wl_load (ty := 58) (x := .tmp 9) (XD.later kb) rfl rfl rfl Tryz.underlying58 rfl (by kernel_rfl) ?_)
            refine vM (R1.out k0 hbv _ (FT.out.later (bC kl kb))) fun w2 b2 => ?_
            clear oE
            have oR := (XR.later (bC kb b2)).o
            have kz := bC kl (bC kb b2)
            clear XD XR XS XE kl kb b1 b2
            go_wp2_with fail
            exact bodyPost_ret (v := .agg #[.int .u64 rh, .int .u64 rl, .int .u8 fl]) (by simp [results, Tryz.results10, go_sem, oR]) rfl ⟨rfl, ((kz.setCell (p := ⟨w.heap.size + 1 + 1 + 1, 0, none⟩) gR _).setCell (p := ⟨w.heap.size + 1 + 1 + 1, 1, none⟩) gR _).setCell (p := ⟨w.heap.size + 1 + 1 + 1, 2, none⟩) gR _⟩
      · as_aux_lemma =>
          obtain ⟨bv, hbv⟩ : ∃ bv, tv2 = bv := ⟨_, rfl⟩
          have KX := H2
          rw [hbv] at KX
          have oS := XS.o
          go_wp2_with (refine wl_load (ty := 58) (x := .tmp 9) (XD.alloc _) rfl rfl rfl Tryz.underlying58 rfl (by kernel_rfl) ?_)
          refine vM (KX.out _ (FT.out.later (bA kl _))) fun w1 b1 => ?_
          clear oS KX
          have XE := (HB.newAt (b := wr.heap.size) (by simp) _ _).later b1
          have kb := bC (bA bR _) b1
          cases bv
          · have KY := lH (And.intro (XD.later kb) (And.intro (XR.later kb) (And.intro (XS.later kb) (bC kl kb))))
            clear XD XR XS kl kb b1 XE
            go_wp2_with fail
            go_roundw
            case rel => exact ⟨.inr (.inr (.inr (.inl ⟨by go_num, k0, k1, hbv⟩))), KY.out.1, KY.out.2.1, KY.out.2.2.1, KY.out.2.2.2⟩
            case measure => simp [intOf]
          · have oE := XE.o
            go_wp2_with (refine wl_load (ty := 58) (x := .tmp 9) (XD.later kb) rfl rfl rfl Tryz.underlying58 rfl (by kernel_rfl) ?_)
            refine vM (R2.out k0 k1 hbv _ (FT.out.later (bC kl kb))) fun w2 b2 => ?_
            clear oE
            have oR := (XR.later (bC kb b2)).o
            have kz := bC kl (bC kb b2)
            clear XD XR XS XE kl kb b1 b2
            go_wp2_with fail
            exact bodyPost_ret (v := .agg #[.int .u64 rh, .int .u64 rl, .int .u8 fl]) (by simp [results, Tryz.results10, go_sem, oR]) rfl ⟨rfl, ((kz.setCell (p := ⟨w.heap.size + 1 + 1 + 1, 0, none⟩) gR _).setCell (p := ⟨w.heap.size + 1 + 1 + 1, 1, none⟩) gR _).setCell (p := ⟨w.heap.size + 1 + 1 + 1, 2, none⟩) gR _⟩
      · as_aux_lemma =>
          obtain ⟨bv, hbv⟩ : ∃ bv, tv3 = bv := ⟨_, rfl⟩
          have KX := H3
          rw [hbv] at KX
          have oS := XS.o
          go_wp2_with (refine wl_load (ty := 58) (x := .tmp 9) (XD.alloc _) rfl rfl rfl Tryz.underlying58 rfl (by kernel_rfl) ?_)
          refine vM (KX.out _ (FT.out.later (bA kl _))) fun w1 b1 => ?_
          clear oS KX
          have XE := (HB.newAt (b := wr.heap.size) (by simp) _ _).later b1
          have kb := bC (bA bR _) b1
          cases bv
          · have KY := lH (And.intro (XD.later kb) (And.intro (XR.later kb) (And.intro (XS.later kb) (bC kl kb))))
            clear XD XR XS kl kb b1 XE
            go_wp2_with fail
            go_roundw
            case rel => exact ⟨.inr (.inr (.inr (.inr (⟨by go_num, k0, k1, k2, hbv⟩)))), KY.out.1, KY.out.2.1, KY.out.2.2.1, KY.out.2.2.2⟩
            case measure => simp [intOf]
          · have oE := XE.o
            go_wp2_with (refine wl_load (ty := 58) (x := .tmp 9) (XD.later kb) rfl rfl rfl Tryz.underlying58 rfl (by kernel_rfl) ?_)
            refine vM (R3.out k0 k1 k2 hbv _ (FT.out.later (bC kl kb))) fun w2 b2 => ?_
            clear oE
            have oR := (XR.later (bC kb b2)).o
            have kz := bC kl (bC kb b2)
            clear XD XR XS XE kl kb b1 b2
            go_wp2_with fail
            exact bodyPost_ret (v := .agg #[.int .u64 rh, .int .u64 rl, .int .u8 fl]) (by simp [results, Tryz.results10, go_sem, oR]) rfl ⟨rfl, ((kz.setCell (p := ⟨w.heap.size + 1 + 1 + 1, 0, none⟩) gR _).setCell (p := ⟨w.heap.size + 1 + 1 + 1, 1, none⟩) gR _).setCell (p := ⟨w.heap.size + 1 + 1 + 1, 2, none⟩) gR _⟩
      · as_aux_lemma =>
          go_wp2_with (refine wl_load (ty := 58) (x := .tmp 9) (XD) rfl rfl rfl Tryz.underlying58 rfl (by kernel_rfl) ?_)
          refine vM (R4.out k0 k1 k2 k3 _ (FT.out.later kl)) fun w1 b1 => ?_
          have oR := (XR.later b1).o
          have kz := bC kl b1
          clear XD XR XS kl b1
          go_wp2_with fail
          exact bodyPost_ret (v := .agg #[.int .u64 rh, .int .u64 rl, .int .u8 fl]) (by simp [results, Tryz.results10, go_sem, oR]) rfl ⟨rfl, ((kz.setCell (p := ⟨w.heap.size + 1 + 1 + 1, 0, none⟩) gR _).setCell (p := ⟨w.heap.size + 1 + 1 + 1, 1, none⟩) gR _).setCell (p := ⟨w.heap.size + 1 + 1 + 1, 2, none⟩) gR _⟩
end Go.Proofs.YtnlmceafleeaiaaGreatDoor
