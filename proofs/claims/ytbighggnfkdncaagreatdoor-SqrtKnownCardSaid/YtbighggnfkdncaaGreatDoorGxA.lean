import Derived.Test.YtbighggnfkdncaaGreatDoorGxB
import Derived.Test.YtbighggnfkdncaaGreatDoorGtC
import Derived.Test.YtbighggnfkdncaaGreatDoorGeB
set_option maxHeartbeats 4000000
set_option linter.unusedVariables false
set_option maxRecDepth 100000
namespace Go.Proofs.YtbighggnfkdncaaGreatDoor
open Go.RowKit Go.Maps
def SpM (k : TypeId) (W : World) (b n : Nat) (D : DataW Value) : Prop := W.ownsMap Tryz.prog k heldE b n D
theorem SpM.later {k : TypeId} {W V : World} {b n : Nat} {D : DataW Value} (h : SpM k W b n D) (hb : Below W.heap.size W V) : SpM k V b n D :=
  World.ownsMap.kept (row := none) h ⟨hb.os, hb.tape, hb.output, hb.size, fun k hk _ => hb.block k hk⟩ (by simp)
theorem cK {P : Program} {ops : Array Oper} {Q : Exit → Act → World → Prop} {md : Region.Mode} {fuel : Nat} {listed : Array Bool} {a a' : Act} {w : World} {oi : Oper} {v : Value} {ps : List Nat} {W1 : World} (i : Nat) {t : TypeId} {m k : Value} {ok : Bool} {x y : Operand} (hS : Off ps W1 w) (c : (Instr.lookup t m k ok).run P w = .ok v w)
    (h : ∀ w', Below w.heap.size w w' → wpAnyH P md ops Q (Off ps W1) fuel (listed.setIfInBounds i true) a' w') (hi : ops[i]? = some oi := by rfl) (ho : oi.op = .lookup t x y ok := by rfl) (hx : a.eval x = m := by rfl) (hk : a.eval y = k := by rfl) (hw : Region.wanted oi (yielded ops a.tmps) = true := by rfl)
    (ha : a.put oi.dst v = a' := by (simp only [List.getElem_toArray, List.getElem_cons_zero, List.getElem_cons_succ, Act.put, List.setIfInBounds_toArray, List.set_cons_zero, List.set_cons_succ] <;> exact rfl)) : Stp P md ops Q (Off ps W1) fuel listed a w i := by
  subst ha
  refine vO i (fun K hK' => ?_) hi hw
  have hr : (execOp a.eval oi).run P w = .ok (.value v) w := by
    unfold execOp
    rw [ho]
    simp only [hx, hk, Sem.run_bind, c, Result.andThen, Sem.run_pure]
  unfold Oper.wp
  rw [hr]
  simp only [Oper.upon]
  exact hK'.out _ _ hS fun _ => h w bR
theorem wpList_put_own {P : Program} (w : World) {ops : Array Oper} {rest : List Oper} {o : Oper} {a : Act} {Q : Exit → Act → World → Prop}
    (hg : o.guard = none) (m x v : Operand) (t : TypeId) (hop : o.op = Op.insert t m x v ∨ o.op = Op.mapUpdate t m x v)
    (k e : TypeId) (K : Keyed P k) (ht : P.underlying t = some (.map k e)) (b n : Nat) (D : DataW Value)
    (hm : a.eval m = .map (some b)) (hown : w.ownsMap P k heldE b n D) (hn : n < maxLen) (key val : Value) (kl : Lit) (hx : a.eval x = key) (hv : a.eval v = val) (hkey : keyOf P k key = some kl)
    (hK : ∀ w', w'.ownsMap P k heldE b (n + 1) (D.put kl (.held val)) → w.grownBy w' (some b) → wpList P ops Q rest (a.put o.dst undef) w') :
    wpList P ops Q (o :: rest) a w := by
  refine wpList_plain hg fun K' hK' => ?_
  obtain ⟨w', hrun, r1, r2⟩ := hown.update K ht hn hkey (val := val) (d := .held val) (ps := []) rfl
  unfold Oper.wp
  rcases hop with hop | hop
  all_goals
    simp [execOp, hop, hm, hx, hv, hrun, Result.andThen]
    exact hK' _ _ (hK w' r1 r2)
end Go.Proofs.YtbighggnfkdncaaGreatDoor
set_option linter.unusedSimpArgs false
namespace Go.Proofs.YtbighggnfkdncaaGreatDoor
open Go.RowKit Go.Maps
attribute [local go_sem ↓] Go.wp_at_zero Go.wp_at_succ
noncomputable def spD (z p : Value) : DataW Value := ((((DataW.map []).put (.int .u8 0) (.held z)).put (.int .u8 3) (.held z)).put (.int .u8 4) (.held p)).put (.int .u8 5) (.held p)
noncomputable def spN (z p i : Value) : DataW Value := (((spD z p).put (.int .u8 1) (.held i)).put (.int .u8 2) (.held i)).put (.int .u8 3) (.held i)
theorem classKey : Keyed Tryz.prog 36 := int_keyed Tryz.underlying36
theorem classKeyOf {c : Int} (h0 : 0 ≤ c) (h1 : c ≤ 255) : keyOf Tryz.prog 36 (.int .u8 c) = some (.int .u8 c) := keyOf_int_mk Tryz.underlying36 (WalkArith.wf_u8 ⟨h0, h1⟩)
abbrev R0 : Value := .agg #[.int .u64 0, .int .u64 0, .int .u8 0]
theorem resZero (w : World) : (zeroValue 31).run Tryz.prog w = .ok R0 w := by kernel_rfl
theorem sp_look {w : World} {b n : Nat} {D : DataW Value} (h : SpM 36 w b n D) {c : Int} (c0 : 0 ≤ c) (c1 : c ≤ 255) {v : Value} (hv : D.atKey (.int .u8 c) (.held R0) = .held v) {k : Bool} (hk : Maps.has D (.int .u8 c) = k) :
    (Instr.lookup 57 (.map (some b)) (.int .u8 c) true).run Tryz.prog w = .ok (.tuple #[v, .bool k]) w := by
  obtain ⟨x, ps, hrun, hx⟩ := World.ownsMap.look_ok h classKey Tryz.underlying57 (resZero w) (zd := .held R0) (zp := []) rfl (classKeyOf c0 c1)
  rw [hv] at hx
  have e : x = v := by
    have := congrArg (fun o => o.map Prod.fst) hx
    simpa [heldE] using this
  rw [hrun, e, hk]
theorem sp_z (z p : Value) {c : Int} (h : c = 0 ∨ c = 3) : (spD z p).atKey (.int .u8 c) (.held R0) = .held z ∧ Maps.has (spD z p) (.int .u8 c) = true := by
  rcases h with rfl | rfl <;> exact ⟨rfl, rfl⟩
theorem sp_p (z p : Value) {c : Int} (h : c = 4 ∨ c = 5) : (spD z p).atKey (.int .u8 c) (.held R0) = .held p ∧ Maps.has (spD z p) (.int .u8 c) = true := by
  rcases h with rfl | rfl <;> exact ⟨rfl, rfl⟩
theorem sp_no (z p : Value) {c : Int} (h : c = 1 ∨ c = 2) : (spD z p).atKey (.int .u8 c) (.held R0) = .held R0 ∧ Maps.has (spD z p) (.int .u8 c) = false := by
  rcases h with rfl | rfl <;> exact ⟨rfl, rfl⟩
theorem spn_z (z p i : Value) : (spN z p i).atKey (.int .u8 0) (.held R0) = .held z ∧ Maps.has (spN z p i) (.int .u8 0) = true := ⟨rfl, rfl⟩
theorem spn_p (z p i : Value) {c : Int} (h : c = 4 ∨ c = 5) : (spN z p i).atKey (.int .u8 c) (.held R0) = .held p ∧ Maps.has (spN z p i) (.int .u8 c) = true := by
  rcases h with rfl | rfl <;> exact ⟨rfl, rfl⟩
theorem spn_i (z p i : Value) {c : Int} (h : c = 1 ∨ c = 2 ∨ c = 3) : (spN z p i).atKey (.int .u8 c) (.held R0) = .held i ∧ Maps.has (spN z p i) (.int .u8 c) = true := by
  rcases h with rfl | rfl | rfl <;> exact ⟨rfl, rfl⟩
theorem sq_special (f : Int) (ah al zh zl ph pl pf ih il ic : Int) (ng pk ik : Bool)
    (CU : Hid (∀ w, FTab w → Ca 30 #[.int .u8 f, U2 ah al] w (U2 zh zl)))
    (PK : Hid (∀ w, FTab w → ∀ p T, HB w p T #[.int .u64 ah, .int .u64 al] → Ca 51 #[.int .u8 f, .bool false, .slice (some ⟨p, 0, none⟩) 1 1] w (.tuple #[.agg #[.int .u64 ph, .int .u64 pl, .int .u8 pf], .bool pk])))
    (PI : Hid (∀ w, FTab w → ∀ p T, HB w p T #[.int .u64 ah, .int .u64 al] → Ca 51 #[.int .u8 f, .bool true, .slice (some ⟨p, 0, none⟩) 1 1] w (.tuple #[.agg #[.int .u64 ih, .int .u64 il, .int .u8 ic], .bool ik])))
    (D : DataW Value) (n : Nat) (HD : (ng = false ∧ n = 4 ∧ D = spD (.agg #[.int .u64 zh, .int .u64 zl, .int .u8 0]) (.agg #[.int .u64 ph, .int .u64 pl, .int .u8 pf])) ∨ (ng = true ∧ n = 7 ∧ D = spN (.agg #[.int .u64 zh, .int .u64 zl, .int .u8 0]) (.agg #[.int .u64 ph, .int .u64 pl, .int .u8 pf]) (.agg #[.int .u64 ih, .int .u64 il, .int .u8 ic])))
    (w : World) (ft : FTab w) : Calls Tryz.prog 33 #[.int .u8 f, U2 ah al, .bool ng] w fun e w' => ∃ b : Nat, e = .returned (.map (some b)) ∧ SpM 36 w' b n D ∧ Below w.heap.size w w' := by
  simp only [Ca, U2] at *
  have hmm := @run_makeMap Tryz.prog
  go_enter Tryz.func33, Tryz.ntmps33
  go_wp2_with fail
  refine vM (CU.out _ (ft.later (bA bR _))) fun w1 b1 => ?_
  have X4 := (HB.newAt (b := w.heap.size) (by simp) _ _).later b1
  have kl := bC (bA bR _) b1
  clear b1
  have o4 := X4.o
  go_wp2_with fail
  refine vM (PK.out _ (ft.later (bA (bA kl _) _)) _ _ (HB.newAt (by simp) _ _)) fun w2 b2 => ?_
  have X7 := ((HB.newAt (b := w1.heap.size) (by simp) _ _).alloc _).later b2
  have n4 : w.heap.size < w1.heap.size := o4.2.2
  replace X4 := ((X4.alloc _).alloc _).later b2
  replace kl := bC (bA (bA kl _) _) b2
  clear b2 o4
  have l7 := X7.lt
  have X8 := (HB.new w2 31 #[.int .u64 ph, .int .u64 pl, .int .u8 pf]).alloc (.map #[] 0)
  replace X7 := (X7.alloc (.cells #[.int .u64 ph, .int .u64 pl, .int .u8 pf] 31)).alloc (.map #[] 0)
  replace X4 := (X4.alloc (.cells #[.int .u64 ph, .int .u64 pl, .int .u8 pf] 31)).alloc (.map #[] 0)
  replace kl := bA (bA kl (.cells #[.int .u64 ph, .int .u64 pl, .int .u8 pf] 31)) (.map #[] 0)
  have hown : ((w2.alloc (.cells #[.int .u64 ph, .int .u64 pl, .int .u8 pf] 31)).alloc (.map #[] 0)).ownsMap Tryz.prog 36 heldE (w2.heap.size + 1) 0 (.map []) := by
    have h := World.ownsMap_made (w2.alloc (.cells #[.int .u64 ph, .int .u64 pl, .int .u8 pf] 31)) Tryz.prog 36 heldE
    simpa using h
  have o7 := X7.o
  have o8 := X8.o
  have o4 := X4.o
  rcases HD with ⟨rfl, rfl, rfl⟩ | ⟨rfl, rfl, rfl⟩
  · go_wp2_with (refine wpList_put_own _ rfl _ _ _ 57 (.inl rfl) 36 31 classKey Tryz.underlying57 _ _ _ rfl (by assumption) (by decide) _ _ _ rfl rfl (classKeyOf (by decide) (by decide)) ?_; intro wn hown hgr; replace kl := kl.grown hgr kl.size (fun j hj => by cases hj; omega); replace X7 := X7.kept hgr (by simp; omega); replace X8 := X8.kept hgr (by simp); replace X4 := X4.kept hgr (by simp; omega); clear o7 o8 o4; have o7 := X7.o; have o8 := X8.o; have o4 := X4.o)
    go_ret
    exact ⟨_, rfl, hown, kl⟩
  · go_wp2_with (refine wpList_put_own _ rfl _ _ _ 57 (.inl rfl) 36 31 classKey Tryz.underlying57 _ _ _ rfl (by assumption) (by decide) _ _ _ rfl rfl (classKeyOf (by decide) (by decide)) ?_; intro wn hown hgr; replace kl := kl.grown hgr kl.size (fun j hj => by cases hj; omega); replace X7 := X7.kept hgr (by simp; omega); replace X8 := X8.kept hgr (by simp); replace X4 := X4.kept hgr (by simp; omega); clear o7 o8 o4; have o7 := X7.o; have o8 := X8.o; have o4 := X4.o)
    clear o7 o8 o4
    refine vM (PI.out _ (ft.later (bA kl _)) _ _ (HB.new _ _ _)) fun w3 b3 => ?_
    have hm : SpM 36 w3 (w2.heap.size + 1) 4 _ := SpM.later (World.ownsMap.alloc hown _) b3
    replace kl := bA (bC (bA kl _) b3) (.cells #[.int .u64 ih, .int .u64 il, .int .u8 ic] 31)
    clear b3 hown hgr
    have lm := World.ownsMap.lt hm
    have X11 := HB.new w3 31 #[.int .u64 ih, .int .u64 il, .int .u8 ic]
    have hown := World.ownsMap.alloc hm (.cells #[.int .u64 ih, .int .u64 il, .int .u8 ic] 31)
    have o7 := X11.o
    go_wp2_with (refine wpList_put_own _ rfl _ _ _ 57 (.inr rfl) 36 31 classKey Tryz.underlying57 _ _ _ rfl (by assumption) (by decide) _ _ _ rfl rfl (classKeyOf (by decide) (by decide)) ?_; intro wn hown hgr; replace kl := kl.grown hgr kl.size (fun j hj => by cases hj; omega); replace X11 := X11.kept hgr (by simp; omega); clear o7; have o7 := X11.o)
    go_ret
    exact ⟨_, rfl, hown, kl⟩
end Go.Proofs.YtbighggnfkdncaaGreatDoor
namespace Go.Proofs.YtbighggnfkdncaaGreatDoor
open Go.RowKit Go.Maps
attribute [local go_sem ↓] Go.wp_at_zero Go.wp_at_succ
theorem sq_rounded_exact (f m ca ea xh xl j0 j1 j2 j3 q0 q1 q2 q3 s0 s1 s2 s3 rh rl ph pl pf k1 k2 k3 : Int) (t sa : Bool)
    (h0 : Hid (∀ w, Ca 81 #[U2 xh xl, U2 0 0] w (U4 j0 j1 j2 j3)))
    (h1 : Hid (∀ w, Ca 80 #[U4 j0 j1 j2 j3, .int .i64 k2] w (U4 q0 q1 q2 q3)))
    (h2 : Hid (∀ w, Ca 82 #[U4 q0 q1 q2 q3] w (.tuple #[U2 rh rl, .bool true])))
    (h3 : Hid (∀ w, Ca 81 #[U2 rh rl, U2 0 0] w (U4 s0 s1 s2 s3)))
    (h4 : Hid (∀ w, FTab w → Ca 57 #[.int .u8 f, .agg #[.int .u8 m, .bool t], .bool false, .int .i64 k3, U4 s0 s1 s2 s3] w (.agg #[.int .u64 ph, .int .u64 pl, .int .u8 pf]))) (w1 : bits .and .i64 ea 1 = k1) (w2 : IntKind.i64.wrap (1 - k1) = k2) (w2x : wrap64 (1 - k1) = k2) (w3 : ea / 2 = k3) (w : World) (ft : FTab w) :
    Ca 34 #[.int .u8 f, .agg #[.int .u8 m, .bool t], .agg #[.bool sa, .int .u8 ca, .int .i64 ea, .int .u64 xh, .int .u64 xl]] w (.agg #[.int .u64 ph, .int .u64 pl, .int .u8 pf]) := by
  simp only [Ca, U2, U4] at *
  go_enter Tryz.func34, Tryz.ntmps34
  go_wp2_with fail
  have gX2 : w.heap.size ≤ w.heap.size + 1 + 1 := by omega
  refine vF3 fun w1 b1 X0 X1 X2 => ?_
  refine' (have s2_5 : Hid (_ : Prop) := ?ns2_5; ?ms2_5)
  case' ms2_5 => skip
  refine' (have s2_4 : Hid (_ : Prop) := ?ns2_4; ?ms2_4)
  case' ms2_4 => skip
  refine' (have s2_3 : Hid (_ : Prop) := ?ns2_3; ?ms2_3)
  case' ms2_3 => skip
  refine' (have s2_2 : Hid (_ : Prop) := ?ns2_2; ?ms2_2)
  case' ms2_2 => skip
  refine' (have s2_1 : Hid (_ : Prop) := ?ns2_1; ?ms2_1)
  case' ms2_1 => skip
  refine' (have s2_0 : Hid (_ : Prop) := ?ns2_0; ?ms2_0)
  case' ms2_0 => skip
  refine vR [] fun w2 kz2 S => ?_
  refine vT 0 S ?_
  refine vT 1 S ?_ (hy := by intro wq hb; have q := (hb.hb X1 (by simp)).o; go_simp; try (with_reducible rfl))
  refine vT 2 S ?_
  refine vT 4 S ?_
  refine vT 5 S ?_ (hy := by intro wq hb; have q := (hb.hb X1 (by simp)).o; go_simp; try (with_reducible rfl))
  refine vT 6 S ?_
  refine vT 7 S ?_
  refine vY2 (cC 3 S (h0.out _) fun w3 b3 => ?_) (cA 9 S fun w4 pp1_0 h X3 b4 => ?_)
  replace kz2 := bC kz2 b3
  clear S b3 w2
  revert kz2; revert w3
  exact s2_0.out
  have jX3 := (lZ kz2.size h); replace kz2 := bC kz2 b4
  clear S b4 h w2
  revert kz2; revert jX3; revert X3; revert pp1_0; revert w4
  exact s2_1.out
  case' ns2_0 => refine lH ?_
  intro w5 kz2
  have S := Off.ofB kz2
  refine vY2 (cC 8 S (h1.out _) fun w6 b6 => ?_) (cA 9 S fun w7 pp1_0 h X3 b7 => ?_)
  replace kz2 := bC kz2 b6
  clear S b6 w5
  revert kz2; revert w6
  exact s2_2.out
  have jX3 := (lZ kz2.size h); replace kz2 := bC kz2 b7
  clear S b7 h w5
  revert kz2; revert jX3; revert X3; revert pp1_0; revert w7
  exact s2_3.out
  case' ns2_1 => refine lH ?_
  intro w8 pp1_0 X3 jX3 kz2
  have S := Off.ofB kz2
  refine vY1 (cC 3 S (h0.out _) fun w9 b9 => s2_3.out w9 pp1_0 (X3.later b9) jX3 (bC kz2 b9))
  case' ns2_2 => refine lH ?_
  intro w10 kz2
  have S := Off.ofB kz2
  refine vY1 (cA 9 S fun w11 pp1_0 h X3 b11 => ?_)
  have jX3 := (lZ kz2.size h); replace kz2 := bC kz2 b11
  clear S b11 h w10
  revert kz2; revert jX3; revert X3; revert pp1_0; revert w11
  exact s2_4.out
  case' ns2_3 => refine lH ?_
  intro w12 pp1_0 X3 jX3 kz2
  have S := Off.ofB kz2
  refine vY1 (cC 8 S (h1.out _) fun w13 b13 => s2_4.out w13 pp1_0 (X3.later b13) jX3 (bC kz2 b13))
  case' ns2_4 => refine lH ?_
  intro w14 pp1_0 X3 jX3 kz2
  have S := Off.ofB kz2
  refine vY1 (vO 10 fun K hK => ?_)
  have q := X3.o
  go_simp
  refine vW (fun W => HB W pp1_0 87 #[.int .u64 q0, .int .u64 q1, .int .u64 q2, .int .u64 q3] ∧ Below w1.heap.size w1 W) ⟨((((X3.set 0 _).set 1 _).set 2 _).set 3 _), ((((kz2.setCell (p := ⟨pp1_0, 0, none⟩) jX3 _).setCell (p := ⟨pp1_0, 1, none⟩) jX3 _).setCell (p := ⟨pp1_0, 2, none⟩) jX3 _).setCell (p := ⟨pp1_0, 3, none⟩) jX3 _)⟩ fun w16 hz => ?_
  clear q X3 S kz2 w14; obtain ⟨X3, kz2⟩ := hz
  refine hK.out _ _ (Off.ofB kz2) fun S => ?_; clear hK K S; refine vP ?_
  revert kz2; revert jX3; revert X3; revert pp1_0; revert w16
  exact s2_5.out
  case' ns2_5 => refine lH ?_
  intro w17 pp1_0 X3 jX3 kz2
  refine vD ?_
  have nX0_X3 : w.heap.size < pp1_0 := by have := X0.lt; omega
  have nX1_X3 : w.heap.size + 1 < pp1_0 := by have := X1.lt; omega
  have nX2_X3 : w.heap.size + 1 + 1 < pp1_0 := by have := X2.lt; omega
  have gX3 : w.heap.size ≤ pp1_0 := by have := b1.size; omega
  have oX3 := X3.o
  go_wp2_with fail
  refine vM (h2.out _) fun w18 b18 => ?_
  clear oX3
  go_wp2_with fail
  refine vM (h3.out _) fun w19 b19 => ?_
  replace X0 := X0.later (bC (bC kz2 b18) (bC (bA bR _) b19))
  have oX0 := X0.o
  replace X1 := X1.later (bC (bC kz2 b18) (bC (bA bR _) b19))
  have oX1 := X1.o
  go_wp2_with fail
  refine vM (h4.out _ (ft.later (bA (bC (bC (bC b1 kz2) b18) (bC (bA bR _) b19)) _))) fun w20 b20 => ?_
  clear oX0 oX1
  replace X2 := X2.later (bC (bC (bC kz2 b18) (bC (bA bR _) b19)) (bC (bA bR _) b20))
  have oX2 := X2.o
  go_wp2_with fail
  refine bodyPost_ret (v := .agg #[.int .u64 ph, .int .u64 pl, .int .u8 pf]) ?_ rfl ⟨rfl, ((((bC (bC (bC (bC b1 kz2) b18) (bC (bA bR _) b19)) (bC (bA bR _) b20)).setCell (p := ⟨w.heap.size + 1 + 1, 0, none⟩) gX2 _).setCell (p := ⟨w.heap.size + 1 + 1, 1, none⟩) gX2 _).setCell (p := ⟨w.heap.size + 1 + 1, 2, none⟩) gX2 _)⟩
  simp [results, Tryz.results34, go_sem, oX2]
theorem sq_rounded_jam (f m ca ea xh xl j0 j1 j2 j3 q0 q1 q2 q3 s0 s1 s2 s3 rh rl ph pl pf k1 k2 k3 o0 : Int) (t sa : Bool)
    (h0 : Hid (∀ w, Ca 81 #[U2 xh xl, U2 0 0] w (U4 j0 j1 j2 j3)))
    (h1 : Hid (∀ w, Ca 80 #[U4 j0 j1 j2 j3, .int .i64 k2] w (U4 q0 q1 q2 q3)))
    (h2 : Hid (∀ w, Ca 82 #[U4 q0 q1 q2 q3] w (.tuple #[U2 rh rl, .bool false])))
    (h3 : Hid (∀ w, Ca 81 #[U2 rh rl, U2 0 0] w (U4 s0 s1 s2 s3)))
    (h4 : Hid (∀ w, FTab w → Ca 57 #[.int .u8 f, .agg #[.int .u8 m, .bool t], .bool false, .int .i64 k3, U4 o0 s1 s2 s3] w (.agg #[.int .u64 ph, .int .u64 pl, .int .u8 pf]))) (w1 : bits .and .i64 ea 1 = k1) (w2 : IntKind.i64.wrap (1 - k1) = k2) (w2x : wrap64 (1 - k1) = k2) (w3 : ea / 2 = k3) (w4 : bits .or .u64 s0 1 = o0) (w : World) (ft : FTab w) :
    Ca 34 #[.int .u8 f, .agg #[.int .u8 m, .bool t], .agg #[.bool sa, .int .u8 ca, .int .i64 ea, .int .u64 xh, .int .u64 xl]] w (.agg #[.int .u64 ph, .int .u64 pl, .int .u8 pf]) := by
  simp only [Ca, U2, U4] at *
  go_enter Tryz.func34, Tryz.ntmps34
  go_wp2_with fail
  have gX2 : w.heap.size ≤ w.heap.size + 1 + 1 := by omega
  refine vF3 fun w1 b1 X0 X1 X2 => ?_
  refine' (have s2_5 : Hid (_ : Prop) := ?ns2_5; ?ms2_5)
  case' ms2_5 => skip
  refine' (have s2_4 : Hid (_ : Prop) := ?ns2_4; ?ms2_4)
  case' ms2_4 => skip
  refine' (have s2_3 : Hid (_ : Prop) := ?ns2_3; ?ms2_3)
  case' ms2_3 => skip
  refine' (have s2_2 : Hid (_ : Prop) := ?ns2_2; ?ms2_2)
  case' ms2_2 => skip
  refine' (have s2_1 : Hid (_ : Prop) := ?ns2_1; ?ms2_1)
  case' ms2_1 => skip
  refine' (have s2_0 : Hid (_ : Prop) := ?ns2_0; ?ms2_0)
  case' ms2_0 => skip
  refine vR [] fun w2 kz2 S => ?_
  refine vT 0 S ?_
  refine vT 1 S ?_ (hy := by intro wq hb; have q := (hb.hb X1 (by simp)).o; go_simp; try (with_reducible rfl))
  refine vT 2 S ?_
  refine vT 4 S ?_
  refine vT 5 S ?_ (hy := by intro wq hb; have q := (hb.hb X1 (by simp)).o; go_simp; try (with_reducible rfl))
  refine vT 6 S ?_
  refine vT 7 S ?_
  refine vY2 (cC 3 S (h0.out _) fun w3 b3 => ?_) (cA 9 S fun w4 pp1_0 h X3 b4 => ?_)
  replace kz2 := bC kz2 b3
  clear S b3 w2
  revert kz2; revert w3
  exact s2_0.out
  have jX3 := (lZ kz2.size h); replace kz2 := bC kz2 b4
  clear S b4 h w2
  revert kz2; revert jX3; revert X3; revert pp1_0; revert w4
  exact s2_1.out
  case' ns2_0 => refine lH ?_
  intro w5 kz2
  have S := Off.ofB kz2
  refine vY2 (cC 8 S (h1.out _) fun w6 b6 => ?_) (cA 9 S fun w7 pp1_0 h X3 b7 => ?_)
  replace kz2 := bC kz2 b6
  clear S b6 w5
  revert kz2; revert w6
  exact s2_2.out
  have jX3 := (lZ kz2.size h); replace kz2 := bC kz2 b7
  clear S b7 h w5
  revert kz2; revert jX3; revert X3; revert pp1_0; revert w7
  exact s2_3.out
  case' ns2_1 => refine lH ?_
  intro w8 pp1_0 X3 jX3 kz2
  have S := Off.ofB kz2
  refine vY1 (cC 3 S (h0.out _) fun w9 b9 => s2_3.out w9 pp1_0 (X3.later b9) jX3 (bC kz2 b9))
  case' ns2_2 => refine lH ?_
  intro w10 kz2
  have S := Off.ofB kz2
  refine vY1 (cA 9 S fun w11 pp1_0 h X3 b11 => ?_)
  have jX3 := (lZ kz2.size h); replace kz2 := bC kz2 b11
  clear S b11 h w10
  revert kz2; revert jX3; revert X3; revert pp1_0; revert w11
  exact s2_4.out
  case' ns2_3 => refine lH ?_
  intro w12 pp1_0 X3 jX3 kz2
  have S := Off.ofB kz2
  refine vY1 (cC 8 S (h1.out _) fun w13 b13 => s2_4.out w13 pp1_0 (X3.later b13) jX3 (bC kz2 b13))
  case' ns2_4 => refine lH ?_
  intro w14 pp1_0 X3 jX3 kz2
  have S := Off.ofB kz2
  refine vY1 (vO 10 fun K hK => ?_)
  have q := X3.o
  go_simp
  refine vW (fun W => HB W pp1_0 87 #[.int .u64 q0, .int .u64 q1, .int .u64 q2, .int .u64 q3] ∧ Below w1.heap.size w1 W) ⟨((((X3.set 0 _).set 1 _).set 2 _).set 3 _), ((((kz2.setCell (p := ⟨pp1_0, 0, none⟩) jX3 _).setCell (p := ⟨pp1_0, 1, none⟩) jX3 _).setCell (p := ⟨pp1_0, 2, none⟩) jX3 _).setCell (p := ⟨pp1_0, 3, none⟩) jX3 _)⟩ fun w16 hz => ?_
  clear q X3 S kz2 w14; obtain ⟨X3, kz2⟩ := hz
  refine hK.out _ _ (Off.ofB kz2) fun S => ?_; clear hK K S; refine vP ?_
  revert kz2; revert jX3; revert X3; revert pp1_0; revert w16
  exact s2_5.out
  case' ns2_5 => refine lH ?_
  intro w17 pp1_0 X3 jX3 kz2
  refine vD ?_
  have nX0_X3 : w.heap.size < pp1_0 := by have := X0.lt; omega
  have nX1_X3 : w.heap.size + 1 < pp1_0 := by have := X1.lt; omega
  have nX2_X3 : w.heap.size + 1 + 1 < pp1_0 := by have := X2.lt; omega
  have gX3 : w.heap.size ≤ pp1_0 := by have := b1.size; omega
  have oX3 := X3.o
  go_wp2_with fail
  refine vM (h2.out _) fun w18 b18 => ?_
  clear oX3
  go_wp2_with fail
  refine vM (h3.out _) fun w19 b19 => ?_
  replace X0 := X0.later (bC (bC kz2 b18) (bC (bA bR _) b19))
  have oX0 := X0.o
  replace X1 := X1.later (bC (bC kz2 b18) (bC (bA bR _) b19))
  have oX1 := X1.o
  go_wp2_with fail
  refine vM (h4.out _ (ft.later (bA (bC (bC (bC b1 kz2) b18) (bC (bA bR _) b19)) _))) fun w20 b20 => ?_
  clear oX0 oX1
  replace X2 := X2.later (bC (bC (bC kz2 b18) (bC (bA bR _) b19)) (bC (bA bR _) b20))
  have oX2 := X2.o
  go_wp2_with fail
  refine bodyPost_ret (v := .agg #[.int .u64 ph, .int .u64 pl, .int .u8 pf]) ?_ rfl ⟨rfl, ((((bC (bC (bC (bC b1 kz2) b18) (bC (bA bR _) b19)) (bC (bA bR _) b20)).setCell (p := ⟨w.heap.size + 1 + 1, 0, none⟩) gX2 _).setCell (p := ⟨w.heap.size + 1 + 1, 1, none⟩) gX2 _).setCell (p := ⟨w.heap.size + 1 + 1, 2, none⟩) gX2 _)⟩
  simp [results, Tryz.results34, go_sem, oX2]
theorem sq_Sqrt_no1 (f m ah al : Int) (t : Bool)
    (h0 : Hid (∀ w, FTab w → Ca 20 #[.int .u8 f] w (.bool false))) (w : World) (ft : FTab w) :
    Ca 10 #[.int .u8 f, .agg #[.int .u8 m, .bool t], U2 ah al] w (.agg #[.int .u64 0, .int .u64 0, .int .u8 0]) := by
  simp only [Ca, U2] at *
  go_enter Tryz.func10, Tryz.ntmps10
  go_wp2_with fail
  refine vM (h0.out _ (ft.later (bA (bA (bA bR _) _) _))) fun w1 b1 => ?_
  have gX2 : w.heap.size ≤ w.heap.size + 1 + 1 := by omega
  have X2 := (HB.newAt (b := w.heap.size + 1 + 1) (by simp) _ _).later b1
  have oX2 := X2.o
  go_wp2_with fail
  refine bodyPost_ret (v := .agg #[.int .u64 0, .int .u64 0, .int .u8 0]) ?_ rfl ⟨rfl, ((((bC (bA (bA (bA bR _) _) _) b1).setCell (p := ⟨w.heap.size + 1 + 1, 0, none⟩) gX2 _).setCell (p := ⟨w.heap.size + 1 + 1, 1, none⟩) gX2 _).setCell (p := ⟨w.heap.size + 1 + 1, 2, none⟩) gX2 _)⟩
  simp [results, Tryz.results10, go_sem, oX2]
theorem sq_Sqrt_no2 (f m ah al : Int) (t : Bool)
    (h0 : Hid (∀ w, FTab w → Ca 20 #[.int .u8 f] w (.bool true)))
    (h1 : Hid (∀ w, Ca 28 #[.int .u8 m] w (.bool false))) (w : World) (ft : FTab w) :
    Ca 10 #[.int .u8 f, .agg #[.int .u8 m, .bool t], U2 ah al] w (.agg #[.int .u64 0, .int .u64 0, .int .u8 0]) := by
  simp only [Ca, U2] at *
  go_enter Tryz.func10, Tryz.ntmps10
  go_wp2_with fail
  refine vM (h0.out _ (ft.later (bA (bA (bA bR _) _) _))) fun w1 b1 => ?_
  have gX2 : w.heap.size ≤ w.heap.size + 1 + 1 := by omega
  have X0 := (((HB.newAt (b := w.heap.size) (by simp) _ _).alloc _).alloc _).later b1
  have X2 := (HB.newAt (b := w.heap.size + 1 + 1) (by simp) _ _).later b1
  have oX0 := X0.o
  go_wp2_with fail
  refine vM (h1.out _) fun w2 b2 => ?_
  clear oX0
  replace X2 := X2.later b2
  have oX2 := X2.o
  go_wp2_with fail
  refine bodyPost_ret (v := .agg #[.int .u64 0, .int .u64 0, .int .u8 0]) ?_ rfl ⟨rfl, ((((bC (bC (bA (bA (bA bR _) _) _) b1) b2).setCell (p := ⟨w.heap.size + 1 + 1, 0, none⟩) gX2 _).setCell (p := ⟨w.heap.size + 1 + 1, 1, none⟩) gX2 _).setCell (p := ⟨w.heap.size + 1 + 1, 2, none⟩) gX2 _)⟩
  simp [results, Tryz.results10, go_sem, oX2]
theorem sq_Sqrt_in (f m ah al ca ea xh xl zh zl rh rl zf fl : Int) (t sa : Bool)
    (h0 : Hid (∀ w, FTab w → Ca 20 #[.int .u8 f] w (.bool true)))
    (h1 : Hid (∀ w, Ca 28 #[.int .u8 m] w (.bool true)))
    (h2 : Hid (∀ w, FTab w → Ca 32 #[.int .u8 f, U2 ah al] w (.agg #[.bool sa, .int .u8 ca, .int .i64 ea, .int .u64 xh, .int .u64 xl]))) (D : DataW Value) (n : Nat) (SP : Hid (∀ w, FTab w → Calls Tryz.prog 33 #[.int .u8 f, U2 ah al, .bool sa] w fun e w' => ∃ vm : Nat, e = .returned (.map (some vm)) ∧ SpM 36 w' vm n D ∧ Below w.heap.size w w')) (LK : Hid (∀ w vm, SpM 36 w vm n D → (Instr.lookup 57 (.map (some vm)) (.int .u8 ca) true).run Tryz.prog w = .ok (.tuple #[.agg #[.int .u64 zh, .int .u64 zl, .int .u8 zf], .bool true]) w)) (w : World) (ft : FTab w) :
    Ca 10 #[.int .u8 f, .agg #[.int .u8 m, .bool t], U2 ah al] w (.agg #[.int .u64 zh, .int .u64 zl, .int .u8 zf]) := by
  simp only [Ca, U2] at *
  go_enter Tryz.func10, Tryz.ntmps10
  go_wp2_with fail
  refine vM (h0.out _ (ft.later (bA (bA (bA bR _) _) _))) fun w1 b1 => ?_
  have gX2 : w.heap.size ≤ w.heap.size + 1 + 1 := by omega
  have X0 := (((HB.newAt (b := w.heap.size) (by simp) _ _).alloc _).alloc _).later b1
  have X1 := ((HB.newAt (b := w.heap.size + 1) (by simp) _ _).alloc _).later b1
  have X2 := (HB.newAt (b := w.heap.size + 1 + 1) (by simp) _ _).later b1
  have oX0 := X0.o
  go_wp2_with fail
  refine vM (h1.out _) fun w2 b2 => ?_
  clear oX0
  replace X1 := X1.later b2
  have oX1 := X1.o
  go_wp2_with fail
  refine vM (h2.out _ (ft.later (bC (bC (bA (bA (bA bR _) _) _) b1) b2))) fun w3 b3 => ?_
  clear oX1
  go_wp2_with fail
  replace X2 := X2.later (bC b2 b3)
  have nX2_X3 : w.heap.size + 1 + 1 < w3.heap.size := by have := X2.lt; omega
  refine vF1 fun w4 b4 X3 => ?_
  replace X1 := X1.later (bC b3 b4)
  refine' (have s5_5 : Hid (_ : Prop) := ?ns5_5; ?ms5_5)
  case' ms5_5 => skip
  refine' (have s5_4 : Hid (_ : Prop) := ?ns5_4; ?ms5_4)
  case' ms5_4 => skip
  refine' (have s5_3 : Hid (_ : Prop) := ?ns5_3; ?ms5_3)
  case' ms5_3 => skip
  refine' (have s5_2 : Hid (_ : Prop) := ?ns5_2; ?ms5_2)
  case' ms5_2 => skip
  refine' (have s5_1 : Hid (_ : Prop) := ?ns5_1; ?ms5_1)
  case' ms5_1 => skip
  refine' (have s5_0 : Hid (_ : Prop) := ?ns5_0; ?ms5_0)
  case' ms5_0 => skip
  refine vR [] fun w5 kz5 S => ?_
  refine vT 0 S ?_
  refine vT 1 S ?_ (hy := by intro wq hb; have q := (hb.hb X1 (by simp)).o; go_simp; try (with_reducible rfl))
  refine vT 2 S ?_
  refine vT 3 S ?_ (hy := by intro wq hb; have q := (hb.hb X3 (by simp)).o; go_simp; try (with_reducible rfl))
  refine vT 5 S ?_
  refine vT 6 S ?_ (hy := by intro wq hb; have q := (hb.hb X3 (by simp)).o; go_simp; try (with_reducible rfl))
  refine vY2 (cE 4 S (SP.out _ (ft.later (bC (bC (bC (bC (bC (bA (bA (bA bR _) _) _) b1) b2) b3) b4) kz5))) fun vm w6 nvm b6 => ?_) (cA 11 S fun w7 pp4_0 h X4 b7 => ?_)
  replace kz5 := bC kz5 b6
  clear S b6 w5
  revert kz5; revert nvm; revert vm; revert w6
  exact s5_0.out
  have jX4 := (lZ kz5.size h); replace kz5 := bC kz5 b7
  clear S b7 h w5
  revert kz5; revert jX4; revert X4; revert pp4_0; revert w7
  exact s5_1.out
  case' ns5_0 => refine lH ?_
  intro w8 vm nvm kz5
  have S := Off.ofB kz5
  refine vY2 (cK 7 S (LK.out _ _ nvm) fun w9 b9 => ?_) (cA 11 S fun w10 pp4_0 h X4 b10 => ?_)
  replace kz5 := bC kz5 b9
  refine vT 8 (Off.ofB kz5) ?_
  refine vT 9 (Off.ofB kz5) ?_
  refine vT 10 (Off.ofB kz5) ?_
  clear nvm S b9 w8
  revert kz5; revert vm; revert w9
  exact s5_2.out
  have jX4 := (lZ kz5.size h); replace nvm := (nvm.later b10); replace kz5 := bC kz5 b10
  clear S b10 h w8
  revert kz5; revert jX4; revert nvm; revert X4; revert vm; revert pp4_0; revert w10
  exact s5_3.out
  case' ns5_1 => refine lH ?_
  intro w11 pp4_0 X4 jX4 kz5
  have S := Off.ofB kz5
  refine vY1 (cE 4 S (SP.out _ (ft.later (bC (bC (bC (bC (bC (bA (bA (bA bR _) _) _) b1) b2) b3) b4) kz5))) fun vm w12 nvm b12 => s5_3.out w12 pp4_0 vm (X4.later b12) nvm jX4 (bC kz5 b12))
  case' ns5_2 => refine lH ?_
  intro w13 vm kz5
  have S := Off.ofB kz5
  refine vY1 (cA 11 S fun w14 pp4_0 h X4 b14 => ?_)
  have jX4 := (lZ kz5.size h); replace kz5 := bC kz5 b14
  clear S b14 h w13
  revert kz5; revert jX4; revert X4; revert vm; revert pp4_0; revert w14
  exact s5_4.out
  case' ns5_3 => refine lH ?_
  intro w15 pp4_0 vm X4 nvm jX4 kz5
  have S := Off.ofB kz5
  refine vY1 (cK 7 S (LK.out _ _ nvm) fun w16 b16 => ?_)
  replace X4 := (X4.later b16); replace kz5 := bC kz5 b16
  refine vT 8 (Off.ofB kz5) ?_
  refine vT 9 (Off.ofB kz5) ?_
  refine vT 10 (Off.ofB kz5) ?_
  clear nvm S b16 w15
  revert kz5; revert jX4; revert X4; revert vm; revert pp4_0; revert w16
  exact s5_4.out
  case' ns5_4 => refine lH ?_
  intro w17 pp4_0 vm X4 jX4 kz5
  have S := Off.ofB kz5
  refine vY1 (vO 12 fun K hK => ?_)
  have q := X4.o
  go_simp
  refine vW (fun W => HB W pp4_0 31 #[.int .u64 zh, .int .u64 zl, .int .u8 zf] ∧ Below w4.heap.size w4 W) ⟨(((X4.set 0 _).set 1 _).set 2 _), (((kz5.setCell (p := ⟨pp4_0, 0, none⟩) jX4 _).setCell (p := ⟨pp4_0, 1, none⟩) jX4 _).setCell (p := ⟨pp4_0, 2, none⟩) jX4 _)⟩ fun w19 hz => ?_
  clear q X4 S kz5 w17; obtain ⟨X4, kz5⟩ := hz
  refine hK.out _ _ (Off.ofB kz5) fun S => ?_; clear hK K S; refine vP ?_
  refine vT 13 (Off.ofB kz5) ?_
  revert kz5; revert jX4; revert X4; revert vm; revert pp4_0; revert w19
  exact s5_5.out
  case' ns5_5 => refine lH ?_
  intro w20 pp4_0 vm X4 jX4 kz5
  refine vD ?_
  replace X2 := X2.later b4
  have nX2_X4 : w.heap.size + 1 + 1 < pp4_0 := by have := X2.lt; omega
  have gX4 : w.heap.size ≤ pp4_0 := by have := (bC (bC (bC (bC (bA (bA (bA bR _) _) _) b1) b2) b3) b4).size; omega
  have oX4 := X4.o
  replace X2 := X2.later kz5
  have oX2 := X2.o
  have mX4_X2 : ¬ (pp4_0 = w.heap.size + 1 + 1) := by omega
  have mX2_X4 : ¬ (w.heap.size + 1 + 1 = pp4_0) := by omega
  go_wp2_with fail
  refine bodyPost_ret (v := .agg #[.int .u64 zh, .int .u64 zl, .int .u8 zf]) ?_ rfl ⟨rfl, ((((bC (bC (bC (bC (bC (bA (bA (bA bR _) _) _) b1) b2) b3) b4) kz5).setCell (p := ⟨w.heap.size + 1 + 1, 0, none⟩) gX2 _).setCell (p := ⟨w.heap.size + 1 + 1, 1, none⟩) gX2 _).setCell (p := ⟨w.heap.size + 1 + 1, 2, none⟩) gX2 _)⟩
  simp [results, Tryz.results10, go_sem, oX2, mX4_X2, mX2_X4]
theorem sq_Sqrt_out (f m ah al ca ea xh xl zh zl rh rl zf fl : Int) (t sa : Bool)
    (h0 : Hid (∀ w, FTab w → Ca 20 #[.int .u8 f] w (.bool true)))
    (h1 : Hid (∀ w, Ca 28 #[.int .u8 m] w (.bool true)))
    (h2 : Hid (∀ w, FTab w → Ca 32 #[.int .u8 f, U2 ah al] w (.agg #[.bool sa, .int .u8 ca, .int .i64 ea, .int .u64 xh, .int .u64 xl])))
    (h5 : Hid (∀ w, FTab w → Ca 34 #[.int .u8 f, .agg #[.int .u8 m, .bool t], .agg #[.bool sa, .int .u8 ca, .int .i64 ea, .int .u64 xh, .int .u64 xl]] w (.agg #[.int .u64 rh, .int .u64 rl, .int .u8 fl]))) (D : DataW Value) (n : Nat) (SP : Hid (∀ w, FTab w → Calls Tryz.prog 33 #[.int .u8 f, U2 ah al, .bool sa] w fun e w' => ∃ vm : Nat, e = .returned (.map (some vm)) ∧ SpM 36 w' vm n D ∧ Below w.heap.size w w')) (LK : Hid (∀ w vm, SpM 36 w vm n D → (Instr.lookup 57 (.map (some vm)) (.int .u8 ca) true).run Tryz.prog w = .ok (.tuple #[.agg #[.int .u64 zh, .int .u64 zl, .int .u8 zf], .bool false]) w)) (w : World) (ft : FTab w) :
    Ca 10 #[.int .u8 f, .agg #[.int .u8 m, .bool t], U2 ah al] w (.agg #[.int .u64 rh, .int .u64 rl, .int .u8 fl]) := by
  simp only [Ca, U2] at *
  go_enter Tryz.func10, Tryz.ntmps10
  go_wp2_with fail
  refine vM (h0.out _ (ft.later (bA (bA (bA bR _) _) _))) fun w1 b1 => ?_
  have gX2 : w.heap.size ≤ w.heap.size + 1 + 1 := by omega
  have X0 := (((HB.newAt (b := w.heap.size) (by simp) _ _).alloc _).alloc _).later b1
  have X1 := ((HB.newAt (b := w.heap.size + 1) (by simp) _ _).alloc _).later b1
  have X2 := (HB.newAt (b := w.heap.size + 1 + 1) (by simp) _ _).later b1
  have oX0 := X0.o
  go_wp2_with fail
  refine vM (h1.out _) fun w2 b2 => ?_
  clear oX0
  replace X1 := X1.later b2
  have oX1 := X1.o
  go_wp2_with fail
  refine vM (h2.out _ (ft.later (bC (bC (bA (bA (bA bR _) _) _) b1) b2))) fun w3 b3 => ?_
  clear oX1
  go_wp2_with fail
  replace X2 := X2.later (bC b2 b3)
  have nX2_X3 : w.heap.size + 1 + 1 < w3.heap.size := by have := X2.lt; omega
  refine vF1 fun w4 b4 X3 => ?_
  replace X1 := X1.later (bC b3 b4)
  refine' (have s5_5 : Hid (_ : Prop) := ?ns5_5; ?ms5_5)
  case' ms5_5 => skip
  refine' (have s5_4 : Hid (_ : Prop) := ?ns5_4; ?ms5_4)
  case' ms5_4 => skip
  refine' (have s5_3 : Hid (_ : Prop) := ?ns5_3; ?ms5_3)
  case' ms5_3 => skip
  refine' (have s5_2 : Hid (_ : Prop) := ?ns5_2; ?ms5_2)
  case' ms5_2 => skip
  refine' (have s5_1 : Hid (_ : Prop) := ?ns5_1; ?ms5_1)
  case' ms5_1 => skip
  refine' (have s5_0 : Hid (_ : Prop) := ?ns5_0; ?ms5_0)
  case' ms5_0 => skip
  refine vR [] fun w5 kz5 S => ?_
  refine vT 0 S ?_
  refine vT 1 S ?_ (hy := by intro wq hb; have q := (hb.hb X1 (by simp)).o; go_simp; try (with_reducible rfl))
  refine vT 2 S ?_
  refine vT 3 S ?_ (hy := by intro wq hb; have q := (hb.hb X3 (by simp)).o; go_simp; try (with_reducible rfl))
  refine vT 5 S ?_
  refine vT 6 S ?_ (hy := by intro wq hb; have q := (hb.hb X3 (by simp)).o; go_simp; try (with_reducible rfl))
  refine vY2 (cE 4 S (SP.out _ (ft.later (bC (bC (bC (bC (bC (bA (bA (bA bR _) _) _) b1) b2) b3) b4) kz5))) fun vm w6 nvm b6 => ?_) (cA 11 S fun w7 pp4_0 h X4 b7 => ?_)
  replace kz5 := bC kz5 b6
  clear S b6 w5
  revert kz5; revert nvm; revert vm; revert w6
  exact s5_0.out
  have jX4 := (lZ kz5.size h); replace kz5 := bC kz5 b7
  clear S b7 h w5
  revert kz5; revert jX4; revert X4; revert pp4_0; revert w7
  exact s5_1.out
  case' ns5_0 => refine lH ?_
  intro w8 vm nvm kz5
  have S := Off.ofB kz5
  refine vY2 (cK 7 S (LK.out _ _ nvm) fun w9 b9 => ?_) (cA 11 S fun w10 pp4_0 h X4 b10 => ?_)
  replace kz5 := bC kz5 b9
  refine vT 8 (Off.ofB kz5) ?_
  refine vT 9 (Off.ofB kz5) ?_
  refine vT 10 (Off.ofB kz5) ?_
  clear nvm S b9 w8
  revert kz5; revert vm; revert w9
  exact s5_2.out
  have jX4 := (lZ kz5.size h); replace nvm := (nvm.later b10); replace kz5 := bC kz5 b10
  clear S b10 h w8
  revert kz5; revert jX4; revert nvm; revert X4; revert vm; revert pp4_0; revert w10
  exact s5_3.out
  case' ns5_1 => refine lH ?_
  intro w11 pp4_0 X4 jX4 kz5
  have S := Off.ofB kz5
  refine vY1 (cE 4 S (SP.out _ (ft.later (bC (bC (bC (bC (bC (bA (bA (bA bR _) _) _) b1) b2) b3) b4) kz5))) fun vm w12 nvm b12 => s5_3.out w12 pp4_0 vm (X4.later b12) nvm jX4 (bC kz5 b12))
  case' ns5_2 => refine lH ?_
  intro w13 vm kz5
  have S := Off.ofB kz5
  refine vY1 (cA 11 S fun w14 pp4_0 h X4 b14 => ?_)
  have jX4 := (lZ kz5.size h); replace kz5 := bC kz5 b14
  clear S b14 h w13
  revert kz5; revert jX4; revert X4; revert vm; revert pp4_0; revert w14
  exact s5_4.out
  case' ns5_3 => refine lH ?_
  intro w15 pp4_0 vm X4 nvm jX4 kz5
  have S := Off.ofB kz5
  refine vY1 (cK 7 S (LK.out _ _ nvm) fun w16 b16 => ?_)
  replace X4 := (X4.later b16); replace kz5 := bC kz5 b16
  refine vT 8 (Off.ofB kz5) ?_
  refine vT 9 (Off.ofB kz5) ?_
  refine vT 10 (Off.ofB kz5) ?_
  clear nvm S b16 w15
  revert kz5; revert jX4; revert X4; revert vm; revert pp4_0; revert w16
  exact s5_4.out
  case' ns5_4 => refine lH ?_
  intro w17 pp4_0 vm X4 jX4 kz5
  have S := Off.ofB kz5
  refine vY1 (vO 12 fun K hK => ?_)
  have q := X4.o
  go_simp
  refine vW (fun W => HB W pp4_0 31 #[.int .u64 zh, .int .u64 zl, .int .u8 zf] ∧ Below w4.heap.size w4 W) ⟨(((X4.set 0 _).set 1 _).set 2 _), (((kz5.setCell (p := ⟨pp4_0, 0, none⟩) jX4 _).setCell (p := ⟨pp4_0, 1, none⟩) jX4 _).setCell (p := ⟨pp4_0, 2, none⟩) jX4 _)⟩ fun w19 hz => ?_
  clear q X4 S kz5 w17; obtain ⟨X4, kz5⟩ := hz
  refine hK.out _ _ (Off.ofB kz5) fun S => ?_; clear hK K S; refine vP ?_
  refine vT 13 (Off.ofB kz5) ?_
  revert kz5; revert jX4; revert X4; revert vm; revert pp4_0; revert w19
  exact s5_5.out
  case' ns5_5 => refine lH ?_
  intro w20 pp4_0 vm X4 jX4 kz5
  refine vD ?_
  replace X0 := X0.later (bC (bC b2 b3) b4)
  replace X2 := X2.later b4
  have gX4 : w.heap.size ≤ pp4_0 := by have := (bC (bC (bC (bC (bA (bA (bA bR _) _) _) b1) b2) b3) b4).size; omega
  replace X0 := X0.later kz5
  have oX0 := X0.o
  replace X3 := X3.later kz5
  have oX3 := X3.o
  go_wp2_with fail
  refine vM (h5.out _ (ft.later (bC (bC (bC (bC (bC (bA (bA (bA bR _) _) _) b1) b2) b3) b4) kz5))) fun w21 b21 => ?_
  clear oX0 oX3
  replace X2 := X2.later (bC kz5 b21)
  have oX2 := X2.o
  go_wp2_with fail
  refine bodyPost_ret (v := .agg #[.int .u64 rh, .int .u64 rl, .int .u8 fl]) ?_ rfl ⟨rfl, ((((bC (bC (bC (bC (bC (bC (bA (bA (bA bR _) _) _) b1) b2) b3) b4) kz5) b21).setCell (p := ⟨w.heap.size + 1 + 1, 0, none⟩) gX2 _).setCell (p := ⟨w.heap.size + 1 + 1, 1, none⟩) gX2 _).setCell (p := ⟨w.heap.size + 1 + 1, 2, none⟩) gX2 _)⟩
  simp [results, Tryz.results10, go_sem, oX2]
end Go.Proofs.YtbighggnfkdncaaGreatDoor
namespace Go.Proofs.YtbighggnfkdncaaGreatDoor
open Go.RowKit Go.Maps
attribute [local go_sem ↓] Go.wp_at_zero Go.wp_at_succ
theorem and_one_i64 (e : Int) : bits .and .i64 e 1 = e % 2 := by
  show IntKind.i64.wrap (((BitVec.ofInt 64 e &&& BitVec.ofInt 64 1).toNat : Nat) : Int) = e % 2
  rw [BitVec.toNat_and, BitVec.toNat_ofInt, BitVec.toNat_ofInt, show ((1 : Int) % (2 ^ 64 : Nat)).toNat = 1 from by decide, Nat.and_one_is_mod, IntKind.wrap_i64]
  have h0 := Int.emod_nonneg e (show ((2 ^ 64 : Nat) : Int) ≠ 0 by decide)
  have h2 : (e % ((2 ^ 64 : Nat) : Int)) % 2 = e % 2 := Int.emod_emod_of_dvd e (by decide)
  omega
theorem wd_jamS {x : Int} (h : x % 2 = 0) : bits .or .u64 (wd0 x) 1 = wd0 (x + 1) ∧ wd1 (x + 1) = wd1 x ∧ wd2 (x + 1) = wd2 x ∧ wd3 (x + 1) = wd3 x := by
  rw [or_one (wd0_u x)]
  refine ⟨?_, ?_, ?_, ?_⟩
  · unfold wd0; omega
  · unfold wd1; omega
  · unfold wd2; omega
  · unfold wd3; omega
theorem sqN_cut {f a : Int} (f0 : 0 ≤ f) (a0 : 0 ≤ a) : uS f a * full / 2 ^ (1 - uE f a % 2).toNat = sqN f a := by
  obtain ⟨k, hk⟩ : ∃ k : Nat, (1 - uE f a % 2).toNat = k := ⟨_, rfl⟩
  have e : uS f a * full = sqN f a * 2 ^ k := by
    unfold sqN
    rw [← full_pow, Int.mul_assoc, ← Int.pow_add]
    congr 2; omega
  rw [hk, e, Int.mul_ediv_cancel _ (pow_pos' k)]
theorem sq_roundedN (f m : Int) (t : Bool) (a : Int) (f0 : 0 ≤ f) (f1 : f ≤ 255) (m0 : 0 ≤ m) (m1 : m ≤ 255) (a0 : 0 ≤ a) (a1 : a < full) (hf : f < 4) (ca : clsF f a = 1 ∨ clsF f a = 2) (w : World) (ft : FTab w) : Calls Tryz.prog 34 #[.int .u8 f, .agg #[.int .u8 m, .bool t], .agg #[.bool (negF f a), .int .u8 (clsF f a), .int .i64 (uE f a), .int .u64 (hiOf (uS f a)), .int .u64 (loOf (uS f a))]] w fun e w' => e = .returned (.agg #[.int .u64 (hiOf (pkB f m false (sqE f a) (sqS f a))), .int .u64 (loOf (pkB f m false (sqE f a) (sqS f a))), .int .u8 (pkFl f m t false (sqE f a) (sqS f a))]) ∧ Below w.heap.size w w' := by
  obtain ⟨_, _, s0, s1, _⟩ := un_range f0 hf a0 ca
  have hp := two_pow_pos 127
  have er := uE_range (f := f) f0 a0
  have eq := sqE_range (f := f) f0 a0
  obtain ⟨n0, n1⟩ := sqN_range f0 hf a0 ca
  obtain ⟨_, r0, r1⟩ := sq_root f0 hf a0 ca
  obtain ⟨d0, d1⟩ := sqS_range f0 hf a0 ca
  have hp2 := two_pow_pos 255
  have hp3 := two_pow_pos 254
  have RD := lH (packOK.round f m t false (sqE f a) (sqS f a) f0 f1 m0 m1 (by omega) (by omega) (by omega) d1)
  have fp : (0 : Int) < full := by decide
  have w2 : wfull = full * full := by decide +kernel
  have JW := joinW (uS f a) 0
  have ej : uS f a % full * full + 0 % full = uS f a * full := by
    rw [Int.emod_eq_of_lt (by omega) s1, Int.emod_eq_of_lt (Int.le_refl 0) fp]; omega
  rw [ej, show hiOf 0 = 0 from rfl, show loOf 0 = 0 from rfl] at JW
  have m1' : uS f a * full < wfull := by rw [w2]; exact Int.mul_lt_mul_of_pos_right s1 fp
  have m0' : 0 ≤ uS f a * full := Int.mul_nonneg (by omega) (by omega)
  have WR := wrightW (uS f a * full) (1 - uE f a % 2) (by omega) (by omega)
  rw [Int.emod_eq_of_lt m0' m1', sqN_cut f0 a0] at WR
  have RT := rootOK.root (sqN f a)
  rw [Int.emod_eq_of_lt (show 0 ≤ sqN f a by omega) n1] at RT
  have JR := joinW (rootN (sqN f a)) 0
  have er2 : rootN (sqN f a) % full * full + 0 % full = rootN (sqN f a) * full := by
    rw [Int.emod_eq_of_lt (by omega) r1, Int.emod_eq_of_lt (Int.le_refl 0) fp]; omega
  rw [er2, show hiOf 0 = 0 from rfl, show loOf 0 = 0 from rfl] at JR
  have eS : sqS f a = rootN (sqN f a) * full + (if exactN (sqN f a) then 0 else 1) := rfl
  have w1 := and_one_i64 (uE f a)
  have wx : IntKind.i64.wrap (1 - uE f a % 2) = 1 - uE f a % 2 := IntWalk.i64_in _ (by omega)
  have wy : wrap64 (1 - uE f a % 2) = 1 - uE f a % 2 := by unfold wrap64; omega
  have wz : uE f a / 2 = sqE f a := rfl
  cases ex : exactN (sqN f a) with
  | true =>
    rw [ex, if_pos rfl, Int.add_zero] at eS
    rw [ex] at RT
    rw [← eS] at JR
    exact sq_rounded_exact f m (clsF f a) (uE f a) (hiOf (uS f a)) (loOf (uS f a)) _ _ _ _ _ _ _ _ _ _ _ _ _ _ _ _ _ _ _ _ t (negF f a) (lH JW) (lH WR) (lH RT) (lH JR) RD w1 wx wy wz w ft
  | false =>
    rw [ex, if_neg (by decide)] at eS
    rw [ex] at RT
    obtain ⟨o0, o1, o2, o3⟩ := wd_jamS (x := rootN (sqN f a) * full) (by rw [show full = 2 * 2 ^ 127 by decide +kernel, Int.mul_left_comm]; exact Int.mul_emod_right ..)
    rw [← eS] at o0 o1 o2 o3
    rw [← o1, ← o2, ← o3] at JR
    exact sq_rounded_jam f m (clsF f a) (uE f a) (hiOf (uS f a)) (loOf (uS f a)) _ _ _ _ _ _ _ _ _ _ _ _ _ _ _ _ _ _ _ _ _ t (negF f a) (lH JW) (lH WR) (lH RT) (lH JR) RD w1 wx wy wz o0 w ft
theorem sqrtN (f m : Int) (t : Bool) (a : Int) (f0 : 0 ≤ f) (f1 : f ≤ 255) (m0 : 0 ≤ m) (m1 : m ≤ 255) (a0 : 0 ≤ a) (a1 : a < full) (w : World) (ft : FTab w) : Calls Tryz.prog 10 #[.int .u8 f, .agg #[.int .u8 m, .bool t], .agg #[.int .u64 (hiOf (a)), .int .u64 (loOf (a))]] w fun e w' => e = .returned (.agg #[.int .u64 (hiOf (sqB f m a)), .int .u64 (loOf (sqB f m a)), .int .u8 (sqFl f m t a)]) ∧ Below w.heap.size w w' := by
  have K := formOK.known f f0 f1
  have M := modeOK.known m m0 m1
  by_cases hf : f < 4
  · rw [decide_eq_true hf] at K
    by_cases hm : m < 5
    · rw [decide_eq_true hm] at M
      have FM : f < 4 ∧ m < 5 := ⟨hf, hm⟩
      have UA := lH (unpackA f a f0 f1 a0 a1)
      have CU := formOK.cut f a f0 f1
      rw [Int.emod_eq_of_lt a0 a1] at CU
      have PK : ∀ w, FTab w → ∀ p T, HB w p T #[.int .u64 (hiOf a), .int .u64 (loOf a)] → Calls Tryz.prog 51 #[.int .u8 f, .bool false, .slice (some ⟨p, 0, none⟩) 1 1] w fun e w' => e = .returned (.tuple #[.agg #[.int .u64 (hiOf (pickV f false [a])), .int .u64 (loOf (pickV f false [a])), .int .u8 (pickF f false [a])], .bool (pickK f false [a])]) ∧ Below w.heap.size w w' := fun w ft p T x => nanOK.pick f false (some ⟨p, 0, none⟩) 1 1 [a] f0 f1 w ft (Bs.ofHB [a] x rfl (by simp))
      have PI : ∀ w, FTab w → ∀ p T, HB w p T #[.int .u64 (hiOf a), .int .u64 (loOf a)] → Calls Tryz.prog 51 #[.int .u8 f, .bool true, .slice (some ⟨p, 0, none⟩) 1 1] w fun e w' => e = .returned (.tuple #[.agg #[.int .u64 (hiOf (pickV f true [a])), .int .u64 (loOf (pickV f true [a])), .int .u8 (pickF f true [a])], .bool (pickK f true [a])]) ∧ Below w.heap.size w w' := fun w ft p T x => nanOK.pick f true (some ⟨p, 0, none⟩) 1 1 [a] f0 f1 w ft (Bs.ofHB [a] x rfl (by simp))
      have rc := cls_range f a
      have SP := fun D n h => lH (sq_special f (hiOf a) (loOf a) _ _ _ _ _ _ _ _ (negF f a) _ _ (lH CU) (lH PK) (lH PI) D n h)
      have key : ∀ D n v (k : Bool), D.atKey (.int .u8 (clsF f a)) (.held R0) = .held v ∧ Maps.has D (.int .u8 (clsF f a)) = k → Hid (∀ w vm, SpM 36 w vm n D → (Instr.lookup 57 (.map (some vm)) (.int .u8 (clsF f a)) true).run Tryz.prog w = .ok (.tuple #[v, .bool k]) w) := fun D n v k h => lH fun w vm x => sp_look x (by omega) (by omega) h.1 h.2
      have pk := sq_pick (f := f) a0 a1 hf
      have zero : sqI f a = false → nanF f a = false → (clsF f a = 0 ∨ clsF f a = 3) → sqB f m a = cutF f a ∧ sqFl f m t a = 0 := fun i na c => by
        rw [i, na, Bool.or_self] at pk
        unfold sqB sqFl
        rw [i, if_pos FM, if_pos FM, pk, if_neg (show ¬ (false = true) by decide), if_neg (show ¬ (false = true) by decide), if_pos c, if_pos c]
        exact ⟨rfl, rfl⟩
      have nan : ∀ i, sqI f a = i → (i = true ∨ nanF f a = true) → sqB f m a = pickV f i [a] ∧ sqFl f m t a = pickF f i [a] := fun i hi c => by
        have p : pickK f i [a] = true := by rw [← hi, pk, hi]; rcases c with c | c <;> rw [c] <;> simp
        unfold sqB sqFl
        rw [hi, if_pos FM, if_pos FM, p, if_pos rfl, if_pos rfl]
        exact ⟨rfl, rfl⟩
      cases ng : negF f a with
      | false =>
        have i : sqI f a = false := by unfold sqI; rw [ng]; rfl
        have SP' := SP _ 4 (.inl ⟨ng, rfl, rfl⟩)
        rcases (show (clsF f a = 0 ∨ clsF f a = 3) ∨ (clsF f a = 4 ∨ clsF f a = 5) ∨ (clsF f a = 1 ∨ clsF f a = 2) by omega) with c | c | c
        · obtain ⟨e1, e2⟩ := zero i (num_nan (by omega)) c
          rw [e1, e2]
          exact sq_Sqrt_in f m (hiOf a) (loOf a) (clsF f a) (uE f a) (hiOf (uS f a)) (loOf (uS f a)) _ _ 0 0 _ 0 t (negF f a) (lH K) (lH M) UA _ _ SP' (key _ _ _ _ (sp_z _ _ c)) w ft
        · obtain ⟨e1, e2⟩ := nan false i (.inr (by unfold nanF; exact decide_eq_true (by omega)))
          rw [e1, e2]
          exact sq_Sqrt_in f m (hiOf a) (loOf a) (clsF f a) (uE f a) (hiOf (uS f a)) (loOf (uS f a)) _ _ 0 0 _ 0 t (negF f a) (lH K) (lH M) UA _ _ SP' (key _ _ _ _ (sp_p _ _ c)) w ft
        · obtain ⟨e1, e2⟩ := sq_num (m := m) hf hm a0 a1 c ng
          rw [e1, e2]
          exact sq_Sqrt_out f m (hiOf a) (loOf a) (clsF f a) (uE f a) (hiOf (uS f a)) (loOf (uS f a)) _ _ _ _ _ _ t (negF f a) (lH K) (lH M) UA (lH (sq_roundedN f m t a f0 f1 m0 m1 a0 a1 hf c)) _ _ SP' (key _ _ _ _ (sp_no _ _ c)) w ft
      | true =>
        have SP' := SP _ 7 (.inr ⟨ng, rfl, rfl⟩)
        rcases (show clsF f a = 0 ∨ (clsF f a = 4 ∨ clsF f a = 5) ∨ (clsF f a = 1 ∨ clsF f a = 2 ∨ clsF f a = 3) by omega) with c | c | c
        · obtain ⟨e1, e2⟩ := zero (by unfold sqI; rw [decide_eq_false (by omega), Bool.and_false]) (num_nan (by omega)) (.inl c)
          rw [e1, e2]
          exact sq_Sqrt_in f m (hiOf a) (loOf a) (clsF f a) (uE f a) (hiOf (uS f a)) (loOf (uS f a)) _ _ 0 0 _ 0 t (negF f a) (lH K) (lH M) UA _ _ SP' (key _ _ _ _ (by rw [c]; exact spn_z _ _ _)) w ft
        · have hn : nanF f a = true := by unfold nanF; exact decide_eq_true (by omega)
          obtain ⟨e1, e2⟩ := nan false (sqI_nan hn) (.inr hn)
          rw [e1, e2]
          exact sq_Sqrt_in f m (hiOf a) (loOf a) (clsF f a) (uE f a) (hiOf (uS f a)) (loOf (uS f a)) _ _ 0 0 _ 0 t (negF f a) (lH K) (lH M) UA _ _ SP' (key _ _ _ _ (spn_p _ _ _ c)) w ft
        · obtain ⟨e1, e2⟩ := nan true (by unfold sqI; rw [ng, decide_eq_true (by omega)]; rfl) (.inl rfl)
          rw [e1, e2]
          exact sq_Sqrt_in f m (hiOf a) (loOf a) (clsF f a) (uE f a) (hiOf (uS f a)) (loOf (uS f a)) _ _ 0 0 _ 0 t (negF f a) (lH K) (lH M) UA _ _ SP' (key _ _ _ _ (spn_i _ _ _ c)) w ft
    · rw [decide_eq_false hm] at M
      unfold sqB sqFl
      simp only [if_neg (show ¬ (f < 4 ∧ m < 5) from fun k => hm k.2)]
      exact sq_Sqrt_no2 f m _ _ t (lH K) (lH M) w ft
  · rw [decide_eq_false hf] at K
    unfold sqB sqFl
    simp only [if_neg (show ¬ (f < 4 ∧ m < 5) from fun k => hf k.1)]
    exact sq_Sqrt_no1 f m _ _ t (lH K) w ft
theorem sqrtOK : SqrtOK where
  sqrt := fun f m t a f0 f1 m0 m1 a0 a1 w ft => sqrtN f m t a f0 f1 m0 m1 a0 a1 w ft
end Go.Proofs.YtbighggnfkdncaaGreatDoor
