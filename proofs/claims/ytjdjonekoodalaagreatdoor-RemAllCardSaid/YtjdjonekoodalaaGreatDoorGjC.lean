import Derived.Test.YtjdjonekoodalaaGreatDoorRest0
set_option maxHeartbeats 8000000
set_option linter.unusedVariables false
set_option linter.unusedSimpArgs false
set_option maxRecDepth 100000
namespace Go.Proofs.YtjdjonekoodalaaGreatDoor
open Go.RowKit
attribute [local go_sem ↓] Go.wp_at_zero Go.wp_at_succ
theorem ref10_default_no (f : Int) (g3 : decide (3 < f) = true) (w : World) : Calls Tryz.prog 91 #[.int .u8 f] w fun e w' => e = .returned (.agg #[.int .u64 0, .int .u64 0]) ∧ Below w.heap.size w w' := by
  go_enter Tryz.func91, Tryz.ntmps91
  go_wp2_with fail
  exact bodyPost_ret (v := .agg #[.int .u64 0, .int .u64 0]) (by simp [results, Tryz.results91, go_sem]) rfl ⟨rfl, bA bR _⟩
theorem ref10_default_yes (f p em x1 x2 zh zl : Int) (kp : Nat) (g3 : decide (3 < f) = false) (PF : Hid (∀ w, Calls Tryz.prog 72 #[.int .u8 f] w fun e w' => e = .returned (.int .i64 p) ∧ w = w'))
    (EF : Hid (∀ w, Calls Tryz.prog 73 #[.int .u8 f] w fun e w' => e = .returned (.int .i64 em) ∧ w = w')) (HP : Hid (kp < 3200000)) (w1_ : IntKind.i64.wrap (2 * em) = x1) (w2_ : IntKind.i64.wrap (x1 + 1) = x2) (w2x : wrap64 (x1 + 1) = x2) (w3_ : IntKind.i64.wrap (p - 2) = (kp : Int))
    (MK : Hid (∀ w v, IsNum w v (2 ^ kp) → Calls Tryz.prog 95 #[.int .u8 f, .bool false, .int .i64 x2, v] w fun e w' => e = .returned (.agg #[.int .u64 (zh), .int .u64 (zl)]) ∧ Below w.heap.size w w')) (w : World) :
    Calls Tryz.prog 91 #[.int .u8 f] w fun e w' => e = .returned (.agg #[.int .u64 (zh), .int .u64 (zl)]) ∧ Below w.heap.size w w' := by
  go_enter Tryz.func91, Tryz.ntmps91
  go_wp2_with fail
  (with_reducible refine (EF.out _).mono ?_); rintro e wz ⟨rfl, rfl⟩
  go_wp2_with fail
  (with_reducible refine (PF.out _).mono ?_); rintro e wz ⟨rfl, rfl⟩
  go_wp2_with fail
  (with_reducible refine (fullN kp HP.out _).mono ?_); rintro e w1 ⟨v1, rfl, n1, hb⟩
  have kk := bC (bA bR _) hb
  have xr : HB w1 w.heap.size 25 #[.int .u64 0, .int .u64 0] := (HB.new w _ _).later hb
  clear hb
  go_wp2_with fail
  (with_reducible refine (MK.out _ _ n1).mono ?_); rintro e w2 ⟨rfl, hb⟩
  replace kk := bC kk hb; replace xr := xr.later hb
  clear hb n1
  have KEY : Hid (HB ((w2.setCell ⟨w.heap.size, 0, none⟩ (.int .u64 zh)).setCell ⟨w.heap.size, 1, none⟩ (.int .u64 zl)) (w.heap.size) 25 #[.int .u64 zh, .int .u64 zl] ∧ Below w.heap.size w ((w2.setCell ⟨w.heap.size, 0, none⟩ (.int .u64 zh)).setCell ⟨w.heap.size, 1, none⟩ (.int .u64 zl))) := lH ⟨((xr.set 0 _).set 1 _), ((kk.setCell (p := ⟨w.heap.size, 0, none⟩) (Nat.le_refl _) _).setCell (p := ⟨w.heap.size, 1, none⟩) (Nat.le_refl _) _)⟩
  have z0 := xr.cell 0; have f0 := xr.frozen 0; have z1 := xr.cell 1; have f1 := xr.frozen 1; dsimp at z0 z1
  have hl := xr.lt
  clear xr kk
  go_wp2_with fail
  obtain ⟨hE, kb⟩ := KEY.out
  have e0 := hE.cell 0; have e1 := hE.cell 1; dsimp at e0 e1
  refine bodyPost_ret (v := .agg #[.int .u64 (zh), .int .u64 (zl)]) ?_ rfl ⟨rfl, kb⟩
  clear KEY hE kb z0 f0 z1 f1
  simp [results, Tryz.results91, go_sem, e0, e1]
theorem ref10_default (f : Int) (f0 : 0 ≤ f) (f1 : f ≤ 255) (w : World) : Calls Tryz.prog 91 #[.int .u8 f] w fun e w' => e = .returned (.agg #[.int .u64 (hiOf (defF f)), .int .u64 (loOf (defF f))]) ∧ Below w.heap.size w w' := by
  by_cases h : f < 4
  · obtain ⟨p0, p1, p2, p3, p4, p5, p6, p7, p8⟩ := f_nums f0 h
    have PF := lH (ref7_prec f f0 f1)
    have EF := lH (ref7_emax f f0 f1)
    have sp : (2 : Int) ^ (fP f - 2) ≤ full := by have := two_pow_le (show fP f - 2 ≤ 128 by omega); rwa [full_pow] at this
    exact ref10_default_yes f _ _ (2 * fE f) (2 * fE f + 1) _ _ (fP f - 2) (by simp; omega) PF EF (lH (by omega)) (IntWalk.i64_in _ (by omega)) (IntWalk.i64_in _ (by omega)) (by unfold wrap64; omega) (by rw [IntWalk.i64_in _ (by omega)]; omega)
      (lH fun w v nv => ref7_make f (2 * fE f + 1) _ false v f0 f1 (by omega) (by omega) (small_full sp) w nv) w
  · rw [show defF f = 0 from makeF_zero h _ _ _, hl_zero.1, hl_zero.2]
    exact ref10_default_no f (by simp; omega) w
theorem ref10_quiet_not (f bh bl C Z p : Int) (kp : Nat) (CT : Hid (∀ w, Calls Tryz.prog 122 #[.int .u8 f, .agg #[.int .u64 (bh), .int .u64 (bl)]] w (RetNum w C))) (SG : Hid (∀ w, Calls Tryz.prog 94 #[.int .u8 f, .agg #[.int .u64 (bh), .int .u64 (bl)]] w fun e w' => e = .returned (.bool false) ∧ Below w.heap.size w w')) (HZ : C = Z) (w : World) :
    Calls Tryz.prog 93 #[.int .u8 f, .agg #[.int .u64 (bh), .int .u64 (bl)]] w fun e w' => e = .returned (.agg #[.int .u64 (hiOf (Z)), .int .u64 (loOf (Z))]) ∧ Below w.heap.size w w' := by
  go_enter Tryz.func93, Tryz.ntmps93
  go_wp2_with fail
  (with_reducible refine (CT.out _).mono ?_); rintro e w1 ⟨v1, rfl, n1, hb⟩
  have kk := bC (bA (bA bR _) _) hb
  have xr : HB w1 (w.heap.size + 1) 25 #[.int .u64 0, .int .u64 0] := (HB.newAt (by simp) _ _).later hb
  have xb : HB w1 w.heap.size 25 #[.int .u64 bh, .int .u64 bl] := ((HB.new w _ _).alloc _).later hb
  have b0 := xb.cell 0; have b1 := xb.cell 1; have bl_ := xb.lt; dsimp at b0 b1
  clear hb xb
  go_wp2_with fail
  (with_reducible refine (SG.out _).mono ?_); rintro e w2 ⟨rfl, hb⟩
  replace kk := bC kk hb; replace xr := xr.later hb; replace n1 := n1.later hb
  clear hb b0 b1 bl_
  rw [HZ] at n1
  go_wp2_with fail
  (with_reducible refine (bits_num2 n1).mono ?_); rintro e w5 ⟨rfl, hb⟩
  replace kk := bC kk hb; replace xr := xr.later hb
  clear hb n1
  have KEY : Hid (HB ((w5.setCell ⟨w.heap.size + 1, 0, none⟩ (.int .u64 (hiOf Z))).setCell ⟨w.heap.size + 1, 1, none⟩ (.int .u64 (loOf Z))) (w.heap.size + 1) 25 #[.int .u64 (hiOf Z), .int .u64 (loOf Z)] ∧ Below w.heap.size w ((w5.setCell ⟨w.heap.size + 1, 0, none⟩ (.int .u64 (hiOf Z))).setCell ⟨w.heap.size + 1, 1, none⟩ (.int .u64 (loOf Z)))) := lH ⟨((xr.set 0 _).set 1 _), ((kk.setCell (p := ⟨w.heap.size + 1, 0, none⟩) (by simp) _).setCell (p := ⟨w.heap.size + 1, 1, none⟩) (by simp) _)⟩
  have z0 := xr.cell 0; have f0 := xr.frozen 0; have z1 := xr.cell 1; have f1 := xr.frozen 1; dsimp at z0 z1
  have hl := xr.lt
  clear xr kk
  go_wp2_with fail
  obtain ⟨hE, kb⟩ := KEY.out
  have e0 := hE.cell 0; have e1 := hE.cell 1; dsimp at e0 e1
  refine bodyPost_ret (v := .agg #[.int .u64 (hiOf (Z)), .int .u64 (loOf (Z))]) ?_ rfl ⟨rfl, kb⟩
  clear KEY hE kb z0 f0 z1 f1
  simp [results, Tryz.results93, go_sem, e0, e1]
theorem ref10_quiet_sig (f bh bl C Z p : Int) (kp : Nat) (CT : Hid (∀ w, Calls Tryz.prog 122 #[.int .u8 f, .agg #[.int .u64 (bh), .int .u64 (bl)]] w (RetNum w C))) (SG : Hid (∀ w, Calls Tryz.prog 94 #[.int .u8 f, .agg #[.int .u64 (bh), .int .u64 (bl)]] w fun e w' => e = .returned (.bool true) ∧ Below w.heap.size w w')) (PF : Hid (∀ w, Calls Tryz.prog 72 #[.int .u8 f] w fun e w' => e = .returned (.int .i64 p) ∧ w = w')) (HP : Hid (kp < 3200000)) (w3_ : IntKind.i64.wrap (p - 2) = (kp : Int)) (S1 : Hid (Small C)) (S2 : Hid (Small (2 ^ kp))) (HZ : C + 2 ^ kp = Z) (w : World) :
    Calls Tryz.prog 93 #[.int .u8 f, .agg #[.int .u64 (bh), .int .u64 (bl)]] w fun e w' => e = .returned (.agg #[.int .u64 (hiOf (Z)), .int .u64 (loOf (Z))]) ∧ Below w.heap.size w w' := by
  go_enter Tryz.func93, Tryz.ntmps93
  go_wp2_with fail
  (with_reducible refine (CT.out _).mono ?_); rintro e w1 ⟨v1, rfl, n1, hb⟩
  have kk := bC (bA (bA bR _) _) hb
  have xr : HB w1 (w.heap.size + 1) 25 #[.int .u64 0, .int .u64 0] := (HB.newAt (by simp) _ _).later hb
  have xb : HB w1 w.heap.size 25 #[.int .u64 bh, .int .u64 bl] := ((HB.new w _ _).alloc _).later hb
  have b0 := xb.cell 0; have b1 := xb.cell 1; have bl_ := xb.lt; dsimp at b0 b1
  clear hb xb
  go_wp2_with fail
  (with_reducible refine (SG.out _).mono ?_); rintro e w2 ⟨rfl, hb⟩
  replace kk := bC kk hb; replace xr := xr.later hb; replace n1 := n1.later hb
  clear hb b0 b1 bl_
  go_wp2_with fail
  (with_reducible refine (PF.out _).mono ?_); rintro e wz ⟨rfl, rfl⟩
  go_wp2_with fail
  (with_reducible refine (fullN kp HP.out _).mono ?_); rintro e w3 ⟨v3, rfl, n3, hb⟩
  replace kk := bC kk hb; replace xr := xr.later hb; replace n1 := n1.later hb; clear hb
  go_wp2_with fail
  (with_reducible refine (add_num n1 n3 S1.out S2.out).mono ?_); rintro e w4 ⟨v4, rfl, n4, hb⟩
  replace kk := bC kk hb; replace xr := xr.later hb; clear hb n1 n3
  rw [HZ] at n4
  go_wp2_with fail
  (with_reducible refine (bits_num2 n4).mono ?_); rintro e w5 ⟨rfl, hb⟩
  replace kk := bC kk hb; replace xr := xr.later hb
  clear hb n4
  have KEY : Hid (HB ((w5.setCell ⟨w.heap.size + 1, 0, none⟩ (.int .u64 (hiOf Z))).setCell ⟨w.heap.size + 1, 1, none⟩ (.int .u64 (loOf Z))) (w.heap.size + 1) 25 #[.int .u64 (hiOf Z), .int .u64 (loOf Z)] ∧ Below w.heap.size w ((w5.setCell ⟨w.heap.size + 1, 0, none⟩ (.int .u64 (hiOf Z))).setCell ⟨w.heap.size + 1, 1, none⟩ (.int .u64 (loOf Z)))) := lH ⟨((xr.set 0 _).set 1 _), ((kk.setCell (p := ⟨w.heap.size + 1, 0, none⟩) (by simp) _).setCell (p := ⟨w.heap.size + 1, 1, none⟩) (by simp) _)⟩
  have z0 := xr.cell 0; have f0 := xr.frozen 0; have z1 := xr.cell 1; have f1 := xr.frozen 1; dsimp at z0 z1
  have hl := xr.lt
  clear xr kk
  go_wp2_with fail
  obtain ⟨hE, kb⟩ := KEY.out
  have e0 := hE.cell 0; have e1 := hE.cell 1; dsimp at e0 e1
  refine bodyPost_ret (v := .agg #[.int .u64 (hiOf (Z)), .int .u64 (loOf (Z))]) ?_ rfl ⟨rfl, kb⟩
  clear KEY hE kb z0 f0 z1 f1
  simp [results, Tryz.results93, go_sem, e0, e1]
theorem ref10_quiet (f b : Int) (f0 : 0 ≤ f) (f1 : f ≤ 255) (w : World) : Calls Tryz.prog 93 #[.int .u8 f, .agg #[.int .u64 (hiOf (b)), .int .u64 (loOf (b))]] w fun e w' => e = .returned (.agg #[.int .u64 (hiOf (quietF f (b % full))), .int .u64 (loOf (quietF f (b % full)))]) ∧ Below w.heap.size w w' := by
  have CT := lH (ref7_cut f b f0 f1)
  have SG := ref8_sig f b f0 f1
  by_cases h : sigF f (b % full) = true
  · obtain ⟨h4, _⟩ := sig_parts h
    obtain ⟨p0, p1, p2, p3, p4, p5, p6, p7, p8⟩ := f_nums f0 h4
    have sp : (2 : Int) ^ (fP f - 2) ≤ full := by have := two_pow_le (show fP f - 2 ≤ 128 by omega); rwa [full_pow] at this
    rw [h] at SG
    exact ref10_quiet_sig f _ _ _ _ _ (fP f - 2) CT (lH SG) (lH (ref7_prec f f0 f1)) (lH (by omega)) (by rw [IntWalk.i64_in _ (by omega)]; omega) (lH (small_cut f b)) (lH (small_full sp)) (by unfold quietF; rw [h, if_pos rfl]) w
  · have h' : sigF f (b % full) = false := by simpa using h
    rw [h'] at SG
    exact ref10_quiet_not f _ _ _ _ 0 0 CT (lH SG) (quiet_not h').symm w
end Go.Proofs.YtjdjonekoodalaaGreatDoor
namespace Go.Proofs.YtjdjonekoodalaaGreatDoor
open Go.RowKit
attribute [local go_sem ↓] Go.wp_at_zero Go.wp_at_succ
theorem ref10_pick_no (f : Int) (inv : Bool) (ao : Option Addr) (n cap : Nat) (g3 : decide (3 < f) = true) (w : World) : Calls Tryz.prog 37 #[.int .u8 f, .bool inv, .slice ao n cap] w fun e w' => e = .returned (.tuple #[.agg #[.int .u64 0, .int .u64 0, .int .u8 0], .bool false]) ∧ Below w.heap.size w w' := by
  go_enter Tryz.func37, Tryz.ntmps37
  go_wp2_with fail
  exact bodyPost_ret (v := .tuple #[.agg #[.int .u64 0, .int .u64 0, .int .u8 0], .bool false]) (by simp [results, Tryz.results37, go_sem]) rfl ⟨rfl, bA bR _⟩
theorem ref10_pick_true (f : Int) (ao : Option Addr) (n cap : Nat) (xs : List Int) (h4 : f < 4) (g3 : decide (3 < f) = false) (w : World) (x : Bs w ao n cap xs)
    (DF : Hid (∀ w, Calls Tryz.prog 91 #[.int .u8 f] w fun e w' => e = .returned (.agg #[.int .u64 (hiOf (firstV f [])), .int .u64 (loOf (firstV f []))]) ∧ Below w.heap.size w w')) (RN : Hid (∀ b w, Calls Tryz.prog 92 #[.int .u8 f, .agg #[.int .u64 (hiOf (b)), .int .u64 (loOf (b))]] w fun e w' => e = .returned (.bool (nanF f (b % full))) ∧ Below w.heap.size w w')) (RS : Hid (∀ b w, Calls Tryz.prog 94 #[.int .u8 f, .agg #[.int .u64 (hiOf (b)), .int .u64 (loOf (b))]] w fun e w' => e = .returned (.bool (sigF f (b % full))) ∧ Below w.heap.size w w')) (RQ : Hid (∀ b w, Calls Tryz.prog 93 #[.int .u8 f, .agg #[.int .u64 (hiOf (b)), .int .u64 (loOf (b))]] w fun e w' => e = .returned (.agg #[.int .u64 (hiOf (quietF f (b % full))), .int .u64 (loOf (quietF f (b % full)))]) ∧ Below w.heap.size w w')) :
    Calls Tryz.prog 37 #[.int .u8 f, .bool true, .slice ao n cap] w fun e w' => e = .returned (.tuple #[.agg #[.int .u64 (hiOf (pickV f true xs)), .int .u64 (loOf (pickV f true xs)), .int .u8 (pickF f true xs)], .bool (pickK f true xs)]) ∧ Below w.heap.size w w' := by
  have HX := lH x
  have HN := lH x.2.2.1.1
  clear x
  go_enter Tryz.func37, Tryz.ntmps37
  go_wp2_with fail
  (with_reducible refine (DF.out _).mono ?_); rintro e w1 ⟨rfl, hb⟩
  have kk := bC (bA bR _) hb
  have xo : HB w1 w.heap.size 30 #[.int .u64 0, .int .u64 0, .int .u8 0] := (HB.new w _ _).later hb
  have hw1 : w.heap.size < w1.heap.size := xo.lt
  clear hb
  go_wp2_with fail
  go_loopw [9, 10] (fun fd i wr => ∃ k : Nat, k ≤ n ∧ i = .int .i64 k ∧ fd = .bool (someB (fun b => nanF f (b % full)) xs k) ∧ HB wr w1.heap.size 30 #[.int .u64 (hiOf (firstV f (xs.take k))), .int .u64 (loOf (firstV f (xs.take k))), .int .u8 (if someB (fun b => sigF f (b % full)) xs k then 1 else 0)] ∧ HB wr w.heap.size 30 #[.int .u64 0, .int .u64 0, .int .u8 0] ∧ Below w.heap.size w wr) (fun _ i _ => n - (intOf i).toNat)
  case atStart => exact ⟨0, by omega, rfl, rfl, HB.new _ _ _, xo.alloc _, bA kk _⟩
  case round =>
    clear kk xo
    obtain ⟨k, hk, rfl, rfl, xr, xo, kk⟩ := hrel
    obtain ⟨V, hV⟩ : ∃ V, firstV f (xs.take k) = V := ⟨_, rfl⟩
    obtain ⟨s, hs⟩ : ∃ s, someB (fun b => sigF f (b % full)) xs k = s := ⟨_, rfl⟩
    obtain ⟨fd, hfd⟩ : ∃ fd, someB (fun b => nanF f (b % full)) xs k = fd := ⟨_, rfl⟩
    obtain ⟨fl, hfl⟩ : ∃ fl : Int, (if s then 1 else 0) = fl := ⟨_, rfl⟩
    rw [hV, hs, hfl] at xr
    rw [hfd]
    by_cases hlt : k < n
    · have gk : decide ((k : Int) < (n : Int)) = true := by simp; omega
      have inc : IntKind.i64.wrap ((k : Int) + 1) = ((k + 1 : Nat) : Int) := by have := HN.out; rw [IntKind.wrap_i64]; omega
      obtain ⟨b, hbk⟩ : ∃ b, xs.getD k 0 = b := ⟨_, rfl⟩
      have hkx : k < xs.length := HX.out.1 ▸ hlt
      obtain ⟨a, hao⟩ : ∃ a, ao = some a := by obtain ⟨a, ha, _⟩ := HX.out.2.2.2 k hlt; exact ⟨a, ha⟩
      subst hao
      have SN := someB_succ (fun b => nanF f (b % full)) xs k hkx
      have SS := someB_succ (fun b => sigF f (b % full)) xs k hkx
      have TK : xs.take (k + 1) = xs.take k ++ [b] := by rw [List.take_add_one, List.getElem?_eq_getElem hkx, show xs[k] = b by rw [← hbk, List.getD_eq_getElem?_getD, List.getElem?_eq_getElem hkx]; rfl]; rfl
      have FV := first_snoc f (xs.take k) b
      rw [← TK, show anyN f (xs.take k) = fd from hfd, hV] at FV
      clear TK
      rw [hfd, hbk] at SN
      rw [hs, hbk] at SS
      replace RN := RN.out b; replace RS := RS.out b; replace RQ := RQ.out b
      obtain ⟨Y, hY⟩ : ∃ Y, quietF f (b % full) = Y := ⟨_, rfl⟩
      rw [hY] at RQ FV
      have hq : sigF f (b % full) = true → nanF f (b % full) = true := sig_nan
      obtain ⟨p, hp⟩ : ∃ p, nanF f (b % full) = p := ⟨_, rfl⟩
      obtain ⟨q, hqq⟩ : ∃ q, sigF f (b % full) = q := ⟨_, rfl⟩
      simp only [hp, hqq] at RN RS SN SS FV hq
      replace RN := lH RN; replace RS := lH RS; replace RQ := lH RQ
      clear hY hp hqq hV hs hfd hk
      cases p <;> cases fd <;> cases q
      · clear hq
        replace FV := lH FV
        simp only [Bool.or_true, Bool.or_false] at SN SS
        replace SN := lH SN; replace SS := lH (show (if someB (fun b => sigF f (b % full)) xs (k + 1) then (1 : Int) else 0) = fl by rw [SS]; exact hfl)
        clear hfl
        obtain ⟨c0, c1⟩ := (HX.out.later kk).two hlt
        rw [hbk] at c0 c1
        go_wp2_with fail
        (with_reducible refine (RN.out _).mono ?_); rintro e w4 ⟨rfl, hb⟩
        replace kk := bC kk hb; replace xr := xr.later hb; replace xo := xo.later hb
        clear hb c0 c1
        obtain ⟨c0, c1⟩ := (HX.out.later kk).two hlt
        rw [hbk] at c0 c1
        go_wp2_with fail
        (with_reducible refine (RS.out _).mono ?_); rintro e w6 ⟨rfl, hb⟩
        replace kk := bC kk hb; replace xr := xr.later hb; replace xo := xo.later hb
        clear hb c0 c1
        go_wp2_with fail
        go_roundw
        case rel => exact ⟨k + 1, by omega, by go_num, congrArg Value.bool SN.out.symm, (by rw [FV.out, SS.out]; exact xr), xo, kk⟩
        case measure => simp [intOf]; omega
      · exact absurd (hq rfl) (by decide)
      · clear hq
        replace FV := lH FV
        simp only [Bool.or_true, Bool.or_false] at SN SS
        replace SN := lH SN; replace SS := lH (show (if someB (fun b => sigF f (b % full)) xs (k + 1) then (1 : Int) else 0) = fl by rw [SS]; exact hfl)
        clear hfl
        obtain ⟨c0, c1⟩ := (HX.out.later kk).two hlt
        rw [hbk] at c0 c1
        go_wp2_with fail
        (with_reducible refine (RN.out _).mono ?_); rintro e w4 ⟨rfl, hb⟩
        replace kk := bC kk hb; replace xr := xr.later hb; replace xo := xo.later hb
        clear hb c0 c1
        obtain ⟨c0, c1⟩ := (HX.out.later kk).two hlt
        rw [hbk] at c0 c1
        go_wp2_with fail
        (with_reducible refine (RS.out _).mono ?_); rintro e w6 ⟨rfl, hb⟩
        replace kk := bC kk hb; replace xr := xr.later hb; replace xo := xo.later hb
        clear hb c0 c1
        go_wp2_with fail
        go_roundw
        case rel => exact ⟨k + 1, by omega, by go_num, congrArg Value.bool SN.out.symm, (by rw [FV.out, SS.out]; exact xr), xo, kk⟩
        case measure => simp [intOf]; omega
      · exact absurd (hq rfl) (by decide)
      · clear hq
        replace FV := lH FV
        simp only [Bool.or_true, Bool.or_false] at SN SS
        replace SN := lH SN; replace SS := lH (show (if someB (fun b => sigF f (b % full)) xs (k + 1) then (1 : Int) else 0) = fl by rw [SS]; exact hfl)
        clear hfl
        obtain ⟨c0, c1⟩ := (HX.out.later kk).two hlt
        rw [hbk] at c0 c1
        go_wp2_with fail
        (with_reducible refine (RN.out _).mono ?_); rintro e w4 ⟨rfl, hb⟩
        replace kk := bC kk hb; replace xr := xr.later hb; replace xo := xo.later hb
        clear hb c0 c1
        obtain ⟨c0, c1⟩ := (HX.out.later kk).two hlt
        rw [hbk] at c0 c1
        go_wp2_with fail
        (with_reducible refine (RQ.out _).mono ?_); rintro e w5 ⟨rfl, hb⟩
        replace kk := bC kk hb; replace xr := xr.later hb; replace xo := xo.later hb
        clear hb c0 c1
        have z0 := xr.cell 0; have z1 := xr.cell 1; have y0 := xr.frozen 0; have y1 := xr.frozen 1; have zl := xr.lt; dsimp at z0 z1
        obtain ⟨WW, hWW⟩ : ∃ WW, (w5.setCell ⟨w1.heap.size, 0, none⟩ (.int .u64 (hiOf Y))).setCell ⟨w1.heap.size, 1, none⟩ (.int .u64 (loOf Y)) = WW := ⟨_, rfl⟩
        have ka : Below w.heap.size w WW := by subst hWW; exact (kk.setCell (p := ⟨w1.heap.size, 0, none⟩) (by show w.heap.size ≤ w1.heap.size; omega) _).setCell (p := ⟨w1.heap.size, 1, none⟩) (by show w.heap.size ≤ w1.heap.size; omega) _
        have xra : HB WW w1.heap.size 30 #[.int .u64 (hiOf Y), .int .u64 (loOf Y), .int .u8 fl] := by subst hWW; exact (xr.set 0 _).set 1 _
        have xoa : HB WW w.heap.size 30 #[.int .u64 0, .int .u64 0, .int .u8 0] := by subst hWW; exact (xo.other (by omega) _ _).other (by omega) _ _
        obtain ⟨c0, c1⟩ := (HX.out.later ka).two hlt
        rw [hbk] at c0 c1
        clear kk xr xo
        go_wp2_with fail
        (with_reducible refine (RS.out _).mono ?_); rintro e w6 ⟨rfl, hb⟩
        have kk := bC ka hb; have xr := xra.later hb; have xo := xoa.later hb
        clear hb c0 c1 z0 z1 y0 y1 zl hWW ka xra xoa
        go_wp2_with fail
        go_roundw
        case rel => exact ⟨k + 1, by omega, by go_num, congrArg Value.bool SN.out.symm, (by rw [FV.out, SS.out]; exact xr), xo, kk⟩
        case measure => simp [intOf]; omega
      · clear hq
        replace FV := lH FV
        simp only [Bool.or_true, Bool.or_false] at SN SS
        replace SN := lH SN; replace SS := lH (show (if someB (fun b => sigF f (b % full)) xs (k + 1) then (1 : Int) else 0) = 1 by rw [SS]; rfl)
        clear hfl
        obtain ⟨c0, c1⟩ := (HX.out.later kk).two hlt
        rw [hbk] at c0 c1
        go_wp2_with fail
        (with_reducible refine (RN.out _).mono ?_); rintro e w4 ⟨rfl, hb⟩
        replace kk := bC kk hb; replace xr := xr.later hb; replace xo := xo.later hb
        clear hb c0 c1
        obtain ⟨c0, c1⟩ := (HX.out.later kk).two hlt
        rw [hbk] at c0 c1
        go_wp2_with fail
        (with_reducible refine (RQ.out _).mono ?_); rintro e w5 ⟨rfl, hb⟩
        replace kk := bC kk hb; replace xr := xr.later hb; replace xo := xo.later hb
        clear hb c0 c1
        have z0 := xr.cell 0; have z1 := xr.cell 1; have y0 := xr.frozen 0; have y1 := xr.frozen 1; have zl := xr.lt; dsimp at z0 z1
        obtain ⟨WW, hWW⟩ : ∃ WW, (w5.setCell ⟨w1.heap.size, 0, none⟩ (.int .u64 (hiOf Y))).setCell ⟨w1.heap.size, 1, none⟩ (.int .u64 (loOf Y)) = WW := ⟨_, rfl⟩
        have ka : Below w.heap.size w WW := by subst hWW; exact (kk.setCell (p := ⟨w1.heap.size, 0, none⟩) (by show w.heap.size ≤ w1.heap.size; omega) _).setCell (p := ⟨w1.heap.size, 1, none⟩) (by show w.heap.size ≤ w1.heap.size; omega) _
        have xra : HB WW w1.heap.size 30 #[.int .u64 (hiOf Y), .int .u64 (loOf Y), .int .u8 fl] := by subst hWW; exact (xr.set 0 _).set 1 _
        have xoa : HB WW w.heap.size 30 #[.int .u64 0, .int .u64 0, .int .u8 0] := by subst hWW; exact (xo.other (by omega) _ _).other (by omega) _ _
        obtain ⟨c0, c1⟩ := (HX.out.later ka).two hlt
        rw [hbk] at c0 c1
        clear kk xr xo
        go_wp2_with fail
        (with_reducible refine (RS.out _).mono ?_); rintro e w6 ⟨rfl, hb⟩
        have kk := bC ka hb; have xr := xra.later hb; have xo := xoa.later hb
        clear hb c0 c1 z0 z1 y0 y1 zl hWW ka xra xoa
        have z2 := xr.cell 2; have y2 := xr.frozen 2; have zl := xr.lt; dsimp at z2
        have KEY := lH (show HB (w6.setCell ⟨w1.heap.size, 2, none⟩ (.int .u8 1)) w1.heap.size 30 #[.int .u64 (hiOf Y), .int .u64 (loOf Y), .int .u8 1] ∧ HB (w6.setCell ⟨w1.heap.size, 2, none⟩ (.int .u8 1)) w.heap.size 30 #[.int .u64 0, .int .u64 0, .int .u8 0] ∧ Below w.heap.size w (w6.setCell ⟨w1.heap.size, 2, none⟩ (.int .u8 1)) from ⟨xr.set 2 _, xo.other (by omega) _ _, kk.setCell (p := ⟨w1.heap.size, 2, none⟩) (by show w.heap.size ≤ w1.heap.size; omega) _⟩)
        clear xr xo kk
        go_wp2_with fail
        go_roundw
        case rel => exact ⟨k + 1, by omega, by go_num, congrArg Value.bool SN.out.symm, (by rw [FV.out, SS.out]; exact KEY.out.1), KEY.out.2.1, KEY.out.2.2⟩
        case measure => simp [intOf]; omega
      · clear hq
        replace FV := lH FV
        simp only [Bool.or_true, Bool.or_false] at SN SS
        replace SN := lH SN; replace SS := lH (show (if someB (fun b => sigF f (b % full)) xs (k + 1) then (1 : Int) else 0) = fl by rw [SS]; exact hfl)
        clear hfl
        obtain ⟨c0, c1⟩ := (HX.out.later kk).two hlt
        rw [hbk] at c0 c1
        go_wp2_with fail
        (with_reducible refine (RN.out _).mono ?_); rintro e w4 ⟨rfl, hb⟩
        replace kk := bC kk hb; replace xr := xr.later hb; replace xo := xo.later hb
        clear hb c0 c1
        obtain ⟨c0, c1⟩ := (HX.out.later kk).two hlt
        rw [hbk] at c0 c1
        go_wp2_with fail
        (with_reducible refine (RS.out _).mono ?_); rintro e w6 ⟨rfl, hb⟩
        replace kk := bC kk hb; replace xr := xr.later hb; replace xo := xo.later hb
        clear hb c0 c1
        go_wp2_with fail
        go_roundw
        case rel => exact ⟨k + 1, by omega, by go_num, congrArg Value.bool SN.out.symm, (by rw [FV.out, SS.out]; exact xr), xo, kk⟩
        case measure => simp [intOf]; omega
      · clear hq
        replace FV := lH FV
        simp only [Bool.or_true, Bool.or_false] at SN SS
        replace SN := lH SN; replace SS := lH (show (if someB (fun b => sigF f (b % full)) xs (k + 1) then (1 : Int) else 0) = 1 by rw [SS]; rfl)
        clear hfl
        obtain ⟨c0, c1⟩ := (HX.out.later kk).two hlt
        rw [hbk] at c0 c1
        go_wp2_with fail
        (with_reducible refine (RN.out _).mono ?_); rintro e w4 ⟨rfl, hb⟩
        replace kk := bC kk hb; replace xr := xr.later hb; replace xo := xo.later hb
        clear hb c0 c1
        obtain ⟨c0, c1⟩ := (HX.out.later kk).two hlt
        rw [hbk] at c0 c1
        go_wp2_with fail
        (with_reducible refine (RS.out _).mono ?_); rintro e w6 ⟨rfl, hb⟩
        replace kk := bC kk hb; replace xr := xr.later hb; replace xo := xo.later hb
        clear hb c0 c1
        have z2 := xr.cell 2; have y2 := xr.frozen 2; have zl := xr.lt; dsimp at z2
        have KEY := lH (show HB (w6.setCell ⟨w1.heap.size, 2, none⟩ (.int .u8 1)) w1.heap.size 30 #[.int .u64 (hiOf V), .int .u64 (loOf V), .int .u8 1] ∧ HB (w6.setCell ⟨w1.heap.size, 2, none⟩ (.int .u8 1)) w.heap.size 30 #[.int .u64 0, .int .u64 0, .int .u8 0] ∧ Below w.heap.size w (w6.setCell ⟨w1.heap.size, 2, none⟩ (.int .u8 1)) from ⟨xr.set 2 _, xo.other (by omega) _ _, kk.setCell (p := ⟨w1.heap.size, 2, none⟩) (by show w.heap.size ≤ w1.heap.size; omega) _⟩)
        clear xr xo kk
        go_wp2_with fail
        go_roundw
        case rel => exact ⟨k + 1, by omega, by go_num, congrArg Value.bool SN.out.symm, (by rw [FV.out, SS.out]; exact KEY.out.1), KEY.out.2.1, KEY.out.2.2⟩
        case measure => simp [intOf]; omega
    · have gk : decide ((k : Int) < (n : Int)) = false := by simp; omega
      obtain rfl : k = n := by omega
      have hx := HX.out.1
      rw [List.take_of_length_le (by omega)] at hV
      rw [someB_all _ _ hx] at hs hfd
      have RET : Hid (∀ g, pickK f true xs = g → (Value.tuple #[.agg #[.int .u64 (hiOf (pickV f true xs)), .int .u64 (loOf (pickV f true xs)), .int .u8 (pickF f true xs)], .bool (pickK f true xs)]) = if g then .tuple #[.agg #[.int .u64 (hiOf V), .int .u64 (loOf V), .int .u8 1], .bool true] else .tuple #[.agg #[.int .u64 0, .int .u64 0, .int .u8 0], .bool false]) := lH (by
        intro g hg
        subst hg
        unfold pickV pickF
        by_cases h : pickK f true xs = true
        · rw [h, if_pos rfl, if_pos rfl, hV]; simp [anyS, hs, hfl]
        · rw [Bool.not_eq_true] at h; simp only [h]; simp [hl_zero.1, hl_zero.2])
      have PK : pickK f true xs = (true || fd) := by unfold pickK anyN; rw [hfd]; simp [h4]
      replace PK := lH PK
      clear hV hs hfd hfl hk hx hlt
      cases fd
      · replace RET := lH (RET.out true (by rw [PK.out]; rfl))
        clear PK
        have z0 := xr.cell 0; have z1 := xr.cell 1; have z2 := xr.cell 2; have y2 := xr.frozen 2; have zl := xr.lt; dsimp at z0 z1 z2
        have KEY : Hid (HB ((((wr.setCell ⟨w1.heap.size, 2, none⟩ (.int .u8 1)).setCell ⟨w.heap.size, 0, none⟩ (.int .u64 (hiOf V))).setCell ⟨w.heap.size, 1, none⟩ (.int .u64 (loOf V))).setCell ⟨w.heap.size, 2, none⟩ (.int .u8 1)) w.heap.size 30 #[.int .u64 (hiOf V), .int .u64 (loOf V), .int .u8 1] ∧ Below w.heap.size w ((((wr.setCell ⟨w1.heap.size, 2, none⟩ (.int .u8 1)).setCell ⟨w.heap.size, 0, none⟩ (.int .u64 (hiOf V))).setCell ⟨w.heap.size, 1, none⟩ (.int .u64 (loOf V))).setCell ⟨w.heap.size, 2, none⟩ (.int .u8 1))) := lH ⟨((((xo.other (by omega) _ _).set 0 _).set 1 _).set 2 _), ((((kk.setCell (p := ⟨w1.heap.size, 2, none⟩) (by show w.heap.size ≤ w1.heap.size; omega) _).setCell (p := ⟨w.heap.size, 0, none⟩) (Nat.le_refl _) _).setCell (p := ⟨w.heap.size, 1, none⟩) (Nat.le_refl _) _).setCell (p := ⟨w.heap.size, 2, none⟩) (Nat.le_refl _) _)⟩
        have o0 := xo.cell 0; have q0 := xo.frozen 0; have o1 := xo.cell 1; have q1 := xo.frozen 1; have o2 := xo.cell 2; have q2 := xo.frozen 2; have ol := xo.lt; dsimp at o0 o1 o2
        have hne : w1.heap.size ≠ w.heap.size := by omega
        have hne2 : w.heap.size ≠ w1.heap.size := by omega
        clear xo xr kk
        go_wp2_with fail
        obtain ⟨hE, kb⟩ := KEY.out
        have e0 := hE.cell 0; have e1 := hE.cell 1; have e2 := hE.cell 2; dsimp at e0 e1 e2
        refine bodyPost_ret (v := .tuple #[.agg #[.int .u64 (hiOf V), .int .u64 (loOf V), .int .u8 1], .bool true]) ?_ rfl ⟨by rw [RET.out]; rfl, kb⟩
        clear KEY hE kb z0 z1 z2 y2 o0 o1 o2 q0 q1 q2
        simp [results, Tryz.results37, go_sem, e0, e1, e2]
      · replace RET := lH (RET.out true (by rw [PK.out]; rfl))
        clear PK
        have z0 := xr.cell 0; have z1 := xr.cell 1; have z2 := xr.cell 2; have y2 := xr.frozen 2; have zl := xr.lt; dsimp at z0 z1 z2
        have KEY : Hid (HB ((((wr.setCell ⟨w1.heap.size, 2, none⟩ (.int .u8 1)).setCell ⟨w.heap.size, 0, none⟩ (.int .u64 (hiOf V))).setCell ⟨w.heap.size, 1, none⟩ (.int .u64 (loOf V))).setCell ⟨w.heap.size, 2, none⟩ (.int .u8 1)) w.heap.size 30 #[.int .u64 (hiOf V), .int .u64 (loOf V), .int .u8 1] ∧ Below w.heap.size w ((((wr.setCell ⟨w1.heap.size, 2, none⟩ (.int .u8 1)).setCell ⟨w.heap.size, 0, none⟩ (.int .u64 (hiOf V))).setCell ⟨w.heap.size, 1, none⟩ (.int .u64 (loOf V))).setCell ⟨w.heap.size, 2, none⟩ (.int .u8 1))) := lH ⟨((((xo.other (by omega) _ _).set 0 _).set 1 _).set 2 _), ((((kk.setCell (p := ⟨w1.heap.size, 2, none⟩) (by show w.heap.size ≤ w1.heap.size; omega) _).setCell (p := ⟨w.heap.size, 0, none⟩) (Nat.le_refl _) _).setCell (p := ⟨w.heap.size, 1, none⟩) (Nat.le_refl _) _).setCell (p := ⟨w.heap.size, 2, none⟩) (Nat.le_refl _) _)⟩
        have o0 := xo.cell 0; have q0 := xo.frozen 0; have o1 := xo.cell 1; have q1 := xo.frozen 1; have o2 := xo.cell 2; have q2 := xo.frozen 2; have ol := xo.lt; dsimp at o0 o1 o2
        have hne : w1.heap.size ≠ w.heap.size := by omega
        have hne2 : w.heap.size ≠ w1.heap.size := by omega
        clear xo xr kk
        go_wp2_with fail
        obtain ⟨hE, kb⟩ := KEY.out
        have e0 := hE.cell 0; have e1 := hE.cell 1; have e2 := hE.cell 2; dsimp at e0 e1 e2
        refine bodyPost_ret (v := .tuple #[.agg #[.int .u64 (hiOf V), .int .u64 (loOf V), .int .u8 1], .bool true]) ?_ rfl ⟨by rw [RET.out]; rfl, kb⟩
        clear KEY hE kb z0 z1 z2 y2 o0 o1 o2 q0 q1 q2
        simp [results, Tryz.results37, go_sem, e0, e1, e2]
theorem ref10_pick_false (f : Int) (ao : Option Addr) (n cap : Nat) (xs : List Int) (h4 : f < 4) (g3 : decide (3 < f) = false) (w : World) (x : Bs w ao n cap xs)
    (DF : Hid (∀ w, Calls Tryz.prog 91 #[.int .u8 f] w fun e w' => e = .returned (.agg #[.int .u64 (hiOf (firstV f [])), .int .u64 (loOf (firstV f []))]) ∧ Below w.heap.size w w')) (RN : Hid (∀ b w, Calls Tryz.prog 92 #[.int .u8 f, .agg #[.int .u64 (hiOf (b)), .int .u64 (loOf (b))]] w fun e w' => e = .returned (.bool (nanF f (b % full))) ∧ Below w.heap.size w w')) (RS : Hid (∀ b w, Calls Tryz.prog 94 #[.int .u8 f, .agg #[.int .u64 (hiOf (b)), .int .u64 (loOf (b))]] w fun e w' => e = .returned (.bool (sigF f (b % full))) ∧ Below w.heap.size w w')) (RQ : Hid (∀ b w, Calls Tryz.prog 93 #[.int .u8 f, .agg #[.int .u64 (hiOf (b)), .int .u64 (loOf (b))]] w fun e w' => e = .returned (.agg #[.int .u64 (hiOf (quietF f (b % full))), .int .u64 (loOf (quietF f (b % full)))]) ∧ Below w.heap.size w w')) :
    Calls Tryz.prog 37 #[.int .u8 f, .bool false, .slice ao n cap] w fun e w' => e = .returned (.tuple #[.agg #[.int .u64 (hiOf (pickV f false xs)), .int .u64 (loOf (pickV f false xs)), .int .u8 (pickF f false xs)], .bool (pickK f false xs)]) ∧ Below w.heap.size w w' := by
  have HX := lH x
  have HN := lH x.2.2.1.1
  clear x
  go_enter Tryz.func37, Tryz.ntmps37
  go_wp2_with fail
  (with_reducible refine (DF.out _).mono ?_); rintro e w1 ⟨rfl, hb⟩
  have kk := bC (bA bR _) hb
  have xo : HB w1 w.heap.size 30 #[.int .u64 0, .int .u64 0, .int .u8 0] := (HB.new w _ _).later hb
  have hw1 : w.heap.size < w1.heap.size := xo.lt
  clear hb
  go_wp2_with fail
  go_loopw [9, 10] (fun fd i wr => ∃ k : Nat, k ≤ n ∧ i = .int .i64 k ∧ fd = .bool (someB (fun b => nanF f (b % full)) xs k) ∧ HB wr w1.heap.size 30 #[.int .u64 (hiOf (firstV f (xs.take k))), .int .u64 (loOf (firstV f (xs.take k))), .int .u8 (if someB (fun b => sigF f (b % full)) xs k then 1 else 0)] ∧ HB wr w.heap.size 30 #[.int .u64 0, .int .u64 0, .int .u8 0] ∧ Below w.heap.size w wr) (fun _ i _ => n - (intOf i).toNat)
  case atStart => exact ⟨0, by omega, rfl, rfl, HB.new _ _ _, xo.alloc _, bA kk _⟩
  case round =>
    clear kk xo
    obtain ⟨k, hk, rfl, rfl, xr, xo, kk⟩ := hrel
    obtain ⟨V, hV⟩ : ∃ V, firstV f (xs.take k) = V := ⟨_, rfl⟩
    obtain ⟨s, hs⟩ : ∃ s, someB (fun b => sigF f (b % full)) xs k = s := ⟨_, rfl⟩
    obtain ⟨fd, hfd⟩ : ∃ fd, someB (fun b => nanF f (b % full)) xs k = fd := ⟨_, rfl⟩
    obtain ⟨fl, hfl⟩ : ∃ fl : Int, (if s then 1 else 0) = fl := ⟨_, rfl⟩
    rw [hV, hs, hfl] at xr
    rw [hfd]
    by_cases hlt : k < n
    · have gk : decide ((k : Int) < (n : Int)) = true := by simp; omega
      have inc : IntKind.i64.wrap ((k : Int) + 1) = ((k + 1 : Nat) : Int) := by have := HN.out; rw [IntKind.wrap_i64]; omega
      obtain ⟨b, hbk⟩ : ∃ b, xs.getD k 0 = b := ⟨_, rfl⟩
      have hkx : k < xs.length := HX.out.1 ▸ hlt
      obtain ⟨a, hao⟩ : ∃ a, ao = some a := by obtain ⟨a, ha, _⟩ := HX.out.2.2.2 k hlt; exact ⟨a, ha⟩
      subst hao
      have SN := someB_succ (fun b => nanF f (b % full)) xs k hkx
      have SS := someB_succ (fun b => sigF f (b % full)) xs k hkx
      have TK : xs.take (k + 1) = xs.take k ++ [b] := by rw [List.take_add_one, List.getElem?_eq_getElem hkx, show xs[k] = b by rw [← hbk, List.getD_eq_getElem?_getD, List.getElem?_eq_getElem hkx]; rfl]; rfl
      have FV := first_snoc f (xs.take k) b
      rw [← TK, show anyN f (xs.take k) = fd from hfd, hV] at FV
      clear TK
      rw [hfd, hbk] at SN
      rw [hs, hbk] at SS
      replace RN := RN.out b; replace RS := RS.out b; replace RQ := RQ.out b
      obtain ⟨Y, hY⟩ : ∃ Y, quietF f (b % full) = Y := ⟨_, rfl⟩
      rw [hY] at RQ FV
      have hq : sigF f (b % full) = true → nanF f (b % full) = true := sig_nan
      obtain ⟨p, hp⟩ : ∃ p, nanF f (b % full) = p := ⟨_, rfl⟩
      obtain ⟨q, hqq⟩ : ∃ q, sigF f (b % full) = q := ⟨_, rfl⟩
      simp only [hp, hqq] at RN RS SN SS FV hq
      replace RN := lH RN; replace RS := lH RS; replace RQ := lH RQ
      clear hY hp hqq hV hs hfd hk
      cases p <;> cases fd <;> cases q
      · clear hq
        replace FV := lH FV
        simp only [Bool.or_true, Bool.or_false] at SN SS
        replace SN := lH SN; replace SS := lH (show (if someB (fun b => sigF f (b % full)) xs (k + 1) then (1 : Int) else 0) = fl by rw [SS]; exact hfl)
        clear hfl
        obtain ⟨c0, c1⟩ := (HX.out.later kk).two hlt
        rw [hbk] at c0 c1
        go_wp2_with fail
        (with_reducible refine (RN.out _).mono ?_); rintro e w4 ⟨rfl, hb⟩
        replace kk := bC kk hb; replace xr := xr.later hb; replace xo := xo.later hb
        clear hb c0 c1
        obtain ⟨c0, c1⟩ := (HX.out.later kk).two hlt
        rw [hbk] at c0 c1
        go_wp2_with fail
        (with_reducible refine (RS.out _).mono ?_); rintro e w6 ⟨rfl, hb⟩
        replace kk := bC kk hb; replace xr := xr.later hb; replace xo := xo.later hb
        clear hb c0 c1
        go_wp2_with fail
        go_roundw
        case rel => exact ⟨k + 1, by omega, by go_num, congrArg Value.bool SN.out.symm, (by rw [FV.out, SS.out]; exact xr), xo, kk⟩
        case measure => simp [intOf]; omega
      · exact absurd (hq rfl) (by decide)
      · clear hq
        replace FV := lH FV
        simp only [Bool.or_true, Bool.or_false] at SN SS
        replace SN := lH SN; replace SS := lH (show (if someB (fun b => sigF f (b % full)) xs (k + 1) then (1 : Int) else 0) = fl by rw [SS]; exact hfl)
        clear hfl
        obtain ⟨c0, c1⟩ := (HX.out.later kk).two hlt
        rw [hbk] at c0 c1
        go_wp2_with fail
        (with_reducible refine (RN.out _).mono ?_); rintro e w4 ⟨rfl, hb⟩
        replace kk := bC kk hb; replace xr := xr.later hb; replace xo := xo.later hb
        clear hb c0 c1
        obtain ⟨c0, c1⟩ := (HX.out.later kk).two hlt
        rw [hbk] at c0 c1
        go_wp2_with fail
        (with_reducible refine (RS.out _).mono ?_); rintro e w6 ⟨rfl, hb⟩
        replace kk := bC kk hb; replace xr := xr.later hb; replace xo := xo.later hb
        clear hb c0 c1
        go_wp2_with fail
        go_roundw
        case rel => exact ⟨k + 1, by omega, by go_num, congrArg Value.bool SN.out.symm, (by rw [FV.out, SS.out]; exact xr), xo, kk⟩
        case measure => simp [intOf]; omega
      · exact absurd (hq rfl) (by decide)
      · clear hq
        replace FV := lH FV
        simp only [Bool.or_true, Bool.or_false] at SN SS
        replace SN := lH SN; replace SS := lH (show (if someB (fun b => sigF f (b % full)) xs (k + 1) then (1 : Int) else 0) = fl by rw [SS]; exact hfl)
        clear hfl
        obtain ⟨c0, c1⟩ := (HX.out.later kk).two hlt
        rw [hbk] at c0 c1
        go_wp2_with fail
        (with_reducible refine (RN.out _).mono ?_); rintro e w4 ⟨rfl, hb⟩
        replace kk := bC kk hb; replace xr := xr.later hb; replace xo := xo.later hb
        clear hb c0 c1
        obtain ⟨c0, c1⟩ := (HX.out.later kk).two hlt
        rw [hbk] at c0 c1
        go_wp2_with fail
        (with_reducible refine (RQ.out _).mono ?_); rintro e w5 ⟨rfl, hb⟩
        replace kk := bC kk hb; replace xr := xr.later hb; replace xo := xo.later hb
        clear hb c0 c1
        have z0 := xr.cell 0; have z1 := xr.cell 1; have y0 := xr.frozen 0; have y1 := xr.frozen 1; have zl := xr.lt; dsimp at z0 z1
        obtain ⟨WW, hWW⟩ : ∃ WW, (w5.setCell ⟨w1.heap.size, 0, none⟩ (.int .u64 (hiOf Y))).setCell ⟨w1.heap.size, 1, none⟩ (.int .u64 (loOf Y)) = WW := ⟨_, rfl⟩
        have ka : Below w.heap.size w WW := by subst hWW; exact (kk.setCell (p := ⟨w1.heap.size, 0, none⟩) (by show w.heap.size ≤ w1.heap.size; omega) _).setCell (p := ⟨w1.heap.size, 1, none⟩) (by show w.heap.size ≤ w1.heap.size; omega) _
        have xra : HB WW w1.heap.size 30 #[.int .u64 (hiOf Y), .int .u64 (loOf Y), .int .u8 fl] := by subst hWW; exact (xr.set 0 _).set 1 _
        have xoa : HB WW w.heap.size 30 #[.int .u64 0, .int .u64 0, .int .u8 0] := by subst hWW; exact (xo.other (by omega) _ _).other (by omega) _ _
        obtain ⟨c0, c1⟩ := (HX.out.later ka).two hlt
        rw [hbk] at c0 c1
        clear kk xr xo
        go_wp2_with fail
        (with_reducible refine (RS.out _).mono ?_); rintro e w6 ⟨rfl, hb⟩
        have kk := bC ka hb; have xr := xra.later hb; have xo := xoa.later hb
        clear hb c0 c1 z0 z1 y0 y1 zl hWW ka xra xoa
        go_wp2_with fail
        go_roundw
        case rel => exact ⟨k + 1, by omega, by go_num, congrArg Value.bool SN.out.symm, (by rw [FV.out, SS.out]; exact xr), xo, kk⟩
        case measure => simp [intOf]; omega
      · clear hq
        replace FV := lH FV
        simp only [Bool.or_true, Bool.or_false] at SN SS
        replace SN := lH SN; replace SS := lH (show (if someB (fun b => sigF f (b % full)) xs (k + 1) then (1 : Int) else 0) = 1 by rw [SS]; rfl)
        clear hfl
        obtain ⟨c0, c1⟩ := (HX.out.later kk).two hlt
        rw [hbk] at c0 c1
        go_wp2_with fail
        (with_reducible refine (RN.out _).mono ?_); rintro e w4 ⟨rfl, hb⟩
        replace kk := bC kk hb; replace xr := xr.later hb; replace xo := xo.later hb
        clear hb c0 c1
        obtain ⟨c0, c1⟩ := (HX.out.later kk).two hlt
        rw [hbk] at c0 c1
        go_wp2_with fail
        (with_reducible refine (RQ.out _).mono ?_); rintro e w5 ⟨rfl, hb⟩
        replace kk := bC kk hb; replace xr := xr.later hb; replace xo := xo.later hb
        clear hb c0 c1
        have z0 := xr.cell 0; have z1 := xr.cell 1; have y0 := xr.frozen 0; have y1 := xr.frozen 1; have zl := xr.lt; dsimp at z0 z1
        obtain ⟨WW, hWW⟩ : ∃ WW, (w5.setCell ⟨w1.heap.size, 0, none⟩ (.int .u64 (hiOf Y))).setCell ⟨w1.heap.size, 1, none⟩ (.int .u64 (loOf Y)) = WW := ⟨_, rfl⟩
        have ka : Below w.heap.size w WW := by subst hWW; exact (kk.setCell (p := ⟨w1.heap.size, 0, none⟩) (by show w.heap.size ≤ w1.heap.size; omega) _).setCell (p := ⟨w1.heap.size, 1, none⟩) (by show w.heap.size ≤ w1.heap.size; omega) _
        have xra : HB WW w1.heap.size 30 #[.int .u64 (hiOf Y), .int .u64 (loOf Y), .int .u8 fl] := by subst hWW; exact (xr.set 0 _).set 1 _
        have xoa : HB WW w.heap.size 30 #[.int .u64 0, .int .u64 0, .int .u8 0] := by subst hWW; exact (xo.other (by omega) _ _).other (by omega) _ _
        obtain ⟨c0, c1⟩ := (HX.out.later ka).two hlt
        rw [hbk] at c0 c1
        clear kk xr xo
        go_wp2_with fail
        (with_reducible refine (RS.out _).mono ?_); rintro e w6 ⟨rfl, hb⟩
        have kk := bC ka hb; have xr := xra.later hb; have xo := xoa.later hb
        clear hb c0 c1 z0 z1 y0 y1 zl hWW ka xra xoa
        have z2 := xr.cell 2; have y2 := xr.frozen 2; have zl := xr.lt; dsimp at z2
        have KEY := lH (show HB (w6.setCell ⟨w1.heap.size, 2, none⟩ (.int .u8 1)) w1.heap.size 30 #[.int .u64 (hiOf Y), .int .u64 (loOf Y), .int .u8 1] ∧ HB (w6.setCell ⟨w1.heap.size, 2, none⟩ (.int .u8 1)) w.heap.size 30 #[.int .u64 0, .int .u64 0, .int .u8 0] ∧ Below w.heap.size w (w6.setCell ⟨w1.heap.size, 2, none⟩ (.int .u8 1)) from ⟨xr.set 2 _, xo.other (by omega) _ _, kk.setCell (p := ⟨w1.heap.size, 2, none⟩) (by show w.heap.size ≤ w1.heap.size; omega) _⟩)
        clear xr xo kk
        go_wp2_with fail
        go_roundw
        case rel => exact ⟨k + 1, by omega, by go_num, congrArg Value.bool SN.out.symm, (by rw [FV.out, SS.out]; exact KEY.out.1), KEY.out.2.1, KEY.out.2.2⟩
        case measure => simp [intOf]; omega
      · clear hq
        replace FV := lH FV
        simp only [Bool.or_true, Bool.or_false] at SN SS
        replace SN := lH SN; replace SS := lH (show (if someB (fun b => sigF f (b % full)) xs (k + 1) then (1 : Int) else 0) = fl by rw [SS]; exact hfl)
        clear hfl
        obtain ⟨c0, c1⟩ := (HX.out.later kk).two hlt
        rw [hbk] at c0 c1
        go_wp2_with fail
        (with_reducible refine (RN.out _).mono ?_); rintro e w4 ⟨rfl, hb⟩
        replace kk := bC kk hb; replace xr := xr.later hb; replace xo := xo.later hb
        clear hb c0 c1
        obtain ⟨c0, c1⟩ := (HX.out.later kk).two hlt
        rw [hbk] at c0 c1
        go_wp2_with fail
        (with_reducible refine (RS.out _).mono ?_); rintro e w6 ⟨rfl, hb⟩
        replace kk := bC kk hb; replace xr := xr.later hb; replace xo := xo.later hb
        clear hb c0 c1
        go_wp2_with fail
        go_roundw
        case rel => exact ⟨k + 1, by omega, by go_num, congrArg Value.bool SN.out.symm, (by rw [FV.out, SS.out]; exact xr), xo, kk⟩
        case measure => simp [intOf]; omega
      · clear hq
        replace FV := lH FV
        simp only [Bool.or_true, Bool.or_false] at SN SS
        replace SN := lH SN; replace SS := lH (show (if someB (fun b => sigF f (b % full)) xs (k + 1) then (1 : Int) else 0) = 1 by rw [SS]; rfl)
        clear hfl
        obtain ⟨c0, c1⟩ := (HX.out.later kk).two hlt
        rw [hbk] at c0 c1
        go_wp2_with fail
        (with_reducible refine (RN.out _).mono ?_); rintro e w4 ⟨rfl, hb⟩
        replace kk := bC kk hb; replace xr := xr.later hb; replace xo := xo.later hb
        clear hb c0 c1
        obtain ⟨c0, c1⟩ := (HX.out.later kk).two hlt
        rw [hbk] at c0 c1
        go_wp2_with fail
        (with_reducible refine (RS.out _).mono ?_); rintro e w6 ⟨rfl, hb⟩
        replace kk := bC kk hb; replace xr := xr.later hb; replace xo := xo.later hb
        clear hb c0 c1
        have z2 := xr.cell 2; have y2 := xr.frozen 2; have zl := xr.lt; dsimp at z2
        have KEY := lH (show HB (w6.setCell ⟨w1.heap.size, 2, none⟩ (.int .u8 1)) w1.heap.size 30 #[.int .u64 (hiOf V), .int .u64 (loOf V), .int .u8 1] ∧ HB (w6.setCell ⟨w1.heap.size, 2, none⟩ (.int .u8 1)) w.heap.size 30 #[.int .u64 0, .int .u64 0, .int .u8 0] ∧ Below w.heap.size w (w6.setCell ⟨w1.heap.size, 2, none⟩ (.int .u8 1)) from ⟨xr.set 2 _, xo.other (by omega) _ _, kk.setCell (p := ⟨w1.heap.size, 2, none⟩) (by show w.heap.size ≤ w1.heap.size; omega) _⟩)
        clear xr xo kk
        go_wp2_with fail
        go_roundw
        case rel => exact ⟨k + 1, by omega, by go_num, congrArg Value.bool SN.out.symm, (by rw [FV.out, SS.out]; exact KEY.out.1), KEY.out.2.1, KEY.out.2.2⟩
        case measure => simp [intOf]; omega
    · have gk : decide ((k : Int) < (n : Int)) = false := by simp; omega
      obtain rfl : k = n := by omega
      have hx := HX.out.1
      rw [List.take_of_length_le (by omega)] at hV
      rw [someB_all _ _ hx] at hs hfd
      have RET : Hid (∀ g, pickK f false xs = g → (Value.tuple #[.agg #[.int .u64 (hiOf (pickV f false xs)), .int .u64 (loOf (pickV f false xs)), .int .u8 (pickF f false xs)], .bool (pickK f false xs)]) = if g then .tuple #[.agg #[.int .u64 (hiOf V), .int .u64 (loOf V), .int .u8 fl], .bool true] else .tuple #[.agg #[.int .u64 0, .int .u64 0, .int .u8 0], .bool false]) := lH (by
        intro g hg
        subst hg
        unfold pickV pickF
        by_cases h : pickK f false xs = true
        · rw [h, if_pos rfl, if_pos rfl, hV]; simp [anyS, hs, hfl]
        · rw [Bool.not_eq_true] at h; simp only [h]; simp [hl_zero.1, hl_zero.2])
      have PK : pickK f false xs = (false || fd) := by unfold pickK anyN; rw [hfd]; simp [h4]
      replace PK := lH PK
      clear hV hs hfd hfl hk hx hlt
      cases fd
      · replace RET := lH (RET.out false (by rw [PK.out]; rfl))
        clear PK
        have z0 := xr.cell 0; have z1 := xr.cell 1; have z2 := xr.cell 2; have y2 := xr.frozen 2; have zl := xr.lt; dsimp at z0 z1 z2
        have KEY : Hid (HB (((wr.setCell ⟨w.heap.size, 0, none⟩ (.int .u64 0)).setCell ⟨w.heap.size, 1, none⟩ (.int .u64 0)).setCell ⟨w.heap.size, 2, none⟩ (.int .u8 0)) w.heap.size 30 #[.int .u64 0, .int .u64 0, .int .u8 0] ∧ Below w.heap.size w (((wr.setCell ⟨w.heap.size, 0, none⟩ (.int .u64 0)).setCell ⟨w.heap.size, 1, none⟩ (.int .u64 0)).setCell ⟨w.heap.size, 2, none⟩ (.int .u8 0))) := lH ⟨(((xo.set 0 _).set 1 _).set 2 _), (((kk.setCell (p := ⟨w.heap.size, 0, none⟩) (Nat.le_refl _) _).setCell (p := ⟨w.heap.size, 1, none⟩) (Nat.le_refl _) _).setCell (p := ⟨w.heap.size, 2, none⟩) (Nat.le_refl _) _)⟩
        have o0 := xo.cell 0; have q0 := xo.frozen 0; have o1 := xo.cell 1; have q1 := xo.frozen 1; have o2 := xo.cell 2; have q2 := xo.frozen 2; have ol := xo.lt; dsimp at o0 o1 o2
        have hne : w1.heap.size ≠ w.heap.size := by omega
        have hne2 : w.heap.size ≠ w1.heap.size := by omega
        clear xo xr kk
        go_wp2_with fail
        obtain ⟨hE, kb⟩ := KEY.out
        have e0 := hE.cell 0; have e1 := hE.cell 1; have e2 := hE.cell 2; dsimp at e0 e1 e2
        refine bodyPost_ret (v := .tuple #[.agg #[.int .u64 0, .int .u64 0, .int .u8 0], .bool false]) ?_ rfl ⟨by rw [RET.out]; rfl, kb⟩
        clear KEY hE kb z0 z1 z2 y2 o0 o1 o2 q0 q1 q2
        simp [results, Tryz.results37, go_sem, e0, e1, e2]
      · replace RET := lH (RET.out true (by rw [PK.out]; rfl))
        clear PK
        have z0 := xr.cell 0; have z1 := xr.cell 1; have z2 := xr.cell 2; have y2 := xr.frozen 2; have zl := xr.lt; dsimp at z0 z1 z2
        have KEY : Hid (HB (((wr.setCell ⟨w.heap.size, 0, none⟩ (.int .u64 (hiOf V))).setCell ⟨w.heap.size, 1, none⟩ (.int .u64 (loOf V))).setCell ⟨w.heap.size, 2, none⟩ (.int .u8 fl)) w.heap.size 30 #[.int .u64 (hiOf V), .int .u64 (loOf V), .int .u8 fl] ∧ Below w.heap.size w (((wr.setCell ⟨w.heap.size, 0, none⟩ (.int .u64 (hiOf V))).setCell ⟨w.heap.size, 1, none⟩ (.int .u64 (loOf V))).setCell ⟨w.heap.size, 2, none⟩ (.int .u8 fl))) := lH ⟨(((xo.set 0 _).set 1 _).set 2 _), (((kk.setCell (p := ⟨w.heap.size, 0, none⟩) (Nat.le_refl _) _).setCell (p := ⟨w.heap.size, 1, none⟩) (Nat.le_refl _) _).setCell (p := ⟨w.heap.size, 2, none⟩) (Nat.le_refl _) _)⟩
        have o0 := xo.cell 0; have q0 := xo.frozen 0; have o1 := xo.cell 1; have q1 := xo.frozen 1; have o2 := xo.cell 2; have q2 := xo.frozen 2; have ol := xo.lt; dsimp at o0 o1 o2
        have hne : w1.heap.size ≠ w.heap.size := by omega
        have hne2 : w.heap.size ≠ w1.heap.size := by omega
        clear xo xr kk
        go_wp2_with fail
        obtain ⟨hE, kb⟩ := KEY.out
        have e0 := hE.cell 0; have e1 := hE.cell 1; have e2 := hE.cell 2; dsimp at e0 e1 e2
        refine bodyPost_ret (v := .tuple #[.agg #[.int .u64 (hiOf V), .int .u64 (loOf V), .int .u8 fl], .bool true]) ?_ rfl ⟨by rw [RET.out]; rfl, kb⟩
        clear KEY hE kb z0 z1 z2 y2 o0 o1 o2 q0 q1 q2
        simp [results, Tryz.results37, go_sem, e0, e1, e2]
theorem ref10_pick (f : Int) (inv : Bool) (ao : Option Addr) (n cap : Nat) (xs : List Int) (f0 : 0 ≤ f) (f1 : f ≤ 255) (w : World) (x : Bs w ao n cap xs) :
    Calls Tryz.prog 37 #[.int .u8 f, .bool inv, .slice ao n cap] w fun e w' => e = .returned (.tuple #[.agg #[.int .u64 (hiOf (pickV f inv xs)), .int .u64 (loOf (pickV f inv xs)), .int .u8 (pickF f inv xs)], .bool (pickK f inv xs)]) ∧ Below w.heap.size w w' := by
  by_cases h4 : f < 4
  · have DF := lH (ref10_default f f0 f1)
    have RN := lH fun b => ref8_nan f b f0 f1
    have RS := lH fun b => ref8_sig f b f0 f1
    have RQ := lH fun b => ref10_quiet f b f0 f1
    cases inv
    · exact ref10_pick_false f ao n cap xs h4 (by simp; omega) w x DF RN RS RQ
    · exact ref10_pick_true f ao n cap xs h4 (by simp; omega) w x DF RN RS RQ
  · have k : pickK f inv xs = false := by unfold pickK; simp [h4]
    rw [show pickV f inv xs = 0 by unfold pickV; rw [k, if_neg (by decide)], show pickF f inv xs = 0 by unfold pickF; rw [k]; rfl, k, hl_zero.1, hl_zero.2]
    exact ref10_pick_no f inv ao n cap (by simp; omega) w
end Go.Proofs.YtjdjonekoodalaaGreatDoor
