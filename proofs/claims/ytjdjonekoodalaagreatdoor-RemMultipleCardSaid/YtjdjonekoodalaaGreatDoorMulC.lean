import Derived.Test.YtjdjonekoodalaaGreatDoorGkA
import Derived.Test.YtjdjonekoodalaaGreatDoorGhA
set_option maxHeartbeats 4000000
set_option linter.unusedVariables false
set_option linter.unusedSimpArgs false
set_option maxRecDepth 100000
namespace Go.Proofs.YtjdjonekoodalaaGreatDoor
open Go.RowKit
attribute [local go_sem ↓] Go.wp_at_zero Go.wp_at_succ
def OfFn (w : World) (v : Value) (xs : List Int) : Prop := ∃ p a, v = .func (.func 119) #[] #[.pointer (some ⟨p, 0, none⟩)] ∧ w.cell? ⟨p, 0, none⟩ = some (.slice (some a) xs.length xs.length) ∧ Us w a xs
theorem OfFn.later {w w' : World} {v : Value} {xs : List Int} (h : OfFn w v xs) (hb : Below w.heap.size w w') : OfFn w' v xs := by
  obtain ⟨p, a, e, c, u⟩ := h
  exact ⟨p, a, e, cL hb c, u.later hb⟩
theorem of_test (xs : List Int) (hm : xs.length ≤ 9223372036854775807) (g : Bool) (c e h l : Int) (p : Nat) (a : Addr) (w : World) (hc : w.cell? ⟨p, 0, none⟩ = some (.slice (some a) xs.length xs.length)) (u : Us w a xs) :
    Calls Tryz.prog 119 #[.agg #[.bool g, .int .u8 c, .int .i64 e, .int .u64 h, .int .u64 l], .pointer (some ⟨p, 0, none⟩)] w fun r w' => r = .returned (.bool (xs.any fun y => c == y)) ∧ Below w.heap.size w w' := by
  have lt : p < w.heap.size := bL hc
  have K := lH fun W (u : Us W a xs) => contains_u8 a xs.length xs.length xs c rfl hm W u
  have U := lH u
  clear u hm
  go_enter Tryz.func119, Tryz.ntmps119
  go_wp2_with fail
  (with_reducible refine (K.out _ (U.out.later (bA bR _))).mono ?_); rintro r w1 ⟨rfl, hb⟩
  have HB := lH (bC (bA bR _) hb)
  clear hb
  go_wp2_with fail
  go_ret
  exact ⟨rfl, HB.out⟩
theorem of_make (xs : List Int) (a : Addr) (w : World) (u : Us w a xs) : Calls Tryz.prog 68 #[.slice (some a) xs.length xs.length] w fun r w' => ∃ v, r = .returned v ∧ OfFn w' v xs ∧ Below w.heap.size w w' := by
  have hmf : ∀ (fn : Fn) (first cap : Array Value) (w : World), (Instr.makeFunc fn first cap).run Tryz.prog w = .ok (.func fn first cap) w := fun _ _ _ _ => rfl
  have U := lH u
  clear u
  go_enter Tryz.func68, Tryz.ntmps68
  go_wp2_with fail
  go_ret
  refine ⟨_, rfl, ⟨_, _, rfl, ?_, U.out.later (bA bR _)⟩, bA bR _⟩
  go_simp
theorem us_hb {w : World} {p : Nat} {T : TypeId} (xs : List Int) (x : HB w p T (xs.map fun c => Value.int .u8 c).toArray) : Us w ⟨p, 0, none⟩ xs := fun k hk => by
  have h := x.cell k
  rw [List.getElem?_toArray, List.getElem?_map, List.getElem?_eq_getElem hk] at h
  rw [List.getD_eq_getElem?_getD, List.getElem?_eq_getElem hk]
  have e : (⟨p, 0, none⟩ : Addr).add k = ⟨p, k, none⟩ := by unfold Addr.add; by_cases h : k = 0 <;> simp [h]
  rw [e]; exact h
theorem of_hb1 {c : Int} (w : World) (p : Nat) (T : TypeId) (x : HB w p T #[.int .u8 c]) : Calls Tryz.prog 68 #[.slice (some ⟨p, 0, none⟩) 1 1] w fun r w' => ∃ v, r = .returned v ∧ OfFn w' v [c] ∧ Below w.heap.size w w' := of_make [c] ⟨p, 0, none⟩ w (us_hb [c] x)
theorem of_hb2 {c d : Int} (w : World) (p : Nat) (T : TypeId) (x : HB w p T #[.int .u8 c, .int .u8 d]) : Calls Tryz.prog 68 #[.slice (some ⟨p, 0, none⟩) 2 2] w fun r w' => ∃ v, r = .returned v ∧ OfFn w' v [c, d] ∧ Below w.heap.size w w' := of_make [c, d] ⟨p, 0, none⟩ w (us_hb [c, d] x)
def cntC (xs : List Int) (c d : Int) : Int := (if xs.any (fun y => c == y) then 1 else 0) + (if xs.any (fun y => d == y) then 1 else 0)
theorem count_core (n1 n2 : Int) (TX TY : Bool) (q p : Nat) (S : Value) (T : TypeId) (sa sb : Bool) (ca ea xh xl cb eb yh yl : Int) (w : World) (hS : w.cell? ⟨q, 0, none⟩ = some S) (x : HB w p T #[.bool sa, .int .u8 ca, .int .i64 ea, .int .u64 xh, .int .u64 xl, .bool sb, .int .u8 cb, .int .i64 eb, .int .u64 yh, .int .u64 yl]) (h1 : n1 = if TX then 1 else 0) (h2 : n2 = n1 + if TY then 1 else 0) (U : World → Prop) (hU : U w) (UL : Hid (∀ W W', U W → Below W.heap.size W W' → U W'))
    (KX : Hid (∀ W, W.cell? ⟨q, 0, none⟩ = some S → U W → Calls Tryz.prog 119 #[.agg #[.bool sa, .int .u8 ca, .int .i64 ea, .int .u64 xh, .int .u64 xl], .pointer (some ⟨q, 0, none⟩)] W fun e w' => e = .returned (.bool TX) ∧ Below W.heap.size W w')) (KY : Hid (∀ W, W.cell? ⟨q, 0, none⟩ = some S → U W → Calls Tryz.prog 119 #[.agg #[.bool sb, .int .u8 cb, .int .i64 eb, .int .u64 yh, .int .u64 yl], .pointer (some ⟨q, 0, none⟩)] W fun e w' => e = .returned (.bool TY) ∧ Below W.heap.size W w')) :
    Calls Tryz.prog 67 #[.func (.func 119) #[] #[.pointer (some ⟨q, 0, none⟩)], .slice (some ⟨p, 0, none⟩) 2 2] w fun e w' => e = .returned (.int .i64 n2) ∧ Below w.heap.size w w' := by
  have HS := lH hS
  have HX := lH x
  have HU := lH hU
  have H1 := lH h1
  have H2 := lH h2
  have i1 : IntKind.i64.wrap 1 = 1 := by decide +kernel
  have i2 : IntKind.i64.wrap 2 = 2 := by decide +kernel
  have i3 : IntKind.i64.wrap (n1 + 1) = n1 + 1 := by rw [IntKind.wrap_i64, h1]; cases TX <;> decide
  clear hS x hU h1 h2
  go_enter Tryz.func67, Tryz.ntmps67
  go_wp2_with fail
  go_loopw [5, 10] (fun s i wr => ((i = .int .i64 0 ∧ s = .int .i64 0) ∨ (i = .int .i64 1 ∧ s = .int .i64 n1) ∨ (i = .int .i64 2 ∧ s = .int .i64 n2)) ∧ Below w.heap.size w wr) (fun _ i _ => 2 - (intOf i).toNat)
  case atStart => exact ⟨.inl ⟨rfl, rfl⟩, bR⟩
  case round =>
    obtain ⟨hr, hb⟩ := hrel
    rcases hr with ⟨rfl, rfl⟩ | ⟨rfl, rfl⟩ | ⟨rfl, rfl⟩
    · cases TX
      all_goals
        have o := HB.o (HB.later HX.out hb)
        have HB := lH hb
        clear hb
        go_wp2_with fail
        refine vM (KX.out _ (cL (bA HB.out _) HS.out) (UL.out _ _ HU.out (bA HB.out _))) fun w1 b1 => ?_
        have HC := lH (bC (bA HB.out _) b1)
        clear HB b1
        go_wp2_with fail
        go_roundw
        case rel => exact ⟨.inr (.inl ⟨by go_num, congrArg (Value.int .i64) (by rw [H1.out]; rfl)⟩), HC.out⟩
        case measure => simp [intOf]
    · cases TY
      all_goals
        have o := HB.o (HB.later HX.out hb)
        have HB := lH hb
        clear hb
        go_wp2_with fail
        refine vM (KY.out _ (cL (bA HB.out _) HS.out) (UL.out _ _ HU.out (bA HB.out _))) fun w1 b1 => ?_
        have HC := lH (bC (bA HB.out _) b1)
        clear HB b1
        go_wp2_with fail
        go_roundw
        case rel => exact ⟨.inr (.inr ⟨by go_num, congrArg (Value.int .i64) (by rw [H2.out]; simp)⟩), HC.out⟩
        case measure => simp [intOf]
    · have HB := lH hb
      clear hb
      go_wp2_with fail
      go_ret
      exact ⟨rfl, HB.out⟩
theorem count_two (xs : List Int) (hm : xs.length ≤ 9223372036854775807) (fv : Value) (sa sb : Bool) (ca ea xh xl cb eb yh yl : Int) (p : Nat) (T : TypeId) (w : World) (hf : OfFn w fv xs) (x : HB w p T #[.bool sa, .int .u8 ca, .int .i64 ea, .int .u64 xh, .int .u64 xl, .bool sb, .int .u8 cb, .int .i64 eb, .int .u64 yh, .int .u64 yl]) : Calls Tryz.prog 67 #[fv, .slice (some ⟨p, 0, none⟩) 2 2] w fun e w' => e = .returned (.int .i64 (cntC xs ca cb)) ∧ Below w.heap.size w w' := by
  obtain ⟨q, a, rfl, hc, u⟩ := hf
  exact count_core _ _ (xs.any fun y => ca == y) (xs.any fun y => cb == y) q p _ T sa sb ca ea xh xl cb eb yh yl w hc x rfl rfl (fun W => Us W a xs) u (lH fun W W' h hb => h.later hb) (lH fun W h v => of_test xs hm sa ca ea xh xl q a W h v) (lH fun W h v => of_test xs hm sb cb eb yh yl q a W h v)
theorem ml_Term_no (ca cb ea eb xh xl yh yl r : Int) (sa sb : Bool)
     (CN : Hid (∀ w fv, OfFn w fv [1, 2] → ∀ p T, HB w p T #[.bool sa, .int .u8 ca, .int .i64 ea, .int .u64 xh, .int .u64 xl, .bool sb, .int .u8 cb, .int .i64 eb, .int .u64 yh, .int .u64 yl] → Ca 67 #[fv, .slice (some ⟨p, 0, none⟩) 2 2] w (.int .i64 r))) (g1 : decide (r < 2) = true) (w : World) :
    Ca 69 #[.agg #[.bool sa, .int .u8 ca, .int .i64 ea, .int .u64 xh, .int .u64 xl], .agg #[.bool sb, .int .u8 cb, .int .i64 eb, .int .u64 yh, .int .u64 yl]] w (.tuple #[.int .i64 0, U4 0 0 0 0]) := by
  simp only [Ca, U4] at *
  go_enter Tryz.func69, Tryz.ntmps69
  go_wp2_with fail
  have gX2 : w.heap.size ≤ w.heap.size + 1 + 1 := by omega
  refine vF3 fun w1 b1 X0 X1 X2 => ?_
  refine vR [] fun w2 kz2 S => ?_
  refine vT 2 S ?_ (hy := by intro wq hb; have q := (hb.hb X0 (by simp)).o; go_simp; try (with_reducible rfl))
  refine vT 3 S ?_ (hy := by intro wq hb; have q := (hb.hb X1 (by simp)).o; go_simp; try (with_reducible rfl))
  refine vY2 (cB (n := 2) 0 S fun w3 pp1_0 h X3 b3 => ?_) (cB (n := 2) 4 S fun w4 pp1_1 h X4 b4 => ?_)
  have jX3 := (lZ kz2.size h); replace kz2 := bC kz2 b3
  clear S b3 h w2
  revert kz2; revert jX3; revert X3; revert pp1_0; revert w3
  refine ?s2_0; rotate_left
  have jX4 := (lZ kz2.size h); replace kz2 := bC kz2 b4
  clear S b4 h w2
  revert kz2; revert jX4; revert X4; revert pp1_1; revert w4
  refine ?s2_1; rotate_left
  intro w5 pp1_0 X3 jX3 kz2
  have S := Off.ofB kz2
  refine vY2 (cE 1 S (of_hb2 _ _ _ X3) fun fn w6 nfn b6 => ?_) (cB (n := 2) 4 S fun w7 pp1_1 h X4 b7 => ?_)
  replace X3 := (X3.later b6); replace kz2 := bC kz2 b6
  clear S b6 w5
  revert kz2; revert jX3; revert nfn; revert X3; revert fn; revert pp1_0; revert w6
  refine ?s2_2; rotate_left
  have ndX3_X4 : ¬ (pp1_0 = pp1_1) := (Nat.ne_of_lt (lY X3.lt h)); have jX4 := (lZ kz2.size h); replace X3 := (X3.later b7); replace kz2 := bC kz2 b7
  clear S b7 h w5
  revert kz2; revert ndX3_X4; revert jX4; revert jX3; revert X4; revert X3; revert pp1_1; revert pp1_0; revert w7
  refine ?s2_3; rotate_left
  intro w8 pp1_1 X4 jX4 kz2
  have S := Off.ofB kz2
  refine vY1 (cB (n := 2) 0 S fun w9 pp1_0 h X3 b9 => ?s2_3 w9 pp1_0 pp1_1 X3 (X4.later b9) (lZ kz2.size h) jX4 (Nat.ne_of_gt (lY X4.lt h)) (bC kz2 b9))
  intro w10 pp1_0 fn X3 nfn jX3 kz2
  have S := Off.ofB kz2
  refine vY1 (cB (n := 2) 4 S fun w11 pp1_1 h X4 b11 => ?_)
  have ndX3_X4 : ¬ (pp1_0 = pp1_1) := (Nat.ne_of_lt (lY X3.lt h)); have jX4 := (lZ kz2.size h); replace X3 := (X3.later b11); replace nfn := (nfn.later b11); replace kz2 := bC kz2 b11
  clear S b11 h w10
  revert kz2; revert ndX3_X4; revert jX4; revert jX3; revert nfn; revert X4; revert X3; revert fn; revert pp1_1; revert pp1_0; revert w11
  refine ?s2_4; rotate_left
  intro w12 pp1_0 pp1_1 X3 X4 jX3 jX4 ndX3_X4 kz2
  have S := Off.ofB kz2
  refine vY1 (cE 1 S (of_hb2 _ _ _ X3) fun fn w13 nfn b13 => ?s2_4 w13 pp1_0 pp1_1 fn (X3.later b13) (X4.later b13) nfn jX3 jX4 ndX3_X4 (bC kz2 b13))
  intro w14 pp1_0 pp1_1 fn X3 X4 nfn jX3 jX4 ndX3_X4 kz2
  have S := Off.ofB kz2
  refine vY1 (cC 5 S (CN.out _ _ nfn _ _ X4) fun w15 b15 => ?_)
  replace X3 := (X3.later b15); replace X4 := (X4.later b15); replace kz2 := bC kz2 b15
  refine vT 6 (Off.ofB kz2) ?_
  clear nfn S b15 w14
  revert kz2; revert ndX3_X4; revert jX4; revert jX3; revert X4; revert X3; revert fn; revert pp1_1; revert pp1_0; revert w15
  refine ?s2_5; rotate_left
  intro w16 pp1_0 pp1_1 fn X3 X4 jX3 jX4 ndX3_X4 kz2
  refine vD ?_
  have gX3 : w.heap.size ≤ pp1_0 := by have := b1.size; omega
  have gX4 : w.heap.size ≤ pp1_1 := by have := b1.size; omega
  replace X2 := X2.later kz2
  have oX2 := X2.o
  go_wp2_with fail
  refine bodyPost_ret (v := .tuple #[.int .i64 0, .agg #[.int .u64 0, .int .u64 0, .int .u64 0, .int .u64 0]]) ?_ rfl ⟨rfl, (((((bC b1 kz2).setCell (p := ⟨w.heap.size + 1 + 1, 0, none⟩) gX2 _).setCell (p := ⟨w.heap.size + 1 + 1, 1, none⟩) gX2 _).setCell (p := ⟨w.heap.size + 1 + 1, 2, none⟩) gX2 _).setCell (p := ⟨w.heap.size + 1 + 1, 3, none⟩) gX2 _)⟩
  simp [results, Tryz.results69, go_sem, oX2]
theorem ml_Term_yes (ca cb ea eb xh xl yh yl r s1 e z0 z1 z2 z3 : Int) (sa sb : Bool)
    (h2 : Hid (∀ w, Ca 120 #[U2 xh xl, U2 yh yl] w (U4 z0 z1 z2 z3))) (CN : Hid (∀ w fv, OfFn w fv [1, 2] → ∀ p T, HB w p T #[.bool sa, .int .u8 ca, .int .i64 ea, .int .u64 xh, .int .u64 xl, .bool sb, .int .u8 cb, .int .i64 eb, .int .u64 yh, .int .u64 yl] → Ca 67 #[fv, .slice (some ⟨p, 0, none⟩) 2 2] w (.int .i64 r))) (g1 : decide (r < 2) = false) (w1 : IntKind.i64.wrap (ea + eb) = s1) (w1x : wrap64 (ea + eb) = s1) (w2 : IntKind.i64.wrap (s1 + 1) = e) (w2x : wrap64 (s1 + 1) = e) (w : World) :
    Ca 69 #[.agg #[.bool sa, .int .u8 ca, .int .i64 ea, .int .u64 xh, .int .u64 xl], .agg #[.bool sb, .int .u8 cb, .int .i64 eb, .int .u64 yh, .int .u64 yl]] w (.tuple #[.int .i64 e, U4 z0 z1 z2 z3]) := by
  simp only [Ca, U2, U4] at *
  go_enter Tryz.func69, Tryz.ntmps69
  go_wp2_with fail
  have gX2 : w.heap.size ≤ w.heap.size + 1 + 1 := by omega
  refine vF3 fun w1 b1 X0 X1 X2 => ?_
  refine vR [] fun w2 kz2 S => ?_
  refine vT 2 S ?_ (hy := by intro wq hb; have q := (hb.hb X0 (by simp)).o; go_simp; try (with_reducible rfl))
  refine vT 3 S ?_ (hy := by intro wq hb; have q := (hb.hb X1 (by simp)).o; go_simp; try (with_reducible rfl))
  refine vY2 (cB (n := 2) 0 S fun w3 pp1_0 h X3 b3 => ?_) (cB (n := 2) 4 S fun w4 pp1_1 h X4 b4 => ?_)
  have jX3 := (lZ kz2.size h); replace kz2 := bC kz2 b3
  clear S b3 h w2
  revert kz2; revert jX3; revert X3; revert pp1_0; revert w3
  refine ?s2_0; rotate_left
  have jX4 := (lZ kz2.size h); replace kz2 := bC kz2 b4
  clear S b4 h w2
  revert kz2; revert jX4; revert X4; revert pp1_1; revert w4
  refine ?s2_1; rotate_left
  intro w5 pp1_0 X3 jX3 kz2
  have S := Off.ofB kz2
  refine vY2 (cE 1 S (of_hb2 _ _ _ X3) fun fn w6 nfn b6 => ?_) (cB (n := 2) 4 S fun w7 pp1_1 h X4 b7 => ?_)
  replace X3 := (X3.later b6); replace kz2 := bC kz2 b6
  clear S b6 w5
  revert kz2; revert jX3; revert nfn; revert X3; revert fn; revert pp1_0; revert w6
  refine ?s2_2; rotate_left
  have ndX3_X4 : ¬ (pp1_0 = pp1_1) := (Nat.ne_of_lt (lY X3.lt h)); have jX4 := (lZ kz2.size h); replace X3 := (X3.later b7); replace kz2 := bC kz2 b7
  clear S b7 h w5
  revert kz2; revert ndX3_X4; revert jX4; revert jX3; revert X4; revert X3; revert pp1_1; revert pp1_0; revert w7
  refine ?s2_3; rotate_left
  intro w8 pp1_1 X4 jX4 kz2
  have S := Off.ofB kz2
  refine vY1 (cB (n := 2) 0 S fun w9 pp1_0 h X3 b9 => ?s2_3 w9 pp1_0 pp1_1 X3 (X4.later b9) (lZ kz2.size h) jX4 (Nat.ne_of_gt (lY X4.lt h)) (bC kz2 b9))
  intro w10 pp1_0 fn X3 nfn jX3 kz2
  have S := Off.ofB kz2
  refine vY1 (cB (n := 2) 4 S fun w11 pp1_1 h X4 b11 => ?_)
  have ndX3_X4 : ¬ (pp1_0 = pp1_1) := (Nat.ne_of_lt (lY X3.lt h)); have jX4 := (lZ kz2.size h); replace X3 := (X3.later b11); replace nfn := (nfn.later b11); replace kz2 := bC kz2 b11
  clear S b11 h w10
  revert kz2; revert ndX3_X4; revert jX4; revert jX3; revert nfn; revert X4; revert X3; revert fn; revert pp1_1; revert pp1_0; revert w11
  refine ?s2_4; rotate_left
  intro w12 pp1_0 pp1_1 X3 X4 jX3 jX4 ndX3_X4 kz2
  have S := Off.ofB kz2
  refine vY1 (cE 1 S (of_hb2 _ _ _ X3) fun fn w13 nfn b13 => ?s2_4 w13 pp1_0 pp1_1 fn (X3.later b13) (X4.later b13) nfn jX3 jX4 ndX3_X4 (bC kz2 b13))
  intro w14 pp1_0 pp1_1 fn X3 X4 nfn jX3 jX4 ndX3_X4 kz2
  have S := Off.ofB kz2
  refine vY1 (cC 5 S (CN.out _ _ nfn _ _ X4) fun w15 b15 => ?_)
  replace X3 := (X3.later b15); replace X4 := (X4.later b15); replace kz2 := bC kz2 b15
  refine vT 6 (Off.ofB kz2) ?_
  clear nfn S b15 w14
  revert kz2; revert ndX3_X4; revert jX4; revert jX3; revert X4; revert X3; revert fn; revert pp1_1; revert pp1_0; revert w15
  refine ?s2_5; rotate_left
  intro w16 pp1_0 pp1_1 fn X3 X4 jX3 jX4 ndX3_X4 kz2
  refine vD ?_
  have gX3 : w.heap.size ≤ pp1_0 := by have := b1.size; omega
  have gX4 : w.heap.size ≤ pp1_1 := by have := b1.size; omega
  go_wp2_with fail
  replace X0 := X0.later kz2
  replace X1 := X1.later kz2
  replace X2 := X2.later kz2
  refine vR [w.heap.size + 1 + 1] fun w17 b17 S17 => ?_
  refine vT 0 S17 ?_
  refine vT 1 S17 ?_ (hy := by intro wq hb; have q := (hb.hb X0 (by simp <;> omega)).o; go_simp; try (with_reducible rfl))
  refine vT 2 S17 ?_
  refine vT 3 S17 ?_ (hy := by intro wq hb; have q := (hb.hb X1 (by simp <;> omega)).o; go_simp; try (with_reducible rfl))
  refine vT 4 S17 ?_
  refine vT 5 S17 ?_
  refine vT 6 S17 ?_
  refine vT 7 S17 ?_ (hy := by intro wq hb; have q := (hb.hb X0 (by simp <;> omega)).o; go_simp; try (with_reducible rfl))
  refine vT 8 S17 ?_
  refine vT 9 S17 ?_ (hy := by intro wq hb; have q := (hb.hb X1 (by simp <;> omega)).o; go_simp; try (with_reducible rfl))
  refine vY1 (vC 10 S17 (h2.out _) (fun _ _ => Off.later) fun w18 b18 S18 => ?_)
  refine vT 11 S18 ?_
  refine vY1 (vO 12 fun K hK => ?_)
  replace X2 := X2.later (bC b17 b18)
  have oX2 := X2.o
  go_simp
  refine hK.out _ _ (Off.set (by simp) (Off.set (by simp) (Off.set (by simp) (Off.set (by simp) S18)))) fun S19 => ?_
  clear hK K
  refine vP ?_
  refine vD ?_
  go_wp2_with fail
  refine bodyPost_ret (v := .tuple #[.int .i64 e, .agg #[.int .u64 z0, .int .u64 z1, .int .u64 z2, .int .u64 z3]]) ?_ rfl ⟨rfl, (((((bC (bC (bC b1 kz2) b17) b18).setCell (p := ⟨w.heap.size + 1 + 1, 0, none⟩) gX2 _).setCell (p := ⟨w.heap.size + 1 + 1, 1, none⟩) gX2 _).setCell (p := ⟨w.heap.size + 1 + 1, 2, none⟩) gX2 _).setCell (p := ⟨w.heap.size + 1 + 1, 3, none⟩) gX2 _)⟩
  simp [results, Tryz.results69, go_sem, oX2]
theorem ml_Bad_no (ca cb ea eb xh xl yh yl r : Int) (sa sb : Bool)
     (CN : Hid (∀ w fv, OfFn w fv [0] → ∀ p T, HB w p T #[.bool sa, .int .u8 ca, .int .i64 ea, .int .u64 xh, .int .u64 xl, .bool sb, .int .u8 cb, .int .i64 eb, .int .u64 yh, .int .u64 yl] → Ca 67 #[fv, .slice (some ⟨p, 0, none⟩) 2 2] w (.int .i64 r))) (g1 : (r == 1) = false) (w : World) :
    Ca 66 #[.agg #[.bool sa, .int .u8 ca, .int .i64 ea, .int .u64 xh, .int .u64 xl], .agg #[.bool sb, .int .u8 cb, .int .i64 eb, .int .u64 yh, .int .u64 yl]] w (.bool false) := by
  simp only [Ca] at *
  go_enter Tryz.func66, Tryz.ntmps66
  go_wp2_with fail
  refine vF2 fun w1 b1 X0 X1 => ?_
  refine vR [] fun w2 kz2 S => ?_
  refine vT 2 S ?_ (hy := by intro wq hb; have q := (hb.hb X0 (by simp)).o; go_simp; try (with_reducible rfl))
  refine vT 3 S ?_ (hy := by intro wq hb; have q := (hb.hb X1 (by simp)).o; go_simp; try (with_reducible rfl))
  refine vY2 (cB (n := 1) 0 S fun w3 pp1_0 h X2 b3 => ?_) (cB (n := 2) 4 S fun w4 pp1_1 h X3 b4 => ?_)
  have jX2 := (lZ kz2.size h); replace kz2 := bC kz2 b3
  clear S b3 h w2
  revert kz2; revert jX2; revert X2; revert pp1_0; revert w3
  refine ?s2_0; rotate_left
  have jX3 := (lZ kz2.size h); replace kz2 := bC kz2 b4
  clear S b4 h w2
  revert kz2; revert jX3; revert X3; revert pp1_1; revert w4
  refine ?s2_1; rotate_left
  intro w5 pp1_0 X2 jX2 kz2
  have S := Off.ofB kz2
  refine vY2 (cE 1 S (of_hb1 _ _ _ X2) fun fn w6 nfn b6 => ?_) (cB (n := 2) 4 S fun w7 pp1_1 h X3 b7 => ?_)
  replace X2 := (X2.later b6); replace kz2 := bC kz2 b6
  clear S b6 w5
  revert kz2; revert jX2; revert nfn; revert X2; revert fn; revert pp1_0; revert w6
  refine ?s2_2; rotate_left
  have ndX2_X3 : ¬ (pp1_0 = pp1_1) := (Nat.ne_of_lt (lY X2.lt h)); have jX3 := (lZ kz2.size h); replace X2 := (X2.later b7); replace kz2 := bC kz2 b7
  clear S b7 h w5
  revert kz2; revert ndX2_X3; revert jX3; revert jX2; revert X3; revert X2; revert pp1_1; revert pp1_0; revert w7
  refine ?s2_3; rotate_left
  intro w8 pp1_1 X3 jX3 kz2
  have S := Off.ofB kz2
  refine vY1 (cB (n := 1) 0 S fun w9 pp1_0 h X2 b9 => ?s2_3 w9 pp1_0 pp1_1 X2 (X3.later b9) (lZ kz2.size h) jX3 (Nat.ne_of_gt (lY X3.lt h)) (bC kz2 b9))
  intro w10 pp1_0 fn X2 nfn jX2 kz2
  have S := Off.ofB kz2
  refine vY1 (cB (n := 2) 4 S fun w11 pp1_1 h X3 b11 => ?_)
  have ndX2_X3 : ¬ (pp1_0 = pp1_1) := (Nat.ne_of_lt (lY X2.lt h)); have jX3 := (lZ kz2.size h); replace X2 := (X2.later b11); replace nfn := (nfn.later b11); replace kz2 := bC kz2 b11
  clear S b11 h w10
  revert kz2; revert ndX2_X3; revert jX3; revert jX2; revert nfn; revert X3; revert X2; revert fn; revert pp1_1; revert pp1_0; revert w11
  refine ?s2_4; rotate_left
  intro w12 pp1_0 pp1_1 X2 X3 jX2 jX3 ndX2_X3 kz2
  have S := Off.ofB kz2
  refine vY1 (cE 1 S (of_hb1 _ _ _ X2) fun fn w13 nfn b13 => ?s2_4 w13 pp1_0 pp1_1 fn (X2.later b13) (X3.later b13) nfn jX2 jX3 ndX2_X3 (bC kz2 b13))
  intro w14 pp1_0 pp1_1 fn X2 X3 nfn jX2 jX3 ndX2_X3 kz2
  have S := Off.ofB kz2
  refine vY1 (cC 5 S (CN.out _ _ nfn _ _ X3) fun w15 b15 => ?_)
  replace X2 := (X2.later b15); replace X3 := (X3.later b15); replace kz2 := bC kz2 b15
  refine vT 6 (Off.ofB kz2) ?_
  refine vT 7 (Off.ofB kz2) ?_
  refine vN 8 (Off.ofB kz2) ?_
  refine vN 9 (Off.ofB kz2) ?_
  refine vN 10 (Off.ofB kz2) ?_
  refine vN 11 (Off.ofB kz2) ?_
  refine vN 12 (Off.ofB kz2) ?_
  refine vN 13 (Off.ofB kz2) ?_
  refine vN 14 (Off.ofB kz2) ?_
  refine vT 15 (Off.ofB kz2) ?_
  refine vT 16 (Off.ofB kz2) ?_
  clear nfn S b15 w14
  revert kz2; revert ndX2_X3; revert jX3; revert jX2; revert X3; revert X2; revert fn; revert pp1_1; revert pp1_0; revert w15
  refine ?s2_5; rotate_left
  intro w16 pp1_0 pp1_1 fn X2 X3 jX2 jX3 ndX2_X3 kz2
  refine vD ?_
  have gX2 : w.heap.size ≤ pp1_0 := by have := b1.size; omega
  have gX3 : w.heap.size ≤ pp1_1 := by have := b1.size; omega
  go_wp2_with fail
  go_ret
  exact ⟨rfl, (bC b1 kz2)⟩
theorem ml_Bad_yes (ca cb ea eb xh xl yh yl r q : Int) (sa sb : Bool)
     (CN : Hid (∀ w fv, OfFn w fv [0] → ∀ p T, HB w p T #[.bool sa, .int .u8 ca, .int .i64 ea, .int .u64 xh, .int .u64 xl, .bool sb, .int .u8 cb, .int .i64 eb, .int .u64 yh, .int .u64 yl] → Ca 67 #[fv, .slice (some ⟨p, 0, none⟩) 2 2] w (.int .i64 r))) (CM : Hid (∀ w fv, OfFn w fv [3] → ∀ p T, HB w p T #[.bool sa, .int .u8 ca, .int .i64 ea, .int .u64 xh, .int .u64 xl, .bool sb, .int .u8 cb, .int .i64 eb, .int .u64 yh, .int .u64 yl] → Ca 67 #[fv, .slice (some ⟨p, 0, none⟩) 2 2] w (.int .i64 q))) (g1 : (r == 1) = true) (w : World) :
    Ca 66 #[.agg #[.bool sa, .int .u8 ca, .int .i64 ea, .int .u64 xh, .int .u64 xl], .agg #[.bool sb, .int .u8 cb, .int .i64 eb, .int .u64 yh, .int .u64 yl]] w (.bool ((q == 1))) := by
  simp only [Ca] at *
  go_enter Tryz.func66, Tryz.ntmps66
  go_wp2_with fail
  refine vF2 fun w1 b1 X0 X1 => ?_
  refine vR [] fun w2 kz2 S => ?_
  refine vT 2 S ?_ (hy := by intro wq hb; have q := (hb.hb X0 (by simp)).o; go_simp; try (with_reducible rfl))
  refine vT 3 S ?_ (hy := by intro wq hb; have q := (hb.hb X1 (by simp)).o; go_simp; try (with_reducible rfl))
  refine vY2 (cB (n := 1) 0 S fun w3 pp1_0 h X2 b3 => ?_) (cB (n := 2) 4 S fun w4 pp1_1 h X3 b4 => ?_)
  have jX2 := (lZ kz2.size h); replace kz2 := bC kz2 b3
  clear S b3 h w2
  revert kz2; revert jX2; revert X2; revert pp1_0; revert w3
  refine ?s2_0; rotate_left
  have jX3 := (lZ kz2.size h); replace kz2 := bC kz2 b4
  clear S b4 h w2
  revert kz2; revert jX3; revert X3; revert pp1_1; revert w4
  refine ?s2_1; rotate_left
  intro w5 pp1_0 X2 jX2 kz2
  have S := Off.ofB kz2
  refine vY2 (cE 1 S (of_hb1 _ _ _ X2) fun fn w6 nfn b6 => ?_) (cB (n := 2) 4 S fun w7 pp1_1 h X3 b7 => ?_)
  replace X2 := (X2.later b6); replace kz2 := bC kz2 b6
  clear S b6 w5
  revert kz2; revert jX2; revert nfn; revert X2; revert fn; revert pp1_0; revert w6
  refine ?s2_2; rotate_left
  have ndX2_X3 : ¬ (pp1_0 = pp1_1) := (Nat.ne_of_lt (lY X2.lt h)); have jX3 := (lZ kz2.size h); replace X2 := (X2.later b7); replace kz2 := bC kz2 b7
  clear S b7 h w5
  revert kz2; revert ndX2_X3; revert jX3; revert jX2; revert X3; revert X2; revert pp1_1; revert pp1_0; revert w7
  refine ?s2_3; rotate_left
  intro w8 pp1_1 X3 jX3 kz2
  have S := Off.ofB kz2
  refine vY1 (cB (n := 1) 0 S fun w9 pp1_0 h X2 b9 => ?s2_3 w9 pp1_0 pp1_1 X2 (X3.later b9) (lZ kz2.size h) jX3 (Nat.ne_of_gt (lY X3.lt h)) (bC kz2 b9))
  intro w10 pp1_0 fn X2 nfn jX2 kz2
  have S := Off.ofB kz2
  refine vY1 (cB (n := 2) 4 S fun w11 pp1_1 h X3 b11 => ?_)
  have ndX2_X3 : ¬ (pp1_0 = pp1_1) := (Nat.ne_of_lt (lY X2.lt h)); have jX3 := (lZ kz2.size h); replace X2 := (X2.later b11); replace nfn := (nfn.later b11); replace kz2 := bC kz2 b11
  clear S b11 h w10
  revert kz2; revert ndX2_X3; revert jX3; revert jX2; revert nfn; revert X3; revert X2; revert fn; revert pp1_1; revert pp1_0; revert w11
  refine ?s2_4; rotate_left
  intro w12 pp1_0 pp1_1 X2 X3 jX2 jX3 ndX2_X3 kz2
  have S := Off.ofB kz2
  refine vY1 (cE 1 S (of_hb1 _ _ _ X2) fun fn w13 nfn b13 => ?s2_4 w13 pp1_0 pp1_1 fn (X2.later b13) (X3.later b13) nfn jX2 jX3 ndX2_X3 (bC kz2 b13))
  intro w14 pp1_0 pp1_1 fn X2 X3 nfn jX2 jX3 ndX2_X3 kz2
  have S := Off.ofB kz2
  refine vY1 (cC 5 S (CN.out _ _ nfn _ _ X3) fun w15 b15 => ?_)
  replace X2 := (X2.later b15); replace X3 := (X3.later b15); replace kz2 := bC kz2 b15
  refine vT 6 (Off.ofB kz2) ?_
  refine vT 7 (Off.ofB kz2) ?_
  refine vT 10 (Off.ofB kz2) ?_ (hy := by intro wq hb; have q := (hb.hb X0 (by simp)).o; go_simp; try (with_reducible rfl))
  refine vT 11 (Off.ofB kz2) ?_ (hy := by intro wq hb; have q := (hb.hb X1 (by simp)).o; go_simp; try (with_reducible rfl))
  replace S := Off.ofB kz2; clear nfn b15 w14
  refine vY2 (cB (n := 1) 8 S fun w16 pp1_2 h X4 b16 => ?_) (cB (n := 2) 12 S fun w17 pp1_3 h X5 b17 => ?_)
  have ndX2_X4 : ¬ (pp1_0 = pp1_2) := (Nat.ne_of_lt (lY X2.lt h)); have ndX3_X4 : ¬ (pp1_1 = pp1_2) := (Nat.ne_of_lt (lY X3.lt h)); have jX4 := (lZ kz2.size h); replace X2 := (X2.later b16); replace X3 := (X3.later b16); replace kz2 := bC kz2 b16
  clear S b16 h w15
  revert kz2; revert ndX3_X4; revert ndX2_X4; revert ndX2_X3; revert jX4; revert jX3; revert jX2; revert X4; revert X3; revert X2; revert fn; revert pp1_2; revert pp1_1; revert pp1_0; revert w16
  refine ?s2_6; rotate_left
  have ndX2_X5 : ¬ (pp1_0 = pp1_3) := (Nat.ne_of_lt (lY X2.lt h)); have ndX3_X5 : ¬ (pp1_1 = pp1_3) := (Nat.ne_of_lt (lY X3.lt h)); have jX5 := (lZ kz2.size h); replace X2 := (X2.later b17); replace X3 := (X3.later b17); replace kz2 := bC kz2 b17
  clear S b17 h w15
  revert kz2; revert ndX3_X5; revert ndX2_X5; revert ndX2_X3; revert jX5; revert jX3; revert jX2; revert X5; revert X3; revert X2; revert fn; revert pp1_3; revert pp1_1; revert pp1_0; revert w17
  refine ?s2_7; rotate_left
  intro w18 pp1_0 pp1_1 pp1_2 fn X2 X3 X4 jX2 jX3 jX4 ndX2_X3 ndX2_X4 ndX3_X4 kz2
  have S := Off.ofB kz2
  refine vY2 (cE 9 S (of_hb1 _ _ _ X4) fun fm w19 nfm b19 => ?_) (cB (n := 2) 12 S fun w20 pp1_3 h X5 b20 => ?_)
  replace X2 := (X2.later b19); replace X3 := (X3.later b19); replace X4 := (X4.later b19); replace kz2 := bC kz2 b19
  clear S b19 w18
  revert kz2; revert ndX3_X4; revert ndX2_X4; revert ndX2_X3; revert jX4; revert jX3; revert jX2; revert nfm; revert X4; revert X3; revert X2; revert fm; revert fn; revert pp1_2; revert pp1_1; revert pp1_0; revert w19
  refine ?s2_8; rotate_left
  have ndX2_X5 : ¬ (pp1_0 = pp1_3) := (Nat.ne_of_lt (lY X2.lt h)); have ndX3_X5 : ¬ (pp1_1 = pp1_3) := (Nat.ne_of_lt (lY X3.lt h)); have ndX4_X5 : ¬ (pp1_2 = pp1_3) := (Nat.ne_of_lt (lY X4.lt h)); have jX5 := (lZ kz2.size h); replace X2 := (X2.later b20); replace X3 := (X3.later b20); replace X4 := (X4.later b20); replace kz2 := bC kz2 b20
  clear S b20 h w18
  revert kz2; revert ndX4_X5; revert ndX3_X5; revert ndX3_X4; revert ndX2_X5; revert ndX2_X4; revert ndX2_X3; revert jX5; revert jX4; revert jX3; revert jX2; revert X5; revert X4; revert X3; revert X2; revert fn; revert pp1_3; revert pp1_2; revert pp1_1; revert pp1_0; revert w20
  refine ?s2_9; rotate_left
  intro w21 pp1_0 pp1_1 pp1_3 fn X2 X3 X5 jX2 jX3 jX5 ndX2_X3 ndX2_X5 ndX3_X5 kz2
  have S := Off.ofB kz2
  refine vY1 (cB (n := 1) 8 S fun w22 pp1_2 h X4 b22 => ?s2_9 w22 pp1_0 pp1_1 pp1_2 pp1_3 fn (X2.later b22) (X3.later b22) X4 (X5.later b22) jX2 jX3 (lZ kz2.size h) jX5 ndX2_X3 (Nat.ne_of_lt (lY X2.lt h)) ndX2_X5 (Nat.ne_of_lt (lY X3.lt h)) ndX3_X5 (Nat.ne_of_gt (lY X5.lt h)) (bC kz2 b22))
  intro w23 pp1_0 pp1_1 pp1_2 fn fm X2 X3 X4 nfm jX2 jX3 jX4 ndX2_X3 ndX2_X4 ndX3_X4 kz2
  have S := Off.ofB kz2
  refine vY1 (cB (n := 2) 12 S fun w24 pp1_3 h X5 b24 => ?_)
  have ndX2_X5 : ¬ (pp1_0 = pp1_3) := (Nat.ne_of_lt (lY X2.lt h)); have ndX3_X5 : ¬ (pp1_1 = pp1_3) := (Nat.ne_of_lt (lY X3.lt h)); have ndX4_X5 : ¬ (pp1_2 = pp1_3) := (Nat.ne_of_lt (lY X4.lt h)); have jX5 := (lZ kz2.size h); replace X2 := (X2.later b24); replace X3 := (X3.later b24); replace X4 := (X4.later b24); replace nfm := (nfm.later b24); replace kz2 := bC kz2 b24
  clear S b24 h w23
  revert kz2; revert ndX4_X5; revert ndX3_X5; revert ndX3_X4; revert ndX2_X5; revert ndX2_X4; revert ndX2_X3; revert jX5; revert jX4; revert jX3; revert jX2; revert nfm; revert X5; revert X4; revert X3; revert X2; revert fm; revert fn; revert pp1_3; revert pp1_2; revert pp1_1; revert pp1_0; revert w24
  refine ?s2_10; rotate_left
  intro w25 pp1_0 pp1_1 pp1_2 pp1_3 fn X2 X3 X4 X5 jX2 jX3 jX4 jX5 ndX2_X3 ndX2_X4 ndX2_X5 ndX3_X4 ndX3_X5 ndX4_X5 kz2
  have S := Off.ofB kz2
  refine vY1 (cE 9 S (of_hb1 _ _ _ X4) fun fm w26 nfm b26 => ?s2_10 w26 pp1_0 pp1_1 pp1_2 pp1_3 fn fm (X2.later b26) (X3.later b26) (X4.later b26) (X5.later b26) nfm jX2 jX3 jX4 jX5 ndX2_X3 ndX2_X4 ndX2_X5 ndX3_X4 ndX3_X5 ndX4_X5 (bC kz2 b26))
  intro w27 pp1_0 pp1_1 pp1_2 pp1_3 fn fm X2 X3 X4 X5 nfm jX2 jX3 jX4 jX5 ndX2_X3 ndX2_X4 ndX2_X5 ndX3_X4 ndX3_X5 ndX4_X5 kz2
  have S := Off.ofB kz2
  refine vY1 (cC 13 S (CM.out _ _ nfm _ _ X5) fun w28 b28 => ?_)
  replace X2 := (X2.later b28); replace X3 := (X3.later b28); replace X4 := (X4.later b28); replace X5 := (X5.later b28); replace kz2 := bC kz2 b28
  refine vT 14 (Off.ofB kz2) ?_
  refine vT 15 (Off.ofB kz2) ?_
  refine vT 16 (Off.ofB kz2) ?_
  clear nfm S b28 w27
  revert kz2; revert ndX4_X5; revert ndX3_X5; revert ndX3_X4; revert ndX2_X5; revert ndX2_X4; revert ndX2_X3; revert jX5; revert jX4; revert jX3; revert jX2; revert X5; revert X4; revert X3; revert X2; revert fm; revert fn; revert pp1_3; revert pp1_2; revert pp1_1; revert pp1_0; revert w28
  refine ?s2_11; rotate_left
  intro w29 pp1_0 pp1_1 pp1_2 pp1_3 fn fm X2 X3 X4 X5 jX2 jX3 jX4 jX5 ndX2_X3 ndX2_X4 ndX2_X5 ndX3_X4 ndX3_X5 ndX4_X5 kz2
  refine vD ?_
  have gX2 : w.heap.size ≤ pp1_0 := by have := b1.size; omega
  have gX3 : w.heap.size ≤ pp1_1 := by have := b1.size; omega
  have gX4 : w.heap.size ≤ pp1_2 := by have := b1.size; omega
  have gX5 : w.heap.size ≤ pp1_3 := by have := b1.size; omega
  go_wp2_with fail
  go_ret
  exact ⟨rfl, (bC b1 kz2)⟩
end Go.Proofs.YtjdjonekoodalaaGreatDoor
