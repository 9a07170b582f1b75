import Derived.Deep.DeepCutAuto
import Derived.Deep.DrawnRows
import Derived.LoopIn
import Derived.LoopNIn
import Derived.OwnWalkIn
import Derived.RangeFuncBound
import Derived.RangeFuncNested
import Derived.Shelf.RegionOpen
import Derived.Test.YtjdjonekoodalaaGreatDoorGaA
set_option maxHeartbeats 4000000
set_option linter.unusedVariables false
set_option linter.unusedSimpArgs false
set_option maxRecDepth 100000
namespace Go.Proofs.YtjdjonekoodalaaGreatDoor
open Go.RowKit
attribute [local go_sem ↓] Go.wp_at_zero Go.wp_at_succ
def nextM (m : Int) (ng od : Bool) (r : Int) : Bool := if r < 1 ∨ 3 < r then false else if m = 0 then (decide (r = 3) || (decide (r = 2) && od)) else if m = 1 then decide (r ≠ 1) else if m = 2 then !ng else if m = 3 then ng else false
def infM (m : Int) (ng : Bool) : Bool := decide (m = 0) || decide (m = 1) || (decide (m = 2) && !ng) || (decide (m = 3) && ng)
def ofM (h b : Bool) : Int := if h then (if b then 3 else 2) else if b then 1 else 0
structure ModeOK : Prop where
  known : ∀ m, 0 ≤ m → m ≤ 255 → ∀ w, Calls Tryz.prog 48 #[.int .u8 m] w fun e w' => e = .returned (.bool (decide (m < 5))) ∧ Below w.heap.size w w'
  next : ∀ m ng od r, 0 ≤ m → m ≤ 255 → 0 ≤ r → r ≤ 255 → ∀ w, Calls Tryz.prog 201 #[.int .u8 m, .bool ng, .bool od, .int .u8 r] w fun e w' => e = .returned (.bool (nextM m ng od r)) ∧ Below w.heap.size w w'
  of : ∀ h b, ∀ w, Calls Tryz.prog 215 #[.bool h, .bool b] w fun e w' => e = .returned (.int .u8 (ofM h b)) ∧ Below w.heap.size w w'
  inf : ∀ m ng, 0 ≤ m → m ≤ 255 → ∀ w, Calls Tryz.prog 184 #[.int .u8 m, .bool ng] w fun e w' => e = .returned (.bool (infM m ng)) ∧ Below w.heap.size w w'
theorem next_none (m : Int) (ng od : Bool) : nextM m ng od 0 = false := by unfold nextM; rw [if_pos (by omega)]
theorem next_more (m : Int) (ng od : Bool) {r : Int} (h0 : 0 ≤ r) (h : r < 3) (hn : nextM m ng od r = true) : nextM m ng od (r + 1) = true := by
  unfold nextM at *
  by_cases h1 : r < 1
  · rw [if_pos (Or.inl h1)] at hn; cases hn
  · rw [if_neg (by omega)] at hn ⊢
    by_cases m0 : m = 0
    · rw [if_pos m0] at hn ⊢
      simp at hn ⊢
      omega
    · rw [if_neg m0] at hn ⊢
      by_cases m1 : m = 1
      · rw [if_pos m1] at hn ⊢; simp at hn ⊢; omega
      · rw [if_neg m1] at hn ⊢; exact hn
end Go.Proofs.YtjdjonekoodalaaGreatDoor
namespace Go.Proofs.YtjdjonekoodalaaGreatDoor
open Go.RowKit Go.Maps
attribute [local go_sem ↓] Go.wp_at_zero Go.wp_at_succ
def heldE (v : Value) : Option (DataW Value × List MemPlace) := some (.held v, [])
theorem wpList_insert_own {H : Type} {P : Program} (w : World) {ops : Array Oper} {rest : List Oper} {o : Oper} {a : Act} {Q : Exit → Act → World → Prop}
    (hg : o.guard = none) (m x v : Operand) (t : TypeId) (hop : o.op = Op.insert t m x v)
    (k e : TypeId) (K : Keyed P k) (ht : P.underlying t = some (.map k e)) (R : Value → Option (DataW H × List MemPlace)) (b n : Nat) (D : DataW H)
    (hm : a.eval m = .map (some b)) (hown : w.ownsMap P k R b n D) (hn : n < maxLen) (key val : Value) (kl : Lit) (hx : a.eval x = key) (hv : a.eval v = val) (hkey : keyOf P k key = some kl)
    (d : DataW H) (ps : List MemPlace) (hval : R val = some (d, ps))
    (hK : ∀ w', w'.ownsMap P k R b (n + 1) (D.put kl d) → w.grownBy w' (some b) → wpList P ops Q rest (a.put o.dst undef) w') :
    wpList P ops Q (o :: rest) a w := by
  refine wpList_plain hg fun K' hK' => ?_
  obtain ⟨w', hrun, r1, r2⟩ := hown.update K ht hn hkey hval
  unfold Oper.wp
  simp [execOp, hop, hm, hx, hv, hrun, Result.andThen]
  exact hK' _ _ (hK w' r1 r2)
noncomputable def rulesD (bn bo : Nat) : DataW Value :=
  (((((DataW.map []).put (.int .u8 0) (.held (.func (.func 138) #[] #[.pointer (some ⟨bo, 0, none⟩)]))).put (.int .u8 1) (.held (.func (.func 139) #[] #[]))).put
    (.int .u8 2) (.held (.func (.func 140) #[] #[.pointer (some ⟨bn, 0, none⟩)]))).put (.int .u8 3) (.held (.func (.func 141) #[] #[.pointer (some ⟨bn, 0, none⟩)]))).put
    (.int .u8 4) (.held (.func (.func 142) #[] #[]))
theorem modeKey : Keyed Tryz.prog 37 := int_keyed Tryz.underlying37
theorem modeKeyOf {m : Int} (h0 : 0 ≤ m) (h1 : m ≤ 255) : keyOf Tryz.prog 37 (.int .u8 m) = some (.int .u8 m) := keyOf_int_mk Tryz.underlying37 (WalkArith.wf_u8 ⟨h0, h1⟩)
theorem funcZero (w : World) : (zeroValue 138).run Tryz.prog w = .ok .nilFunc w := by kernel_rfl
theorem mode_rules (ng od : Bool) (w : World) : Calls Tryz.prog 107 #[.bool ng, .bool od] w fun e w' =>
    ∃ b bn bo, e = .returned (.map (some b)) ∧ w'.ownsMap Tryz.prog 37 heldE b 5 (rulesD bn bo) ∧ w'.cell? ⟨bn, 0, none⟩ = some (.bool ng) ∧ w'.cell? ⟨bo, 0, none⟩ = some (.bool od) ∧ Below w.heap.size w w' := by
  have hmm := @run_makeMap Tryz.prog
  have hmf : ∀ (fn : Fn) (first cap : Array Value) (w : World), (Instr.makeFunc fn first cap).run Tryz.prog w = .ok (.func fn first cap) w := fun _ _ _ _ => rfl
  go_enter Tryz.func107, Tryz.ntmps107
  have hown : (((w.alloc (.cells #[.bool ng] 4)).alloc (.cells #[.bool od] 4)).alloc (.map #[] 0)).ownsMap Tryz.prog 37 heldE (w.heap.size + 1 + 1) 0 (.map []) := by
    have h := World.ownsMap_made ((w.alloc (.cells #[.bool ng] 4)).alloc (.cells #[.bool od] 4)) Tryz.prog 37 heldE
    simpa using h
  go_wp2_with (first | (refine wpList_insert_own _ rfl _ _ _ 140 rfl 37 138 modeKey Tryz.underlying140 heldE _ _ _ rfl (by assumption) (by decide) _ _ _ rfl rfl (modeKeyOf (by decide) (by decide)) _ [] rfl ?_; intro wn hown hgr) | go_in)
  rename_i w1 o1 g1 w2 o2 g2 w3 o3 g3 w4 o4 g4
  have z : (((w.alloc (.cells #[.bool ng] 4)).alloc (.cells #[.bool od] 4)).alloc (.map #[] 0)).grownBy wn (some (w.heap.size + 1 + 1)) := (((g1.trans g2).trans g3).trans g4).trans hgr
  have hn : HB wn w.heap.size 4 #[.bool ng] := (((HB.new _ _ _).alloc _).alloc _).kept z (by simp; omega)
  have ho : HB wn (w.heap.size + 1) 4 #[.bool od] := ((HB.newAt (by simp) _ _).alloc _).kept z (by simp)
  have kb : Below w.heap.size w wn := (bA (bA (bA bR _) _) _).grown z (by simp; omega) (fun j hj => by cases hj; omega)
  go_ret
  exact ⟨_, rfl, w.heap.size, w.heap.size + 1, hown, hn.cell 0, ho.cell 0, kb⟩
theorem rules_look {w : World} {b bn bo : Nat} (h : w.ownsMap Tryz.prog 37 heldE b 5 (rulesD bn bo)) {m : Int} (h0 : 0 ≤ m) (h1 : m ≤ 255) {v : Value} (hv : (rulesD bn bo).atKey (.int .u8 m) (.held .nilFunc) = .held v) {k : Bool} (hk : Maps.has (rulesD bn bo) (.int .u8 m) = k) :
    (Instr.lookup 140 (.map (some b)) (.int .u8 m) true).run Tryz.prog w = .ok (.tuple #[v, .bool k]) w := by
  obtain ⟨x, ps, hrun, hx⟩ := h.look_ok modeKey Tryz.underlying140 (funcZero w) (zd := .held .nilFunc) (zp := []) rfl (modeKeyOf h0 h1)
  rw [hv] at hx
  have e : x = v := by
    have := congrArg (fun o => o.map Prod.fst) hx
    simpa [heldE] using this
  rw [hrun, e, hk]
theorem rules_0 (bn bo : Nat) : (rulesD bn bo).atKey (.int .u8 0) (.held .nilFunc) = .held (.func (.func 138) #[] #[.pointer (some ⟨bo, 0, none⟩)]) ∧ Maps.has (rulesD bn bo) (.int .u8 0) = true := ⟨rfl, rfl⟩
theorem rules_1 (bn bo : Nat) : (rulesD bn bo).atKey (.int .u8 1) (.held .nilFunc) = .held (.func (.func 139) #[] #[]) ∧ Maps.has (rulesD bn bo) (.int .u8 1) = true := ⟨rfl, rfl⟩
theorem rules_2 (bn bo : Nat) : (rulesD bn bo).atKey (.int .u8 2) (.held .nilFunc) = .held (.func (.func 140) #[] #[.pointer (some ⟨bn, 0, none⟩)]) ∧ Maps.has (rulesD bn bo) (.int .u8 2) = true := ⟨rfl, rfl⟩
theorem rules_3 (bn bo : Nat) : (rulesD bn bo).atKey (.int .u8 3) (.held .nilFunc) = .held (.func (.func 141) #[] #[.pointer (some ⟨bn, 0, none⟩)]) ∧ Maps.has (rulesD bn bo) (.int .u8 3) = true := ⟨rfl, rfl⟩
theorem rules_4 (bn bo : Nat) : (rulesD bn bo).atKey (.int .u8 4) (.held .nilFunc) = .held (.func (.func 142) #[] #[]) ∧ Maps.has (rulesD bn bo) (.int .u8 4) = true := ⟨rfl, rfl⟩
theorem rules_none (bn bo : Nat) {m : Int} (h : ¬ (0 ≤ m ∧ m < 5)) : (rulesD bn bo).atKey (.int .u8 m) (.held .nilFunc) = .held .nilFunc ∧ Maps.has (rulesD bn bo) (.int .u8 m) = false := by
  have n0 : (Lit.int .u8 m) ≠ .int .u8 0 := by intro e; injection e; omega
  have n1 : (Lit.int .u8 m) ≠ .int .u8 1 := by intro e; injection e; omega
  have n2 : (Lit.int .u8 m) ≠ .int .u8 2 := by intro e; injection e; omega
  have n3 : (Lit.int .u8 m) ≠ .int .u8 3 := by intro e; injection e; omega
  have n4 : (Lit.int .u8 m) ≠ .int .u8 4 := by intro e; injection e; omega
  unfold rulesD
  constructor
  · rw [atKey_put_other n4, atKey_put_other n3, atKey_put_other n2, atKey_put_other n1, atKey_put_other n0]; rfl
  · rw [has_put_other n4, has_put_other n3, has_put_other n2, has_put_other n1, has_put_other n0]; rfl
theorem mode_c1 (r : Int) (ng od : Bool) (h1 : 1 ≤ r) (h3 : r ≤ 3) (bk : Nat) (w : World) (cc : w.cell? ⟨bk, 0, none⟩ = some (.bool od)) : Calls Tryz.prog 138 #[.int .u8 r, .pointer (some ⟨bk, 0, none⟩)] w fun e w' => e = .returned (.bool (nextM 0 ng od r)) ∧ Below w.heap.size w w' := by
  rcases (show r = 1 ∨ r = 2 ∨ r = 3 by omega) with rfl | rfl | rfl
  all_goals
    go_enter Tryz.func138, Tryz.ntmps138
    go_wp2
    go_ret
    exact ⟨by simp [nextM], bR⟩
theorem mode_c2 (r : Int) (ng od : Bool) (h1 : 1 ≤ r) (h3 : r ≤ 3) (w : World) : Calls Tryz.prog 139 #[.int .u8 r] w fun e w' => e = .returned (.bool (nextM 1 ng od r)) ∧ Below w.heap.size w w' := by
  rcases (show r = 1 ∨ r = 2 ∨ r = 3 by omega) with rfl | rfl | rfl
  all_goals
    go_enter Tryz.func139, Tryz.ntmps139
    go_wp2
    go_ret
    exact ⟨by simp [nextM], bR⟩
theorem mode_c3 (r : Int) (ng od : Bool) (h1 : 1 ≤ r) (h3 : r ≤ 3) (bk : Nat) (w : World) (cc : w.cell? ⟨bk, 0, none⟩ = some (.bool ng)) : Calls Tryz.prog 140 #[.int .u8 r, .pointer (some ⟨bk, 0, none⟩)] w fun e w' => e = .returned (.bool (nextM 2 ng od r)) ∧ Below w.heap.size w w' := by
  rw [show nextM 2 ng od r = !ng by unfold nextM; rw [if_neg (by omega)]; rfl]
  go_enter Tryz.func140, Tryz.ntmps140
  go_wp2
  go_ret
  exact ⟨rfl, bR⟩
theorem mode_c4 (r : Int) (ng od : Bool) (h1 : 1 ≤ r) (h3 : r ≤ 3) (bk : Nat) (w : World) (cc : w.cell? ⟨bk, 0, none⟩ = some (.bool ng)) : Calls Tryz.prog 141 #[.int .u8 r, .pointer (some ⟨bk, 0, none⟩)] w fun e w' => e = .returned (.bool (nextM 3 ng od r)) ∧ Below w.heap.size w w' := by
  rw [show nextM 3 ng od r = ng by unfold nextM; rw [if_neg (by omega)]; rfl]
  go_enter Tryz.func141, Tryz.ntmps141
  go_wp2
  go_ret
  exact ⟨rfl, bR⟩
theorem mode_c5 (r : Int) (ng od : Bool) (h1 : 1 ≤ r) (h3 : r ≤ 3) (w : World) : Calls Tryz.prog 142 #[.int .u8 r] w fun e w' => e = .returned (.bool (nextM 4 ng od r)) ∧ Below w.heap.size w w' := by
  rw [show nextM 4 ng od r = false by unfold nextM; rw [if_neg (by omega)]; rfl]
  go_enter Tryz.func142, Tryz.ntmps142
  go_wp2
  go_ret
  exact ⟨rfl, bR⟩
theorem mode_next_out (m : Int) (ng od : Bool) (r : Int) (h : r < 1 ∨ 3 < r) (r0 : 0 ≤ r) (w : World) : Calls Tryz.prog 201 #[.int .u8 m, .bool ng, .bool od, .int .u8 r] w fun e w' => e = .returned (.bool (nextM m ng od r)) ∧ Below w.heap.size w w' := by
  rw [show nextM m ng od r = false by unfold nextM; rw [if_pos h]]
  by_cases z : r = 0
  · subst z
    go_enter Tryz.func201, Tryz.ntmps201
    go_wp2_with fail
    go_ret
    exact ⟨rfl, bR⟩
  · have g0 : (r == 0) = false := by simp [z]
    have g1 : decide (3 < r) = true := by simp; omega
    have g2 : decide (r > 3) = true := g1
    go_enter Tryz.func201, Tryz.ntmps201
    go_wp2_with fail
    go_ret
    exact ⟨rfl, bR⟩
theorem mode_next_0 (ng od : Bool) (r : Int) (h1 : 1 ≤ r) (h3 : r ≤ 3) (w : World) : Calls Tryz.prog 201 #[.int .u8 0, .bool ng, .bool od, .int .u8 r] w fun e w' => e = .returned (.bool (nextM 0 ng od r)) ∧ Below w.heap.size w w' := by
  have g0 : (r == 0) = false := by simp; omega
  have g1 : decide (3 < r) = false := by simp; omega
  have g2 : decide (r > 3) = false := g1
  go_enter Tryz.func201, Tryz.ntmps201
  go_wp2_with fail
  (with_reducible refine (mode_rules ng od _).mono ?_); rintro e w1 ⟨b, bn, bo, rfl, hown, hn, ho, hb⟩
  have hl := rules_look hown (m := 0) (by decide) (by decide) (rules_0 bn bo).1 (rules_0 bn bo).2
  go_wp2_with fail
  (with_reducible refine (mode_c1 r ng od h1 h3 bo _ ho).mono ?_); rintro e w2 ⟨rfl, hb2⟩
  go_wp2_with fail
  go_ret
  exact ⟨rfl, bC hb hb2⟩
theorem mode_next_1 (ng od : Bool) (r : Int) (h1 : 1 ≤ r) (h3 : r ≤ 3) (w : World) : Calls Tryz.prog 201 #[.int .u8 1, .bool ng, .bool od, .int .u8 r] w fun e w' => e = .returned (.bool (nextM 1 ng od r)) ∧ Below w.heap.size w w' := by
  have g0 : (r == 0) = false := by simp; omega
  have g1 : decide (3 < r) = false := by simp; omega
  have g2 : decide (r > 3) = false := g1
  go_enter Tryz.func201, Tryz.ntmps201
  go_wp2_with fail
  (with_reducible refine (mode_rules ng od _).mono ?_); rintro e w1 ⟨b, bn, bo, rfl, hown, hn, ho, hb⟩
  have hl := rules_look hown (m := 1) (by decide) (by decide) (rules_1 bn bo).1 (rules_1 bn bo).2
  go_wp2_with fail
  (with_reducible refine (mode_c2 r ng od h1 h3 _).mono ?_); rintro e w2 ⟨rfl, hb2⟩
  go_wp2_with fail
  go_ret
  exact ⟨rfl, bC hb hb2⟩
theorem mode_next_2 (ng od : Bool) (r : Int) (h1 : 1 ≤ r) (h3 : r ≤ 3) (w : World) : Calls Tryz.prog 201 #[.int .u8 2, .bool ng, .bool od, .int .u8 r] w fun e w' => e = .returned (.bool (nextM 2 ng od r)) ∧ Below w.heap.size w w' := by
  have g0 : (r == 0) = false := by simp; omega
  have g1 : decide (3 < r) = false := by simp; omega
  have g2 : decide (r > 3) = false := g1
  go_enter Tryz.func201, Tryz.ntmps201
  go_wp2_with fail
  (with_reducible refine (mode_rules ng od _).mono ?_); rintro e w1 ⟨b, bn, bo, rfl, hown, hn, ho, hb⟩
  have hl := rules_look hown (m := 2) (by decide) (by decide) (rules_2 bn bo).1 (rules_2 bn bo).2
  go_wp2_with fail
  (with_reducible refine (mode_c3 r ng od h1 h3 bn _ hn).mono ?_); rintro e w2 ⟨rfl, hb2⟩
  go_wp2_with fail
  go_ret
  exact ⟨rfl, bC hb hb2⟩
theorem mode_next_3 (ng od : Bool) (r : Int) (h1 : 1 ≤ r) (h3 : r ≤ 3) (w : World) : Calls Tryz.prog 201 #[.int .u8 3, .bool ng, .bool od, .int .u8 r] w fun e w' => e = .returned (.bool (nextM 3 ng od r)) ∧ Below w.heap.size w w' := by
  have g0 : (r == 0) = false := by simp; omega
  have g1 : decide (3 < r) = false := by simp; omega
  have g2 : decide (r > 3) = false := g1
  go_enter Tryz.func201, Tryz.ntmps201
  go_wp2_with fail
  (with_reducible refine (mode_rules ng od _).mono ?_); rintro e w1 ⟨b, bn, bo, rfl, hown, hn, ho, hb⟩
  have hl := rules_look hown (m := 3) (by decide) (by decide) (rules_3 bn bo).1 (rules_3 bn bo).2
  go_wp2_with fail
  (with_reducible refine (mode_c4 r ng od h1 h3 bn _ hn).mono ?_); rintro e w2 ⟨rfl, hb2⟩
  go_wp2_with fail
  go_ret
  exact ⟨rfl, bC hb hb2⟩
theorem mode_next_4 (ng od : Bool) (r : Int) (h1 : 1 ≤ r) (h3 : r ≤ 3) (w : World) : Calls Tryz.prog 201 #[.int .u8 4, .bool ng, .bool od, .int .u8 r] w fun e w' => e = .returned (.bool (nextM 4 ng od r)) ∧ Below w.heap.size w w' := by
  have g0 : (r == 0) = false := by simp; omega
  have g1 : decide (3 < r) = false := by simp; omega
  have g2 : decide (r > 3) = false := g1
  go_enter Tryz.func201, Tryz.ntmps201
  go_wp2_with fail
  (with_reducible refine (mode_rules ng od _).mono ?_); rintro e w1 ⟨b, bn, bo, rfl, hown, hn, ho, hb⟩
  have hl := rules_look hown (m := 4) (by decide) (by decide) (rules_4 bn bo).1 (rules_4 bn bo).2
  go_wp2_with fail
  (with_reducible refine (mode_c5 r ng od h1 h3 _).mono ?_); rintro e w2 ⟨rfl, hb2⟩
  go_wp2_with fail
  go_ret
  exact ⟨rfl, bC hb hb2⟩
theorem mode_next_other (m : Int) (ng od : Bool) (r : Int) (h1 : 1 ≤ r) (h3 : r ≤ 3) (m0 : 0 ≤ m) (m1 : m ≤ 255) (hm : 5 ≤ m) (w : World) : Calls Tryz.prog 201 #[.int .u8 m, .bool ng, .bool od, .int .u8 r] w fun e w' => e = .returned (.bool (nextM m ng od r)) ∧ Below w.heap.size w w' := by
  rw [show nextM m ng od r = false by unfold nextM; rw [if_neg (by omega), if_neg (by omega), if_neg (by omega), if_neg (by omega), if_neg (by omega)]]
  have g0 : (r == 0) = false := by simp; omega
  have g1 : decide (3 < r) = false := by simp; omega
  have g2 : decide (r > 3) = false := g1
  go_enter Tryz.func201, Tryz.ntmps201
  go_wp2_with fail
  (with_reducible refine (mode_rules ng od _).mono ?_); rintro e w1 ⟨b, bn, bo, rfl, hown, hn, ho, hb⟩
  have hr := rules_none bn bo (m := m) (by omega)
  have hl := rules_look hown m0 m1 hr.1 hr.2
  clear hr
  go_wp2_with fail
  go_ret
  exact ⟨rfl, hb⟩
theorem mode_next (m : Int) (ng od : Bool) (r : Int) (m0 : 0 ≤ m) (m1 : m ≤ 255) (r0 : 0 ≤ r) (w : World) : Calls Tryz.prog 201 #[.int .u8 m, .bool ng, .bool od, .int .u8 r] w fun e w' => e = .returned (.bool (nextM m ng od r)) ∧ Below w.heap.size w w' := by
  by_cases h : r < 1 ∨ 3 < r
  · exact mode_next_out m ng od r h r0 w
  · have h1 : 1 ≤ r := by omega
    have h3 : r ≤ 3 := by omega
    rcases (show m = 0 ∨ m = 1 ∨ m = 2 ∨ m = 3 ∨ m = 4 ∨ 5 ≤ m by omega) with rfl | rfl | rfl | rfl | rfl | hm
    · exact mode_next_0 ng od r h1 h3 w
    · exact mode_next_1 ng od r h1 h3 w
    · exact mode_next_2 ng od r h1 h3 w
    · exact mode_next_3 ng od r h1 h3 w
    · exact mode_next_4 ng od r h1 h3 w
    · exact mode_next_other m ng od r h1 h3 m0 m1 hm w
theorem rules_has (bn bo : Nat) {m : Int} (m0 : 0 ≤ m) : ∃ v, (rulesD bn bo).atKey (.int .u8 m) (.held .nilFunc) = .held v ∧ Maps.has (rulesD bn bo) (.int .u8 m) = decide (m < 5) := by
  rcases (show m = 0 ∨ m = 1 ∨ m = 2 ∨ m = 3 ∨ m = 4 ∨ 5 ≤ m by omega) with rfl | rfl | rfl | rfl | rfl | hm
  · exact ⟨_, rules_0 bn bo⟩
  · exact ⟨_, rules_1 bn bo⟩
  · exact ⟨_, rules_2 bn bo⟩
  · exact ⟨_, rules_3 bn bo⟩
  · exact ⟨_, rules_4 bn bo⟩
  · have h := rules_none bn bo (m := m) (by omega)
    exact ⟨_, h.1, by rw [h.2]; simp; omega⟩
theorem mode_known (m : Int) (m0 : 0 ≤ m) (m1 : m ≤ 255) (w : World) : Calls Tryz.prog 48 #[.int .u8 m] w fun e w' => e = .returned (.bool (decide (m < 5))) ∧ Below w.heap.size w w' := by
  obtain ⟨k, hk⟩ : ∃ k, decide (m < 5) = k := ⟨_, rfl⟩
  rw [hk]
  go_enter Tryz.func48, Tryz.ntmps48
  go_wp2_with fail
  (with_reducible refine (mode_rules false false _).mono ?_); rintro e w1 ⟨b, bn, bo, rfl, hown, hn, ho, hb⟩
  obtain ⟨v, h1, h2⟩ := rules_has bn bo m0
  rw [hk] at h2
  have hl := rules_look hown m0 m1 h1 h2
  clear h1 h2 hk
  go_wp2_with fail
  go_ret
  exact ⟨rfl, hb⟩
theorem inf_next (m : Int) (ng : Bool) : nextM m ng true 3 = infM m ng := by
  unfold nextM infM
  rw [if_neg (by omega)]
  by_cases h0 : m = 0
  · subst h0; simp
  · by_cases h1 : m = 1
    · subst h1; simp
    · by_cases h2 : m = 2
      · subst h2; simp
      · by_cases h3 : m = 3
        · subst h3; simp
        · simp [h0, h1, h2, h3]
theorem mode_inf (m : Int) (ng : Bool) (m0 : 0 ≤ m) (m1 : m ≤ 255) (w : World) : Calls Tryz.prog 184 #[.int .u8 m, .bool ng] w fun e w' => e = .returned (.bool (infM m ng)) ∧ Below w.heap.size w w' := by
  rw [← inf_next]
  go_enter Tryz.func184, Tryz.ntmps184
  go_wp2_with fail
  (with_reducible refine (mode_next m ng true 3 m0 m1 (by decide) _).mono ?_); rintro e w1 ⟨rfl, hb⟩
  go_wp2_with fail
  go_ret
  exact ⟨rfl, hb⟩
theorem mode_of (h b : Bool) (w : World) : Calls Tryz.prog 215 #[.bool h, .bool b] w fun e w' => e = .returned (.int .u8 (ofM h b)) ∧ Below w.heap.size w w' := by
  cases h <;> cases b
  all_goals
    go_enter Tryz.func215, Tryz.ntmps215
    go_wp2
    go_ret
    exact ⟨rfl, bR⟩
theorem modeOK : ModeOK where
  known := fun m m0 m1 w => mode_known m m0 m1 w
  next := fun m ng od r m0 m1 r0 _ w => mode_next m ng od r m0 m1 r0 w
  of := mode_of
  inf := fun m ng m0 m1 w => mode_inf m ng m0 m1 w
end Go.Proofs.YtjdjonekoodalaaGreatDoor
