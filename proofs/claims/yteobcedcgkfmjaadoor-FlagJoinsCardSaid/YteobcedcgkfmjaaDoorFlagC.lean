/-
  Package flag: Has; the iterator over the flags of a set.
-/
import Derived.RangeFuncBox
import Derived.Test.YteobcedcgkfmjaaDoorFlagM
import Derived.Test.YteobcedcgkfmjaaDoorGaA
set_option linter.unusedVariables false
set_option linter.unusedSimpArgs false
set_option maxRecDepth 100000
namespace Go.Proofs.YteobcedcgkfmjaaDoor
open Go.RowKit Go.Shelf
attribute [local go_sem] Oper.semAt_some

/-- The names of the flags as they lie. -/
def NTab (w : World) : Prop := ∀ k : Fin 5, w.cell? ⟨0, k.val, none⟩ = some (.string (nmB k))
theorem NTab.later {w w' : World} (h : NTab w) (hb : Below w.heap.size w w') : NTab w' := fun j => cell_later hb (h j)

set_option maxRecDepth 100000 in
theorem flag_has (s p : Nat) (hs : s < 256) (hp : p < 256) (w : World) :
    Calls Tryd.prog 10 #[.int .u8 s, .int .u8 p] w fun e w' => e = .returned (.bool (hasN s p)) ∧ w' = w := by
  have a := bits_and_u8 hs hp
  have c : ((((s &&& p : Nat) : Int)) == (p : Int)) = hasN s p := by
    unfold hasN; rw [Bool.eq_iff_iff, beq_iff_eq, beq_iff_eq]; exact Int.ofNat_inj
  go_enter Tryd.func10, Tryd.ntmps10
  go_wp2_with fail
  go_ret
  exact ⟨by simp [c], rfl⟩

/-- One block stays as it is. -/
def Keeps1 (m : Nat) (W W' : World) : Prop := W'.heap[m]? = W.heap[m]?
theorem Keeps1.t {m : Nat} {A B C : World} (h : Keeps1 m A B) (h' : Keeps1 m B C) : Keeps1 m A C := Eq.trans h' h
theorem Keeps1.b {m : Nat} {w : World} (hn : m < w.heap.size) (W : World) (l : Nat) (o o' : Obj) (hl : w.heap.size ≤ l) (_ : W.heap[l]? = some o) (_ : o.isCells = false) (_ : o.isWalk = false) : Keeps1 m W (W.putObj l o') := World.putObj_heap_other (by omega)
theorem Keeps1.hb {m : Nat} {W W' : World} (h : Keeps1 m W W') {t : TypeId} {vs : Array Value} (x : HB W m t vs) : HB W' m t vs := Eq.trans h x
theorem Keeps1.of {m : Nat} {W W' : World} {t : TypeId} {vs : Array Value} (x : HB W m t vs) (y : HB W' m t vs) : Keeps1 m W W' := Eq.trans y (Eq.symm x)
theorem grown_own {w w' : World} (h : Below w.heap.size w w') : w.grownBy w' none := ⟨h.os, h.tape, h.output, h.size, fun k hk _ => h.block k hk⟩

theorem hb_later {W W' : World} {B : Nat} {t : TypeId} {vs : Array Value} (h : HB W B t vs) (hb : Below W.heap.size W W') : HB W' B t vs := Eq.trans (hb.block B h.lt) h
/-- What is handed to a round. -/
def encF (x : Fin 5) : Array Value := #[.int .u8 ((2 ^ x.val : Nat) : Int), .string (nmB x)]

theorem enc0 : encF (Fin.ofNat 5 0) = #[.int .u8 1, .string (nmB 0)] := rfl
theorem enc1 : encF (Fin.ofNat 5 1) = #[.int .u8 2, .string (nmB 1)] := rfl
theorem enc2 : encF (Fin.ofNat 5 2) = #[.int .u8 4, .string (nmB 2)] := rfl
theorem enc3 : encF (Fin.ofNat 5 3) = #[.int .u8 8, .string (nmB 3)] := rfl
theorem enc4 : encF (Fin.ofNat 5 4) = #[.int .u8 16, .string (nmB 4)] := rfl

set_option maxRecDepth 100000 in
set_option maxHeartbeats 4000000 in
theorem flags1_in (nn : Nat) (hn : 1 ≤ nn) (l m s : Nat) (hs : s < 256)
    (J Jx : List (Fin 5) → World → Prop)
    (hY : ∀ pre x W, J pre W → pre.length < 5 → YieldAt Fence.wide (nn - 1) Tryd.prog l (encF x) W fun e W' =>
      (e = .returned (.bool true) ∧ J (pre ++ [x]) W' ∧ Keeps1 m W W') ∨ (e = .returned (.bool false) ∧ Jx (pre ++ [x]) W'))
    (W : World) (nt : NTab W) (hN : HB W m 23 #[.int .u8 s]) (h0 : J [] W) :
    CallsIn Fence.wide nn Tryd.prog 19 #[.func (.yield l) #[] #[], .pointer (some ⟨m, 0, none⟩)] W fun e W' => (∃ v, e = .returned v) ∧
      ((∃ ys, ys = namesN s ∧ J ys W') ∨ (∃ pre, True ∧ Jx pre W')) := by
  have c0 : W.cell? ⟨0, 0, none⟩ = some (.string (nmB 0)) := nt 0
  have c1 : W.cell? ⟨0, 1, none⟩ = some (.string (nmB 1)) := nt 1
  have c2 : W.cell? ⟨0, 2, none⟩ = some (.string (nmB 2)) := nt 2
  have c3 : W.cell? ⟨0, 3, none⟩ = some (.string (nmB 3)) := nt 3
  have c4 : W.cell? ⟨0, 4, none⟩ = some (.string (nmB 4)) := nt 4
  have lm := hN.lt
  have i0 : ∀ w, (Instr.index 40 (.agg #[.string (nmB 0), .string (nmB 1), .string (nmB 2), .string (nmB 3), .string (nmB 4)]) (.int .i64 0)).run Tryd.prog w = .ok (.string (nmB 0)) w := fun _ => by kernel_rfl
  have i1 : ∀ w, (Instr.index 40 (.agg #[.string (nmB 0), .string (nmB 1), .string (nmB 2), .string (nmB 3), .string (nmB 4)]) (.int .i64 1)).run Tryd.prog w = .ok (.string (nmB 1)) w := fun _ => by kernel_rfl
  have i2 : ∀ w, (Instr.index 40 (.agg #[.string (nmB 0), .string (nmB 1), .string (nmB 2), .string (nmB 3), .string (nmB 4)]) (.int .i64 2)).run Tryd.prog w = .ok (.string (nmB 2)) w := fun _ => by kernel_rfl
  have i3 : ∀ w, (Instr.index 40 (.agg #[.string (nmB 0), .string (nmB 1), .string (nmB 2), .string (nmB 3), .string (nmB 4)]) (.int .i64 3)).run Tryd.prog w = .ok (.string (nmB 3)) w := fun _ => by kernel_rfl
  have i4 : ∀ w, (Instr.index 40 (.agg #[.string (nmB 0), .string (nmB 1), .string (nmB 2), .string (nmB 3), .string (nmB 4)]) (.int .i64 4)).run Tryd.prog w = .ok (.string (nmB 4)) w := fun _ => by kernel_rfl
  refine callsIn_of_wp Tryd.func19 rfl trivial ?_ rfl
  simp only [Tryd.ntmps19, List.size_toArray, List.length_cons, List.length_nil, Nat.reduceAdd, Nat.reduceSub, Array.replicate_succ, Array.replicate_zero, List.push_toArray, List.append_toArray, List.nil_append, List.cons_append]
  gi_wp2
  clear c0 c1 c2 c3 c4 nt
  gi_loopw [7] (fun i wr => ∃ j : Nat, j ≤ 5 ∧ i = .int .i64 j ∧ J (upS s j) wr ∧ Keeps1 m W wr)
    (fun i _ => (5 - intOf i).toNat)
  case atStart => exact ⟨0, by omega, rfl, h0, rfl⟩
  case round =>
    obtain ⟨j, hj, rfl, hJ, hk⟩ := hrel
    have hb := hk.hb hN
    have q0 := hb.cell 0
    dsimp at q0
    by_cases hj5 : j = 5
    · subst hj5
      gi_wp2
      go_end0
      exact ⟨⟨_, rfl⟩, .inl ⟨_, rfl, hJ⟩⟩
    · have hlen : (upS s j).length < 5 := by have := upS_length s j; omega
      have hp := has_pow s hs j (by omega)
      have hA := flag_has s (2 ^ j) hs (by have := Nat.pow_lt_pow_right (a := 2) (m := j) (n := 5) (by decide) (by omega); omega) wr
      rw [hp] at hA
      obtain ⟨fn, tmps, assign, body, hy, hR⟩ := hY _ (Fin.ofNat 5 j) wr hJ hlen
      have eU : upS s (j + 1) = if s.testBit j then upS s j ++ [Fin.ofNat 5 j] else upS s j := rfl
      cases ht : s.testBit j
      · rw [ht] at hA eU
        simp only [Bool.false_eq_true, if_false] at eU
        have HA := Lib.hid hA
        clear hY hR hy hA hp ht
        have HJ := Lib.hid hJ
        clear hJ hlen
        obtain rfl | rfl | rfl | rfl | rfl : j = 0 ∨ j = 1 ∨ j = 2 ∨ j = 3 ∨ j = 4 := by omega
        all_goals
          gi_wp2
          refine ⟨trivial, (callsIn_wide.2 HA.out).mono ?_⟩
          rintro e W1 ⟨rfl, rfl⟩
          gi_wp2
          all_goals (refine ⟨(fun f h => by cases h), ?_⟩; apply_assumption)
          all_goals gi_wp2
          all_goals go_roundw
          all_goals try (exact ⟨_, by decide, rfl, eU ▸ HJ.out, hk⟩)
          all_goals simp [intOf]
      · rw [ht] at hA eU
        simp only [if_true] at eU
        rw [← eU] at hR
        have HA := Lib.hid hA
        have HJ := Lib.hid hJ
        clear hY hA hp ht hJ hlen eU
        obtain rfl | rfl | rfl | rfl | rfl : j = 0 ∨ j = 1 ∨ j = 2 ∨ j = 3 ∨ j = 4 := by omega
        all_goals
          simp only [enc0, enc1, enc2, enc3, enc4] at hy
          gi_wp2
          refine ⟨trivial, (callsIn_wide.2 HA.out).mono ?_⟩
          rintro e W1 ⟨rfl, rfl⟩
          gi_wp2
          refine hR.mono ?_
          rintro e W3 (⟨rfl, hJ3, hk3⟩ | ⟨rfl, hJx3⟩)
          · gi_wp2
            go_roundw
            case rel => exact ⟨_, by decide, rfl, hJ3, hk.t hk3⟩
            case measure => simp [intOf]
          · gi_wp2
            refine bodyPost_ret (results_none rfl _ _ _) rfl ?_
            exact ⟨⟨_, rfl⟩, .inr ⟨_, trivial, hJx3⟩⟩

theorem flags_stops (nn : Nat) (hn : 1 ≤ nn) (m s : Nat) (hs : s < 256) (w : World) (nt : NTab w) (hN : HB w m 23 #[.int .u8 s]) :
    SeqStopsK Fence.wide nn Tryd.prog 19 #[.pointer (some ⟨m, 0, none⟩)] encF (Keeps1 m) (fun ys => ys = namesN s) (fun _ => True) 5 w :=
  fun l J Jx W hW hJ hJx hY h0 => flags1_in nn hn l m s hs J Jx hY W (nt.later hW) (hb_later hN hW) h0

set_option maxRecDepth 100000 in
theorem flags_any (s : Int) (w : World) :
    Calls Tryd.prog 17 #[.int .u8 s] w fun e w' => e = .returned (.func (.func 19) #[] #[.pointer (some ⟨w.heap.size, 0, none⟩)]) ∧ w' = w.alloc (.cells #[.int .u8 s] 23) := by
  have hmf : ∀ (fn : Fn) (first cap : Array Value) (w : World), (Instr.makeFunc fn first cap).run Tryd.prog w = .ok (.func fn first cap) w := fun _ _ _ _ => rfl
  go_enter Tryd.func17, Tryd.ntmps17
  go_wp2_with fail
  go_ret
  exact ⟨rfl, rfl⟩

end Go.Proofs.YteobcedcgkfmjaaDoor
