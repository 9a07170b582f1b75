import Derived.Test.YtjdjonekoodalaaGreatDoorGaC
set_option maxHeartbeats 4000000
set_option linter.unusedVariables false
set_option maxRecDepth 100000
namespace Go.Proofs.YtjdjonekoodalaaGreatDoor
open Go.RowKit Go.Shelf
attribute [local go_sem] Oper.semAt_some
def Three (W : World) (m op : Nat) (a0 a1 a2 a3 b0 b1 b2 b3 : Int) : Prop :=
  HB W m 81 #[.int .u64 a0, .int .u64 a1, .int .u64 a2, .int .u64 a3] ∧ HB W (m + 1) 81 #[.int .u64 b0, .int .u64 b1, .int .u64 b2, .int .u64 b3] ∧ HB W (m + 1 + 1) 220 #[.func (.func op) #[] #[]]
theorem Three.keep {W W' : World} {m op : Nat} {a0 a1 a2 a3 b0 b1 b2 b3 : Int} (x : Three W m op a0 a1 a2 a3 b0 b1 b2 b3) (h : Keeps3 m W W') : Three W' m op a0 a1 a2 a3 b0 b1 b2 b3 :=
  ⟨h.hb (by omega) (by omega) x.1, h.hb (by omega) (by omega) x.2.1, h.hb (by omega) (by omega) x.2.2⟩
def iOf : Fin 4 → Int
  | 0 => 0 | 1 => 1 | 2 => 2 | 3 => 3
def at4 (x0 x1 x2 x3 : Int) : Fin 4 → Int
  | 0 => x0 | 1 => x1 | 2 => x2 | 3 => x3
def encW (d0 d1 d2 d3 c1 c2 c3 c4 : Int) (x : Fin 4) : Array Value := #[.int .i64 (iOf x), .agg #[.int .u64 (at4 c1 c2 c3 c4 x), .int .u64 (at4 d0 d1 d2 d3 x)]]
def Head (J : List (Fin 4) → World → Prop) (m : Nat) (W : World) (c1 c2 c3 c4 : Int) (c i : Value) (wr : World) : Prop :=
  ((c = .int .u64 0 ∧ i = .int .i64 0 ∧ J [] wr) ∨ (c = .int .u64 c1 ∧ i = .int .i64 1 ∧ J [0] wr) ∨ (c = .int .u64 c2 ∧ i = .int .i64 2 ∧ J [0, 1] wr) ∨ (c = .int .u64 c3 ∧ i = .int .i64 3 ∧ J [0, 1, 2] wr) ∨ (c = .int .u64 c4 ∧ i = .int .i64 4 ∧ J [0, 1, 2, 3] wr)) ∧ Keeps3 m W wr
theorem digits1_in (n : Nat) (hn : 1 ≤ n) (op l m : Nat) (a0 a1 a2 a3 b0 b1 b2 b3 d0 d1 d2 d3 c1 c2 c3 c4 : Int)
    (r0 : ∀ w, (callFunc op #[.int .u64 a0, .int .u64 b0, .int .u64 0]).run Tryz.prog w = .ok (.value (.tuple #[.int .u64 d0, .int .u64 c1])) w)
    (r1 : ∀ w, (callFunc op #[.int .u64 a1, .int .u64 b1, .int .u64 c1]).run Tryz.prog w = .ok (.value (.tuple #[.int .u64 d1, .int .u64 c2])) w)
    (r2 : ∀ w, (callFunc op #[.int .u64 a2, .int .u64 b2, .int .u64 c2]).run Tryz.prog w = .ok (.value (.tuple #[.int .u64 d2, .int .u64 c3])) w)
    (r3 : ∀ w, (callFunc op #[.int .u64 a3, .int .u64 b3, .int .u64 c3]).run Tryz.prog w = .ok (.value (.tuple #[.int .u64 d3, .int .u64 c4])) w)
    (J Jx : List (Fin 4) → World → Prop) (hA : ∀ pre W k, J pre W → J pre (W.drewN k))
    (hY : ∀ pre x W, J pre W → pre.length < 4 → YieldAt Fence.wide (n - 1) Tryz.prog l (encW d0 d1 d2 d3 c1 c2 c3 c4 x) W fun e W' =>
      (e = .returned (.bool true) ∧ J (pre ++ [x]) W' ∧ Keeps3 m W W') ∨ (e = .returned (.bool false) ∧ Jx (pre ++ [x]) W'))
    (W : World) (hT : Three W m op a0 a1 a2 a3 b0 b1 b2 b3) (h0 : J [] W) :
    CallsIn Fence.wide n Tryz.prog 210 #[.func (.yield l) #[] #[], .pointer (some ⟨m + 1 + 1, 0, none⟩), .pointer (some ⟨m, 0, none⟩), .pointer (some ⟨m + 1, 0, none⟩)] W fun e W' => (∃ v, e = .returned v) ∧
      ((∃ ys, ys = [0, 1, 2, 3] ∧ J ys W') ∨ (∃ pre, True ∧ Jx pre W')) := by
  refine callsIn_of_wp Tryz.func210 rfl trivial ?_ rfl
  simp only [Tryz.ntmps210, List.size_toArray, List.length_cons, List.length_nil, Nat.reduceAdd, Nat.reduceSub, Array.replicate_succ, Array.replicate_zero, List.push_toArray, List.append_toArray, List.nil_append, List.cons_append]
  gi_wp2
  gi_loopw [5, 9] (fun c i wr => Head J m W c1 c2 c3 c4 c i wr)
    (fun _ i _ => 4 - (intOf i).toNat)
  case atStart => exact ⟨.inl ⟨rfl, rfl, h0⟩, Keeps3.refl _ _⟩
  case round =>
    obtain ⟨h5, hk⟩ := hrel
    obtain ⟨t1, t2, t3⟩ := hT.keep hk
    have p0 := t3.cell 0
    rcases h5 with ⟨rfl, rfl, hJ⟩ | ⟨rfl, rfl, hJ⟩ | ⟨rfl, rfl, hJ⟩ | ⟨rfl, rfl, hJ⟩ | ⟨rfl, rfl, hJ⟩
    · have q0 := t1.cell 0
      have q1 := t2.cell 0
      dsimp at p0 q0 q1
      gi_wp2
      refine wpIn_region_quiet_lit rfl (by kernel_rfl) (by kernel_rfl) ?_
      repeat (gi_big_quiet_step (fail))
      refine BigFrame.wpQuietIn_want (fun _ _ _ _ => trivial) rfl (fun K hK => ⟨.tuple #[.int .u64 d0, .int .u64 c1], fun w1 hw1 => ?_, hK _ ?_⟩)
      · simp [Oper.quietAtIn, Oper.quietUponIn, go_sem, r0]
      clear hK K
      go_simp
      repeat (gi_big_quiet_step (fail))
      refine wpQuietIn_nil ?_
      intro nq
      obtain ⟨fn, tmps, assign, body, hy, hR⟩ := hY _ 0 (wr.drewN nq) (hA _ _ nq hJ) (by decide)
      dsimp only [encW, iOf, at4] at hy
      clear hY r0 r1 r2 r3
      gi_wp2
      refine hR.mono ?_
      rintro e W3 (⟨rfl, hJ3, hk3⟩ | ⟨rfl, hJx3⟩)
      · gi_wp2
        go_roundw
        case rel => exact ⟨.inr (.inl ⟨rfl, rfl, hJ3⟩), hk.t (Keeps3.t (Keeps3.drewN m wr nq) hk3)⟩
        case measure => simp [intOf]
      · gi_wp2
        refine bodyPost_ret (results_none rfl _ _ _) rfl ?_
        exact ⟨⟨_, rfl⟩, .inr ⟨_, trivial, hJx3⟩⟩
    · have q0 := t1.cell 1
      have q1 := t2.cell 1
      dsimp at p0 q0 q1
      gi_wp2
      refine wpIn_region_quiet_lit rfl (by kernel_rfl) (by kernel_rfl) ?_
      repeat (gi_big_quiet_step (fail))
      refine BigFrame.wpQuietIn_want (fun _ _ _ _ => trivial) rfl (fun K hK => ⟨.tuple #[.int .u64 d1, .int .u64 c2], fun w1 hw1 => ?_, hK _ ?_⟩)
      · simp [Oper.quietAtIn, Oper.quietUponIn, go_sem, r1]
      clear hK K
      go_simp
      repeat (gi_big_quiet_step (fail))
      refine wpQuietIn_nil ?_
      intro nq
      obtain ⟨fn, tmps, assign, body, hy, hR⟩ := hY _ 1 (wr.drewN nq) (hA _ _ nq hJ) (by decide)
      dsimp only [encW, iOf, at4] at hy
      clear hY r0 r1 r2 r3
      gi_wp2
      refine hR.mono ?_
      rintro e W3 (⟨rfl, hJ3, hk3⟩ | ⟨rfl, hJx3⟩)
      · gi_wp2
        go_roundw
        case rel => exact ⟨.inr (.inr (.inl ⟨rfl, rfl, hJ3⟩)), hk.t (Keeps3.t (Keeps3.drewN m wr nq) hk3)⟩
        case measure => simp [intOf]
      · gi_wp2
        refine bodyPost_ret (results_none rfl _ _ _) rfl ?_
        exact ⟨⟨_, rfl⟩, .inr ⟨_, trivial, hJx3⟩⟩
    · have q0 := t1.cell 2
      have q1 := t2.cell 2
      dsimp at p0 q0 q1
      gi_wp2
      refine wpIn_region_quiet_lit rfl (by kernel_rfl) (by kernel_rfl) ?_
      repeat (gi_big_quiet_step (fail))
      refine BigFrame.wpQuietIn_want (fun _ _ _ _ => trivial) rfl (fun K hK => ⟨.tuple #[.int .u64 d2, .int .u64 c3], fun w1 hw1 => ?_, hK _ ?_⟩)
      · simp [Oper.quietAtIn, Oper.quietUponIn, go_sem, r2]
      clear hK K
      go_simp
      repeat (gi_big_quiet_step (fail))
      refine wpQuietIn_nil ?_
      intro nq
      obtain ⟨fn, tmps, assign, body, hy, hR⟩ := hY _ 2 (wr.drewN nq) (hA _ _ nq hJ) (by decide)
      dsimp only [encW, iOf, at4] at hy
      clear hY r0 r1 r2 r3
      gi_wp2
      refine hR.mono ?_
      rintro e W3 (⟨rfl, hJ3, hk3⟩ | ⟨rfl, hJx3⟩)
      · gi_wp2
        go_roundw
        case rel => exact ⟨.inr (.inr (.inr (.inl ⟨rfl, rfl, hJ3⟩))), hk.t (Keeps3.t (Keeps3.drewN m wr nq) hk3)⟩
        case measure => simp [intOf]
      · gi_wp2
        refine bodyPost_ret (results_none rfl _ _ _) rfl ?_
        exact ⟨⟨_, rfl⟩, .inr ⟨_, trivial, hJx3⟩⟩
    · have q0 := t1.cell 3
      have q1 := t2.cell 3
      dsimp at p0 q0 q1
      gi_wp2
      refine wpIn_region_quiet_lit rfl (by kernel_rfl) (by kernel_rfl) ?_
      repeat (gi_big_quiet_step (fail))
      refine BigFrame.wpQuietIn_want (fun _ _ _ _ => trivial) rfl (fun K hK => ⟨.tuple #[.int .u64 d3, .int .u64 c4], fun w1 hw1 => ?_, hK _ ?_⟩)
      · simp [Oper.quietAtIn, Oper.quietUponIn, go_sem, r3]
      clear hK K
      go_simp
      repeat (gi_big_quiet_step (fail))
      refine wpQuietIn_nil ?_
      intro nq
      obtain ⟨fn, tmps, assign, body, hy, hR⟩ := hY _ 3 (wr.drewN nq) (hA _ _ nq hJ) (by decide)
      dsimp only [encW, iOf, at4] at hy
      clear hY r0 r1 r2 r3
      gi_wp2
      refine hR.mono ?_
      rintro e W3 (⟨rfl, hJ3, hk3⟩ | ⟨rfl, hJx3⟩)
      · gi_wp2
        go_roundw
        case rel => exact ⟨.inr (.inr (.inr (.inr (⟨rfl, rfl, hJ3⟩)))), hk.t (Keeps3.t (Keeps3.drewN m wr nq) hk3)⟩
        case measure => simp [intOf]
      · gi_wp2
        refine bodyPost_ret (results_none rfl _ _ _) rfl ?_
        exact ⟨⟨_, rfl⟩, .inr ⟨_, trivial, hJx3⟩⟩
    · gi_wp2
      go_end0
      exact ⟨⟨_, rfl⟩, .inl ⟨_, rfl, hJ⟩⟩
theorem digits_in (n op : Nat) (a0 a1 a2 a3 b0 b1 b2 b3 : Int) (w : World) :
    CallsIn Fence.wide n Tryz.prog 193 #[.agg #[.int .u64 a0, .int .u64 a1, .int .u64 a2, .int .u64 a3], .agg #[.int .u64 b0, .int .u64 b1, .int .u64 b2, .int .u64 b3], .func (.func op) #[] #[]] w fun e w' =>
      e = .returned (.func (.func 210) #[] #[.pointer (some ⟨w.heap.size + 1 + 1, 0, none⟩), .pointer (some ⟨w.heap.size, 0, none⟩), .pointer (some ⟨w.heap.size + 1, 0, none⟩)]) ∧
      w' = ((w.alloc (wbx a0 a1 a2 a3 81)).alloc (wbx b0 b1 b2 b3 81)).alloc (.cells #[.func (.func op) #[] #[]] 220) := by
  refine callsIn_of_wp Tryz.func193 rfl trivial ?_ rfl
  simp only [Tryz.ntmps193, List.size_toArray, List.length_cons, List.length_nil, Nat.reduceAdd, Nat.reduceSub, Array.replicate_succ, Array.replicate_zero, List.push_toArray, List.append_toArray, List.nil_append, List.cons_append]
  gi_wp2
  go_ret
  exact ⟨rfl, rfl⟩
theorem digits_stops (n : Nat) (hn : 1 ≤ n) (op m : Nat) (a0 a1 a2 a3 b0 b1 b2 b3 d0 d1 d2 d3 c1 c2 c3 c4 : Int)
    (r0 : ∀ w, (callFunc op #[.int .u64 a0, .int .u64 b0, .int .u64 0]).run Tryz.prog w = .ok (.value (.tuple #[.int .u64 d0, .int .u64 c1])) w)
    (r1 : ∀ w, (callFunc op #[.int .u64 a1, .int .u64 b1, .int .u64 c1]).run Tryz.prog w = .ok (.value (.tuple #[.int .u64 d1, .int .u64 c2])) w)
    (r2 : ∀ w, (callFunc op #[.int .u64 a2, .int .u64 b2, .int .u64 c2]).run Tryz.prog w = .ok (.value (.tuple #[.int .u64 d2, .int .u64 c3])) w)
    (r3 : ∀ w, (callFunc op #[.int .u64 a3, .int .u64 b3, .int .u64 c3]).run Tryz.prog w = .ok (.value (.tuple #[.int .u64 d3, .int .u64 c4])) w)
    (w : World) (hm : m + 3 ≤ w.heap.size) (hT : Three w m op a0 a1 a2 a3 b0 b1 b2 b3) :
    SeqStopsK Fence.wide n Tryz.prog 210 #[.pointer (some ⟨m + 1 + 1, 0, none⟩), .pointer (some ⟨m, 0, none⟩), .pointer (some ⟨m + 1, 0, none⟩)] (encW d0 d1 d2 d3 c1 c2 c3 c4) (Keeps3 m) (fun ys => ys = [0, 1, 2, 3]) (fun _ => True) 4 w :=
  fun l J Jx W hW hJ hJx hY h0 =>
    digits1_in n hn op l m a0 a1 a2 a3 b0 b1 b2 b3 d0 d1 d2 d3 c1 c2 c3 c4 r0 r1 r2 r3 J Jx
      (fun pre W1 k h => hJ pre W1 (W1.drewN k) none h ⟨rfl, rfl, rfl, Nat.le_refl _, fun _ _ _ => rfl⟩ (by simp)) hY W
      (hT.keep fun k _ hk => hW.block k (by omega)) h0
def stepW (d0 d1 d2 d3 c1 c2 c3 c4 : Int) (s : Int × Int × Int × Int × Int) : Fin 4 → Int × Int × Int × Int × Int
  | 0 => (d0, s.2.1, s.2.2.1, s.2.2.2.1, c1)
  | 1 => (s.1, d1, s.2.2.1, s.2.2.2.1, c2)
  | 2 => (s.1, s.2.1, d2, s.2.2.2.1, c3)
  | 3 => (s.1, s.2.1, s.2.2.1, d3, c4)
def stW (d0 d1 d2 d3 c1 c2 c3 c4 : Int) (pre : List (Fin 4)) : Int × Int × Int × Int × Int := pre.foldl (stepW d0 d1 d2 d3 c1 c2 c3 c4) (0, 0, 0, 0, 0)
theorem stW_snoc (d0 d1 d2 d3 c1 c2 c3 c4 : Int) (pre : List (Fin 4)) (x : Fin 4) : stW d0 d1 d2 d3 c1 c2 c3 c4 (pre ++ [x]) = stepW d0 d1 d2 d3 c1 c2 c3 c4 (stW d0 d1 d2 d3 c1 c2 c3 c4 pre) x := by simp [stW]
def arrW (s : Int × Int × Int × Int × Int) : Array Value := #[.int .u64 s.1, .int .u64 s.2.1, .int .u64 s.2.2.1, .int .u64 s.2.2.2.1]
theorem round_end {w W : World} {p2 p3 p4 k m B : Nat} {t t' t2 : TypeId} {arr arr' a2 : Array Value} {v x y y' : Value} (g3 : HB W p3 t arr) (g4 : HB W p4 t' #[v]) (g2 : HB W p2 t2 a2) (hB : Below w.heap.size w W) (hs : B ≤ W.heap.size)
    (n1 : p3 ≠ p4) (n2 : p2 ≠ p3) (n3 : p2 ≠ p4) (l3 : p3 < m) (l4 : p4 < m) (u3 : w.heap.size ≤ p3) (u4 : w.heap.size ≤ p4) (ha : arr' = arr.setIfInBounds k x) (hy : y' = y) :
    KeepsFrom B W ((W.setCell ⟨p3, k, none⟩ x).setCell ⟨p4, 0, none⟩ y).drew ∧ Keeps3 m W ((W.setCell ⟨p3, k, none⟩ x).setCell ⟨p4, 0, none⟩ y).drew ∧
    (((HB ((W.setCell ⟨p3, k, none⟩ x).setCell ⟨p4, 0, none⟩ y).drew p3 t arr' ∧ HB ((W.setCell ⟨p3, k, none⟩ x).setCell ⟨p4, 0, none⟩ y).drew p4 t' #[y']) ∧ HB ((W.setCell ⟨p3, k, none⟩ x).setCell ⟨p4, 0, none⟩ y).drew p2 t2 a2) ∧
      (Below w.heap.size w ((W.setCell ⟨p3, k, none⟩ x).setCell ⟨p4, 0, none⟩ y).drew ∧ B ≤ ((W.setCell ⟨p3, k, none⟩ x).setCell ⟨p4, 0, none⟩ y).drew.heap.size)) := by
  subst ha hy
  refine ⟨(((KeepsOthers.setCell _ _ _).trans (KeepsOthers.setCell _ _ _)).trans (KeepsOthers.drew _)).from _, (Keeps3.set W (p := ⟨p3, k, none⟩) (.inl l3) _).t (Keeps3.set _ (p := ⟨p4, 0, none⟩) (.inl l4) _), ⟨⟨(g3.set k x).other n1 0 _, (g4.other n1.symm k _).set 0 _⟩, (g2.other n2 k _).other n3 0 _⟩, ?_, ?_⟩
  · exact ((hB.setCell (p := ⟨p3, k, none⟩) u3 _).setCell (p := ⟨p4, 0, none⟩) u4 _).drew
  · exact lZ hs (((KeepsOthers.setCell _ _ _).trans (KeepsOthers.setCell _ _ _)).trans (KeepsOthers.drew _)).size
theorem comb_end {w W : World} {p2 D : Nat} {t2 : TypeId} {d0 d1 d2 d3 : Int} (g2 : HB W p2 t2 #[.int .u64 0, .int .u64 0, .int .u64 0, .int .u64 0]) (hB : Below w.heap.size w W) (hK : W.heap[D]? = some (.deferred (some []))) (hp : w.heap.size ≤ p2) (hD : p2 < D) :
    HB (((((W.setCell ⟨p2, 0, none⟩ (.int .u64 d0)).setCell ⟨p2, 1, none⟩ (.int .u64 d1)).setCell ⟨p2, 2, none⟩ (.int .u64 d2)).setCell ⟨p2, 3, none⟩ (.int .u64 d3)).drew.putObj D (.deferred none)) p2 t2 #[.int .u64 d0, .int .u64 d1, .int .u64 d2, .int .u64 d3] ∧
    ((((W.setCell ⟨p2, 0, none⟩ (.int .u64 d0)).setCell ⟨p2, 1, none⟩ (.int .u64 d1)).setCell ⟨p2, 2, none⟩ (.int .u64 d2)).setCell ⟨p2, 3, none⟩ (.int .u64 d3)).drew.heap[D]? = some (.deferred (some [])) ∧
    Below w.heap.size w (((((W.setCell ⟨p2, 0, none⟩ (.int .u64 d0)).setCell ⟨p2, 1, none⟩ (.int .u64 d1)).setCell ⟨p2, 2, none⟩ (.int .u64 d2)).setCell ⟨p2, 3, none⟩ (.int .u64 d3)).drew.putObj D (.deferred none)) := by
  have hK' : ((((W.setCell ⟨p2, 0, none⟩ (.int .u64 d0)).setCell ⟨p2, 1, none⟩ (.int .u64 d1)).setCell ⟨p2, 2, none⟩ (.int .u64 d2)).setCell ⟨p2, 3, none⟩ (.int .u64 d3)).drew.heap[D]? = some (.deferred (some [])) := by
    have n : D ≠ p2 := by omega
    refine ((Below.heap_setCell _ _ _ D n).trans ((Below.heap_setCell _ _ _ D n).trans ((Below.heap_setCell _ _ _ D n).trans (Below.heap_setCell _ _ _ D n)))).trans hK
  refine ⟨(World.putObj_heap_other (by omega)).trans ((((g2.set 0 _).set 1 _).set 2 _).set 3 _), hK', ?_⟩
  have hb : Below w.heap.size w ((((W.setCell ⟨p2, 0, none⟩ (.int .u64 d0)).setCell ⟨p2, 1, none⟩ (.int .u64 d1)).setCell ⟨p2, 2, none⟩ (.int .u64 d2)).setCell ⟨p2, 3, none⟩ (.int .u64 d3)).drew :=
    ((((hB.setCell (p := ⟨p2, 0, none⟩) hp _).setCell (p := ⟨p2, 1, none⟩) hp _).setCell (p := ⟨p2, 2, none⟩) hp _).setCell (p := ⟨p2, 3, none⟩) hp _).drew
  exact hb.trans (belowK_b (w := w) (Nat.le_refl _) _ D _ _ (by omega) hK' rfl rfl)
theorem fin4 (x : Fin 4) : x = 0 ∨ x = 1 ∨ x = 2 ∨ x = 3 := by revert x; decide
def combW (w : World) (op : Nat) (a0 a1 a2 a3 b0 b1 b2 b3 : Int) : World :=
  (((((((w.alloc (.cells #[.int .u64 a0, .int .u64 a1, .int .u64 a2, .int .u64 a3] 81)).alloc (.cells #[.int .u64 b0, .int .u64 b1, .int .u64 b2, .int .u64 b3] 81)).alloc (.cells #[.int .u64 0, .int .u64 0, .int .u64 0, .int .u64 0] 81)).alloc (.cells #[.int .u64 0, .int .u64 0, .int .u64 0, .int .u64 0] 81)).alloc (.cells #[.int .u64 0] 23)).alloc
    (.cells #[.int .u64 a0, .int .u64 a1, .int .u64 a2, .int .u64 a3] 81)).alloc (.cells #[.int .u64 b0, .int .u64 b1, .int .u64 b2, .int .u64 b3] 81)).alloc (.cells #[.func (.func op) #[] #[]] 220)
theorem combW_facts (w : World) (op : Nat) (a0 a1 a2 a3 b0 b1 b2 b3 : Int) :
    HB (combW w op a0 a1 a2 a3 b0 b1 b2 b3) (w.heap.size + 1 + 1) 81 #[.int .u64 0, .int .u64 0, .int .u64 0, .int .u64 0] ∧
    HB (combW w op a0 a1 a2 a3 b0 b1 b2 b3) (w.heap.size + 1 + 1 + 1) 81 #[.int .u64 0, .int .u64 0, .int .u64 0, .int .u64 0] ∧
    HB (combW w op a0 a1 a2 a3 b0 b1 b2 b3) (w.heap.size + 1 + 1 + 1 + 1) 23 #[.int .u64 0] ∧
    Three (combW w op a0 a1 a2 a3 b0 b1 b2 b3) (w.heap.size + 1 + 1 + 1 + 1 + 1) op a0 a1 a2 a3 b0 b1 b2 b3 ∧
    Below w.heap.size w (combW w op a0 a1 a2 a3 b0 b1 b2 b3) ∧ (combW w op a0 a1 a2 a3 b0 b1 b2 b3).heap.size = w.heap.size + 8 := by
  refine ⟨(((((HB.newAt (by simp) _ _).alloc _).alloc _).alloc _).alloc _).alloc _, ((((HB.newAt (by simp) _ _).alloc _).alloc _).alloc _).alloc _, (((HB.newAt (by simp) _ _).alloc _).alloc _).alloc _,
    ⟨((HB.newAt (by simp) _ _).alloc _).alloc _, (HB.newAt (by simp) _ _).alloc _, HB.newAt (by simp) _ _⟩, bA (bA (bA (bA (bA (bA (bA (bA bR _) _) _) _) _) _) _) _, by simp [combW]⟩
theorem combine_in (n : Nat) (hn : 3 ≤ n) (op : Nat) (a0 a1 a2 a3 b0 b1 b2 b3 d0 d1 d2 d3 c1 c2 c3 c4 : Int)
    (r0 : ∀ w, (callFunc op #[.int .u64 a0, .int .u64 b0, .int .u64 0]).run Tryz.prog w = .ok (.value (.tuple #[.int .u64 d0, .int .u64 c1])) w)
    (r1 : ∀ w, (callFunc op #[.int .u64 a1, .int .u64 b1, .int .u64 c1]).run Tryz.prog w = .ok (.value (.tuple #[.int .u64 d1, .int .u64 c2])) w)
    (r2 : ∀ w, (callFunc op #[.int .u64 a2, .int .u64 b2, .int .u64 c2]).run Tryz.prog w = .ok (.value (.tuple #[.int .u64 d2, .int .u64 c3])) w)
    (r3 : ∀ w, (callFunc op #[.int .u64 a3, .int .u64 b3, .int .u64 c3]).run Tryz.prog w = .ok (.value (.tuple #[.int .u64 d3, .int .u64 c4])) w)
    (w : World) :
    CallsIn Fence.wide n Tryz.prog 175 #[.agg #[.int .u64 a0, .int .u64 a1, .int .u64 a2, .int .u64 a3], .agg #[.int .u64 b0, .int .u64 b1, .int .u64 b2, .int .u64 b3], .func (.func op) #[] #[]] w fun e w' =>
      e = .returned (.tuple #[.agg #[.int .u64 d0, .int .u64 d1, .int .u64 d2, .int .u64 d3], .bool (c4 != 0)]) ∧ Below w.heap.size w w' := by
  have h1 : 1 ≤ n := by omega
  refine callsIn_of_wp_marks Tryz.func175 rfl trivial ?_ rfl
  simp only [Tryz.ntmps175, List.size_toArray, List.length_cons, List.length_nil, Nat.reduceAdd, Nat.reduceSub, Array.replicate_succ, Array.replicate_zero, List.push_toArray, List.append_toArray, List.nil_append, List.cons_append]
  gi_wp2
  refine ⟨trivial, (digits_in (n - 1) op _ _ _ _ _ _ _ _ _).mono ?_⟩
  rintro e w' ⟨rfl, rfl⟩
  gi_wp2
  obtain ⟨f2, f3, f4, fT, hB0, hsz⟩ := combW_facts w op a0 a1 a2 a3 b0 b1 b2 b3
  obtain ⟨W0, hW0⟩ : ∃ W0, combW w op a0 a1 a2 a3 b0 b1 b2 b3 = W0 := ⟨_, rfl⟩
  rw [hW0] at f2 f3 f4 fT hB0 hsz
  simp only [combW] at hW0
  rw [hW0]
  clear hW0
  refine wpIn_rangeFunc_ownH rfl h1 (gf := 210) (lb := #[.pointer (some ⟨w.heap.size + 1 + 1 + 1 + 1 + 1 + 1 + 1, 0, none⟩), .pointer (some ⟨w.heap.size + 1 + 1 + 1 + 1 + 1, 0, none⟩), .pointer (some ⟨w.heap.size + 1 + 1 + 1 + 1 + 1 + 1, 0, none⟩)]) rfl trivial (enters_of Tryz.func210 (by kernel_rfl) rfl)
    (digits_stops (n - 1) (by omega) op (w.heap.size + 1 + 1 + 1 + 1 + 1) a0 a1 a2 a3 b0 b1 b2 b3 d0 d1 d2 d3 c1 c2 c3 c4 r0 r1 r2 r3 W0 (by omega) fT) Keeps3.t (Keeps3.b (by omega)) bR (fun _ => rfl)
    (fun pre W => ((HB W (w.heap.size + 1 + 1 + 1) 81 (arrW (stW d0 d1 d2 d3 c1 c2 c3 c4 pre)) ∧ HB W (w.heap.size + 1 + 1 + 1 + 1) 23 #[.int .u64 (stW d0 d1 d2 d3 c1 c2 c3 c4 pre).2.2.2.2]) ∧ HB W (w.heap.size + 1 + 1) 81 #[.int .u64 0, .int .u64 0, .int .u64 0, .int .u64 0]) ∧ (Below w.heap.size w W ∧ W0.heap.size ≤ W.heap.size))
    (fun _ _ _ => False)
    (OwnFrom.and (OwnFrom.and (OwnFrom.and (Own.from (hb_own _ _ _) _) (Own.from (hb_own _ _ _) _)) (Own.from (hb_own _ _ _) _)) (OwnFrom.and (ownFrom_below (Nat.le_refl _) (by omega)) (fun _ X Y row hs hg hr => lZ hs hg.size)))
    (fun _ _ _ _ _ hs _ _ => hs)
    ⟨⟨⟨f3, f4⟩, f2⟩, hB0, Nat.le_refl _⟩
    (fun x a' W => ∃ Bx, w.heap.size + 8 ≤ Bx ∧ HB W Bx 25 #[.int .u64 (at4 c1 c2 c3 c4 x), .int .u64 (at4 d0 d1 d2 d3 x)] ∧ a' = { tmps := #[.agg #[.int .u64 a0, .int .u64 a1, .int .u64 a2, .int .u64 a3], .agg #[.int .u64 b0, .int .u64 b1, .int .u64 b2, .int .u64 b3], .func (.func op) #[] #[], .pointer (some ⟨w.heap.size, 0, none⟩), .pointer (some ⟨w.heap.size + 1, 0, none⟩), undef, .pointer (some ⟨w.heap.size + 1 + 1, 0, none⟩), .bool false, .pointer (some ⟨w.heap.size + 1 + 1 + 1, 0, none⟩), .pointer (some ⟨w.heap.size + 1 + 1 + 1 + 1, 0, none⟩), .int .i64 (iOf x), .pointer (some ⟨Bx, 0, none⟩), .agg #[.int .u64 a0, .int .u64 a1, .int .u64 a2, .int .u64 a3], .agg #[.int .u64 b0, .int .u64 b1, .int .u64 b2, .int .u64 b3], .func (.func op) #[] #[], .func (.func 210) #[] #[.pointer (some ⟨w.heap.size + 1 + 1 + 1 + 1 + 1 + 1 + 1, 0, none⟩), .pointer (some ⟨w.heap.size + 1 + 1 + 1 + 1 + 1, 0, none⟩), .pointer (some ⟨w.heap.size + 1 + 1 + 1 + 1 + 1 + 1, 0, none⟩)], .int .i64 (iOf x), .agg #[.int .u64 (at4 c1 c2 c3 c4 x), .int .u64 (at4 d0 d1 d2 d3 x)], undef, undef, undef, undef, undef, undef, undef, undef, undef], defers := [] })
    (fun x a' _ X Y row hs hg hr => by obtain ⟨Bx, h1, h2, h3⟩ := hs; exact ⟨Bx, h1, hb_own Bx _ (fun (_ : Unit) => #[Value.int .u64 (at4 c1 c2 c3 c4 x), Value.int .u64 (at4 d0 d1 d2 d3 x)]) () X Y row h2 hg (fun r e => (hr r e).2), h3⟩)
    ?assign ?body ?done ?stop
  case assign =>
    rintro l pre x W K ⟨⟨⟨g3, g4⟩, g2⟩, hB1, hle⟩ hK
    dsimp only [encW]
    gi_wp2
    exact hK _ _ ((KeepsOthers.alloc _ _).from _) (Keeps3.alloc (by omega) _) ⟨⟨⟨g3.alloc _, g4.alloc _⟩, g2.alloc _⟩, hB1.alloc hB1.size _, by simp; omega⟩ ⟨W.heap.size, by omega, HB.new W _ _, rfl⟩
  case body =>
    rintro l pre x a' W hl ⟨r, hr⟩ ⟨⟨⟨g3, g4⟩, g2⟩, hB1, hle⟩ ⟨Bx, hBx, gX, rfl⟩ hlt
    have hx := fin4 x
    have hmx : Tryz.prog.follows .mixedOrders = true := by kernel_rfl
    rcases hx with rfl | rfl | rfl | rfl
    · have KEY := lH (show KeepsFrom W0.heap.size W _ ∧ Keeps3 _ W _ ∧ (((HB _ _ _ (arrW (stW d0 d1 d2 d3 c1 c2 c3 c4 (pre ++ [0]))) ∧ HB _ _ _ #[.int .u64 (stW d0 d1 d2 d3 c1 c2 c3 c4 (pre ++ [0])).2.2.2.2]) ∧ HB _ _ _ _) ∧ (Below _ _ _ ∧ W0.heap.size ≤ _)) from
        round_end (k := 0) (x := .int .u64 d0) (y := .int .u64 c1) (m := w.heap.size + 1 + 1 + 1 + 1 + 1) g3 g4 g2 hB1 hle (by omega) (by omega) (by omega) (by omega) (by omega) (by omega) (by omega) (by rw [stW_snoc]; rfl) (by rw [stW_snoc]; rfl))
      have x0 := gX.cell 0
      have x1 := gX.cell 1
      have y0 := g3.cell 0
      have z0 := g4.cell 0
      have y1 := g3.frozen 0
      have z1 := g4.frozen 0
      dsimp [at4, arrW] at x0 x1 y0 z0
      dsimp only [iOf, at4]
      clear r0 r1 r2 r3 gX g3 g4 g2 hr hlt fT f2 f3 f4
      gi_wp2
      gi_region_with_o (fail)
      all_goals exact KEY.out
    · have KEY := lH (show KeepsFrom W0.heap.size W _ ∧ Keeps3 _ W _ ∧ (((HB _ _ _ (arrW (stW d0 d1 d2 d3 c1 c2 c3 c4 (pre ++ [1]))) ∧ HB _ _ _ #[.int .u64 (stW d0 d1 d2 d3 c1 c2 c3 c4 (pre ++ [1])).2.2.2.2]) ∧ HB _ _ _ _) ∧ (Below _ _ _ ∧ W0.heap.size ≤ _)) from
        round_end (k := 1) (x := .int .u64 d1) (y := .int .u64 c2) (m := w.heap.size + 1 + 1 + 1 + 1 + 1) g3 g4 g2 hB1 hle (by omega) (by omega) (by omega) (by omega) (by omega) (by omega) (by omega) (by rw [stW_snoc]; rfl) (by rw [stW_snoc]; rfl))
      have x0 := gX.cell 0
      have x1 := gX.cell 1
      have y0 := g3.cell 1
      have z0 := g4.cell 0
      have y1 := g3.frozen 1
      have z1 := g4.frozen 0
      dsimp [at4, arrW] at x0 x1 y0 z0
      dsimp only [iOf, at4]
      clear r0 r1 r2 r3 gX g3 g4 g2 hr hlt fT f2 f3 f4
      gi_wp2
      gi_region_with_o (fail)
      all_goals exact KEY.out
    · have KEY := lH (show KeepsFrom W0.heap.size W _ ∧ Keeps3 _ W _ ∧ (((HB _ _ _ (arrW (stW d0 d1 d2 d3 c1 c2 c3 c4 (pre ++ [2]))) ∧ HB _ _ _ #[.int .u64 (stW d0 d1 d2 d3 c1 c2 c3 c4 (pre ++ [2])).2.2.2.2]) ∧ HB _ _ _ _) ∧ (Below _ _ _ ∧ W0.heap.size ≤ _)) from
        round_end (k := 2) (x := .int .u64 d2) (y := .int .u64 c3) (m := w.heap.size + 1 + 1 + 1 + 1 + 1) g3 g4 g2 hB1 hle (by omega) (by omega) (by omega) (by omega) (by omega) (by omega) (by omega) (by rw [stW_snoc]; rfl) (by rw [stW_snoc]; rfl))
      have x0 := gX.cell 0
      have x1 := gX.cell 1
      have y0 := g3.cell 2
      have z0 := g4.cell 0
      have y1 := g3.frozen 2
      have z1 := g4.frozen 0
      dsimp [at4, arrW] at x0 x1 y0 z0
      dsimp only [iOf, at4]
      clear r0 r1 r2 r3 gX g3 g4 g2 hr hlt fT f2 f3 f4
      gi_wp2
      gi_region_with_o (fail)
      all_goals exact KEY.out
    · have KEY := lH (show KeepsFrom W0.heap.size W _ ∧ Keeps3 _ W _ ∧ (((HB _ _ _ (arrW (stW d0 d1 d2 d3 c1 c2 c3 c4 (pre ++ [3]))) ∧ HB _ _ _ #[.int .u64 (stW d0 d1 d2 d3 c1 c2 c3 c4 (pre ++ [3])).2.2.2.2]) ∧ HB _ _ _ _) ∧ (Below _ _ _ ∧ W0.heap.size ≤ _)) from
        round_end (k := 3) (x := .int .u64 d3) (y := .int .u64 c4) (m := w.heap.size + 1 + 1 + 1 + 1 + 1) g3 g4 g2 hB1 hle (by omega) (by omega) (by omega) (by omega) (by omega) (by omega) (by omega) (by rw [stW_snoc]; rfl) (by rw [stW_snoc]; rfl))
      have x0 := gX.cell 0
      have x1 := gX.cell 1
      have y0 := g3.cell 3
      have z0 := g4.cell 0
      have y1 := g3.frozen 3
      have z1 := g4.frozen 0
      dsimp [at4, arrW] at x0 x1 y0 z0
      dsimp only [iOf, at4]
      clear r0 r1 r2 r3 gX g3 g4 g2 hr hlt fT f2 f3 f4
      gi_wp2
      gi_region_with_o (fail)
      all_goals exact KEY.out
  case done =>
    rintro D zs W hD rfl ⟨⟨⟨g3, g4⟩, g2⟩, hB1, hle⟩ hK
    change HB W _ _ #[.int .u64 d0, .int .u64 d1, .int .u64 d2, .int .u64 d3] at g3
    change HB W _ _ #[.int .u64 c4] at g4
    have hmx : Tryz.prog.follows .mixedOrders = true := by kernel_rfl
    have x0 := g3.cell 0
    have x1 := g3.cell 1
    have x2 := g3.cell 2
    have x3 := g3.cell 3
    have z0 := g4.cell 0
    have y0 := g2.cell 0
    have y1 := g2.cell 1
    have y2 := g2.cell 2
    have y3 := g2.cell 3
    have v0 := g2.frozen 0
    have v1 := g2.frozen 1
    have v2 := g2.frozen 2
    have v3 := g2.frozen 3
    dsimp at x0 x1 x2 x3 z0 y0 y1 y2 y3
    have KEY := lH (comb_end (d0 := d0) (d1 := d1) (d2 := d2) (d3 := d3) g2 hB1 hK (by omega) (by omega))
    clear r0 r1 r2 r3 fT f2 f3 f4 g2 g3 g4 hK
    gi_wp2
    refine wpIn_mono (Q := NoPanic _) ?_ NoPanic.imp
    gi_region_with_o (fail)
    all_goals (refine NoPanic.normal ?_)
    all_goals gi_wp2
    all_goals
      try simp only [zA, zB, zC, Act.put, zD, zE, zF]
      obtain ⟨k1, k2, k3⟩ := KEY.out
      have e0 := k1.cell 0
      have e1 := k1.cell 1
      have e2 := k1.cell 2
      have e3 := k1.cell 3
      dsimp at e0 e1 e2 e3
      refine ⟨by simp, .inl ⟨_, _, rfl, run_takeDeferred k2, ?_⟩⟩
      refine ⟨.tuple #[.agg #[.int .u64 d0, .int .u64 d1, .int .u64 d2, .int .u64 d3], .bool (c4 != 0)], ?_, rfl, k3⟩
      clear k1 k2 k3 KEY x0 x1 x2 x3 y0 y1 y2 y3
      simp [results, Tryz.results175, go_sem, e0, e1, e2, e3]
  case stop =>
    rintro D c pre W _ _ h _
    exact h.elim
end Go.Proofs.YtjdjonekoodalaaGreatDoor
namespace Go.Proofs.YtjdjonekoodalaaGreatDoor
open Go.RowKit
theorem combine_add (a0 a1 a2 a3 b0 b1 b2 b3 : Int) (ua0 : U64 a0) (ua1 : U64 a1) (ua2 : U64 a2) (ua3 : U64 a3) (ub0 : U64 b0) (ub1 : U64 b1) (ub2 : U64 b2) (ub3 : U64 b3) (w : World) :
    Calls Tryz.prog 175 #[.agg #[.int .u64 a0, .int .u64 a1, .int .u64 a2, .int .u64 a3], .agg #[.int .u64 b0, .int .u64 b1, .int .u64 b2, .int .u64 b3], .func (.func 168) #[] #[]] w fun e w' => e = .returned (.tuple #[.agg #[.int .u64 (wd0 (wval a0 a1 a2 a3 + wval b0 b1 b2 b3)), .int .u64 (wd1 (wval a0 a1 a2 a3 + wval b0 b1 b2 b3)), .int .u64 (wd2 (wval a0 a1 a2 a3 + wval b0 b1 b2 b3)), .int .u64 (wd3 (wval a0 a1 a2 a3 + wval b0 b1 b2 b3))], .bool (decide (wfull ≤ wval a0 a1 a2 a3 + wval b0 b1 b2 b3))]) ∧ Below w.heap.size w w' := by
  obtain ⟨⟨h0, h1, h2, h3⟩, hc⟩ := wadd_math ua0 ua1 ua2 ua3 ub0 ub1 ub2 ub3
  rw [← h0, ← h1, ← h2, ← h3, ← hc]
  have k1 := addC_01 ua0 ub0 (c := 0) (by omega) (by omega)
  have k2 := addC_01 ua1 ub1 k1.1 k1.2
  have k3 := addC_01 ua2 ub2 k2.1 k2.2
  exact callsIn_wide.1 (combine_in 3 (by omega) 168 a0 a1 a2 a3 b0 b1 b2 b3 _ _ _ _ _ _ _ _ (bits_add a0 b0 0 ua0 ub0 (by omega) (by omega)) (bits_add a1 b1 _ ua1 ub1 k1.1 k1.2) (bits_add a2 b2 _ ua2 ub2 k2.1 k2.2) (bits_add a3 b3 _ ua3 ub3 k3.1 k3.2) w)
theorem wadd_any (a0 a1 a2 a3 b0 b1 b2 b3 : Int) (ua0 : U64 a0) (ua1 : U64 a1) (ua2 : U64 a2) (ua3 : U64 a3) (ub0 : U64 b0) (ub1 : U64 b1) (ub2 : U64 b2) (ub3 : U64 b3) (w : World) :
    Calls Tryz.prog 161 #[.agg #[.int .u64 a0, .int .u64 a1, .int .u64 a2, .int .u64 a3], .agg #[.int .u64 b0, .int .u64 b1, .int .u64 b2, .int .u64 b3]] w fun e w' => e = .returned (.tuple #[.agg #[.int .u64 (wd0 (wval a0 a1 a2 a3 + wval b0 b1 b2 b3)), .int .u64 (wd1 (wval a0 a1 a2 a3 + wval b0 b1 b2 b3)), .int .u64 (wd2 (wval a0 a1 a2 a3 + wval b0 b1 b2 b3)), .int .u64 (wd3 (wval a0 a1 a2 a3 + wval b0 b1 b2 b3))], .bool (decide (wfull ≤ wval a0 a1 a2 a3 + wval b0 b1 b2 b3))]) ∧ Below w.heap.size w w' := by
  go_enter Tryz.func161, Tryz.ntmps161
  go_wp2_with fail
  have pR := WBox.newAt (w := (w.alloc (wbx a0 a1 a2 a3 81)).alloc (wbx b0 b1 b2 b3 81)) (p := w.heap.size + 1 + 1) (by simp) 0 0 0 0 81
  have fR : WFree (((w.alloc (wbx a0 a1 a2 a3 81)).alloc (wbx b0 b1 b2 b3 81)).alloc (wbx 0 0 0 0 81)) (w.heap.size + 1 + 1) := by have h := WFree.new ((w.alloc (wbx a0 a1 a2 a3 81)).alloc (wbx b0 b1 b2 b3 81)) 0 0 0 0 81; simpa using h
  (with_reducible refine (combine_add a0 a1 a2 a3 b0 b1 b2 b3 ua0 ua1 ua2 ua3 ub0 ub1 ub2 ub3 _).mono ?_); rintro e w1 ⟨rfl, hb1⟩
  have kk := bC (bA (bA (bA (Below.refl w.heap.size w) (wbx a0 a1 a2 a3 81)) (wbx b0 b1 b2 b3 81)) (wbx 0 0 0 0 81)) hb1
  have f1 := fR.later pR.1 hb1
  have p1 := pR.later hb1
  have KEY := lH (wstore (wd0 (wval a0 a1 a2 a3 + wval b0 b1 b2 b3)) (wd1 (wval a0 a1 a2 a3 + wval b0 b1 b2 b3)) (wd2 (wval a0 a1 a2 a3 + wval b0 b1 b2 b3)) (wd3 (wval a0 a1 a2 a3 + wval b0 b1 b2 b3)) p1 f1 kk (by omega))
  obtain ⟨s0, r0, r1, r2, r3⟩ := p1
  obtain ⟨f0, f1, f2, f3⟩ := f1
  clear pR fR hb1 kk
  go_wp2_with fail
  obtain ⟨⟨_, e0, e1, e2, e3⟩, kb⟩ := KEY.out
  refine bodyPost_ret (v := .tuple #[.agg #[.int .u64 (wd0 (wval a0 a1 a2 a3 + wval b0 b1 b2 b3)), .int .u64 (wd1 (wval a0 a1 a2 a3 + wval b0 b1 b2 b3)), .int .u64 (wd2 (wval a0 a1 a2 a3 + wval b0 b1 b2 b3)), .int .u64 (wd3 (wval a0 a1 a2 a3 + wval b0 b1 b2 b3))], .bool (decide (wfull ≤ wval a0 a1 a2 a3 + wval b0 b1 b2 b3))]) ?_ rfl ⟨rfl, kb⟩
  clear r0 r1 r2 r3
  simp [results, Tryz.results161, go_sem, e0, e1, e2, e3]
theorem combine_sub (a0 a1 a2 a3 b0 b1 b2 b3 : Int) (ua0 : U64 a0) (ua1 : U64 a1) (ua2 : U64 a2) (ua3 : U64 a3) (ub0 : U64 b0) (ub1 : U64 b1) (ub2 : U64 b2) (ub3 : U64 b3) (w : World) :
    Calls Tryz.prog 175 #[.agg #[.int .u64 a0, .int .u64 a1, .int .u64 a2, .int .u64 a3], .agg #[.int .u64 b0, .int .u64 b1, .int .u64 b2, .int .u64 b3], .func (.func 131) #[] #[]] w fun e w' => e = .returned (.tuple #[.agg #[.int .u64 (wd0 (wval a0 a1 a2 a3 - wval b0 b1 b2 b3)), .int .u64 (wd1 (wval a0 a1 a2 a3 - wval b0 b1 b2 b3)), .int .u64 (wd2 (wval a0 a1 a2 a3 - wval b0 b1 b2 b3)), .int .u64 (wd3 (wval a0 a1 a2 a3 - wval b0 b1 b2 b3))], .bool (decide (wval a0 a1 a2 a3 < wval b0 b1 b2 b3))]) ∧ Below w.heap.size w w' := by
  obtain ⟨⟨h0, h1, h2, h3⟩, hc⟩ := wsub_math ua0 ua1 ua2 ua3 ub0 ub1 ub2 ub3
  rw [← h0, ← h1, ← h2, ← h3, ← hc]
  have k1 := subC_01 a0 b0 0
  have k2 := subC_01 a1 b1 (subC a0 b0 0)
  have k3 := subC_01 a2 b2 (subC a1 b1 (subC a0 b0 0))
  exact callsIn_wide.1 (combine_in 3 (by omega) 131 a0 a1 a2 a3 b0 b1 b2 b3 _ _ _ _ _ _ _ _ (bits_sub a0 b0 0 ua0 ub0 (by omega) (by omega)) (bits_sub a1 b1 _ ua1 ub1 k1.1 k1.2) (bits_sub a2 b2 _ ua2 ub2 k2.1 k2.2) (bits_sub a3 b3 _ ua3 ub3 k3.1 k3.2) w)
theorem wsub_any (a0 a1 a2 a3 b0 b1 b2 b3 : Int) (ua0 : U64 a0) (ua1 : U64 a1) (ua2 : U64 a2) (ua3 : U64 a3) (ub0 : U64 b0) (ub1 : U64 b1) (ub2 : U64 b2) (ub3 : U64 b3) (w : World) :
    Calls Tryz.prog 146 #[.agg #[.int .u64 a0, .int .u64 a1, .int .u64 a2, .int .u64 a3], .agg #[.int .u64 b0, .int .u64 b1, .int .u64 b2, .int .u64 b3]] w fun e w' => e = .returned (.tuple #[.agg #[.int .u64 (wd0 (wval a0 a1 a2 a3 - wval b0 b1 b2 b3)), .int .u64 (wd1 (wval a0 a1 a2 a3 - wval b0 b1 b2 b3)), .int .u64 (wd2 (wval a0 a1 a2 a3 - wval b0 b1 b2 b3)), .int .u64 (wd3 (wval a0 a1 a2 a3 - wval b0 b1 b2 b3))], .bool (decide (wval a0 a1 a2 a3 < wval b0 b1 b2 b3))]) ∧ Below w.heap.size w w' := by
  go_enter Tryz.func146, Tryz.ntmps146
  go_wp2_with fail
  have pR := WBox.newAt (w := (w.alloc (wbx a0 a1 a2 a3 81)).alloc (wbx b0 b1 b2 b3 81)) (p := w.heap.size + 1 + 1) (by simp) 0 0 0 0 81
  have fR : WFree (((w.alloc (wbx a0 a1 a2 a3 81)).alloc (wbx b0 b1 b2 b3 81)).alloc (wbx 0 0 0 0 81)) (w.heap.size + 1 + 1) := by have h := WFree.new ((w.alloc (wbx a0 a1 a2 a3 81)).alloc (wbx b0 b1 b2 b3 81)) 0 0 0 0 81; simpa using h
  (with_reducible refine (combine_sub a0 a1 a2 a3 b0 b1 b2 b3 ua0 ua1 ua2 ua3 ub0 ub1 ub2 ub3 _).mono ?_); rintro e w1 ⟨rfl, hb1⟩
  have kk := bC (bA (bA (bA (Below.refl w.heap.size w) (wbx a0 a1 a2 a3 81)) (wbx b0 b1 b2 b3 81)) (wbx 0 0 0 0 81)) hb1
  have f1 := fR.later pR.1 hb1
  have p1 := pR.later hb1
  have KEY := lH (wstore (wd0 (wval a0 a1 a2 a3 - wval b0 b1 b2 b3)) (wd1 (wval a0 a1 a2 a3 - wval b0 b1 b2 b3)) (wd2 (wval a0 a1 a2 a3 - wval b0 b1 b2 b3)) (wd3 (wval a0 a1 a2 a3 - wval b0 b1 b2 b3)) p1 f1 kk (by omega))
  obtain ⟨s0, r0, r1, r2, r3⟩ := p1
  obtain ⟨f0, f1, f2, f3⟩ := f1
  clear pR fR hb1 kk
  go_wp2_with fail
  obtain ⟨⟨_, e0, e1, e2, e3⟩, kb⟩ := KEY.out
  refine bodyPost_ret (v := .tuple #[.agg #[.int .u64 (wd0 (wval a0 a1 a2 a3 - wval b0 b1 b2 b3)), .int .u64 (wd1 (wval a0 a1 a2 a3 - wval b0 b1 b2 b3)), .int .u64 (wd2 (wval a0 a1 a2 a3 - wval b0 b1 b2 b3)), .int .u64 (wd3 (wval a0 a1 a2 a3 - wval b0 b1 b2 b3))], .bool (decide (wval a0 a1 a2 a3 < wval b0 b1 b2 b3))]) ?_ rfl ⟨rfl, kb⟩
  clear r0 r1 r2 r3
  simp [results, Tryz.results146, go_sem, e0, e1, e2, e3]
end Go.Proofs.YtjdjonekoodalaaGreatDoor
namespace Go.Proofs.YtjdjonekoodalaaGreatDoor
open Go.RowKit
attribute [local go_sem ↓] Go.wp_at_zero Go.wp_at_succ
def MulAt (w wx : World) (ah al bh bl : Int) : Prop :=
  Box wx w.heap.size ah al ∧ Box wx (w.heap.size + 1) bh bl ∧ WBox wx (w.heap.size + 1 + 1) 0 0 0 0 ∧ WFree wx (w.heap.size + 1 + 1) ∧ Below w.heap.size w wx
theorem MulAt.later {w wx w' : World} {ah al bh bl : Int} (h : MulAt w wx ah al bh bl) (hb : Below wx.heap.size wx w') : MulAt w w' ah al bh bl :=
  ⟨h.1.later hb, h.2.1.later hb, h.2.2.1.later hb, h.2.2.2.1.later h.2.2.1.1 hb, bC h.2.2.2.2 hb⟩
theorem mulAt_new (w : World) (ah al bh bl : Int) : MulAt w (((w.alloc (bx ah al 25)).alloc (bx bh bl 25)).alloc (wbx 0 0 0 0 81)) ah al bh bl :=
  ⟨((Box.new w ah al _).alloc _).alloc _, (Box.newAt (by simp) bh bl _).alloc _, WBox.newAt (by simp) 0 0 0 0 _, by have h := WFree.new ((w.alloc (bx ah al 25)).alloc (bx bh bl 25)) 0 0 0 0 81; simpa using h, bA (bA (bA bR _) _) _⟩
theorem Box.set4 {w : World} {b p : Nat} {h l : Int} (x : Box w b h l) (hne : p ≠ b) (d0 d1 d2 d3 : Int) : Box (set4 w p d0 d1 d2 d3) b h l := by
  obtain ⟨x0, x1, x2⟩ := x
  refine ⟨by simpa using x0, ?_, ?_⟩
  · exact (World.cell?_setCell_far _ _ _ _ hne).trans ((World.cell?_setCell_far _ _ _ _ hne).trans ((World.cell?_setCell_far _ _ _ _ hne).trans ((World.cell?_setCell_far _ _ _ _ hne).trans x1)))
  · exact (World.cell?_setCell_far _ _ _ _ hne).trans ((World.cell?_setCell_far _ _ _ _ hne).trans ((World.cell?_setCell_far _ _ _ _ hne).trans ((World.cell?_setCell_far _ _ _ _ hne).trans x2)))
theorem MulAt.store {w wx : World} {ah al bh bl x0 x1 x2 x3 : Int} {p : Nat} (h : MulAt w wx ah al bh bl) (hp : w.heap.size + 1 + 1 < p) (x : WBox wx p x0 x1 x2 x3) (y0 y1 y2 y3 : Int) :
    WBox (set4 wx p y0 y1 y2 y3) p y0 y1 y2 y3 ∧ MulAt w (set4 wx p y0 y1 y2 y3) ah al bh bl :=
  ⟨(((x.set0 y0).set1 y1).set2 y2).set3 y3, h.1.set4 (by omega) _ _ _ _, h.2.1.set4 (by omega) _ _ _ _, h.2.2.1.set4 (by omega) _ _ _ _, (((h.2.2.2.1.set _ _).set _ _).set _ _).set _ _,
    (((h.2.2.2.2.setCell (p := ⟨p, 0, none⟩) (by simp; omega) _).setCell (p := ⟨p, 1, none⟩) (by simp; omega) _).setCell (p := ⟨p, 2, none⟩) (by simp; omega) _).setCell (p := ⟨p, 3, none⟩) (by simp; omega) _⟩
set_option linter.unusedSimpArgs false
theorem wmul_core (ah al bh bl p0 p1 q0 q1 r0 r1 s0 s1 x0 x1 x2 x3 y0 y1 y2 y3 : Int) (c1 c2 : Bool)
    (m1 : Hid (∀ w, Calls Tryz.prog 160 #[.int .u64 ah, .int .u64 bh] w fun e w' => e = .returned (.agg #[.int .u64 p1, .int .u64 p0]) ∧ Below w.heap.size w w')) (m2 : Hid (∀ w, Calls Tryz.prog 160 #[.int .u64 al, .int .u64 bl] w fun e w' => e = .returned (.agg #[.int .u64 q1, .int .u64 q0]) ∧ Below w.heap.size w w'))
    (m3 : Hid (∀ w, Calls Tryz.prog 160 #[.int .u64 ah, .int .u64 bl] w fun e w' => e = .returned (.agg #[.int .u64 r1, .int .u64 r0]) ∧ Below w.heap.size w w')) (m4 : Hid (∀ w, Calls Tryz.prog 160 #[.int .u64 al, .int .u64 bh] w fun e w' => e = .returned (.agg #[.int .u64 s1, .int .u64 s0]) ∧ Below w.heap.size w w'))
    (A1 : Hid (∀ w, Calls Tryz.prog 161 #[.agg #[.int .u64 q0, .int .u64 q1, .int .u64 p0, .int .u64 p1], .agg #[.int .u64 0, .int .u64 r0, .int .u64 r1, .int .u64 0]] w fun e w' => e = .returned (.tuple #[.agg #[.int .u64 x0, .int .u64 x1, .int .u64 x2, .int .u64 x3], .bool c1]) ∧ Below w.heap.size w w'))
    (A2 : Hid (∀ w, Calls Tryz.prog 161 #[.agg #[.int .u64 x0, .int .u64 x1, .int .u64 x2, .int .u64 x3], .agg #[.int .u64 0, .int .u64 s0, .int .u64 s1, .int .u64 0]] w fun e w' => e = .returned (.tuple #[.agg #[.int .u64 y0, .int .u64 y1, .int .u64 y2, .int .u64 y3], .bool c2]) ∧ Below w.heap.size w w')) (w : World) :
    Calls Tryz.prog 120 #[.agg #[.int .u64 ah, .int .u64 al], .agg #[.int .u64 bh, .int .u64 bl]] w fun e w' => e = .returned (.agg #[.int .u64 y0, .int .u64 y1, .int .u64 y2, .int .u64 y3]) ∧ Below w.heap.size w w' := by
  have J1 := lH (join_any p1 p0 q1 q0)
  have M1 := lH (mid_any r1 r0)
  have M2 := lH (mid_any s1 s0)
  go_enter Tryz.func120, Tryz.ntmps120
  go_wp2_with fail
  have kk := mulAt_new w ah al bh bl
  obtain ⟨⟨sA, cA0, cA1⟩, ⟨sB, cB0, cB1⟩, ⟨sR, _⟩, _, _⟩ := id kk
  generalize ((w.alloc (bx ah al 25)).alloc (bx bh bl 25)).alloc (wbx 0 0 0 0 81) = W at *
  refine wp_region_noPanic ?_
  refine wp_region_F [12] [5] (LS W (fun vs w => ∀ p, vs = [.pointer (some ⟨p, 0, none⟩)] → W.heap.size ≤ p ∧ WBox w p 0 0 0 0 ∧ WFree w p) (fun _ vs wx => ∃ p, vs = [.pointer (some ⟨p, 0, none⟩)] ∧ WBox wx p q0 q1 p0 p1 ∧ WFree wx p ∧ w.heap.size + 1 + 1 < p ∧ MulAt w wx ah al bh bl)) (by kernel_rfl) (bs := [false]) (vs := [undef]) (by kernel_rfl) rfl (LS.before noBits_f bR.drew (fun p hp => (no_ptr hp).elim)) ?_
  refine wpF_yield (i := 0) (v := ?vq1) rfl (by kernel_rfl) (by kernel_rfl) (fun _ _ _ h => h) (Or.inl ⟨by rfl, ?yq1⟩) ?rq1
  case yq1 => (intro wq; go_simp; try (with_reducible rfl))
  try simp only [zA, zB, zC, Act.put, zD, zE, zF]
  refine wpF_take (i := 1) (v := ?vq2) rfl (by kernel_rfl) (by kernel_rfl) (fun _ _ _ h => h) (LS.load (by rfl) ?yq2) ?rq2
  case yq2 => (intro wq hb; have lcA0 := cL hb cA0; have lcA1 := cL hb cA1; have lcB0 := cL hb cB0; have lcB1 := cL hb cB1; go_simp; try (with_reducible rfl))
  try simp only [zA, zB, zC, Act.put, zD, zE, zF]
  refine wpF_yield (i := 2) (v := ?vq3) rfl (by kernel_rfl) (by kernel_rfl) (fun _ _ _ h => h) (Or.inl ⟨by rfl, ?yq3⟩) ?rq3
  case yq3 => (intro wq; go_simp; try (with_reducible rfl))
  try simp only [zA, zB, zC, Act.put, zD, zE, zF]
  refine wpF_take (i := 3) (v := ?vq4) rfl (by kernel_rfl) (by kernel_rfl) (fun _ _ _ h => h) (LS.load (by rfl) ?yq4) ?rq4
  case yq4 => (intro wq hb; have lcA0 := cL hb cA0; have lcA1 := cL hb cA1; have lcB0 := cL hb cB0; have lcB1 := cL hb cB1; go_simp; try (with_reducible rfl))
  try simp only [zA, zB, zC, Act.put, zD, zE, zF]
  refine wpF_take (i := 4) (v := _) rfl (by kernel_rfl) (by kernel_rfl) (fun _ _ _ h => h) (LS.call (fun vs w w' h hb p hp => ⟨(h p hp).1, (h p hp).2.1.later hb, (h p hp).2.2.later (h p hp).2.1.1 hb⟩) (by rfl) _ _ ?yq5 (m1.out)) ?rq5
  case yq5 => (intro wq; go_simp; try (with_reducible rfl))
  try simp only [zA, zB, zC, Act.put, zD, zE, zF]
  refine wpF_yield (i := 5) (v := ?vq6) rfl (by kernel_rfl) (by kernel_rfl) (fun _ _ _ h => h) (Or.inl ⟨by rfl, ?yq6⟩) ?rq6
  case yq6 => (intro wq; go_simp; try (with_reducible rfl))
  try simp only [zA, zB, zC, Act.put, zD, zE, zF]
  refine wpF_take (i := 6) (v := ?vq7) rfl (by kernel_rfl) (by kernel_rfl) (fun _ _ _ h => h) (LS.load (by rfl) ?yq7) ?rq7
  case yq7 => (intro wq hb; have lcA0 := cL hb cA0; have lcA1 := cL hb cA1; have lcB0 := cL hb cB0; have lcB1 := cL hb cB1; go_simp; try (with_reducible rfl))
  try simp only [zA, zB, zC, Act.put, zD, zE, zF]
  refine wpF_yield (i := 7) (v := ?vq8) rfl (by kernel_rfl) (by kernel_rfl) (fun _ _ _ h => h) (Or.inl ⟨by rfl, ?yq8⟩) ?rq8
  case yq8 => (intro wq; go_simp; try (with_reducible rfl))
  try simp only [zA, zB, zC, Act.put, zD, zE, zF]
  refine wpF_take (i := 8) (v := ?vq9) rfl (by kernel_rfl) (by kernel_rfl) (fun _ _ _ h => h) (LS.load (by rfl) ?yq9) ?rq9
  case yq9 => (intro wq hb; have lcA0 := cL hb cA0; have lcA1 := cL hb cA1; have lcB0 := cL hb cB0; have lcB1 := cL hb cB1; go_simp; try (with_reducible rfl))
  try simp only [zA, zB, zC, Act.put, zD, zE, zF]
  refine wpF_take (i := 9) (v := _) rfl (by kernel_rfl) (by kernel_rfl) (fun _ _ _ h => h) (LS.call (fun vs w w' h hb p hp => ⟨(h p hp).1, (h p hp).2.1.later hb, (h p hp).2.2.later (h p hp).2.1.1 hb⟩) (by rfl) _ _ ?yq10 (m2.out)) ?rq10
  case yq10 => (intro wq; go_simp; try (with_reducible rfl))
  try simp only [zA, zB, zC, Act.put, zD, zE, zF]
  refine wpF_take (i := 10) (v := _) rfl (by kernel_rfl) (by kernel_rfl) (fun _ _ _ h => h) (LS.call (fun vs w w' h hb p hp => ⟨(h p hp).1, (h p hp).2.1.later hb, (h p hp).2.2.later (h p hp).2.1.1 hb⟩) (by rfl) _ _ ?yq11 (J1.out)) ?rq11
  case yq11 => (intro wq; go_simp; try (with_reducible rfl))
  try simp only [zA, zB, zC, Act.put, zD, zE, zF]
  refine wpF_step (i := 11) (bs := [false]) (bs' := [false]) (vs := [undef]) (by kernel_rfl) rfl (by kernel_rfl) rfl (by kernel_rfl) (fun wq hS K hK => ?_)
  obtain ⟨hb, hA⟩ := hS.1 noBits_f
  have hle := hb.size
  go_simp
  refine hK.out _ _ (LS.before noBits_f (bA hb _) ?_) ?_
  · intro p hp
    simp [dsVals] at hp
    subst hp
    exact ⟨hle, WBox.new _ _ _ _ _ _, WFree.new _ _ _ _ _ _⟩
  clear hK hA hb hS
  generalize wq.heap.size = p at *
  try simp only [zA, zB, zC, Act.put, zD, zE, zF]
  refine wpF_step (i := 12) (bs := [false]) (bs' := [true]) (vs := [.pointer (some ⟨p, 0, none⟩)]) (by kernel_rfl) rfl (by kernel_rfl) rfl (by kernel_rfl) (fun wq hS K hK => ?_)
  obtain ⟨hb, hA⟩ := hS.1 noBits_f
  obtain ⟨hp, x, f⟩ := hA _ rfl
  have MS := lH ((kk.later hb).store (by omega) x q0 q1 p0 p1)
  have FS := lH (WFree.set4 f p q0 q1 p0 p1)
  obtain ⟨_, z0, z1, z2, z3⟩ := x
  obtain ⟨f0, f1, f2, f3⟩ := f
  go_simp
  refine hK.out _ _ (LS.behind bits_t ⟨_, rfl, (MS.out).1, FS.out, by omega, (MS.out).2⟩) ?_
  clear hK hA hb MS FS z0 z1 z2 z3 f0 f1 f2 f3 hS
  try simp only [zA, zB, zC, Act.put, zD, zE, zF]
  refine wpF_done (bs := [true]) (vs := [.pointer (some ⟨p, 0, none⟩)]) (by kernel_rfl) (by kernel_rfl) rfl (fun W2 hS => ?_) _
  refine NoPanic.normal ?_
  obtain ⟨p', hpp, pP, fP, hlt, kk2⟩ := hS.2 bits_t
  obtain rfl : p = p' := by simpa using hpp
  clear hpp hS kk m1 m2 J1 cA0 cA1 cB0 cB1 sA sB sR
  try clear hle
  go_wp2_with fail
  obtain ⟨⟨sA, cA0, cA1⟩, ⟨sB, cB0, cB1⟩, ⟨sR, _⟩, _, _⟩ := id kk2
  obtain ⟨sP, cP0, cP1, cP2, cP3⟩ := pP
  have kk := kk2
  refine wp_region_noPanic ?_
  refine wp_region_F [12] [6] (LS W2 (fun vs w => ∀ p, vs = [.pointer (some ⟨p, 0, none⟩)] → W2.heap.size ≤ p ∧ WBox w p 0 0 0 0 ∧ WFree w p) (fun _ vs wx => ∃ p, vs = [.pointer (some ⟨p, 0, none⟩)] ∧ WBox wx p x0 x1 x2 x3 ∧ WFree wx p ∧ w.heap.size + 1 + 1 < p ∧ MulAt w wx ah al bh bl)) (by kernel_rfl) (bs := [false]) (vs := [undef]) (by kernel_rfl) rfl (LS.before noBits_f bR.drew (fun p hp => (no_ptr hp).elim)) ?_
  refine wpF_take (i := 0) (v := ?vq12) rfl (by kernel_rfl) (by kernel_rfl) (fun _ _ _ h => h) (LS.load (by rfl) ?yq12) ?rq12
  case yq12 => (intro wq hb; have lcA0 := cL hb cA0; have lcA1 := cL hb cA1; have lcB0 := cL hb cB0; have lcB1 := cL hb cB1; have lcP0 := cL hb cP0; have lcP1 := cL hb cP1; have lcP2 := cL hb cP2; have lcP3 := cL hb cP3; go_simp; try (with_reducible rfl))
  try simp only [zA, zB, zC, Act.put, zD, zE, zF]
  refine wpF_yield (i := 1) (v := ?vq13) rfl (by kernel_rfl) (by kernel_rfl) (fun _ _ _ h => h) (Or.inl ⟨by rfl, ?yq13⟩) ?rq13
  case yq13 => (intro wq; go_simp; try (with_reducible rfl))
  try simp only [zA, zB, zC, Act.put, zD, zE, zF]
  refine wpF_take (i := 2) (v := ?vq14) rfl (by kernel_rfl) (by kernel_rfl) (fun _ _ _ h => h) (LS.load (by rfl) ?yq14) ?rq14
  case yq14 => (intro wq hb; have lcA0 := cL hb cA0; have lcA1 := cL hb cA1; have lcB0 := cL hb cB0; have lcB1 := cL hb cB1; have lcP0 := cL hb cP0; have lcP1 := cL hb cP1; have lcP2 := cL hb cP2; have lcP3 := cL hb cP3; go_simp; try (with_reducible rfl))
  try simp only [zA, zB, zC, Act.put, zD, zE, zF]
  refine wpF_yield (i := 3) (v := ?vq15) rfl (by kernel_rfl) (by kernel_rfl) (fun _ _ _ h => h) (Or.inl ⟨by rfl, ?yq15⟩) ?rq15
  case yq15 => (intro wq; go_simp; try (with_reducible rfl))
  try simp only [zA, zB, zC, Act.put, zD, zE, zF]
  refine wpF_take (i := 4) (v := ?vq16) rfl (by kernel_rfl) (by kernel_rfl) (fun _ _ _ h => h) (LS.load (by rfl) ?yq16) ?rq16
  case yq16 => (intro wq hb; have lcA0 := cL hb cA0; have lcA1 := cL hb cA1; have lcB0 := cL hb cB0; have lcB1 := cL hb cB1; have lcP0 := cL hb cP0; have lcP1 := cL hb cP1; have lcP2 := cL hb cP2; have lcP3 := cL hb cP3; go_simp; try (with_reducible rfl))
  try simp only [zA, zB, zC, Act.put, zD, zE, zF]
  refine wpF_take (i := 5) (v := _) rfl (by kernel_rfl) (by kernel_rfl) (fun _ _ _ h => h) (LS.call (fun vs w w' h hb p hp => ⟨(h p hp).1, (h p hp).2.1.later hb, (h p hp).2.2.later (h p hp).2.1.1 hb⟩) (by rfl) _ _ ?yq17 (m3.out)) ?rq17
  case yq17 => (intro wq; go_simp; try (with_reducible rfl))
  try simp only [zA, zB, zC, Act.put, zD, zE, zF]
  refine wpF_take (i := 6) (v := _) rfl (by kernel_rfl) (by kernel_rfl) (fun _ _ _ h => h) (LS.call (fun vs w w' h hb p hp => ⟨(h p hp).1, (h p hp).2.1.later hb, (h p hp).2.2.later (h p hp).2.1.1 hb⟩) (by rfl) _ _ ?yq18 (M1.out)) ?rq18
  case yq18 => (intro wq; go_simp; try (with_reducible rfl))
  try simp only [zA, zB, zC, Act.put, zD, zE, zF]
  refine wpF_take (i := 7) (v := _) rfl (by kernel_rfl) (by kernel_rfl) (fun _ _ _ h => h) (LS.call (fun vs w w' h hb p hp => ⟨(h p hp).1, (h p hp).2.1.later hb, (h p hp).2.2.later (h p hp).2.1.1 hb⟩) (by rfl) _ _ ?yq19 (A1.out)) ?rq19
  case yq19 => (intro wq; go_simp; try (with_reducible rfl))
  try simp only [zA, zB, zC, Act.put, zD, zE, zF]
  refine wpF_yield (i := 8) (v := ?vq20) rfl (by kernel_rfl) (by kernel_rfl) (fun _ _ _ h => h) (Or.inl ⟨by rfl, ?yq20⟩) ?rq20
  case yq20 => (intro wq; go_simp; try (with_reducible rfl))
  try simp only [zA, zB, zC, Act.put, zD, zE, zF]
  refine wpF_yield (i := 9) (v := ?vq21) rfl (by kernel_rfl) (by kernel_rfl) (fun _ _ _ h => h) (Or.inl ⟨by rfl, ?yq21⟩) ?rq21
  case yq21 => (intro wq; go_simp; try (with_reducible rfl))
  try simp only [zA, zB, zC, Act.put, zD, zE, zF]
  refine wpF_yield (i := 10) (v := ?vq22) rfl (by kernel_rfl) (by kernel_rfl) (fun _ _ _ h => h) (Or.inl ⟨by rfl, ?yq22⟩) ?rq22
  case yq22 => (intro wq; go_simp; try (with_reducible rfl))
  try simp only [zA, zB, zC, Act.put, zD, zE, zF]
  refine wpF_step (i := 11) (bs := [false]) (bs' := [false]) (vs := [undef]) (by kernel_rfl) rfl (by kernel_rfl) rfl (by kernel_rfl) (fun wq hS K hK => ?_)
  obtain ⟨hb, hA⟩ := hS.1 noBits_f
  have hle := hb.size
  go_simp
  refine hK.out _ _ (LS.before noBits_f (bA hb _) ?_) ?_
  · intro p hp
    simp [dsVals] at hp
    subst hp
    exact ⟨hle, WBox.new _ _ _ _ _ _, WFree.new _ _ _ _ _ _⟩
  clear hK hA hb hS
  generalize wq.heap.size = p2 at *
  try simp only [zA, zB, zC, Act.put, zD, zE, zF]
  refine wpF_step (i := 12) (bs := [false]) (bs' := [true]) (vs := [.pointer (some ⟨p2, 0, none⟩)]) (by kernel_rfl) rfl (by kernel_rfl) rfl (by kernel_rfl) (fun wq hS K hK => ?_)
  obtain ⟨hb, hA⟩ := hS.1 noBits_f
  obtain ⟨hp, x, f⟩ := hA _ rfl
  have MS := lH ((kk.later hb).store (by omega) x x0 x1 x2 x3)
  have FS := lH (WFree.set4 f p2 x0 x1 x2 x3)
  obtain ⟨_, z0, z1, z2, z3⟩ := x
  obtain ⟨f0, f1, f2, f3⟩ := f
  go_simp
  refine hK.out _ _ (LS.behind bits_t ⟨_, rfl, (MS.out).1, FS.out, by omega, (MS.out).2⟩) ?_
  clear hK hA hb MS FS z0 z1 z2 z3 f0 f1 f2 f3 hS
  try simp only [zA, zB, zC, Act.put, zD, zE, zF]
  refine wpF_yield (i := 13) (v := ?vq23) rfl (by kernel_rfl) (by kernel_rfl) (fun _ _ _ h => h) (Or.inl ⟨by rfl, ?yq23⟩) ?rq23
  case yq23 => (intro wq; go_simp; try (with_reducible rfl))
  try simp only [zA, zB, zC, Act.put, zD, zE, zF]
  refine wpF_done (bs := [true]) (vs := [.pointer (some ⟨p2, 0, none⟩)]) (by kernel_rfl) (by kernel_rfl) rfl (fun W3 hS => ?_) _
  refine NoPanic.normal ?_
  obtain ⟨p', hpp, pP, fP, hlt2, kk3⟩ := hS.2 bits_t
  obtain rfl : p2 = p' := by simpa using hpp
  clear hpp hS kk kk2 m3 M1 A1 cA0 cA1 cB0 cB1 cP0 cP1 cP2 cP3 sA sB sR
  try clear hle
  go_wp2_with fail
  obtain ⟨⟨sA, cA0, cA1⟩, ⟨sB, cB0, cB1⟩, ⟨sR, _⟩, _, _⟩ := id kk3
  obtain ⟨_, cP0, cP1, cP2, cP3⟩ := id pP
  refine wp_region_noPanic ?_
  refine wp_region_F [11] [] (LS W3 (fun _ _ => True) (fun _ _ wx => WBox wx p2 y0 y1 y2 y3 ∧ MulAt w wx ah al bh bl)) (by kernel_rfl) (bs := [false]) (vs := []) (by kernel_rfl) rfl (LS.before noBits_f bR.drew trivial) ?_
  refine wpF_take (i := 0) (v := ?vq24) rfl (by kernel_rfl) (by kernel_rfl) (fun _ _ _ h => h) (LS.load (by rfl) ?yq24) ?rq24
  case yq24 => (intro wq hb; have lcA0 := cL hb cA0; have lcA1 := cL hb cA1; have lcB0 := cL hb cB0; have lcB1 := cL hb cB1; have lcP0 := cL hb cP0; have lcP1 := cL hb cP1; have lcP2 := cL hb cP2; have lcP3 := cL hb cP3; go_simp; try (with_reducible rfl))
  try simp only [zA, zB, zC, Act.put, zD, zE, zF]
  refine wpF_yield (i := 1) (v := ?vq25) rfl (by kernel_rfl) (by kernel_rfl) (fun _ _ _ h => h) (Or.inl ⟨by rfl, ?yq25⟩) ?rq25
  case yq25 => (intro wq; go_simp; try (with_reducible rfl))
  try simp only [zA, zB, zC, Act.put, zD, zE, zF]
  refine wpF_take (i := 2) (v := ?vq26) rfl (by kernel_rfl) (by kernel_rfl) (fun _ _ _ h => h) (LS.load (by rfl) ?yq26) ?rq26
  case yq26 => (intro wq hb; have lcA0 := cL hb cA0; have lcA1 := cL hb cA1; have lcB0 := cL hb cB0; have lcB1 := cL hb cB1; have lcP0 := cL hb cP0; have lcP1 := cL hb cP1; have lcP2 := cL hb cP2; have lcP3 := cL hb cP3; go_simp; try (with_reducible rfl))
  try simp only [zA, zB, zC, Act.put, zD, zE, zF]
  refine wpF_yield (i := 3) (v := ?vq27) rfl (by kernel_rfl) (by kernel_rfl) (fun _ _ _ h => h) (Or.inl ⟨by rfl, ?yq27⟩) ?rq27
  case yq27 => (intro wq; go_simp; try (with_reducible rfl))
  try simp only [zA, zB, zC, Act.put, zD, zE, zF]
  refine wpF_take (i := 4) (v := ?vq28) rfl (by kernel_rfl) (by kernel_rfl) (fun _ _ _ h => h) (LS.load (by rfl) ?yq28) ?rq28
  case yq28 => (intro wq hb; have lcA0 := cL hb cA0; have lcA1 := cL hb cA1; have lcB0 := cL hb cB0; have lcB1 := cL hb cB1; have lcP0 := cL hb cP0; have lcP1 := cL hb cP1; have lcP2 := cL hb cP2; have lcP3 := cL hb cP3; go_simp; try (with_reducible rfl))
  try simp only [zA, zB, zC, Act.put, zD, zE, zF]
  refine wpF_take (i := 5) (v := _) rfl (by kernel_rfl) (by kernel_rfl) (fun _ _ _ h => h) (LS.call lasts_true (by rfl) _ _ ?yq29 (m4.out)) ?rq29
  case yq29 => (intro wq; go_simp; try (with_reducible rfl))
  try simp only [zA, zB, zC, Act.put, zD, zE, zF]
  refine wpF_take (i := 6) (v := _) rfl (by kernel_rfl) (by kernel_rfl) (fun _ _ _ h => h) (LS.call lasts_true (by rfl) _ _ ?yq30 (M2.out)) ?rq30
  case yq30 => (intro wq; go_simp; try (with_reducible rfl))
  try simp only [zA, zB, zC, Act.put, zD, zE, zF]
  refine wpF_take (i := 7) (v := _) rfl (by kernel_rfl) (by kernel_rfl) (fun _ _ _ h => h) (LS.call lasts_true (by rfl) _ _ ?yq31 (A2.out)) ?rq31
  case yq31 => (intro wq; go_simp; try (with_reducible rfl))
  try simp only [zA, zB, zC, Act.put, zD, zE, zF]
  refine wpF_yield (i := 8) (v := ?vq32) rfl (by kernel_rfl) (by kernel_rfl) (fun _ _ _ h => h) (Or.inl ⟨by rfl, ?yq32⟩) ?rq32
  case yq32 => (intro wq; go_simp; try (with_reducible rfl))
  try simp only [zA, zB, zC, Act.put, zD, zE, zF]
  refine wpF_yield (i := 9) (v := ?vq33) rfl (by kernel_rfl) (by kernel_rfl) (fun _ _ _ h => h) (Or.inl ⟨by rfl, ?yq33⟩) ?rq33
  case yq33 => (intro wq; go_simp; try (with_reducible rfl))
  try simp only [zA, zB, zC, Act.put, zD, zE, zF]
  refine wpF_yield (i := 10) (v := ?vq34) rfl (by kernel_rfl) (by kernel_rfl) (fun _ _ _ h => h) (Or.inl ⟨by rfl, ?yq34⟩) ?rq34
  case yq34 => (intro wq; go_simp; try (with_reducible rfl))
  try simp only [zA, zB, zC, Act.put, zD, zE, zF]
  refine wpF_step (i := 11) (bs := [false]) (bs' := [true]) (vs := []) (by kernel_rfl) rfl (by kernel_rfl) rfl (by kernel_rfl) (fun wq hS K hK => ?_)
  obtain ⟨hb, _⟩ := hS.1 noBits_f
  have MS := lH ((kk3.later hb).store hlt2 (pP.later hb) y0 y1 y2 y3)
  obtain ⟨_, z0, z1, z2, z3⟩ := pP.later hb
  obtain ⟨f0, f1, f2, f3⟩ := fP.later pP.1 hb
  clear cP0 cP1 cP2 cP3
  go_simp
  refine hK.out _ _ (LS.behind bits_t MS.out) ?_
  clear hK hb MS z0 z1 z2 z3 f0 f1 f2 f3 hS
  try simp only [zA, zB, zC, Act.put, zD, zE, zF]
  refine wpF_done (bs := [true]) (vs := []) (by kernel_rfl) (by kernel_rfl) rfl (fun W4 hS => ?_) _
  refine NoPanic.normal ?_
  obtain ⟨⟨sP4, cP0, cP1, cP2, cP3⟩, kk⟩ := hS.2 bits_t
  obtain ⟨_, _, pR, fR, kb⟩ := kk
  clear hS kk3 pP fP
  have KEY := lH (wstore y0 y1 y2 y3 pR fR kb (by omega))
  obtain ⟨s0, z0, z1, z2, z3⟩ := pR
  obtain ⟨f0, f1, f2, f3⟩ := fR
  clear m4 A2 M2 kb
  go_wp2_with fail
  obtain ⟨⟨_, e0, e1, e2, e3⟩, kb⟩ := KEY.out
  refine bodyPost_ret (v := .agg #[.int .u64 y0, .int .u64 y1, .int .u64 y2, .int .u64 y3]) ?_ rfl ⟨rfl, kb⟩
  clear z0 z1 z2 z3
  simp [results, Tryz.results120, go_sem, e0, e1, e2, e3]
theorem wsum_eq {ah al bh bl : Int} (u1 : U64 ah) (u2 : U64 al) (u3 : U64 bh) (u4 : U64 bl) :
    wval (loOf (al * bl)) (hiOf (al * bl)) (loOf (ah * bh)) (hiOf (ah * bh)) + wval 0 (loOf (ah * bl)) (hiOf (ah * bl)) 0 = al * bl + (ah * bh) * 340282366920938463463374607431768211456 + (ah * bl) * 18446744073709551616 := by
  have h1 := mul_small u1 u3; have h2 := mul_small u2 u4; have h3 := mul_small u1 u4
  have e1 := hilo_of (ah * bh) h1.1 (by unfold full; omega); have e2 := hilo_of (al * bl) h2.1 (by unfold full; omega); have e3 := hilo_of (ah * bl) h3.1 (by unfold full; omega)
  generalize hiOf (ah * bh) = a1 at *; generalize loOf (ah * bh) = a2 at *; generalize hiOf (al * bl) = a3 at *; generalize loOf (al * bl) = a4 at *; generalize hiOf (ah * bl) = a5 at *; generalize loOf (ah * bl) = a6 at *
  unfold wval; omega
theorem wprod_sum {ah al bh bl : Int} (u1 : U64 ah) (u2 : U64 al) (u3 : U64 bh) (u4 : U64 bl) (X : Int)
    (hX : X = wval (loOf (al * bl)) (hiOf (al * bl)) (loOf (ah * bh)) (hiOf (ah * bh)) + wval 0 (loOf (ah * bl)) (hiOf (ah * bl)) 0) :
    wval (wd0 X) (wd1 X) (wd2 X) (wd3 X) + wval 0 (loOf (al * bh)) (hiOf (al * bh)) 0 = val ah al * val bh bl := by
  rw [wsum_eq u1 u2 u3 u4] at hX
  have h1 := mul_small u1 u3; have h2 := mul_small u2 u4; have h3 := mul_small u1 u4; have h4 := mul_small u2 u3
  rw [wval_wd (by omega) (by unfold wfull; omega), val_prod]
  have e4 := hilo_of (al * bh) h4.1 (by unfold full; omega)
  generalize hiOf (al * bh) = a5 at *; generalize loOf (al * bh) = a6 at *
  unfold wval; omega
theorem wmul_any (ah al bh bl : Int) (u1 : U64 ah) (u2 : U64 al) (u3 : U64 bh) (u4 : U64 bl) (w : World) :
    Calls Tryz.prog 120 #[.agg #[.int .u64 ah, .int .u64 al], .agg #[.int .u64 bh, .int .u64 bl]] w fun e w' => e = .returned (.agg #[.int .u64 (wd0 (val ah al * val bh bl)), .int .u64 (wd1 (val ah al * val bh bl)), .int .u64 (wd2 (val ah al * val bh bl)), .int .u64 (wd3 (val ah al * val bh bl))]) ∧ Below w.heap.size w w' := by
  have h := wprod_sum u1 u2 u3 u4 _ rfl
  have h1 := fun w => mul_any ah bh u1 u3 w
  have h2 := fun w => mul_any al bl u2 u4 w
  have h3 := fun w => mul_any ah bl u1 u4 w
  have h4 := fun w => mul_any al bh u2 u3 w
  have A1 := fun w => wadd_any (loOf (al * bl)) (hiOf (al * bl)) (loOf (ah * bh)) (hiOf (ah * bh)) 0 (loOf (ah * bl)) (hiOf (ah * bl)) 0 (loOf_u _) (hiOf_u _) (loOf_u _) (hiOf_u _) u0 (loOf_u _) (hiOf_u _) u0 w
  have A2 := fun w => wadd_any (wd0 (wval (loOf (al * bl)) (hiOf (al * bl)) (loOf (ah * bh)) (hiOf (ah * bh)) + wval 0 (loOf (ah * bl)) (hiOf (ah * bl)) 0)) (wd1 (wval (loOf (al * bl)) (hiOf (al * bl)) (loOf (ah * bh)) (hiOf (ah * bh)) + wval 0 (loOf (ah * bl)) (hiOf (ah * bl)) 0)) (wd2 (wval (loOf (al * bl)) (hiOf (al * bl)) (loOf (ah * bh)) (hiOf (ah * bh)) + wval 0 (loOf (ah * bl)) (hiOf (ah * bl)) 0)) (wd3 (wval (loOf (al * bl)) (hiOf (al * bl)) (loOf (ah * bh)) (hiOf (ah * bh)) + wval 0 (loOf (ah * bl)) (hiOf (ah * bl)) 0)) 0 (loOf (al * bh)) (hiOf (al * bh)) 0 (wd0_u _) (wd1_u _) (wd2_u _) (wd3_u _) u0 (loOf_u _) (hiOf_u _) u0 w
  rw [h] at A2
  exact wmul_core ah al bh bl _ _ _ _ _ _ _ _ _ _ _ _ _ _ _ _ _ _ h1 h2 h3 h4 A1 A2 w
end Go.Proofs.YtjdjonekoodalaaGreatDoor
namespace Go.Proofs.YtjdjonekoodalaaGreatDoor
open Go.RowKit
theorem addW (n m : Int) (w : World) : Calls Tryz.prog 161 #[.agg #[.int .u64 (wd0 n), .int .u64 (wd1 n), .int .u64 (wd2 n), .int .u64 (wd3 n)], .agg #[.int .u64 (wd0 m), .int .u64 (wd1 m), .int .u64 (wd2 m), .int .u64 (wd3 m)]] w fun e w' =>
    e = .returned (.tuple #[.agg #[.int .u64 (wd0 (n + m)), .int .u64 (wd1 (n + m)), .int .u64 (wd2 (n + m)), .int .u64 (wd3 (n + m))], .bool (decide (wfull ≤ n % wfull + m % wfull))]) ∧ Below w.heap.size w w' :=
  (wadd_any _ _ _ _ _ _ _ _ (wd0_u n) (wd1_u n) (wd2_u n) (wd3_u n) (wd0_u m) (wd1_u m) (wd2_u m) (wd3_u m) w).mono fun e w' ⟨he, hb⟩ => ⟨he.trans (by
    obtain ⟨h0, h1, h2, h3⟩ := wd_add_mod n m
    rw [wval_wd_mod, wval_wd_mod, h0, h1, h2, h3]), hb⟩
theorem subW (n m : Int) (w : World) : Calls Tryz.prog 146 #[.agg #[.int .u64 (wd0 n), .int .u64 (wd1 n), .int .u64 (wd2 n), .int .u64 (wd3 n)], .agg #[.int .u64 (wd0 m), .int .u64 (wd1 m), .int .u64 (wd2 m), .int .u64 (wd3 m)]] w fun e w' =>
    e = .returned (.tuple #[.agg #[.int .u64 (wd0 (n - m)), .int .u64 (wd1 (n - m)), .int .u64 (wd2 (n - m)), .int .u64 (wd3 (n - m))], .bool (decide (n % wfull < m % wfull))]) ∧ Below w.heap.size w w' :=
  (wsub_any _ _ _ _ _ _ _ _ (wd0_u n) (wd1_u n) (wd2_u n) (wd3_u n) (wd0_u m) (wd1_u m) (wd2_u m) (wd3_u m) w).mono fun e w' ⟨he, hb⟩ => ⟨he.trans (by
    obtain ⟨h0, h1, h2, h3⟩ := wd_sub_mod n m
    rw [wval_wd_mod, wval_wd_mod, h0, h1, h2, h3]), hb⟩
theorem mulW (n m : Int) (w : World) : Calls Tryz.prog 120 #[.agg #[.int .u64 (hiOf n), .int .u64 (loOf n)], .agg #[.int .u64 (hiOf m), .int .u64 (loOf m)]] w fun e w' =>
    e = .returned (.agg #[.int .u64 (wd0 (n % full * (m % full))), .int .u64 (wd1 (n % full * (m % full))), .int .u64 (wd2 (n % full * (m % full))), .int .u64 (wd3 (n % full * (m % full)))]) ∧ Below w.heap.size w w' :=
  (wmul_any _ _ _ _ (hiOf_u n) (loOf_u n) (hiOf_u m) (loOf_u m) w).mono fun e w' ⟨he, hb⟩ => ⟨he.trans (by rw [val_hiLo_mod, val_hiLo_mod]), hb⟩
end Go.Proofs.YtjdjonekoodalaaGreatDoor
