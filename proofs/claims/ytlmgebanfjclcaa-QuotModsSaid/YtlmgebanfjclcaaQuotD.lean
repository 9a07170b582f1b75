/-
  Contract of quot.Div: a range over its iterator.
-/
import Derived.Laws.EntriesVeiled
import Derived.Test.YtlmgebanfjclcaaQuotS
import Derived.Test.YtlmgebanfjclcaaQuotI
import Derived.Test.YtlmgebanfjclcaaQuotM
set_option linter.unusedVariables false
set_option linter.unusedSimpArgs false
set_option maxRecDepth 100000
namespace Go.Proofs.Ytlmgebanfjclcaa
open Go.RowKit Go.Shelf
attribute [local go_sem] Oper.semAt_some

/-! ### A region within a round, where nothing is deferred: as anywhere -/
def noDefer (ops : Array Oper) : Bool := ops.all fun o => match o.op with | .defer _ => false | _ => true
theorem noDefer_spec {ops : Array Oper} (h : noDefer ops = true) {o : Oper} {i : Nat} (ho : ops[i]? = some o) (c : Call) : o.op ≠ .defer c := by
  intro e
  have := Array.all_eq_true_iff_forall_mem.1 h o (Array.mem_of_getElem? ho)
  simp [e] at this
theorem wpOpIn_inRound {F : Fence} {n : Nat} {P : Program} {ops : Array Oper} {Q : Exit → Act → World → Prop} (l : Nat) (hro : F.round = none) (hd : noDefer ops = true) {i : Nat} {K : Act → World → Prop} {a : Act} {w : World} (h : wpOpIn F n P ops Q i K a w) : wpOpIn (F.inRound l) n P ops Q i K a w := by
  unfold wpOpIn at *
  cases ho : ops[i]? with
  | none => rw [ho] at h; exact h
  | some o =>
    rw [ho] at h
    dsimp only at h ⊢
    split
    · rename_i hw
      rw [if_pos hw] at h
      refine ⟨h.1, ?_⟩
      have h2 := h.2
      rw [hro, Oper.semAt_none] at h2
      show o.uponIn (F.inRound l) n P a K Q ((o.semAt (some l) a.eval).run P w)
      rw [Oper.semAt_eq (some l) _ _ (noDefer_spec hd ho)]
      generalize (execOp a.eval o).run P w = r at *
      cases r with
      | ok x w' => cases x <;> exact h2
      | halt x w' => cases x <;> exact h2
    · rename_i hw
      rw [if_neg hw] at h
      exact h
theorem wpAnyIn_inRound {F : Fence} {n : Nat} {P : Program} {md : Region.Mode} {ops : Array Oper} {Q : Exit → Act → World → Prop} (l : Nat) (hro : F.round = none) (hd : noDefer ops = true) :
    ∀ (fuel : Nat) (listed : Array Bool) (a : Act) (w : World), wpAnyIn F n P md ops Q fuel listed a w → wpAnyIn (F.inRound l) n P md ops Q fuel listed a w := by
  intro fuel
  induction fuel with
  | zero => exact fun _ _ _ h => h
  | succ fuel ih => exact fun listed a w h => ⟨h.1, fun i hi => wpOpIn_inRound l hro hd (wpOpIn_mono (fun a w => ih _ a w) (h.2 i hi))⟩

/-- What the rounds have made: the quotient's digits, and the rest. -/
def orW (k : Nat) (p : Int) (s : Int × Int × Int × Int) : Int × Int × Int × Int :=
  if k / 64 = 0 then (bits .or .u64 s.1 (upLo p (k % 64)), s.2.1, s.2.2.1, s.2.2.2)
  else if k / 64 = 1 then (s.1, bits .or .u64 s.2.1 (upLo p (k % 64)), s.2.2.1, s.2.2.2)
  else if k / 64 = 2 then (s.1, s.2.1, bits .or .u64 s.2.2.1 (upLo p (k % 64)), s.2.2.2)
  else (s.1, s.2.1, s.2.2.1, bits .or .u64 s.2.2.2 (upLo p (k % 64)))
def stepQ (n d : Int) (s : (Int × Int × Int × Int) × Int) (x : Fin 256) : (Int × Int × Int × Int) × Int :=
  (orW x.val (partN d s.2 (n / 2 ^ x.val % 2)) s.1, restN d s.2 (n / 2 ^ x.val % 2))
def stQ (n d : Int) (pre : List (Fin 256)) : (Int × Int × Int × Int) × Int := pre.foldl (stepQ n d) ((0, 0, 0, 0), 0)
theorem stQ_snoc (n d : Int) (pre : List (Fin 256)) (x : Fin 256) : stQ n d (pre ++ [x]) = stepQ n d (stQ n d pre) x := by simp [stQ]
/-- A digit of the quotient so far. -/
def dgQ (s : Int × Int × Int × Int) (c : Nat) : Int := if c = 0 then s.1 else if c = 1 then s.2.1 else if c = 2 then s.2.2.1 else s.2.2.2
def arrQ (s : Int × Int × Int × Int) : Array Value := #[.int .u64 s.1, .int .u64 s.2.1, .int .u64 s.2.2.1, .int .u64 s.2.2.2]

theorem arrQ_cell (s : Int × Int × Int × Int) {c : Nat} (hc : c < 4) : (arrQ s)[c]? = some (.int .u64 (dgQ s c)) := by
  obtain rfl | rfl | rfl | rfl : c = 0 ∨ c = 1 ∨ c = 2 ∨ c = 3 := by omega
  all_goals rfl
theorem arrQ_or (s : Int × Int × Int × Int) (K : Nat) (P : Int) {c M : Nat} (hK : K < 256) (hc : K / 64 = c) (hM : K % 64 = M) : arrQ (orW K P s) = (arrQ s).setIfInBounds c (.int .u64 (bits .or .u64 (dgQ s c) (upLo P M))) := by
  subst hc hM
  obtain h | h | h | h : K / 64 = 0 ∨ K / 64 = 1 ∨ K / 64 = 2 ∨ K / 64 = 3 := by omega
  all_goals
    unfold orW
    rw [h]
    rfl

/-- What the loop of Div keeps of its own cells: s: the call's first block, B: the loop's. -/
def DivI (w W0 : World) (s B : Nat) (n d : Int) (pre : List (Fin 256)) (W : World) : Prop :=
  (((HB W B 24 (arrQ (stQ n d pre).1) ∧ HB W (B + 1) 26 #[.int .u64 (hiOf (stQ n d pre).2), .int .u64 (loOf (stQ n d pre).2)]) ∧
    (HB W (s + 1 + 1) 24 #[.int .u64 0, .int .u64 0, .int .u64 0, .int .u64 0] ∧ HB W (s + 1 + 1 + 1) 26 #[.int .u64 0, .int .u64 0])) ∧
    (HB W (B + 1 + 1) 26 #[.int .u64 (hiOf d), .int .u64 (loOf d)] ∧ HB W (B + 1 + 1 + 1) 53 #[.func (.func 55) #[] #[.pointer (some ⟨B + 1 + 1, 0, none⟩)]])) ∧
  (Below s w W ∧ W0.heap.size ≤ W.heap.size)

theorem qround_end {w w3 W W1 : World} {s B c : Nat} {n d : Int} {pre : List (Fin 256)} {x : Fin 256} {v : Value} {rr : Int} (hI : DivI w w3 s B n d pre W) (hb : Below W.heap.size W W1) (hsB : s + 4 ≤ B) (h3 : B + 5 ≤ w3.heap.size)
    (ha : arrQ (stQ n d (pre ++ [x])).1 = (arrQ (stQ n d pre).1).setIfInBounds c v) (hr : (stQ n d (pre ++ [x])).2 = rr) :
    KeepsFrom w3.heap.size W (((W1.setCell ⟨B + 1, 0, none⟩ (.int .u64 (hiOf rr))).setCell ⟨B + 1, 1, none⟩ (.int .u64 (loOf rr))).setCell ⟨B, c, none⟩ v).drew ∧
    Keeps3 (B + 1 + 1) W (((W1.setCell ⟨B + 1, 0, none⟩ (.int .u64 (hiOf rr))).setCell ⟨B + 1, 1, none⟩ (.int .u64 (loOf rr))).setCell ⟨B, c, none⟩ v).drew ∧
    DivI w w3 s B n d (pre ++ [x]) (((W1.setCell ⟨B + 1, 0, none⟩ (.int .u64 (hiOf rr))).setCell ⟨B + 1, 1, none⟩ (.int .u64 (loOf rr))).setCell ⟨B, c, none⟩ v).drew := by
  obtain ⟨⟨⟨⟨yq, yr⟩, xq, xr⟩, yd, yc⟩, kk, hle⟩ := hI
  have sz := yc.lt
  have ko : KeepsOthers W1 (((W1.setCell ⟨B + 1, 0, none⟩ (.int .u64 (hiOf rr))).setCell ⟨B + 1, 1, none⟩ (.int .u64 (loOf rr))).setCell ⟨B, c, none⟩ v).drew := (((KeepsOthers.setCell _ _ _).trans (KeepsOthers.setCell _ _ _)).trans (KeepsOthers.setCell _ _ _)).trans (KeepsOthers.drew _)
  refine ⟨(KeepsFrom.of_grownBy (grown_of hb) (fun j e => by cases e)).trans (ko.from _), fun k a b => ?_, ?_⟩
  · refine Eq.trans ?_ (hb.block k ?_)
    · exact (Below.heap_setCell _ _ _ k (by show k ≠ B; omega)).trans ((Below.heap_setCell _ _ _ k (by show k ≠ B + 1; omega)).trans (Below.heap_setCell _ _ _ k (by show k ≠ B + 1; omega)))
    · have := kk.size; omega
  · replace kk := kk.trans (hb.mono (by omega : s ≤ W.heap.size))
    refine ⟨⟨⟨⟨?_, ?_⟩, ?_, ?_⟩, ?_, ?_⟩, ?_, ?_⟩
    · rw [ha]; exact ((((yq.later hb).other (by omega) _ _).other (by omega) _ _).set c v).drew
    · rw [hr]; exact ((((yr.later hb).set 0 _).set 1 _).other (by omega) _ _).drew
    · exact ((((xq.later hb).other (by omega) _ _).other (by omega) _ _).other (by omega) _ _).drew
    · exact ((((xr.later hb).other (by omega) _ _).other (by omega) _ _).other (by omega) _ _).drew
    · exact ((((yd.later hb).other (by omega) _ _).other (by omega) _ _).other (by omega) _ _).drew
    · exact ((((yc.later hb).other (by omega) _ _).other (by omega) _ _).other (by omega) _ _).drew
    · exact (((kk.setCell (p := ⟨B + 1, 0, none⟩) (by show s ≤ B + 1; omega) _).setCell (p := ⟨B + 1, 1, none⟩) (by show s ≤ B + 1; omega) _).setCell (p := ⟨B, c, none⟩) (by show s ≤ B; omega) _).drew
    · have h1 := hb.size
      have h2 := ko.1
      exact Nat.le_trans hle (Nat.le_trans h1 h2)

theorem qdiv_end {w W : World} {s D : Nat} {t2 t3 : TypeId} {d0 d1 d2 d3 h l : Int} (g2 : HB W (s + 1 + 1) t2 #[.int .u64 0, .int .u64 0, .int .u64 0, .int .u64 0]) (g3 : HB W (s + 1 + 1 + 1) t3 #[.int .u64 0, .int .u64 0]) (hB : Below s w W) (hK : W.heap[D]? = some (.deferred (some []))) (hD : s + 1 + 1 + 1 < D) (hs : s ≤ w.heap.size) (hs2 : w.heap.size ≤ D) :
    (HB (((((((W.setCell ⟨s + 1 + 1, 0, none⟩ (.int .u64 d0)).setCell ⟨s + 1 + 1, 1, none⟩ (.int .u64 d1)).setCell ⟨s + 1 + 1, 2, none⟩ (.int .u64 d2)).setCell ⟨s + 1 + 1, 3, none⟩ (.int .u64 d3)).setCell ⟨s + 1 + 1 + 1, 0, none⟩ (.int .u64 h)).setCell ⟨s + 1 + 1 + 1, 1, none⟩ (.int .u64 l)).drew.putObj D (.deferred none)) (s + 1 + 1) t2 #[.int .u64 d0, .int .u64 d1, .int .u64 d2, .int .u64 d3] ∧ HB (((((((W.setCell ⟨s + 1 + 1, 0, none⟩ (.int .u64 d0)).setCell ⟨s + 1 + 1, 1, none⟩ (.int .u64 d1)).setCell ⟨s + 1 + 1, 2, none⟩ (.int .u64 d2)).setCell ⟨s + 1 + 1, 3, none⟩ (.int .u64 d3)).setCell ⟨s + 1 + 1 + 1, 0, none⟩ (.int .u64 h)).setCell ⟨s + 1 + 1 + 1, 1, none⟩ (.int .u64 l)).drew.putObj D (.deferred none)) (s + 1 + 1 + 1) t3 #[.int .u64 h, .int .u64 l]) ∧
    ((((((W.setCell ⟨s + 1 + 1, 0, none⟩ (.int .u64 d0)).setCell ⟨s + 1 + 1, 1, none⟩ (.int .u64 d1)).setCell ⟨s + 1 + 1, 2, none⟩ (.int .u64 d2)).setCell ⟨s + 1 + 1, 3, none⟩ (.int .u64 d3)).setCell ⟨s + 1 + 1 + 1, 0, none⟩ (.int .u64 h)).setCell ⟨s + 1 + 1 + 1, 1, none⟩ (.int .u64 l)).drew.heap[D]? = some (.deferred (some [])) ∧
    Below s w (((((((W.setCell ⟨s + 1 + 1, 0, none⟩ (.int .u64 d0)).setCell ⟨s + 1 + 1, 1, none⟩ (.int .u64 d1)).setCell ⟨s + 1 + 1, 2, none⟩ (.int .u64 d2)).setCell ⟨s + 1 + 1, 3, none⟩ (.int .u64 d3)).setCell ⟨s + 1 + 1 + 1, 0, none⟩ (.int .u64 h)).setCell ⟨s + 1 + 1 + 1, 1, none⟩ (.int .u64 l)).drew.putObj D (.deferred none)) := by
  have hK' : ((((((W.setCell ⟨s + 1 + 1, 0, none⟩ (.int .u64 d0)).setCell ⟨s + 1 + 1, 1, none⟩ (.int .u64 d1)).setCell ⟨s + 1 + 1, 2, none⟩ (.int .u64 d2)).setCell ⟨s + 1 + 1, 3, none⟩ (.int .u64 d3)).setCell ⟨s + 1 + 1 + 1, 0, none⟩ (.int .u64 h)).setCell ⟨s + 1 + 1 + 1, 1, none⟩ (.int .u64 l)).drew.heap[D]? = some (.deferred (some [])) := by
    have n2 : D ≠ s + 1 + 1 := by omega
    have n3 : D ≠ s + 1 + 1 + 1 := by omega
    have st : ∀ (X : World) (b k : Nat) (v : Value), D ≠ b → X.heap[D]? = some (.deferred (some [])) → (X.setCell ⟨b, k, none⟩ v).heap[D]? = some (.deferred (some [])) := fun X b k v hne hx => (Below.heap_setCell X ⟨b, k, none⟩ v D hne).trans hx
    have hK0 : ((((((W.setCell ⟨s + 1 + 1, 0, none⟩ (.int .u64 d0)).setCell ⟨s + 1 + 1, 1, none⟩ (.int .u64 d1)).setCell ⟨s + 1 + 1, 2, none⟩ (.int .u64 d2)).setCell ⟨s + 1 + 1, 3, none⟩ (.int .u64 d3)).setCell ⟨s + 1 + 1 + 1, 0, none⟩ (.int .u64 h)).setCell ⟨s + 1 + 1 + 1, 1, none⟩ (.int .u64 l)).heap[D]? = some (.deferred (some [])) := st _ _ _ _ n3 (st _ _ _ _ n3 (st _ _ _ _ n2 (st _ _ _ _ n2 (st _ _ _ _ n2 (st _ _ _ _ n2 hK)))))
    rw [show ∀ X : World, X.drew.heap = X.heap from fun _ => rfl]
    exact hK0
  have n23 : s + 1 + 1 ≠ s + 1 + 1 + 1 := by omega
  have A : HB ((((((W.setCell ⟨s + 1 + 1, 0, none⟩ (.int .u64 d0)).setCell ⟨s + 1 + 1, 1, none⟩ (.int .u64 d1)).setCell ⟨s + 1 + 1, 2, none⟩ (.int .u64 d2)).setCell ⟨s + 1 + 1, 3, none⟩ (.int .u64 d3)).setCell ⟨s + 1 + 1 + 1, 0, none⟩ (.int .u64 h)).setCell ⟨s + 1 + 1 + 1, 1, none⟩ (.int .u64 l)) (s + 1 + 1) t2 #[.int .u64 d0, .int .u64 d1, .int .u64 d2, .int .u64 d3] := ((((((g2.set 0 (.int .u64 d0)).set 1 (.int .u64 d1)).set 2 (.int .u64 d2)).set 3 (.int .u64 d3)).other n23 0 (.int .u64 h)).other n23 1 (.int .u64 l))
  have C : HB ((((((W.setCell ⟨s + 1 + 1, 0, none⟩ (.int .u64 d0)).setCell ⟨s + 1 + 1, 1, none⟩ (.int .u64 d1)).setCell ⟨s + 1 + 1, 2, none⟩ (.int .u64 d2)).setCell ⟨s + 1 + 1, 3, none⟩ (.int .u64 d3)).setCell ⟨s + 1 + 1 + 1, 0, none⟩ (.int .u64 h)).setCell ⟨s + 1 + 1 + 1, 1, none⟩ (.int .u64 l)) (s + 1 + 1 + 1) t3 #[.int .u64 h, .int .u64 l] := ((((((g3.other n23.symm 0 (.int .u64 d0)).other n23.symm 1 (.int .u64 d1)).other n23.symm 2 (.int .u64 d2)).other n23.symm 3 (.int .u64 d3)).set 0 (.int .u64 h)).set 1 (.int .u64 l))
  generalize hW : ((((((W.setCell ⟨s + 1 + 1, 0, none⟩ (.int .u64 d0)).setCell ⟨s + 1 + 1, 1, none⟩ (.int .u64 d1)).setCell ⟨s + 1 + 1, 2, none⟩ (.int .u64 d2)).setCell ⟨s + 1 + 1, 3, none⟩ (.int .u64 d3)).setCell ⟨s + 1 + 1 + 1, 0, none⟩ (.int .u64 h)).setCell ⟨s + 1 + 1 + 1, 1, none⟩ (.int .u64 l)) = V at *
  refine ⟨⟨(World.putObj_heap_other (by omega)).trans A, (World.putObj_heap_other (by omega)).trans C⟩, hK', ?_⟩
  subst hW
  have a2 : s ≤ s + 1 + 1 := by omega
  have a3 : s ≤ s + 1 + 1 + 1 := by omega
  have hb : Below s w ((((((W.setCell ⟨s + 1 + 1, 0, none⟩ (.int .u64 d0)).setCell ⟨s + 1 + 1, 1, none⟩ (.int .u64 d1)).setCell ⟨s + 1 + 1, 2, none⟩ (.int .u64 d2)).setCell ⟨s + 1 + 1, 3, none⟩ (.int .u64 d3)).setCell ⟨s + 1 + 1 + 1, 0, none⟩ (.int .u64 h)).setCell ⟨s + 1 + 1 + 1, 1, none⟩ (.int .u64 l)).drew :=
    ((((((hB.setCell (p := ⟨s + 1 + 1, 0, none⟩) a2 _).setCell (p := ⟨s + 1 + 1, 1, none⟩) a2 _).setCell (p := ⟨s + 1 + 1, 2, none⟩) a2 _).setCell (p := ⟨s + 1 + 1, 3, none⟩) a2 _).setCell (p := ⟨s + 1 + 1 + 1, 0, none⟩) a3 _).setCell (p := ⟨s + 1 + 1 + 1, 1, none⟩) a3 _).drew
  exact hb.trans (belowK_b (w := w) hs _ D _ _ (by omega) hK' rfl rfl)

set_option maxRecDepth 100000 in
set_option maxHeartbeats 8000000 in
theorem qdiv_in (nn : Nat) (hn : 3 ≤ nn) (n d : Int) (hd : (d % full == 0) = false) (w : World) :
    CallsIn Fence.wide nn Try.prog 10 #[.agg #[.int .u64 (wd0 n), .int .u64 (wd1 n), .int .u64 (wd2 n), .int .u64 (wd3 n)], .agg #[.int .u64 (hiOf d), .int .u64 (loOf d)]] w fun e w' =>
      e = .returned (.tuple #[.agg (arrQ (stQ n d (topL (blen (n % wfull)) (blen (n % wfull)))).1), .agg #[.int .u64 (hiOf (stQ n d (topL (blen (n % wfull)) (blen (n % wfull)))).2), .int .u64 (loOf (stQ n d (topL (blen (n % wfull)) (blen (n % wfull)))).2)], .bool true]) ∧ Below w.heap.size w w' := by
  have h1 : 1 ≤ nn := by omega
  obtain ⟨L, hL⟩ : ∃ L, blen (n % wfull) = L := ⟨_, rfl⟩
  have hL2 : L ≤ 256 := hL ▸ blen_w (mod_w n).1 (mod_w n).2
  rw [hL]
  refine callsIn_of_wp_marks Try.func10 rfl trivial ?_ rfl
  simp only [Try.ntmps10, List.size_toArray, List.length_cons, List.length_nil, Nat.reduceAdd, Nat.reduceSub, Array.replicate_succ, Array.replicate_zero, List.push_toArray, List.append_toArray, List.nil_append, List.cons_append]
  gi_wp2
  refine ⟨trivial, (callsIn_wide.2 (zeroB d _)).mono ?_⟩
  rintro e w1 ⟨rfl, hb⟩
  rw [hd]
  have kk := bC (bA (bA (bA (bA (Below.refl _ _) _) _) _) _) hb
  have xn : HB w1 w.heap.size 24 #[.int .u64 (wd0 n), .int .u64 (wd1 n), .int .u64 (wd2 n), .int .u64 (wd3 n)] := ((((HB.new w _ _).alloc _).alloc _).alloc _).later hb
  have xd : HB w1 (w.heap.size + 1) 26 #[.int .u64 (hiOf d), .int .u64 (loOf d)] := (((HB.newAt (by simp) _ _).alloc _).alloc _).later hb
  have xq : HB w1 (w.heap.size + 1 + 1) 24 #[.int .u64 0, .int .u64 0, .int .u64 0, .int .u64 0] := ((HB.newAt (by simp) _ _).alloc _).later hb
  have xr : HB w1 (w.heap.size + 1 + 1 + 1) 26 #[.int .u64 0, .int .u64 0] := (HB.newAt (by simp) _ _).later hb
  have d0 := xd.cell 0; have d1 := xd.cell 1; dsimp at d0 d1
  have lr := xr.lt; have ld := xd.lt; have ln := xn.lt; have lq := xq.lt
  clear hb
  have ks := kk.size
  gi_wp2
  refine ⟨trivial, (callsIn_wide.2 (divby_any (hiOf d) (loOf d) _)).mono ?_⟩
  rintro e w2 ⟨rfl, yd, hsz, hb⟩
  have yq : HB w2 w1.heap.size 24 #[.int .u64 0, .int .u64 0, .int .u64 0, .int .u64 0] := ((HB.new w1 _ _).alloc _).later hb
  have yr : HB w2 (w1.heap.size + 1) 26 #[.int .u64 0, .int .u64 0] := (HB.newAt (by simp) _ _).later hb
  replace xn := ((xn.alloc _).alloc _).later hb
  replace xq := ((xq.alloc _).alloc _).later hb
  replace xr := ((xr.alloc _).alloc _).later hb
  replace kk := bC (bA (bA kk _) _) hb
  simp only [World.size_alloc] at yd hsz
  clear hb d0 d1 xd
  have HS := Lib.hid hsz
  have n0 := xn.cell 0; have n1 := xn.cell 1; have n2 := xn.cell 2; have n3 := xn.cell 3; dsimp at n0 n1 n2 n3
  replace ln := xn.lt
  clear hsz ld lq
  gi_wp2
  refine ⟨trivial, (callsIn_wide.2 (bitsof_any _ _ _ _ _)).mono ?_⟩
  rintro e w3 ⟨rfl, yN, hsz3, hb⟩
  have yc : HB w3 w2.heap.size 53 #[.func (.func 55) #[] #[.pointer (some ⟨w1.heap.size + 1 + 1, 0, none⟩)]] := (HB.new w2 _ _).later hb
  replace yq := (yq.alloc _).later hb
  replace yr := (yr.alloc _).later hb
  replace yd := (yd.alloc _).later hb
  replace xq := (xq.alloc _).later hb
  replace xr := (xr.alloc _).later hb
  replace kk := bC (bA kk _) hb
  simp only [World.size_alloc] at yN hsz3
  clear hb n0 n1 n2 n3 ln xn
  gi_wp2
  rw [HS.out] at yN hsz3 yc ⊢
  have hsB : w.heap.size + 4 ≤ w1.heap.size := by omega
  have h3 : w1.heap.size + 5 ≤ w3.heap.size := by omega
  clear HS lr ks
  generalize w1.heap.size = B at *
  refine wpIn_rangeFunc_ownG rfl h1 (gf := 58) (lb := #[.pointer (some ⟨B + 1 + 1 + 1 + 1, 0, none⟩)]) rfl trivial (enters_of Try.func58 (by kernel_rfl) rfl)
    (bits_stops (nn - 1) (by omega) (B + 1 + 1) L n hL hL2 w3 (by omega) yN) Keeps3.t (Keeps3.b (by omega)) (Below.refl _ _) (fun _ => rfl)
    (DivI w w3 w.heap.size B n d) (fun _ _ _ => False)
    (OwnFrom.and (OwnFrom.and (OwnFrom.and (OwnFrom.and (Own.from (hb_own _ _ _) _) (Own.from (hb_own _ _ _) _)) (OwnFrom.and (Own.from (hb_own _ _ (fun _ => _)) _) (Own.from (hb_own _ _ (fun _ => _)) _))) (OwnFrom.and (Own.from (hb_own _ _ (fun _ => _)) _) (Own.from (hb_own _ _ (fun _ => _)) _))) (OwnFrom.and (ownFrom_below (Nat.le_refl _) (by omega)) (fun _ X Y row hs hg hr => Nat.le_trans hs hg.size)))
    (fun _ _ _ _ _ hs _ _ => hs)
    ⟨⟨⟨⟨yq, yr⟩, xq, xr⟩, yd, yc⟩, kk, Nat.le_refl _⟩ (fun x => { tmps := #[.agg #[.int .u64 (wd0 n), .int .u64 (wd1 n), .int .u64 (wd2 n), .int .u64 (wd3 n)], .agg #[.int .u64 (hiOf d), .int .u64 (loOf d)], .pointer (some ⟨w.heap.size, 0, none⟩), .pointer (some ⟨w.heap.size + 1, 0, none⟩), .pointer (some ⟨w.heap.size + 1 + 1, 0, none⟩), .pointer (some ⟨w.heap.size + 1 + 1 + 1, 0, none⟩), .bool false,
      .pointer (some ⟨B, 0, none⟩), .pointer (some ⟨B + 1, 0, none⟩), .pointer (some ⟨B + 1 + 1 + 1, 0, none⟩), .int .i64 (x.val : Int), .int .u64 (n / 2 ^ x.val % 2), undef, .agg #[.int .u64 (hiOf d), .int .u64 (loOf d)], .bool false, undef, undef, .agg #[.int .u64 (hiOf d), .int .u64 (loOf d)], .func (.func 55) #[] #[.pointer (some ⟨B + 1 + 1, 0, none⟩)],
      .agg #[.int .u64 (wd0 n), .int .u64 (wd1 n), .int .u64 (wd2 n), .int .u64 (wd3 n)], .func (.func 58) #[] #[.pointer (some ⟨B + 1 + 1 + 1 + 1, 0, none⟩)], .int .i64 (x.val : Int), .int .u64 (n / 2 ^ x.val % 2), undef, undef, undef, undef, undef, undef, undef, undef, undef, undef, undef, undef, undef, undef, undef, undef, undef, undef, undef], defers := [] })
    ?assign ?body ?done ?stop
  case assign =>
    intro l x W K hK
    dsimp only [encB]
    gi_wp2
    exact hK
  case body =>
    rintro l pre ⟨K, hK2⟩ W hI hlt
    dsimp only
    have hI2 := hI
    obtain ⟨⟨⟨⟨zq, zr⟩, wq, wr⟩, zd, zc⟩, kw, hle⟩ := hI2
    have hmx : Try.prog.follows .mixedOrders = true := by kernel_rfl
    have c0 := zc.cell 0; have r0 := zr.cell 0; have r1 := zr.cell 1; dsimp at c0 r0 r1
    have hb01 : n / 2 ^ K % 2 = 0 ∨ n / 2 ^ K % 2 = 1 := by omega
    have ST := Lib.hid (qstepN d (stQ n d pre).2 (n / 2 ^ K % 2) hb01 (B + 1 + 1) W zd)
    clear wq wr zd zc kw hle yN
    gi_wp2
    refine ⟨trivial, fun _ => by omega, (CallsIn.inRound l (callsIn_wide.2 ST.out)).mono ?_⟩
    rintro e W1 ⟨rfl, hb⟩
    have hrr : (stQ n d (pre ++ [⟨K, hK2⟩])).2 = restN d (stQ n d pre).2 (n / 2 ^ K % 2) := by rw [stQ_snoc]; rfl
    obtain ⟨P, hP⟩ : ∃ P, partN d (stQ n d pre).2 (n / 2 ^ K % 2) = P := ⟨_, rfl⟩
    rw [hP]
    obtain ⟨rr, hrr0⟩ : ∃ rr, restN d (stQ n d pre).2 (n / 2 ^ K % 2) = rr := ⟨_, rfl⟩
    rw [hrr0] at hrr ⊢
    replace zq := zq.later hb; replace zr := zr.later hb
    replace r0 := zr.cell 0; replace r1 := zr.cell 1; have g0 := zr.frozen 0; have g1 := zr.frozen 1; dsimp at r0 r1
    have hmod : K % 64 < 64 := Nat.mod_lt _ (by decide)
    obtain ⟨M, hM⟩ : ∃ M, K % 64 = M := ⟨_, rfl⟩
    have hKm : (K : Int).tmod 64 = (M : Int) := by rw [Int.tmod_eq_emod_of_nonneg (by omega)]; omega
    have hsh : Op.shift .shl .u64 P .i64 (M : Int) = pure (.int .u64 (upLo P M)) := by
      rw [shift_shl .u64 .i64 _ _ (by omega) (by show (_ : Int) ≤ 64; omega), Int.toNat_natCast, IntKind.wrap_u64]; rfl
    clear c0 hb01 ST
    obtain ⟨c, hc⟩ : ∃ c, K / 64 = c := ⟨_, rfl⟩
    have hc4 : c < 4 := by omega
    have hc4i : (c : Int) < 4 := by omega
    have hc0i : (0 : Int) ≤ (c : Int) := by omega
    have hcb : (0 : Int) ≤ (c : Int) ∧ (c : Int) < 4 := by omega
    have hcw : IntKind.i64.wrap (c : Int) = (c : Int) := IntWalk.i64_in _ (by omega)
    have ha : arrQ (stQ n d (pre ++ [⟨K, hK2⟩])).1 = (arrQ (stQ n d pre).1).setIfInBounds c (.int .u64 (bits .or .u64 (dgQ (stQ n d pre).1 c) (upLo P M))) := by
      rw [stQ_snoc]; show arrQ (orW K (partN d (stQ n d pre).2 (n / 2 ^ K % 2)) (stQ n d pre).1) = _; rw [hP]; exact arrQ_or _ K P hK2 hc hM
    have KEY := Lib.hid (qround_end hI hb hsB h3 ha hrr)
    have hKd : (K : Int) / 64 = (c : Int) := by omega
    have zq2 := (zq.other (B' := B + 1) (by omega) 0 (.int .u64 (hiOf rr))).other (B' := B + 1) (by omega) 1 (.int .u64 (loOf rr))
    clear hI hb ha hrr hP zr hM hmod hc
    gi_wp2
    clear r0 r1 g0 g1 zq
    have q0 := zq2.cell c; have f0 := zq2.frozen c; rw [arrQ_cell _ hc4] at q0
    clear zq2
    generalize (W1.setCell ⟨B + 1, 0, none⟩ (.int .u64 (hiOf rr))).setCell ⟨B + 1, 1, none⟩ (.int .u64 (loOf rr)) = V at *
    generalize dgQ (stQ n d pre).1 c = qd at *
    refine wpIn_mono (Q := NoPanic _) ?_ NoPanic.imp
    refine wpIn_region_any hmx (wpAnyIn_inRound l rfl (by kernel_rfl) _ _ _ _ ?_)
    change wpAnyIn _ _ _ _ _ _ _ _ _ (World.drew _)
    refine wpAnyIn_take (i := 0) (v := ?v0) rfl rfl (by kernel_rfl) (by kernel_rfl) (by kernel_rfl) (fun _ _ _ h => h) ⟨Or.inl ⟨by rfl, ?y0⟩, fun _ => rfl⟩ ?r0
    case y0 => (intro wq; go_simp; try (with_reducible rfl))
    try simp only [List.getElem_toArray, List.getElem_cons_zero, List.getElem_cons_succ, Act.put, List.setIfInBounds_toArray, List.set_cons_zero, List.set_cons_succ]
    refine wpAnyIn_take (i := 1) (v := ?v1) rfl rfl (by kernel_rfl) (by kernel_rfl) (by kernel_rfl) (fun _ _ _ h => h) ⟨Or.inl ⟨by rfl, ?y1⟩, fun _ => rfl⟩ ?r1
    case y1 => (intro wq; go_simp; try (with_reducible rfl))
    try simp only [List.getElem_toArray, List.getElem_cons_zero, List.getElem_cons_succ, Act.put, List.setIfInBounds_toArray, List.set_cons_zero, List.set_cons_succ]
    refine wpAnyIn_take (i := 2) (v := ?v2) rfl rfl (by kernel_rfl) (by kernel_rfl) (by kernel_rfl) (fun _ _ _ h => h) ⟨Or.inl ⟨by rfl, ?y2⟩, fun _ => rfl⟩ ?r2
    case y2 => (intro wq; go_simp; first | rfl | (rw [if_pos hcb]; rfl))
    try simp only [List.getElem_toArray, List.getElem_cons_zero, List.getElem_cons_succ, Act.put, List.setIfInBounds_toArray, List.set_cons_zero, List.set_cons_succ]
    refine wpAnyIn_take (i := 4) (v := ?v4) rfl rfl (by kernel_rfl) (by kernel_rfl) (by kernel_rfl) (fun _ _ _ h => h) ⟨Or.inl ⟨by rfl, ?y4⟩, fun _ => rfl⟩ ?r4
    case y4 => (intro wq; go_simp; try (with_reducible rfl))
    try simp only [List.getElem_toArray, List.getElem_cons_zero, List.getElem_cons_succ, Act.put, List.setIfInBounds_toArray, List.set_cons_zero, List.set_cons_succ]
    refine wpAnyIn_take (i := 5) (v := ?v5) rfl rfl (by kernel_rfl) (by kernel_rfl) (by kernel_rfl) (fun _ _ _ h => h) ⟨Or.inl ⟨by rfl, ?y5⟩, fun _ => rfl⟩ ?r5
    case y5 => (intro wq; go_simp; try (with_reducible rfl))
    try simp only [List.getElem_toArray, List.getElem_cons_zero, List.getElem_cons_succ, Act.put, List.setIfInBounds_toArray, List.set_cons_zero, List.set_cons_succ]
    refine wpAnyIn_take (i := 6) (v := ?v6) rfl rfl (by kernel_rfl) (by kernel_rfl) (by kernel_rfl) (fun _ _ _ h => h) ⟨Or.inl ⟨by rfl, ?y6⟩, fun _ => rfl⟩ ?r6
    case y6 => (intro wq; go_simp; try (with_reducible rfl))
    try simp only [List.getElem_toArray, List.getElem_cons_zero, List.getElem_cons_succ, Act.put, List.setIfInBounds_toArray, List.set_cons_zero, List.set_cons_succ]
    refine wpAnyIn_take (i := 7) (v := ?v7) rfl rfl (by kernel_rfl) (by kernel_rfl) (by kernel_rfl) (fun _ _ _ h => h) ⟨Or.inl ⟨by rfl, ?y7⟩, fun _ => rfl⟩ ?r7
    case y7 => (intro wq; go_simp; try (with_reducible rfl))
    try simp only [List.getElem_toArray, List.getElem_cons_zero, List.getElem_cons_succ, Act.put, List.setIfInBounds_toArray, List.set_cons_zero, List.set_cons_succ]
    refine wpAnyIn_ready (rs := [3]) (by kernel_rfl) (by simp) (AllReadyIn.cons rfl (fun K' hK' => ?_) AllReadyIn.nil)
    go_simp
    refine hK' _ _ ?_
    clear hK' K'
    try simp only [List.getElem_toArray, List.getElem_cons_zero, List.getElem_cons_succ, Act.put, List.setIfInBounds_toArray, List.set_cons_zero, List.set_cons_succ]
    refine wpAnyIn_take (i := 8) (v := ?v8) rfl rfl (by kernel_rfl) (by kernel_rfl) (by kernel_rfl) (fun _ _ _ h => h) ⟨Or.inl ⟨by rfl, ?y8⟩, fun _ => rfl⟩ ?r8
    case y8 => (intro wq; go_simp; try (with_reducible rfl))
    try simp only [List.getElem_toArray, List.getElem_cons_zero, List.getElem_cons_succ, Act.put, List.setIfInBounds_toArray, List.set_cons_zero, List.set_cons_succ]
    refine wpAnyIn_take (i := 9) (v := ?v9) rfl rfl (by kernel_rfl) (by kernel_rfl) (by kernel_rfl) (fun _ _ _ h => h) ⟨Or.inl ⟨by rfl, ?y9⟩, fun _ => rfl⟩ ?r9
    case y9 => (intro wq; go_simp; first | rfl | (rw [if_pos hcb]; rfl))
    try simp only [List.getElem_toArray, List.getElem_cons_zero, List.getElem_cons_succ, Act.put, List.setIfInBounds_toArray, List.set_cons_zero, List.set_cons_succ]
    refine wpAnyIn_ready (rs := [10]) (by kernel_rfl) (by simp) (AllReadyIn.cons rfl (fun K' hK' => ?_) AllReadyIn.nil)
    go_simp
    refine hK' _ _ ?_
    clear hK' K'
    try simp only [List.getElem_toArray, List.getElem_cons_zero, List.getElem_cons_succ, Act.put, List.setIfInBounds_toArray, List.set_cons_zero, List.set_cons_succ]
    refine wpAnyIn_done (by kernel_rfl) ?_ _
    refine NoPanic.normal ?_
    exact KEY.out
  case done =>
    rintro D zs W hD rfl ⟨⟨⟨⟨g4, g5⟩, g2, g3⟩, _, _⟩, hB1, hle⟩ hK
    have hmx : Try.prog.follows .mixedOrders = true := by kernel_rfl
    have x0 := g4.cell 0
    have x1 := g4.cell 1
    have x2 := g4.cell 2
    have x3 := g4.cell 3
    have z0 := g5.cell 0
    have z1 := g5.cell 1
    have y0 := g2.cell 0
    have y1 := g2.cell 1
    have y2 := g2.cell 2
    have y3 := g2.cell 3
    have v0 := g2.frozen 0
    have v1 := g2.frozen 1
    have v2 := g2.frozen 2
    have v3 := g2.frozen 3
    have r0 := g3.cell 0
    have r1 := g3.cell 1
    have t0 := g3.frozen 0
    have t1 := g3.frozen 1
    dsimp [arrQ] at x0 x1 x2 x3 z0 z1 y0 y1 y2 y3 r0 r1
    have KEY := Lib.hid (qdiv_end (d0 := (stQ n d (topL L L)).1.1) (d1 := (stQ n d (topL L L)).1.2.1) (d2 := (stQ n d (topL L L)).1.2.2.1) (d3 := (stQ n d (topL L L)).1.2.2.2) (h := hiOf (stQ n d (topL L L)).2) (l := loOf (stQ n d (topL L L)).2) g2 g3 hB1 hK (by omega) (Nat.le_refl _) (by omega))
    clear g2 g3 g4 g5 hK hle yN
    gi_wp2
    refine wpIn_mono (Q := NoPanic _) ?_ NoPanic.imp
    gi_region_with_o (fail)
    all_goals (refine NoPanic.normal ?_)
    all_goals gi_wp2
    all_goals
      try simp only [List.getElem_toArray, List.getElem_cons_zero, List.getElem_cons_succ, Act.put, List.setIfInBounds_toArray, List.set_cons_zero, List.set_cons_succ]
      obtain ⟨⟨k1, k4⟩, k2, k3⟩ := KEY.out
      have a0 := k1.cell 0
      have a1 := k1.cell 1
      have a2 := k1.cell 2
      have a3 := k1.cell 3
      have a4 := k4.cell 0
      have a5 := k4.cell 1
      dsimp at a0 a1 a2 a3 a4 a5
      refine ⟨by simp, .inl ⟨_, _, rfl, run_takeDeferred k2, ?_⟩⟩
      refine ⟨.tuple #[.agg (arrQ (stQ n d (topL L L)).1), .agg #[.int .u64 (hiOf (stQ n d (topL L L)).2), .int .u64 (loOf (stQ n d (topL L L)).2)], .bool true], ?_, rfl, k3⟩
      clear k1 k2 k3 k4 KEY x0 x1 x2 x3 y0 y1 y2 y3 r0 r1 z0 z1
      simp [results, Try.results10, go_sem, arrQ, a0, a1, a2, a3, a4, a5]
  case stop =>
    rintro D c pre W _ _ h _
    exact h.elim

end Go.Proofs.Ytlmgebanfjclcaa
