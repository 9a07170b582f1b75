/-
  Package flag: Good, Names.
-/
import Derived.Test.YteobcedcgkfmjaaDoorFlagD
set_option linter.unusedVariables false
set_option linter.unusedSimpArgs false
set_option maxRecDepth 100000
namespace Go.Proofs.YteobcedcgkfmjaaDoor
open Go.RowKit Go.Shelf

theorem good_eq : ∀ s, s < 256 → ((((s % 32 : Nat) : Int)) == (s : Int)) = decide (s < 32) := by
  intro s hs
  rw [Bool.eq_iff_iff, beq_iff_eq, decide_eq_true_eq]
  omega
theorem joinN_one (s : Nat) : joinN [s] = s % 32 := by unfold joinN orL; simp
set_option maxRecDepth 100000 in
set_option maxHeartbeats 1000000 in
theorem flag_good (s : Nat) (hs : s < 256) (w : World) (nt : NTab w) :
    Calls Tryd.prog 15 #[.int .u8 s] w fun e w' => e = .returned (.bool (decide (s < 32))) ∧ Below w.heap.size w w' := by
  have NT := Lib.hid nt
  have HS := Lib.hid hs
  have ge := good_eq s hs
  have J := Lib.hid (flag_join (some ⟨w.heap.size, 0, none⟩) 1 1 [s])
  rw [joinN_one] at J
  generalize s % 32 = m at *
  clear nt hs
  go_enter Tryd.func15, Tryd.ntmps15
  go_wp2_with fail
  have x : Fs (w.alloc (.cells #[.int .u8 s] 23)) (some ⟨w.heap.size, 0, none⟩) 1 1 [s] := Fs.ofHB 1 [s] (HB.new w _ _) rfl (by simp) rfl (fun y hy => by simp at hy; subst hy; exact HS.out)
  (with_reducible refine (J.out _ (NT.out.later (bA (Below.refl _ _) _)) x).mono ?_); rintro e w1 ⟨rfl, hb⟩
  have KK := Lib.hid (bC (bA (Below.refl _ _) _) hb)
  clear hb x
  go_wp2_with fail
  go_ret
  exact ⟨rfl, KK.out⟩

/-- The slice '(ao, n, cap)' reads as the names of the flags xs. -/
def Ss (w : World) (ao : Option Addr) (n cap : Nat) (xs : List (Fin 5)) : Prop :=
  n = xs.length ∧ n ≤ 1000000 ∧ ∀ k, k < n → ∃ a, ao = some a ∧ w.cell? (a.add k) = some (.string (nmB (xs.getD k 0)))
theorem Ss.later {W w1 : World} {ao : Option Addr} {n cap : Nat} {xs : List (Fin 5)} (x : Ss W ao n cap xs) (hb : Below W.heap.size W w1) : Ss w1 ao n cap xs := by
  obtain ⟨h1, h2, h4⟩ := x
  refine ⟨h1, h2, fun k hk => ?_⟩
  obtain ⟨a, e, c0⟩ := h4 k hk
  exact ⟨a, e, cell_later hb c0⟩
def nmV (l : List (Fin 5)) : List Value := l.map fun i => .string (nmB i)
theorem Ss.ofHB {w : World} {b : Nat} {t : TypeId} {vs : Array Value} (n : Nat) (xs : List (Fin 5)) (h : HB w b t vs) (hn : n = xs.length) (h9 : xs.length ≤ 1000000) (hv : vs.toList = nmV xs) : Ss w (some ⟨b, 0, none⟩) n n xs := by
  subst hn
  refine ⟨rfl, h9, fun k hk => ⟨_, rfl, ?_⟩⟩
  unfold nmV at hv
  rw [add_off, h.cell k, ← Array.getElem?_toList, hv, List.getElem?_map, List.getElem?_eq_getElem hk, List.getD_eq_getElem?_getD, List.getElem?_eq_getElem hk]
  rfl
theorem Ss.ofOwn {w : World} {base : Nat} {v : Value} {xs : List (Fin 5)} (h : w.ownsRow base 9 1 v xs.length (nmV xs)) (hl : xs.length ≤ 1000000) : ∃ ao cap, v = .slice ao xs.length cap ∧ Ss w ao xs.length cap xs := by
  rcases id h.2 with ⟨hv, h0⟩ | ⟨g, cap, cur, hv, _, hg, hnc, _⟩
  · exact ⟨none, 0, by rw [hv, h0], rfl, hl, fun k hk => by omega⟩
  · refine ⟨_, cap, hv, rfl, hl, fun k hk => ⟨_, rfl, ?_⟩⟩
    subst hv
    have c0 := World.ownsRow.cellAt h k (by omega)
    rw [add_off]
    refine c0.trans ?_
    unfold nmV
    rw [List.getElem?_map, List.getElem?_eq_getElem hk, List.getD_eq_getElem?_getD, List.getElem?_eq_getElem hk]
    rfl
/-- How a call ends that answers the names of s. -/
def NamesRet (s : Nat) (w : World) (e : Ending) (w' : World) : Prop := ∃ ao cap, e = .returned (.slice ao (namesN s).length cap) ∧ Ss w' ao (namesN s).length cap (namesN s) ∧ Below w.heap.size w w'
theorem infoS : (Tryd.prog.info? 9).map (fun i => (i.zero, i.size, i.bytes)) = some (some (.string ⟨#[]⟩), 1, 16) := by kernel_rfl
/-- What the loop of Names keeps of its own cells. -/
def NamesI (w : World) (s U : Nat) (pre : List (Fin 5)) (W : World) : Prop :=
  ((∃ v, Boxed W s 28 v ∧ W.ownsRow s 9 1 v pre.length (nmV pre) ∧ True) ∧ HB W (s + 1) 23 #[.int .u8 (U : Int)]) ∧ Below s w W

attribute [local go_sem] Oper.semAt_some
set_option maxRecDepth 100000 in
set_option maxHeartbeats 4000000 in
theorem names_in (nn : Nat) (hn : 3 ≤ nn) (U : Nat) (hU2 : U < 256) (w : World) (nt : NTab w) :
    CallsIn Fence.wide nn Tryd.prog 13 #[.int .u8 (U : Int)] w (NamesRet U w) := by
  have h1 : 1 ≤ nn := by omega
  obtain ⟨i0, hi, hz0, hz1, hz2⟩ := info_parts infoS
  have NT := Lib.hid nt
  clear nt
  refine callsIn_of_wp_marks Tryd.func13 rfl trivial ?_ rfl
  simp only [Tryd.ntmps13, List.size_toArray, List.length_cons, List.length_nil, Nat.reduceAdd, Nat.reduceSub, Array.replicate_succ, Array.replicate_zero, List.push_toArray, List.append_toArray, List.nil_append, List.cons_append]
  gi_wp2
  refine ⟨trivial, (callsIn_wide.2 (flags_any _ _)).mono ?_⟩
  rintro e w2 ⟨rfl, rfl⟩
  gi_wp2
  have b0 : Boxed ((w.alloc (.cells #[.slice none 0 0] 28)).alloc (.cells #[.int .u8 (U : Int)] 23)) w.heap.size 28 (.slice none 0 0) := (Boxed.new w _ _).alloc _
  have b1 : HB ((w.alloc (.cells #[.slice none 0 0] 28)).alloc (.cells #[.int .u8 (U : Int)] 23)) (w.heap.size + 1) 23 #[.int .u8 (U : Int)] := HB.newAt (by simp) _ _
  have kB : Below w.heap.size w ((w.alloc (.cells #[.slice none 0 0] 28)).alloc (.cells #[.int .u8 (U : Int)] 23)) := bA (bA (Below.refl _ _) _) _
  have hl5 := upS_length U 5
  refine wpIn_rangeFunc_ownG rfl h1 (gf := 19) (lb := #[.pointer (some ⟨w.heap.size + 1, 0, none⟩)]) rfl trivial (enters_of Tryd.func19 (by kernel_rfl) rfl)
    (flags_stops (nn - 1) (by omega) (w.heap.size + 1) U hU2 _ (NT.out.later kB) b1) Keeps1.t (Keeps1.b b1.lt) (Below.refl _ _) (fun _ => rfl)
    (NamesI w w.heap.size U) (fun _ _ _ => False)
    (OwnFrom.and (OwnFrom.and (Own.from (holdsRow_own w.heap.size w.heap.size 28 9 1 (fun pre : List (Fin 5) => pre.length) nmV (fun _ _ => True)) _) (Own.from (hb_own _ _ (fun _ => _)) _)) (ownFrom_below (Nat.le_refl _) (by simp; omega)))
    (fun _ _ _ _ _ hs _ _ => hs) ⟨⟨⟨_, b0, World.ownsRow_nil _ _ _ _, trivial⟩, b1⟩, kB⟩
    (fun x => { tmps := #[.int .u8 (U : Int), undef, .slice none 0 0, .pointer (some ⟨w.heap.size, 0, none⟩), undef, .string (nmB x), .int .u8 (U : Int), .func (.func 19) #[] #[.pointer (some ⟨w.heap.size + 1, 0, none⟩)], .int .u8 ((2 ^ x.val : Nat) : Int), .string (nmB x), undef, undef, undef, undef, undef], defers := [] })
    ?assign ?body ?done ?stop
  case assign =>
    intro l x W K hK
    dsimp only [encF]
    gi_wp2
    exact hK
  case body =>
    rintro l pre x W ⟨⟨⟨v, hv, hrow, _⟩, y1⟩, hB⟩ hlt
    try dsimp only
    have hc := hv.cell
    obtain ⟨u, hu⟩ : ∃ u, nmB x = u := ⟨_, rfl⟩
    have hs : nmV (pre ++ [x]) = nmV pre ++ [.string u] := by rw [← hu]; simp [nmV]
    have HS := Lib.hid hs
    rw [hu]
    clear hs hl5
    gi_wp2_with (gi_at_builtin; refine wpListIn_append_own _ rfl _ _ 28 rfl w.heap.size 9 i0 (.string ⟨#[]⟩) 1 16 Tryd.underlying28 hi hz0 hz1 hz2 rfl (by decide) _ _ _ rfl (hrow.alloc _) ⟨W.heap.size, 0, none⟩ 1 1 [.string u] rfl rfl (cell_one_new _ _ _) (by simp [Value.oneCell']) (by unfold maxLen; omega) (by omega) (by have := hB.size; simp; omega) ?_; intro v' w1 hown' hgrow _; obtain ⟨g', cap', rfl⟩ := ownsRow_succ hown'; obtain ⟨hv1, hv2, hr2, hk2, hb2⟩ := hv.appended (by decide) hrow hB.size (Nat.le_refl _) hown' hgrow; have z1 := HB.other (B' := w.heap.size) (HB.kept (y1.alloc _) hgrow (Boxed.not_row (u := .int .u8 (U : Int)) y1 (by decide) hrow)) (by omega) 0 (.slice (some ⟨g', 0, none⟩) (pre.length + 1) cap'); have hc1 := hv1.cell; have hf1 := hv1.frozen)
    exact ⟨hk2.from _, Keeps1.of y1 z1, ⟨⟨_, hv2, by rw [HS.out]; simpa using hr2, trivial⟩, z1⟩, hB.trans hb2⟩
  case done =>
    rintro D ys W hD rfl ⟨⟨⟨v, hv, hrow, _⟩, y1⟩, hB⟩ hK
    have hc := hv.cell
    have HR := Lib.hid hrow
    have KY := Lib.hid (And.intro hK (And.intro hB hD))
    clear hrow y1 hB hK hD hl5
    gi_wp2
    obtain ⟨hK, hB, hD⟩ := KY.out
    refine ⟨by simp, .inl ⟨_, _, rfl, run_takeDeferred hK, ?_⟩⟩
    have hl5 : (namesN U).length ≤ 5 := upS_length U 5
    obtain ⟨ao, cap, rfl, hS⟩ := Ss.ofOwn (ownsRow_putObj HR.out (.deferred none) hK rfl) (by omega)
    exact ⟨_, results_tmp rfl _ _ _, ao, cap, rfl, hS, hB.trans (belowK_b (w := w) (Nat.le_refl _) W D _ _ (by simp at hD; omega) hK rfl rfl)⟩
  case stop =>
    rintro D c pre W _ _ h _
    exact h.elim
theorem flag_names (s : Nat) (hs : s < 256) (w : World) (nt : NTab w) : Calls Tryd.prog 13 #[.int .u8 s] w (NamesRet s w) :=
  (callsIn_wide (n := 3)).1 (names_in 3 (by omega) s hs w nt)

end Go.Proofs.YteobcedcgkfmjaaDoor
