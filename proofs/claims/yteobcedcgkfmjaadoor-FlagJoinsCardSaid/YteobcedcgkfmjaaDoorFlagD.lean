/-
  Package flag: Join, Good, Names: loops over the iterator.
-/
import Derived.Test.YteobcedcgkfmjaaDoorFlagC
set_option linter.unusedVariables false
set_option linter.unusedSimpArgs false
set_option maxRecDepth 100000
namespace Go.Proofs.YteobcedcgkfmjaaDoor
open Go.RowKit Go.Shelf
attribute [local go_sem] Oper.semAt_some

/-- The slice '(ao, n, cap)' reads as the sets xs. -/
def Fs (w : World) (ao : Option Addr) (n cap : Nat) (xs : List Nat) : Prop :=
  n = xs.length ∧ n ≤ cap ∧ (n ≤ 9223372036854775807 ∧ (ao = none → n = 0 ∧ cap = 0)) ∧ (∀ x ∈ xs, x < 256) ∧ ∀ k, k < n → ∃ a, ao = some a ∧ w.cell? (a.add k) = some (.int .u8 ((xs.getD k 0 : Nat) : Int))
theorem Fs.later {W w1 : World} {ao : Option Addr} {n cap : Nat} {xs : List Nat} (x : Fs W ao n cap xs) (hb : Below W.heap.size W w1) : Fs w1 ao n cap xs := by
  obtain ⟨h1, h2, h3, h5, h4⟩ := x
  refine ⟨h1, h2, h3, h5, fun k hk => ?_⟩
  obtain ⟨a, e, c0⟩ := h4 k hk
  exact ⟨a, e, cell_later hb c0⟩
theorem add_off (b k : Nat) : (⟨b, 0, none⟩ : Addr).add k = ⟨b, k, none⟩ := by unfold Addr.add; by_cases h : k = 0 <;> simp [h]
theorem Fs.ofHB {w : World} {b : Nat} {t : TypeId} {vs : Array Value} (n : Nat) (xs : List Nat) (h : HB w b t vs) (hn : n = xs.length) (h9 : xs.length ≤ 1000000) (hv : vs.toList = xs.map fun x => .int .u8 ((x : Nat) : Int)) (hx : ∀ x ∈ xs, x < 256) : Fs w (some ⟨b, 0, none⟩) n n xs := by
  subst hn
  refine ⟨rfl, Nat.le_refl _, ⟨by omega, fun e => by cases e⟩, hx, fun k hk => ⟨_, rfl, ?_⟩⟩
  rw [add_off, h.cell k, ← Array.getElem?_toList, hv, List.getElem?_map, List.getElem?_eq_getElem hk, List.getD_eq_getElem?_getD, List.getElem?_eq_getElem hk]
  rfl
theorem Fs.nil (w : World) : Fs w none 0 0 [] := ⟨rfl, Nat.le_refl _, ⟨by omega, fun _ => ⟨rfl, rfl⟩⟩, (fun x h => by cases h), fun k hk => by omega⟩
theorem getD_lt {xs : List Nat} (h : ∀ x ∈ xs, x < 256) {k : Nat} (hk : k < xs.length) : xs.getD k 0 < 256 := by
  rw [List.getD_eq_getElem?_getD, List.getElem?_eq_getElem hk]; exact h _ (List.getElem_mem _)
theorem orL_take {xs : List Nat} (h : ∀ x ∈ xs, x < 256) (k : Nat) : orL (xs.take k) < 256 := orL_lt (n := 8) fun x hx => h x (List.mem_of_mem_take hx)
theorem orL_take_succ {xs : List Nat} {k : Nat} (hk : k < xs.length) : orL (xs.take (k + 1)) = orL (xs.take k) ||| xs.getD k 0 := by
  rw [List.take_add_one, List.getElem?_eq_getElem hk, List.getD_eq_getElem?_getD, List.getElem?_eq_getElem hk]
  exact orL_snoc _ _

/-- What the loop of Join keeps of its own cells. -/
def JoinI (w : World) (s U : Nat) (pre : List (Fin 5)) (W : World) : Prop :=
  (HB W s 23 #[.int .u8 ((setN pre : Nat) : Int)] ∧ HB W (s + 1) 23 #[.int .u8 (U : Int)]) ∧ Below s w W

set_option maxRecDepth 100000 in
set_option maxHeartbeats 4000000 in
theorem join_in (nn : Nat) (hn : 3 ≤ nn) (ao : Option Addr) (n cap : Nat) (xs : List Nat) (w : World) (nt : NTab w) (x : Fs w ao n cap xs) :
    CallsIn Fence.wide nn Tryd.prog 8 #[.slice ao n cap] w fun e w' => e = .returned (.int .u8 ((joinN xs : Nat) : Int)) ∧ Below w.heap.size w w' := by
  have h1 : 1 ≤ nn := by omega
  have HX := Lib.hid x
  have NT := Lib.hid nt
  obtain ⟨r, hr⟩ : ∃ r, joinN xs = r := ⟨_, rfl⟩
  rw [hr]
  clear x nt
  refine callsIn_of_wp_marks Tryd.func8 rfl trivial ?_ rfl
  simp only [Tryd.ntmps8, List.size_toArray, List.length_cons, List.length_nil, Nat.reduceAdd, Nat.reduceSub, Array.replicate_succ, Array.replicate_zero, List.push_toArray, List.append_toArray, List.nil_append, List.cons_append]
  gi_wp2
  gi_loopw [3, 10] (fun u i wr => ∃ k : Nat, k ≤ n ∧ i = .int .i64 k ∧ u = .int .u8 ((orL (xs.take k) : Nat) : Int) ∧ wr = w.alloc (.cells #[.int .u8 0] 23)) (fun _ i _ => n - (intOf i).toNat)
  case atStart => exact ⟨0, by omega, rfl, rfl, rfl⟩
  case round =>
    obtain ⟨k, hk, rfl, rfl, rfl⟩ := hrel
    have hx := HX.out
    obtain ⟨g1, g2, g3, g5, g4⟩ := hx
    by_cases hlt : k < n
    · obtain ⟨a, hao, c0⟩ := g4 k hlt
      subst hao
      replace c0 := cell_later (bA (Below.refl _ _) (.cells #[.int .u8 0] 23)) c0
      have su := orL_take_succ (xs := xs) (k := k) (by omega)
      have ob := bits_or_u8 (orL_take g5 k) (getD_lt g5 (k := k) (by omega))
      rw [← su] at ob
      obtain ⟨y, hy⟩ : ∃ y, xs.getD k 0 = y := ⟨_, rfl⟩
      rw [hy] at c0 ob
      have gk : decide ((k : Int) < (n : Int)) = true := by simp; omega
      have inc : IntKind.i64.wrap ((k : Int) + 1) = ((k + 1 : Nat) : Int) := by rw [IntKind.wrap_i64]; omega
      clear su g1 g2 g4 g5 hy
      gi_wp2
      go_roundw
      case rel => exact ⟨k + 1, by omega, by first | trivial | go_num, by first | trivial | rw [ob], by first | trivial | rfl⟩
      case measure => simp [intOf]; omega
    · have gk : decide ((k : Int) < (n : Int)) = false := by simp; omega
      have hkn : k = n := by omega
      subst hkn
      have hU : orL (xs.take k) = orL xs := by rw [g1, List.take_length]
      have hU2 : orL xs < 256 := by have := orL_take g5 k; rwa [hU] at this
      rw [hU]
      have HJ := Lib.hid (show orL xs % 32 = r from hr)
      clear hr
      generalize orL xs = U at *
      clear g1 g2 g3 g4 g5 HX hU hlt hk
      gi_wp2
      refine ⟨trivial, (callsIn_wide.2 (flags_any _ _)).mono ?_⟩
      rintro e w2 ⟨rfl, rfl⟩
      gi_wp2
      have b0 : HB ((w.alloc (.cells #[.int .u8 0] 23)).alloc (.cells #[.int .u8 (U : Int)] 23)) w.heap.size 23 #[.int .u8 ((setN [] : Nat) : Int)] := (HB.new w _ _).alloc _
      have b1 : HB ((w.alloc (.cells #[.int .u8 0] 23)).alloc (.cells #[.int .u8 (U : Int)] 23)) (w.heap.size + 1) 23 #[.int .u8 (U : Int)] := HB.newAt (by simp) _ _
      have kB : Below w.heap.size w ((w.alloc (.cells #[.int .u8 0] 23)).alloc (.cells #[.int .u8 (U : Int)] 23)) := bA (bA (Below.refl _ _) _) _
      refine wpIn_rangeFunc_ownG rfl h1 (gf := 19) (lb := #[.pointer (some ⟨w.heap.size + 1, 0, none⟩)]) rfl trivial (enters_of Tryd.func19 (by kernel_rfl) rfl)
        (flags_stops (nn - 1) (by omega) (w.heap.size + 1) U hU2 _ (NT.out.later kB) b1) Keeps1.t (Keeps1.b b1.lt) (Below.refl _ _) (fun _ => rfl)
        (JoinI w w.heap.size U) (fun _ _ _ => False)
        (OwnFrom.and (OwnFrom.and (Own.from (hb_own _ _ (fun pre => #[.int .u8 ((setN pre : Nat) : Int)])) _) (Own.from (hb_own _ _ (fun _ => _)) _)) (ownFrom_below (Nat.le_refl _) (by simp; omega)))
        (fun _ _ _ _ _ hs _ _ => hs) ⟨⟨b0, b1⟩, kB⟩ (fun x => { tmps := #[.slice ao k cap, undef, .int .u8 0, .int .u8 (U : Int), .pointer (some ⟨w.heap.size, 0, none⟩), undef, u6, .int .u8 ((2 ^ x.val : Nat) : Int), .slice ao k cap,
          .int .i64 (k : Int), .int .i64 (k : Int), .bool false, u12, u13, u14, u15, u16, u17, .int .u8 (U : Int), .func (.func 19) #[] #[.pointer (some ⟨w.heap.size + 1, 0, none⟩)], .int .u8 ((2 ^ x.val : Nat) : Int), .string (nmB x), undef, undef, undef, undef], defers := [] })
        ?assign ?body ?done ?stop
      case assign =>
        intro l x W K hK
        dsimp only [encF]
        gi_wp2
        exact hK
      case body =>
        rintro l pre x W ⟨⟨y0, y1⟩, kk⟩ hlt
        try dsimp only
        have c0 := y0.cell 0; have f0 := y0.frozen 0
        dsimp at c0
        have ob := bits_or_u8 (a := setN pre) (b := 2 ^ x.val) (by have := setN_lt pre; omega) (by have := pow_fin x; omega)
        rw [← setN_snoc] at ob
        have KEY : KeepsFrom ((w.alloc (.cells #[.int .u8 0] 23)).alloc (.cells #[.int .u8 (U : Int)] 23)).heap.size W (W.setCell ⟨w.heap.size, 0, none⟩ (.int .u8 ((setN (pre ++ [x]) : Nat) : Int))) ∧ Keeps1 (w.heap.size + 1) W (W.setCell ⟨w.heap.size, 0, none⟩ (.int .u8 ((setN (pre ++ [x]) : Nat) : Int))) ∧ JoinI w w.heap.size U (pre ++ [x]) (W.setCell ⟨w.heap.size, 0, none⟩ (.int .u8 ((setN (pre ++ [x]) : Nat) : Int))) :=
          ⟨(KeepsOthers.setCell _ _ _).from _, Keeps1.of y1 (y1.other (by omega) _ _), ⟨y0.set 0 _, y1.other (by omega) _ _⟩, kk.setCell (p := ⟨w.heap.size, 0, none⟩) (Nat.le_refl _) _⟩
        have KY := Lib.hid KEY
        generalize setN (pre ++ [x]) = sN at *
        generalize setN pre = sP at *
        generalize 2 ^ x.val = sX at *
        clear KEY y0 y1 kk b0 b1 kB
        gi_wp2
        exact KY.out
      case done =>
        rintro D zs W hD rfl ⟨⟨y0, y1⟩, kk⟩ hK
        have c0 := y0.cell 0
        dsimp at c0
        rw [set_up U hU2, HJ.out] at c0
        have KY := Lib.hid (And.intro hK (And.intro kk hD))
        clear y0 y1 b0 b1 kB hK kk hD
        gi_wp2
        obtain ⟨hK, kk, hD⟩ := KY.out
        refine ⟨by simp, .inl ⟨_, _, rfl, run_takeDeferred hK, ?_⟩⟩
        exact ⟨_, results_tmp rfl _ _ _, rfl, kk.trans (belowK_b (w := w) (Nat.le_refl _) W D _ _ (by simp at hD; omega) hK rfl rfl)⟩
      case stop =>
        rintro D c pre W _ _ h _
        exact h.elim

theorem flag_join (ao : Option Addr) (n cap : Nat) (xs : List Nat) (w : World) (nt : NTab w) (x : Fs w ao n cap xs) :
    Calls Tryd.prog 8 #[.slice ao n cap] w fun e w' => e = .returned (.int .u8 ((joinN xs : Nat) : Int)) ∧ Below w.heap.size w w' :=
  (callsIn_wide (n := 3)).1 (join_in 3 (by omega) ao n cap xs w nt x)

end Go.Proofs.YteobcedcgkfmjaaDoor
