/-
  Contract of root.Root: a range over the powers of 2.
-/
import Derived.Test.YtbibinmjipcdjaaRootI
set_option linter.unusedVariables false
set_option linter.unusedSimpArgs false
set_option maxRecDepth 100000
namespace Go.Proofs.Ytbibinmjipcdjaa
open Go.RowKit Go.Shelf
attribute [local go_sem] Oper.semAt_some

/-! ### Arithmetic -/
def stepR (n r : Int) (x : Fin 128) : Int := if (r + 2 ^ x.val) % full * ((r + 2 ^ x.val) % full) ≤ n % wfull then r + 2 ^ x.val else r
def stR (n : Int) (pre : List (Fin 128)) : Int := pre.foldl (stepR n) 0
theorem stR_snoc (n : Int) (pre : List (Fin 128)) (x : Fin 128) : stR n (pre ++ [x]) = stepR n (stR n pre) x := by simp [stR]
theorem root_full {a r : Int} (h0 : 0 ≤ r) (h : r * r ≤ a) (h1 : a < wfull) : r < full := by
  rcases Int.lt_or_le r full with g | g
  · exact g
  · exfalso
    have h2 := sq_le (r := full) (by decide) g
    rw [show full * full = wfull from by decide +kernel] at h2
    omega
theorem stR_top (n : Int) : ∀ j k : Nat, j + k = 128 → RootAt (n % wfull) (stR n (topR j)) k ∧ ∃ q, stR n (topR j) = 2 ^ k * q := by
  have m := mod_w n
  intro j
  induction j with
  | zero =>
    intro k hk
    obtain rfl : k = 128 := by omega
    refine ⟨⟨Int.le_refl _, m.1, ?_⟩, 0, rfl⟩
    show n % wfull < (0 + 2 ^ 128) * (0 + 2 ^ 128)
    rw [Int.zero_add, show (2 : Int) ^ 128 * 2 ^ 128 = wfull from by decide +kernel]; exact m.2
  | succ j ih =>
    intro k hk
    obtain ⟨h, q, hq⟩ := ih (k + 1) (by omega)
    have kx : (Fin.ofNat 128 (127 - j)).val = k := by show (127 - j) % 128 = k; omega
    rw [show topR (j + 1) = topR j ++ [Fin.ofNat 128 (127 - j)] from rfl, stR_snoc]
    unfold stepR
    rw [kx]
    generalize stR n (topR j) = r at *
    have hp := two_pow_pos k
    have hr := root_full h.1 h.2.1 m.2
    have hs : 0 ≤ r + 2 ^ k ∧ r + 2 ^ k < full := by
      have e : full = 2 ^ (k + 1) * 2 ^ (127 - k) := by rw [← full_pow, ← Int.pow_add]; congr 1; omega
      have hq1 : q < 2 ^ (127 - k) := by
        rw [hq, e] at hr
        exact Int.lt_of_mul_lt_mul_left hr (by have := two_pow_pos (k + 1); omega)
      have hq2 := Int.mul_le_mul_of_nonneg_left (show q + 1 ≤ 2 ^ (127 - k) by omega) (show (0 : Int) ≤ 2 ^ (k + 1) by have := two_pow_pos (k + 1); omega)
      rw [← e, Int.mul_add, ← hq, Int.mul_one, Int.pow_succ] at hq2
      have := h.1
      omega
    rw [Int.emod_eq_of_lt hs.1 hs.2]
    by_cases g : (r + 2 ^ k) * (r + 2 ^ k) ≤ n % wfull
    · rw [if_pos g]
      exact ⟨root_yes h g, 2 * q + 1, by rw [hq, Int.pow_succ, Int.mul_add, Int.mul_one, Int.mul_assoc]⟩
    · rw [if_neg g]
      exact ⟨root_no h (by omega), 2 * q, by rw [hq, Int.pow_succ, Int.mul_assoc]⟩
theorem stR_root (n : Int) : stR n (topR 128) = rootN (n % wfull) :=
  root_unique (stR_top n 128 0 (by omega)).1 (root_spec (mod_w n).1 (mod_w n).2)
theorem cmpI_leq (a b : Int) : decide (cmpI a b ≤ 0) = decide (a ≤ b) := by
  unfold cmpI
  split
  · rename_i h; simp; omega
  · split <;> rename_i h1 h2 <;> simp <;> omega

/-! ### What the loop keeps -/
def RI (w : World) (B : Nat) (n : Int) (pre : List (Fin 128)) (W : World) : Prop :=
  ((HB W w.heap.size 24 #[.int .u64 (wd0 n), .int .u64 (wd1 n), .int .u64 (wd2 n), .int .u64 (wd3 n)] ∧ HB W (w.heap.size + 1) 26 #[.int .u64 0, .int .u64 0]) ∧ HB W (w.heap.size + 1 + 1) 26 #[.int .u64 (hiOf (stR n pre)), .int .u64 (loOf (stR n pre))]) ∧
  (Below w.heap.size w W ∧ B ≤ W.heap.size)
theorem RI.later {w W V : World} {B : Nat} {n : Int} {pre pre' : List (Fin 128)} (hI : RI w B n pre W) (hb : Below W.heap.size W V) (h : stR n pre' = stR n pre) : RI w B n pre' V := by
  obtain ⟨⟨⟨g0, g1⟩, g2⟩, hB1, hle⟩ := hI
  refine ⟨⟨⟨g0.later hb, g1.later hb⟩, ?_⟩, bC hB1 hb, Nat.le_trans hle hb.size⟩
  rw [h]; exact g2.later hb
theorem rend_no {w W V : World} {B : Nat} {n : Int} {pre pre' : List (Fin 128)} (hI : RI w B n pre W) (hb : Below W.heap.size W V) (h : stR n pre' = stR n pre) : KeepsFrom B W V ∧ True ∧ RI w B n pre' V :=
  ⟨KeepsFrom.of_grownBy (grownOf hb) (fun j e => by cases e), trivial, hI.later hb h⟩
theorem rend_yes {w W V : World} {B : Nat} {n t : Int} {pre pre' : List (Fin 128)} (hI : RI w B n pre W) (hb : Below W.heap.size W V) (h : stR n pre' = t) :
    KeepsFrom B W ((V.setCell ⟨w.heap.size + 1 + 1, 0, none⟩ (.int .u64 (hiOf t))).setCell ⟨w.heap.size + 1 + 1, 1, none⟩ (.int .u64 (loOf t))) ∧ True ∧ RI w B n pre' ((V.setCell ⟨w.heap.size + 1 + 1, 0, none⟩ (.int .u64 (hiOf t))).setCell ⟨w.heap.size + 1 + 1, 1, none⟩ (.int .u64 (loOf t))) := by
  subst h
  obtain ⟨⟨⟨g0, g1⟩, g2⟩, hB1, hle⟩ := hI.later hb rfl
  have ko := (KeepsOthers.setCell V ⟨w.heap.size + 1 + 1, 0, none⟩ (.int .u64 (hiOf (stR n pre')))).trans (KeepsOthers.setCell _ ⟨w.heap.size + 1 + 1, 1, none⟩ (.int .u64 (loOf (stR n pre'))))
  refine ⟨(KeepsFrom.of_grownBy (grownOf hb) (fun j e => by cases e)).trans (ko.from _), trivial, ⟨⟨(g0.other (by omega) _ _).other (by omega) _ _, (g1.other (by omega) _ _).other (by omega) _ _⟩, (g2.set 0 _).set 1 _⟩, ?_, Nat.le_trans hle ko.1⟩
  exact (hB1.setCell (p := ⟨w.heap.size + 1 + 1, 0, none⟩) (by show w.heap.size ≤ w.heap.size + 1 + 1; omega) _).setCell (p := ⟨w.heap.size + 1 + 1, 1, none⟩) (by show w.heap.size ≤ w.heap.size + 1 + 1; omega) _

/-- Behind the loop. -/
def RS (w : World) (D : Nat) (n R : Int) (bs : List Bool) (_ : List Value) (W : World) : Prop :=
  HB W w.heap.size 24 #[.int .u64 (wd0 n), .int .u64 (wd1 n), .int .u64 (wd2 n), .int .u64 (wd3 n)] ∧ HB W (w.heap.size + 1 + 1) 26 #[.int .u64 (hiOf R), .int .u64 (loOf R)] ∧
  Below w.heap.size w W ∧ W.heap[D]? = some (.deferred (some [])) ∧ (noBits bs → HB W (w.heap.size + 1) 26 #[.int .u64 0, .int .u64 0]) ∧ (¬ noBits bs → HB W (w.heap.size + 1) 26 #[.int .u64 (hiOf R), .int .u64 (loOf R)])
theorem RS.later {w W V : World} {D : Nat} {n R : Int} {bs : List Bool} {vs : List Value} (h : RS w D n R bs vs W) (hb : Below W.heap.size W V) : RS w D n R bs vs V := by
  obtain ⟨a, b, c, d, e, f⟩ := h
  exact ⟨a.later hb, b.later hb, bC c hb, (hb.block D (Array.getElem?_eq_some_iff.1 d).1).trans d, fun h => (e h).later hb, fun h => (f h).later hb⟩
theorem RS.drew {w W : World} {D : Nat} {n R : Int} {bs : List Bool} {vs : List Value} (h : RS w D n R bs vs W) : RS w D n R bs vs W.drew := h.later (Below.refl _ _).drew
theorem RS.store {w W : World} {D : Nat} {n R : Int} {vs vs' : List Value} (hD : w.heap.size + 3 ≤ D) (h : RS w D n R [false] vs W) : RS w D n R [true] vs' ((W.setCell ⟨w.heap.size + 1, 0, none⟩ (.int .u64 (hiOf R))).setCell ⟨w.heap.size + 1, 1, none⟩ (.int .u64 (loOf R))) := by
  obtain ⟨a, b, c, d, e, f⟩ := h
  refine ⟨(a.other (by omega) _ _).other (by omega) _ _, (b.other (by omega) _ _).other (by omega) _ _, ?_, ?_, fun h => (bits_t h).elim, fun _ => ((e noBits_f).set 0 _).set 1 _⟩
  · exact (c.setCell (p := ⟨w.heap.size + 1, 0, none⟩) (by show w.heap.size ≤ w.heap.size + 1; omega) _).setCell (p := ⟨w.heap.size + 1, 1, none⟩) (by show w.heap.size ≤ w.heap.size + 1; omega) _
  · have n1 : D ≠ w.heap.size + 1 := by omega
    exact (Below.heap_setCell _ ⟨w.heap.size + 1, 1, none⟩ _ D n1).trans ((Below.heap_setCell _ ⟨w.heap.size + 1, 0, none⟩ _ D n1).trans d)
theorem RS.fin {w W : World} {D : Nat} {n R : Int} {vs : List Value} (hD : w.heap.size + 3 ≤ D) (h : RS w D n R [true] vs W) :
    HB (W.putObj D (.deferred none)) (w.heap.size + 1) 26 #[.int .u64 (hiOf R), .int .u64 (loOf R)] ∧ W.heap[D]? = some (.deferred (some [])) ∧ Below w.heap.size w (W.putObj D (.deferred none)) := by
  obtain ⟨a, b, c, d, e, f⟩ := h
  exact ⟨(World.putObj_heap_other (by omega)).trans (f bits_t), d, c.trans (belowK_b (w := w) (Nat.le_refl _) _ D _ _ (by omega) d rfl rfl)⟩

set_option maxRecDepth 100000 in
set_option maxHeartbeats 8000000 in
theorem root_in (nn : Nat) (hn : 3 ≤ nn) (n : Int) (w : World) :
    CallsIn Fence.wide nn Try.prog 9 #[.agg #[.int .u64 (wd0 n), .int .u64 (wd1 n), .int .u64 (wd2 n), .int .u64 (wd3 n)]] w fun e w' =>
      e = .returned (.tuple #[.agg #[.int .u64 (hiOf (rootN (n % wfull))), .int .u64 (loOf (rootN (n % wfull)))], .bool (exactN (n % wfull))]) ∧ Below w.heap.size w w' := by
  have h1 : 1 ≤ nn := by omega
  have hr := root_range (mod_w n).1 (mod_w n).2
  obtain ⟨RR, hRR⟩ : ∃ R, rootN (n % wfull) = R := ⟨_, rfl⟩
  obtain ⟨ex, hex⟩ : ∃ ex, exactN (n % wfull) = ex := ⟨_, rfl⟩
  rw [hRR] at hr
  rw [hRR, hex]
  refine callsIn_of_wp_marks Try.func9 rfl trivial ?_ rfl
  simp only [Try.ntmps9, List.size_toArray, List.length_cons, List.length_nil, Nat.reduceAdd, Nat.reduceSub, Array.replicate_succ, Array.replicate_zero, List.push_toArray, List.append_toArray, List.nil_append, List.cons_append]
  gi_wp2
  obtain ⟨W0, hW0⟩ : ∃ W0, ((w.alloc (.cells #[.int .u64 (wd0 n), .int .u64 (wd1 n), .int .u64 (wd2 n), .int .u64 (wd3 n)] 24)).alloc (.cells #[.int .u64 0, .int .u64 0] 26)).alloc (.cells #[.int .u64 0, .int .u64 0] 26) = W0 := ⟨_, rfl⟩
  have hI0 : RI w W0.heap.size n [] W0 := by
    subst hW0
    exact ⟨⟨⟨((HB.new w _ _).alloc _).alloc _, (HB.newAt (by simp) _ _).alloc _⟩, HB.newAt (by simp) _ _⟩, bA (bA (bA (Below.refl _ _) _) _) _, Nat.le_refl _⟩
  have hsz : W0.heap.size = w.heap.size + 3 := by subst hW0; simp
  rw [hW0]
  clear hW0
  refine wpIn_rangeFunc_ownH rfl h1 (gf := 22) (lb := #[]) rfl trivial (enters_of Try.func22 (by kernel_rfl) rfl)
    (places_stops (nn - 1) (by omega) W0) (fun _ _ => trivial) (fun _ _ _ _ _ _ _ _ => trivial) (Below.refl _ _) (fun _ => rfl)
    (RI w W0.heap.size n) (fun _ _ _ => False)
    (OwnFrom.and (OwnFrom.and (OwnFrom.and (Own.from (hb_own _ _ (fun _ => _)) _) (Own.from (hb_own _ _ (fun _ => _)) _)) (Own.from (hb_own _ _ _) _)) (OwnFrom.and (ownFrom_below (Nat.le_refl _) (by omega)) (fun _ X Y row hs hg hr => Nat.le_trans hs hg.size)))
    (fun _ _ _ _ _ hs _ _ => hs)
    hI0
    (fun x a' W => ∃ Bx, w.heap.size + 3 ≤ Bx ∧ HB W Bx 26 #[.int .u64 (hiOf (2 ^ x.val)), .int .u64 (loOf (2 ^ x.val))] ∧ a' = { tmps := #[.agg #[.int .u64 (wd0 n), .int .u64 (wd1 n), .int .u64 (wd2 n), .int .u64 (wd3 n)], .pointer (some ⟨w.heap.size, 0, none⟩), .pointer (some ⟨w.heap.size + 1, 0, none⟩), .bool false, .pointer (some ⟨w.heap.size + 1 + 1, 0, none⟩), .pointer (some ⟨Bx, 0, none⟩), undef, undef, .agg #[.int .u64 (hiOf (2 ^ x.val)), .int .u64 (loOf (2 ^ x.val))],
      undef, undef, undef, undef, undef, undef, undef, undef, undef, undef, undef, undef, undef, undef, undef, undef, undef, undef, undef], defers := [] })
    (fun x a' _ X Y row hs hg hr => by obtain ⟨Bx, h1, h2, h3⟩ := hs; exact ⟨Bx, h1, hb_own Bx _ (fun (_ : Unit) => #[Value.int .u64 (hiOf (2 ^ x.val)), Value.int .u64 (loOf (2 ^ x.val))]) () X Y row h2 hg (fun r e => (hr r e).2), h3⟩)
    ?assign ?body ?done ?stop
  case assign =>
    rintro l pre x W K hI hK
    dsimp only [encP]
    gi_wp2
    exact hK _ _ ((KeepsOthers.alloc _ _).from _) trivial (hI.later ((Below.refl _ _).alloc (Nat.le_refl _) _) rfl) ⟨W.heap.size, by have := hI.2.2; omega, HB.new W _ _, rfl⟩
  case body =>
    rintro l pre x a' W hl ⟨r, hr⟩ hI ⟨Bx, hBx, gX, rfl⟩ hlt
    have hmx : Try.prog.follows .mixedOrders = true := by kernel_rfl
    have hI2 := hI
    obtain ⟨⟨⟨g0, g1⟩, g2⟩, hB1, hle⟩ := hI2
    have key : stR n (pre ++ [x]) = if (stR n pre + 2 ^ x.val) % full * ((stR n pre + 2 ^ x.val) % full) ≤ n % wfull then stR n pre + 2 ^ x.val else stR n pre := stR_snoc n pre x
    have HI := Lib.hid hI
    have KEY := Lib.hid key
    obtain ⟨R, hR⟩ : ∃ R, stR n pre = R := ⟨_, rfl⟩
    obtain ⟨p, hp⟩ : ∃ p : Int, 2 ^ x.val = p := ⟨_, rfl⟩
    rw [hR] at g2
    rw [hp] at gX ⊢
    have x0 := gX.cell 0; have x1 := gX.cell 1; have r0 := g2.cell 0; have r1 := g2.cell 1; dsimp at x0 x1 r0 r1
    clear hI key gX hr
    gi_wp2
    refine ⟨trivial, fun _ => by omega, (CallsIn.inRound l (callsIn_wide.2 (addB R p _))).mono ?_⟩
    rintro e W1 ⟨rfl, hb⟩
    replace g0 := g0.later hb
    clear x0 x1 r0 r1
    gi_wp2
    refine wpIn_forget (fun V => Below W.heap.size W V ∧ HB V W1.heap.size 26 #[.int .u64 (hiOf (R + p)), .int .u64 (loOf (R + p))] ∧ HB V w.heap.size 24 #[.int .u64 (wd0 n), .int .u64 (wd1 n), .int .u64 (wd2 n), .int .u64 (wd3 n)]) ⟨bA hb _, HB.new _ _ _, g0.alloc _⟩ (fun V hst => ?_)
    obtain ⟨hV, gq, gn⟩ := hst
    have hlt2 := hlt
    clear hlt hb g0 g1 g2 hB1 hle
    generalize W1.heap.size = q at *
    have y0 := gq.cell 0; have y1 := gq.cell 1; have n0 := gn.cell 0; have n1 := gn.cell 1; have n2 := gn.cell 2; have n3 := gn.cell 3; dsimp at y0 y1 n0 n1 n2 n3
    refine wpIn_region_F [] [] (LS V (fun _ _ => True) (fun _ _ _ => True)) hmx (fun _ _ h => h) (by kernel_rfl) (bs := []) (vs := []) (by kernel_rfl) rfl (LS.before noBits_nil (Below.refl _ _).drew trivial) ?_
    refine wpF_take (i := 0) (v := ?vq1) rfl (by kernel_rfl) (by kernel_rfl) (fun _ _ _ h => h) (LS.load (by rfl) ?yq1) ?rq1
    case yq1 => (intro wq hb; have ly0 := cell_later hb y0; have ly1 := cell_later hb y1; go_simp; try (with_reducible rfl))
    try simp only [List.getElem_toArray, List.getElem_cons_zero, List.getElem_cons_succ, Act.put, List.setIfInBounds_toArray, List.set_cons_zero, List.set_cons_succ]
    refine wpF_take (i := 1) (v := ?vq2) rfl (by kernel_rfl) (by kernel_rfl) (fun _ _ _ h => h) (LS.load (by rfl) ?yq2) ?rq2
    case yq2 => (intro wq hb; have ly0 := cell_later hb y0; have ly1 := cell_later hb y1; go_simp; try (with_reducible rfl))
    try simp only [List.getElem_toArray, List.getElem_cons_zero, List.getElem_cons_succ, Act.put, List.setIfInBounds_toArray, List.set_cons_zero, List.set_cons_succ]
    refine wpF_take (i := 2) (v := _) rfl (by kernel_rfl) (by kernel_rfl) (fun _ _ _ h => h) (LS.call lasts_true (by rfl) _ _ ?yq3 (fun W => mulW (R + p) (R + p) W)) ?rq3
    case yq3 => (intro wq; go_simp; try (with_reducible rfl))
    try simp only [List.getElem_toArray, List.getElem_cons_zero, List.getElem_cons_succ, Act.put, List.setIfInBounds_toArray, List.set_cons_zero, List.set_cons_succ]
    refine wpF_take (i := 3) (v := ?vq4) rfl (by kernel_rfl) (by kernel_rfl) (fun _ _ _ h => h) (LS.load (by rfl) ?yq4) ?rq4
    case yq4 => (intro wq hb; have ln0 := cell_later hb n0; have ln1 := cell_later hb n1; have ln2 := cell_later hb n2; have ln3 := cell_later hb n3; go_simp; try (with_reducible rfl))
    try simp only [List.getElem_toArray, List.getElem_cons_zero, List.getElem_cons_succ, Act.put, List.setIfInBounds_toArray, List.set_cons_zero, List.set_cons_succ]
    refine wpF_take (i := 4) (v := _) rfl (by kernel_rfl) (by kernel_rfl) (fun _ _ _ h => h) (LS.call lasts_true (by rfl) _ _ ?yq5 (fun W => cmpW ((R + p) % full * ((R + p) % full)) n W)) ?rq5
    case yq5 => (intro wq; go_simp; try (with_reducible rfl))
    try simp only [List.getElem_toArray, List.getElem_cons_zero, List.getElem_cons_succ, Act.put, List.setIfInBounds_toArray, List.set_cons_zero, List.set_cons_succ]
    refine wpF_yield (i := 5) (v := ?vq6) rfl (by kernel_rfl) (by kernel_rfl) (fun _ _ _ h => h) (Or.inl ⟨by rfl, ?yq6⟩) ?rq6
    case yq6 => (intro wq; go_simp; try (with_reducible rfl))
    try simp only [List.getElem_toArray, List.getElem_cons_zero, List.getElem_cons_succ, Act.put, List.setIfInBounds_toArray, List.set_cons_zero, List.set_cons_succ]
    refine wpF_done (bs := []) (vs := []) (by kernel_rfl) (by kernel_rfl) rfl (fun V2 hS => ?_) _
    obtain ⟨hb, _⟩ := hS.1 noBits_nil
    have gm := (mod_f (R + p))
    have g2 := sq_lt_w gm.1 gm.2
    have em : (R + p) % full * ((R + p) % full) % wfull = (R + p) % full * ((R + p) % full) := Int.emod_eq_of_lt g2.1 g2.2.1
    have ec := cmpI_leq ((R + p) % full * ((R + p) % full) % wfull) (n % wfull)
    rw [em] at ec
    rw [em]
    have hb2 := bC hV hb
    replace y0 := cell_later hb y0; replace y1 := cell_later hb y1
    have z0 := (show RI w W0.heap.size n pre V2 from HI.out.later hb2 rfl).1.2
    rw [hR] at z0
    have t0 := z0.cell 0; have t1 := z0.cell 1; have f0 := z0.frozen 0; have f1 := z0.frozen 1; dsimp at t0 t1
    by_cases hg : (R + p) % full * ((R + p) % full) ≤ n % wfull
    · have hk := KEY.out
      rw [hR, hp, if_pos hg] at hk
      have E := Lib.hid (rend_yes HI.out hb2 hk)
      have ed := ec.trans (decide_eq_true hg)
      clear n0 n1 n2 n3 hg ec hk em g2 gm hb2 z0 hS gn gq hb hV
      generalize cmpI ((R + p) % full * ((R + p) % full)) (n % wfull) = cc at *
      rw [ed]
      gi_wp2
      exact E.out
    · have hk := KEY.out
      rw [hR, hp, if_neg hg] at hk
      have E := Lib.hid (rend_no HI.out hb2 (hk.trans hR.symm))
      have ed := ec.trans (decide_eq_false hg)
      clear n0 n1 n2 n3 hg ec hk em g2 gm hb2 z0 hS gn gq hb hV
      generalize cmpI ((R + p) % full * ((R + p) % full)) (n % wfull) = cc at *
      rw [ed]
      gi_wp2
      exact E.out
  case done =>
    rintro D zs W hD rfl hI hK
    have hmx : Try.prog.follows .mixedOrders = true := by kernel_rfl
    have hS0 : RS w D n RR [false] [] W := by
      obtain ⟨⟨⟨g0, g1⟩, g2⟩, hB1, hle⟩ := hI
      rw [stR_root, hRR] at g2
      exact ⟨g0, g2, hB1, hK, fun _ => g1, fun h => (h noBits_f).elim⟩
    have EQ : ∀ w, (binOp .eql 24 (.agg #[.int .u64 (wd0 (RR % full * (RR % full))), .int .u64 (wd1 (RR % full * (RR % full))), .int .u64 (wd2 (RR % full * (RR % full))), .int .u64 (wd3 (RR % full * (RR % full)))]) (.agg #[.int .u64 (wd0 n), .int .u64 (wd1 n), .int .u64 (wd2 n), .int .u64 (wd3 n)])).run Try.prog w = .ok (.bool ex) w := fun w => by
      rw [eql_wide, ← hex]
      congr 2
      obtain ⟨m0, m1, m2, m3⟩ := wd_mod n
      rw [← m0, ← m1, ← m2, ← m3, Int.emod_eq_of_lt hr.1 hr.2.1]
      have sq := sq_lt_w hr.1 hr.2.1
      have inj := wd_inj sq.1 sq.2.1 (mod_w n).1 (mod_w n).2
      unfold exactN
      rw [hRR]
      rw [Bool.eq_iff_iff]
      simp only [Bool.and_eq_true, beq_iff_eq]
      constructor
      · rintro h; exact inj.1 (by simpa [and_assoc] using h)
      · intro h; have := inj.2 h; simpa [and_assoc] using this
    clear hI hK hex
    gi_wp2
    refine wpIn_mono (Q := NoPanic _) ?_ NoPanic.imp
    refine wpIn_wide.2 ?_
    refine wp_region_F [6] [] (RS w D n RR) hmx (bs := [false]) (vs := []) (by kernel_rfl) rfl hS0.drew ?_
    clear hS0
    refine wpF_takeAny (i := 0) (v := ?v0) rfl (by kernel_rfl) (by kernel_rfl) (fun _ _ _ h => h) (Gives.value (by rfl) ?y0) ?r0
    case y0 => (intro bs vs wq _ hS; have z0 := hS.2.1.cell 0; have z1 := hS.2.1.cell 1; dsimp at z0 z1; clear hS; go_simp; try (with_reducible rfl))
    try simp only [List.getElem_toArray, List.getElem_cons_zero, List.getElem_cons_succ, Act.put, List.setIfInBounds_toArray, List.set_cons_zero, List.set_cons_succ]
    refine wpF_takeAny (i := 1) (v := ?v1) rfl (by kernel_rfl) (by kernel_rfl) (fun _ _ _ h => h) (Gives.value (by rfl) ?y1) ?r1
    case y1 => (intro bs vs wq _ hS; have z0 := hS.2.1.cell 0; have z1 := hS.2.1.cell 1; dsimp at z0 z1; clear hS; go_simp; try (with_reducible rfl))
    try simp only [List.getElem_toArray, List.getElem_cons_zero, List.getElem_cons_succ, Act.put, List.setIfInBounds_toArray, List.set_cons_zero, List.set_cons_succ]
    refine wpF_takeAny (i := 2) (v := ?v2) rfl (by kernel_rfl) (by kernel_rfl) (fun _ _ _ h => h) (Gives.value (by rfl) ?y2) ?r2
    case y2 => (intro bs vs wq _ hS; have z0 := hS.2.1.cell 0; have z1 := hS.2.1.cell 1; dsimp at z0 z1; clear hS; go_simp; try (with_reducible rfl))
    try simp only [List.getElem_toArray, List.getElem_cons_zero, List.getElem_cons_succ, Act.put, List.setIfInBounds_toArray, List.set_cons_zero, List.set_cons_succ]
    refine wpF_takeAny (i := 3) (v := _) rfl (by kernel_rfl) (by kernel_rfl) (fun _ _ _ h => h) (Gives.call (by rfl) _ _ ?y3 (fun bs vs wq _ hS => (mulW RR RR wq).mono fun e w' h => ⟨h.1, hS.later h.2⟩)) ?r3
    case y3 => (intro wq; go_simp; try (with_reducible rfl))
    try simp only [List.getElem_toArray, List.getElem_cons_zero, List.getElem_cons_succ, Act.put, List.setIfInBounds_toArray, List.set_cons_zero, List.set_cons_succ]
    refine wpF_takeAny (i := 4) (v := ?v4) rfl (by kernel_rfl) (by kernel_rfl) (fun _ _ _ h => h) (Gives.value (by rfl) ?y4) ?r4
    case y4 => (intro bs vs wq _ hS; have z0 := hS.1.cell 0; have z1 := hS.1.cell 1; have z2 := hS.1.cell 2; have z3 := hS.1.cell 3; dsimp at z0 z1 z2 z3; clear hS; go_simp; try (with_reducible rfl))
    try simp only [List.getElem_toArray, List.getElem_cons_zero, List.getElem_cons_succ, Act.put, List.setIfInBounds_toArray, List.set_cons_zero, List.set_cons_succ]
    refine wpF_yield (i := 5) (v := .bool ex) rfl (by kernel_rfl) (by kernel_rfl) (fun _ _ _ h => h) (Or.inl ⟨by rfl, ?y5⟩) ?r5
    case y5 => (intro wq; go_simp; try (with_reducible rfl))
    try simp only [List.getElem_toArray, List.getElem_cons_zero, List.getElem_cons_succ, Act.put, List.setIfInBounds_toArray, List.set_cons_zero, List.set_cons_succ]
    refine wpF_step (i := 6) (bs := [false]) (bs' := [true]) (vs := []) (by kernel_rfl) rfl (by kernel_rfl) rfl (by kernel_rfl) (fun wq hS K hK => ?_)
    have Z := Lib.hid (hS.store (vs' := []) (by omega))
    have hf := hS.2.2.2.2.1 noBits_f
    have z0 := hf.cell 0; have z1 := hf.cell 1; have f0 := hf.frozen 0; have f1 := hf.frozen 1; dsimp at z0 z1
    clear hf hS
    go_simp
    refine hK.out _ _ Z.out ?_
    clear hK Z z0 z1 f0 f1
    try simp only [List.getElem_toArray, List.getElem_cons_zero, List.getElem_cons_succ, Act.put, List.setIfInBounds_toArray, List.set_cons_zero, List.set_cons_succ]
    refine wpF_yield (i := 7) (v := ?v7) rfl (by kernel_rfl) (by kernel_rfl) (fun _ _ _ h => h) (Or.inl ⟨by rfl, ?y7⟩) ?r7
    case y7 => (intro wq; go_simp; try (with_reducible rfl))
    try simp only [List.getElem_toArray, List.getElem_cons_zero, List.getElem_cons_succ, Act.put, List.setIfInBounds_toArray, List.set_cons_zero, List.set_cons_succ]
    refine wpF_done (bs := [true]) (vs := []) (by kernel_rfl) (by kernel_rfl) rfl (fun V hS => ?_) _
    refine NoPanic.normal ?_
    obtain ⟨k1, k2, k3⟩ := hS.fin (by omega)
    have KEY := Lib.hid (And.intro k1 (And.intro k2 k3))
    clear k1 k2 k3 hS
    gi_wp2
    try simp only [List.getElem_toArray, List.getElem_cons_zero, List.getElem_cons_succ, Act.put, List.setIfInBounds_toArray, List.set_cons_zero, List.set_cons_succ]
    obtain ⟨k1, k2, k3⟩ := KEY.out
    have a0 := k1.cell 0
    have a1 := k1.cell 1
    dsimp at a0 a1
    refine ⟨by simp, .inl ⟨_, _, rfl, run_takeDeferred k2, ?_⟩⟩
    refine ⟨.tuple #[.agg #[.int .u64 (hiOf RR), .int .u64 (loOf RR)], .bool ex], ?_, rfl, k3⟩
    clear k1 k2 k3 KEY
    simp [results, Try.results9, go_sem, a0, a1]
  case stop =>
    rintro D c pre W _ _ h _
    exact h.elim

theorem rootOK : RootOK := ⟨fun n w => (callsIn_wide (n := 3)).1 (root_in 3 (by omega) n w)⟩

end Go.Proofs.Ytbibinmjipcdjaa
