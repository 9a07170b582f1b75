import Derived.Maps.AppendAt
import Derived.Deep.AppendLies
import Derived.Deep.RegionHeld3
import Derived.Deep.DeepCutAuto
import Derived.Deep.DrawnRows
import Derived.Deep.QuietTactic
import Derived.BigQuiet
import Derived.WalkSmall
import Derived.IntWalk
import Derived.Test.YtdcdbcccchadfaaGreatDoorRows
import Derived.Test.YtdcdbcccchadfaaGreatDoorGaA
set_option maxHeartbeats 2000000
set_option linter.unusedVariables false
set_option maxRecDepth 100000
namespace Go.Proofs.YtdcdbcccchadfaaGreatDoor
def D32 (d : Int) : Prop := 0 ≤ d ∧ d < 4294967296
def num : List Int → Int
  | [] => 0
  | d :: r => d + 4294967296 * num r
def Digs (ds : List Int) : Prop := ∀ d ∈ ds, D32 d
def Norm (ds : List Int) : Prop := ∀ d, ds.getLast? = some d → d ≠ 0
def bp (k : Nat) : Int := 4294967296 ^ k
theorem bp_zero : bp 0 = 1 := rfl
theorem bp_succ (k : Nat) : bp (k + 1) = 4294967296 * bp k := by unfold bp; rw [Int.pow_succ, Int.mul_comm]
theorem bp_pos (k : Nat) : 0 < bp k := Int.pow_pos (by omega)
theorem bp_add (j k : Nat) : bp (j + k) = bp j * bp k := by unfold bp; exact Int.pow_add ..
theorem bp_le {j k : Nat} (h : j ≤ k) : bp j ≤ bp k := by
  induction h with
  | refl => exact Int.le_refl _
  | step _ ih => rw [bp_succ]; have := bp_pos ‹_›; omega
theorem d32_zero : D32 0 := by unfold D32; omega
theorem getD_d32 {ds : List Int} (h : Digs ds) (i : Nat) : D32 (ds.getD i 0) := by
  rw [List.getD_eq_getElem?_getD]
  cases e : ds[i]? with
  | none => exact d32_zero
  | some d => exact h d (List.mem_of_getElem? e)
theorem digs_nil : Digs [] := fun _ h => by cases h
theorem digs_snoc {ds : List Int} {d : Int} (h : Digs ds) (hd : D32 d) : Digs (ds ++ [d]) := by
  intro x hx
  rcases List.mem_append.1 hx with h1 | h1
  · exact h x h1
  · simp at h1; subst h1; exact hd
theorem digs_take {ds : List Int} (h : Digs ds) (k : Nat) : Digs (ds.take k) := fun x hx => h x (List.mem_of_mem_take hx)
theorem digs_set {ds : List Int} (h : Digs ds) (k : Nat) {d : Int} (hd : D32 d) : Digs (ds.set k d) := by
  intro x hx
  rcases List.mem_or_eq_of_mem_set hx with h1 | h1
  · exact h x h1
  · subst h1; exact hd
theorem digs_replicate (k : Nat) : Digs (List.replicate k 0) := by
  intro x hx
  rw [List.mem_replicate] at hx
  rw [hx.2]; exact d32_zero
theorem num_nonneg {ds : List Int} (h : Digs ds) : 0 ≤ num ds := by
  induction ds with
  | nil => simp [num]
  | cons d r ih =>
    have := ih fun x hx => h x (List.mem_cons_of_mem _ hx)
    have hd := h d (List.mem_cons_self ..)
    unfold D32 at hd
    simp only [num]; omega
theorem num_lt {ds : List Int} (h : Digs ds) : num ds < bp ds.length := by
  induction ds with
  | nil => simp [num, bp]
  | cons d r ih =>
    have := ih fun x hx => h x (List.mem_cons_of_mem _ hx)
    have hd := h d (List.mem_cons_self ..)
    unfold D32 at hd
    simp only [num, List.length_cons, bp_succ]; omega
theorem num_append (xs ys : List Int) : num (xs ++ ys) = num xs + bp xs.length * num ys := by
  induction xs with
  | nil => simp [num, bp]
  | cons d r ih =>
    simp only [List.cons_append, num, List.length_cons, bp_succ, ih, Int.mul_add, Int.mul_assoc]; omega
theorem num_snoc (xs : List Int) (d : Int) : num (xs ++ [d]) = num xs + bp xs.length * d := by
  rw [num_append]; simp [num]
theorem num_zeros (k : Nat) : num (List.replicate k 0) = 0 := by
  induction k with
  | zero => rfl
  | succ k ih => simp [List.replicate_succ, num, ih]
theorem take_snoc {ds : List Int} {k : Nat} (h : k < ds.length) : ds.take (k + 1) = ds.take k ++ [ds.getD k 0] := by
  rw [List.take_succ_eq_append_getElem h, List.getD_eq_getElem?_getD, List.getElem?_eq_getElem h]; rfl
theorem num_take (ds : List Int) (k : Nat) : num (ds.take (k + 1)) = num (ds.take k) + bp k * ds.getD k 0 := by
  by_cases h : k < ds.length
  · rw [take_snoc h, num_snoc, List.length_take, Nat.min_eq_left (by omega)]
  · rw [List.take_of_length_le (by omega), List.take_of_length_le (by omega), List.getD_eq_getElem?_getD, List.getElem?_eq_none (by omega)]
    simp
theorem num_take_all {ds : List Int} {k : Nat} (h : ds.length ≤ k) : num (ds.take k) = num ds := by
  rw [List.take_of_length_le h]
theorem num_zero_snoc {ds : List Int} {k : Nat} (h : ds.getD k 0 = 0) : num (ds.take (k + 1)) = num (ds.take k) := by
  rw [num_take, h, Int.mul_zero, Int.add_zero]
theorem norm_nil : Norm [] := fun d h => by cases h
theorem norm_take {ds : List Int} {k : Nat} (h : k < ds.length) (hd : ds.getD k 0 ≠ 0) : Norm (ds.take (k + 1)) := by
  intro d hl
  rw [take_snoc h, List.getLast?_append] at hl
  simp at hl; subst hl
  simpa using hd
theorem norm_ge {ds : List Int} (h : Digs ds) (hn : Norm ds) {k : Nat} (hk : ds.length = k + 1) : bp k ≤ num ds := by
  have hlt : k < ds.length := by omega
  have e : ds = ds.take k ++ [ds.getD k 0] := by rw [← take_snoc hlt, List.take_of_length_le (by omega)]
  have hd := getD_d32 h k
  have h0 : ds.getD k 0 ≠ 0 := by
    have e2 := congrArg List.getLast? e
    rw [List.getLast?_append] at e2
    exact hn _ (e2.trans (by simp))
  have hlen : (ds.take k).length = k := by rw [List.length_take, Nat.min_eq_left (by omega)]
  have := num_nonneg (digs_take h k)
  have hs : num ds = num (ds.take k) + bp k * ds.getD k 0 := by
    have := num_take ds k
    rwa [List.take_of_length_le (by omega : ds.length ≤ k + 1)] at this
  unfold D32 at hd
  have hm : bp k * 1 ≤ bp k * ds.getD k 0 := Int.mul_le_mul_of_nonneg_left (by omega) (by have := bp_pos k; omega)
  rw [hs]; omega
theorem norm_len {ds : List Int} (h : Digs ds) (hn : Norm ds) {k : Nat} (hk : num ds < bp k) : ds.length ≤ k := by
  rcases Nat.lt_or_ge k ds.length with hlt | hge
  · obtain ⟨j, hj⟩ : ∃ j, ds.length = j + 1 := ⟨ds.length - 1, by omega⟩
    have := norm_ge h hn hj
    have := bp_le (show k ≤ j by omega)
    omega
  · exact hge
theorem norm_len_le {a b : List Int} (ha : Digs a) (hna : Norm a) (hb : Digs b) (h : num a ≤ num b) : a.length ≤ b.length :=
  norm_len ha hna (by have := num_lt hb; omega)
theorem num_top {a b : List Int} (k : Nat) (h : ∀ j, k ≤ j → a.getD j 0 = b.getD j 0) (n : Nat) : num (a.take (k + n)) - num (a.take k) = num (b.take (k + n)) - num (b.take k) := by
  induction n with
  | zero => simp
  | succ n ih => rw [← Nat.add_assoc, num_take, num_take, h (k + n) (by omega)]; omega
theorem num_less {a b : List Int} (ha : Digs a) (hb : Digs b) {k : Nat} (h : ∀ j, k + 1 ≤ j → a.getD j 0 = b.getD j 0) (hlt : a.getD k 0 < b.getD k 0) : num a < num b := by
  have e := num_top (k + 1) h (a.length + b.length)
  rw [num_take_all (show a.length ≤ _ by omega), num_take_all (show b.length ≤ _ by omega), num_take, num_take] at e
  have h1 := num_lt (digs_take ha k)
  have h2 := bp_le (show (a.take k).length ≤ k from List.length_take_le ..)
  have h3 := num_nonneg (digs_take hb k)
  have hm : bp k * (a.getD k 0 + 1) ≤ bp k * b.getD k 0 := Int.mul_le_mul_of_nonneg_left (by omega) (by have := bp_pos k; omega)
  rw [Int.mul_add] at hm
  omega
theorem num_same {a b : List Int} (h : ∀ j, a.getD j 0 = b.getD j 0) : num a = num b := by
  have e := num_top 0 (fun j _ => h j) (a.length + b.length)
  rw [num_take_all (show a.length ≤ _ by omega), num_take_all (show b.length ≤ _ by omega)] at e
  simp [num] at e
  omega
theorem num_set {ds : List Int} {k : Nat} (hk : k < ds.length) (d : Int) : num (ds.set k d) = num ds + bp k * (d - ds.getD k 0) := by
  induction ds generalizing k with
  | nil => simp at hk
  | cons x r ih =>
    cases k with
    | zero => simp [num, bp]; omega
    | succ k =>
      simp only [List.length_cons] at hk
      have := ih (k := k) (by omega)
      simp only [List.set_cons_succ, num, this, bp_succ, List.getD_cons_succ, Int.mul_add, Int.mul_assoc]; omega
end Go.Proofs.YtdcdbcccchadfaaGreatDoor
namespace Go.Proofs.YtdcdbcccchadfaaGreatDoor
open Go.RowKit
def Dig (w : World) (ao : Option Addr) (n cap : Nat) (ds : List Int) : Prop :=
  n = ds.length ∧ n ≤ cap ∧ n ≤ 1000000 ∧ Digs ds ∧ (0 < n → ∃ g, ao = some ⟨g, 0, none⟩ ∧ g < w.heap.size ∧ ∀ k, k < n → w.cell? ⟨g, k, none⟩ = some (.int .u32 (ds.getD k 0)))
theorem Dig.later {W w1 : World} {ao : Option Addr} {n cap : Nat} {ds : List Int} (x : Dig W ao n cap ds) (hb : Below W.heap.size W w1) : Dig w1 ao n cap ds := by
  obtain ⟨h1, h2, h3, h4, h5⟩ := x
  refine ⟨h1, h2, h3, h4, fun hn => ?_⟩
  obtain ⟨g, e, hg, hc⟩ := h5 hn
  exact ⟨g, e, lY hg hb.size, fun k hk => cL hb (hc k hk)⟩
theorem Dig.take {W : World} {ao : Option Addr} {n cap : Nat} {ds : List Int} (x : Dig W ao n cap ds) {k : Nat} (hk : k ≤ n) : Dig W ao k cap (ds.take k) := by
  obtain ⟨h1, h2, h3, h4, h5⟩ := x
  refine ⟨by rw [List.length_take]; omega, by omega, by omega, digs_take h4 k, fun hn => ?_⟩
  obtain ⟨g, e, hg, hc⟩ := h5 (by omega)
  refine ⟨g, e, hg, fun j hj => ?_⟩
  rw [hc j (by omega)]
  simp only [List.getD_eq_getElem?_getD, List.getElem?_take, if_pos hj]
theorem dig_new2 (w : World) (a b : Int) (t : TypeId) (ha : D32 a) (hb : D32 b) : Dig (w.alloc (.cells #[.int .u32 a, .int .u32 b] t)) (some ⟨w.heap.size, 0, none⟩) 2 2 [a, b] := by
  refine ⟨rfl, by omega, by omega, fun d hd => ?_, fun _ => ⟨w.heap.size, rfl, by simp, fun k hk => ?_⟩⟩
  · simp at hd; rcases hd with rfl | rfl <;> assumption
  · obtain rfl | rfl : k = 0 ∨ k = 1 := by omega
    · go_simp
    · go_simp
theorem dig_new4 (w : World) (a b c d : Int) (t : TypeId) (ha : D32 a) (hb : D32 b) (hc : D32 c) (hd : D32 d) : Dig (w.alloc (.cells #[.int .u32 a, .int .u32 b, .int .u32 c, .int .u32 d] t)) (some ⟨w.heap.size, 0, none⟩) 4 4 [a, b, c, d] := by
  refine ⟨rfl, by omega, by omega, fun d hd => ?_, fun _ => ⟨w.heap.size, rfl, by simp, fun k hk => ?_⟩⟩
  · simp at hd; rcases hd with rfl | rfl | rfl | rfl <;> assumption
  · obtain rfl | rfl | rfl | rfl : k = 0 ∨ k = 1 ∨ k = 2 ∨ k = 3 := by omega
    · go_simp
    · go_simp
    · go_simp
    · go_simp
theorem digit_in (g n cap : Nat) (d : Int) (k : Nat) (w : World) (hk : k < n) (hn : n ≤ 1000000) (hc : w.cell? ⟨g, k, none⟩ = some (.int .u32 d)) :
    Calls Tryz.prog 142 #[.slice (some ⟨g, 0, none⟩) n cap, .int .i64 k] w fun e w' => e = .returned (.int .u32 d) ∧ w = w' := by
  go_enter Tryz.func142, Tryz.ntmps142
  go_wp2
  go_ret
  exact ⟨rfl, rfl⟩
theorem digit_out (ao : Option Addr) (n cap : Nat) (i : Int) (w : World) (hk : (n : Int) ≤ i) (hn : n ≤ 1000000) :
    Calls Tryz.prog 142 #[.slice ao n cap, .int .i64 i] w fun e w' => e = .returned (.int .u32 0) ∧ w = w' := by
  go_enter Tryz.func142, Tryz.ntmps142
  go_wp2
  go_ret
  exact ⟨rfl, rfl⟩
theorem digit_any {ao : Option Addr} {n cap : Nat} {ds : List Int} {w : World} (x : Dig w ao n cap ds) (i : Int) (k : Nat) (hi : i = k) :
    Calls Tryz.prog 142 #[.slice ao n cap, .int .i64 i] w fun e w' => e = .returned (.int .u32 (ds.getD k 0)) ∧ w = w' := by
  obtain ⟨h1, h2, h3, h4, h5⟩ := x
  subst hi
  by_cases hk : k < n
  · obtain ⟨g, rfl, hg, hc⟩ := h5 (by omega)
    exact digit_in g n cap _ k w hk h3 (hc k hk)
  · have e : ds.getD k 0 = 0 := by rw [List.getD_eq_getElem?_getD, List.getElem?_eq_none (by omega)]; rfl
    rw [e]
    exact digit_out ao n cap k w (by omega) h3
def lenOf : Value → Nat | .slice _ k _ => k | _ => 0
def RetDig (w : World) (n : Int) (e : Ending) (w' : World) : Prop :=
  ∃ (ao : Option Addr) (k cap : Nat) (ds : List Int), e = .returned (.slice ao k cap) ∧ Dig w' ao k cap ds ∧ num ds = n ∧ Norm ds ∧ Below w.heap.size w w'
def RetTrim (w : World) (ao : Option Addr) (cap : Nat) (n : Int) (e : Ending) (w' : World) : Prop :=
  ∃ (k : Nat) (ds : List Int), e = .returned (.slice ao k cap) ∧ Dig w' ao k cap ds ∧ num ds = n ∧ Norm ds ∧ w = w'
theorem trim_same {ao : Option Addr} {n cap : Nat} {ds : List Int} {w : World} (x : Dig w ao n cap ds) :
    Calls Tryz.prog 143 #[.slice ao n cap] w (RetTrim w ao cap (num ds)) := by
  have hN := x.2.2.1
  have X := lH x
  have hcap := x.2.1
  clear x
  go_enter Tryz.func143, Tryz.ntmps143
  go_wp2
  go_loop [0] (fun v => ∃ k : Nat, k ≤ n ∧ v = .slice ao k cap ∧ num (ds.take k) = num ds) (fun v => lenOf v)
  case atStart =>
    refine ⟨n, Nat.le_refl _, rfl, num_take_all (by have := X.out.1; omega)⟩
  case round =>
    obtain ⟨k, hk, rfl, hnum⟩ := hrel
    have Hnum := lH hnum
    clear hnum
    by_cases h0 : k = 0
    · subst h0
      go_wp2
      go_ret
      exact ⟨0, ds.take 0, rfl, X.out.take (by omega), Hnum.out, norm_nil, rfl⟩
    · obtain ⟨j, rfl⟩ : ∃ j, k = j + 1 := ⟨k - 1, by omega⟩
      obtain ⟨g, hao, hg, hc⟩ := X.out.2.2.2.2 (by omega)
      subst hao
      have hcj := hc j (by omega)
      have hjn : j < ds.length := by have := X.out.1; omega
      have Hc := lH hc
      clear hc hg h0
      by_cases hd : ds.getD j 0 = 0
      · rw [hd] at hcj
        have Hd := lH hd
        clear hd
        go_wp2
        go_round
        case rel => exact ⟨j, by omega, rfl, by rw [← Hnum.out, num_zero_snoc Hd.out]⟩
        case measure => simp [lenOf]
      · have nt := norm_take hjn hd
        have NT := lH nt
        clear nt
        have Hd := lH hd
        have hdb : (ds.getD j 0 == 0) = false := by simpa using hd
        clear hd
        generalize ds.getD j 0 = d at *
        go_wp2
        go_ret
        exact ⟨j + 1, ds.take (j + 1), rfl, X.out.take (by omega), Hnum.out, NT.out, rfl⟩
theorem trim_any {ao : Option Addr} {n cap : Nat} {ds : List Int} {w : World} (x : Dig w ao n cap ds) :
    Calls Tryz.prog 143 #[.slice ao n cap] w (RetDig w (num ds)) :=
  (trim_same x).mono fun e w' ⟨k, es, h1, h2, h3, h4, h5⟩ => ⟨ao, k, cap, es, h1, h2, h3, h4, h5 ▸ bR⟩
end Go.Proofs.YtdcdbcccchadfaaGreatDoor
namespace Go.Proofs.YtdcdbcccchadfaaGreatDoor
open Go.RowKit
theorem mod_d32 (x : Int) : D32 (x % 4294967296) := by unfold D32; omega
theorem num_two (x : Int) (h : U64 x) : num [x % 4294967296, x / 4294967296 % 4294967296] = x := by
  unfold U64 at h; simp [num]; omega
theorem num_four (h l : Int) (uh : U64 h) (ul : U64 l) : num [l % 4294967296, l / 4294967296 % 4294967296, h % 4294967296, h / 4294967296 % 4294967296] = val h l := by
  unfold U64 at uh ul; simp [num, val]; omega
theorem ofn_any (x : Int) (ux : U64 x) (w : World) :
    Calls Tryz.prog 141 #[.int .u64 x] w (RetDig w x) := by
  have h0 := ux.1
  have Hn := lH (num_two x ux)
  clear ux
  go_enter Tryz.func141, Tryz.ntmps141
  go_wp2_with fail
  (with_reducible refine (trim_any (dig_new2 w _ _ _ (mod_d32 _) (mod_d32 _))).mono ?_)
  rintro e w1 ⟨ao, k, cap, ds, rfl, hd, hn, hnorm, hb⟩
  have Hd := lH hd; have HN := lH hn; have HM := lH hnorm; have HB := lH hb
  clear hd hn hnorm hb
  go_wp2_with fail
  go_ret
  exact ⟨ao, k, cap, ds, rfl, Hd.out, HN.out.trans Hn.out, HM.out, bC (bA bR _) HB.out⟩
theorem big_any (h l : Int) (uh : U64 h) (ul : U64 l) (w : World) :
    Calls Tryz.prog 180 #[.agg #[.int .u64 h, .int .u64 l]] w (RetDig w (val h l)) := by
  have Hn := lH (num_four h l uh ul)
  have hd4 := dig_new4 (w.alloc (bx h l 28)) (l % 4294967296) (l / 4294967296 % 4294967296) (h % 4294967296) (h / 4294967296 % 4294967296) 177 (mod_d32 _) (mod_d32 _) (mod_d32 _) (mod_d32 _)
  rw [World.size_alloc] at hd4
  have H4 := lH hd4
  clear uh ul hd4
  go_enter Tryz.func180, Tryz.ntmps180
  go_wp2_with fail
  (with_reducible refine (trim_any H4.out).mono ?_)
  rintro e w1 ⟨ao, k, cap, ds, rfl, hd, hn, hnorm, hb⟩
  have Hd := lH hd; have HN := lH hn; have HM := lH hnorm; have HB := lH hb
  clear hd hn hnorm hb H4
  go_wp2_with fail
  go_ret
  exact ⟨ao, k, cap, ds, rfl, Hd.out, HN.out.trans Hn.out, HM.out, bC (bA (bA bR _) _) HB.out⟩
theorem bits_num {ds : List Int} (h : Digs ds) : ds.getD 0 0 + ds.getD 1 0 * 4294967296 = loOf (num ds) ∧ ds.getD 2 0 + ds.getD 3 0 * 4294967296 = hiOf (num ds) := by
  have e : num ds = num (ds.take 4) + bp 4 * num (ds.drop 4) := by
    by_cases hl : 4 ≤ ds.length
    · conv => lhs; rw [← List.take_append_drop 4 ds, num_append, List.length_take, Nat.min_eq_left hl]
    · rw [List.take_of_length_le (by omega), List.drop_eq_nil_of_le (by omega)]; simp [num]
  have e0 := num_take ds 0
  have e1 := num_take ds 1
  have e2 := num_take ds 2
  have e3 := num_take ds 3
  have d0 := getD_d32 h 0
  have d1 := getD_d32 h 1
  have d2 := getD_d32 h 2
  have d3 := getD_d32 h 3
  generalize ds.getD 0 0 = x0 at *
  generalize ds.getD 1 0 = x1 at *
  generalize ds.getD 2 0 = x2 at *
  generalize ds.getD 3 0 = x3 at *
  have b0 : bp 0 = 1 := rfl
  have b1 : bp 1 = 4294967296 := rfl
  have b2 : bp 2 = 18446744073709551616 := rfl
  have b3 : bp 3 = 79228162514264337593543950336 := rfl
  have b4 : bp 4 = 340282366920938463463374607431768211456 := rfl
  rw [b0] at e0; rw [b1] at e1; rw [b2] at e2; rw [b3] at e3; rw [b4] at e
  simp only [Nat.zero_add] at e0
  simp [num] at e0
  unfold D32 at d0 d1 d2 d3
  unfold loOf hiOf
  simp only [Nat.reduceAdd] at e1 e2 e3
  generalize num (ds.drop 4) = r at *
  constructor <;> omega
theorem bits_any {ao : Option Addr} {n cap : Nat} {ds : List Int} {w : World} (x : Dig w ao n cap ds) :
    Calls Tryz.prog 137 #[.slice ao n cap] w fun e w' => e = .returned (.agg #[.int .u64 (hiOf (num ds)), .int .u64 (loOf (num ds))]) ∧ Below w.heap.size w w' := by
  have hb := bits_num x.2.2.2.1
  rw [← hb.1, ← hb.2]
  have d0 := getD_d32 x.2.2.2.1 0
  have d1 := getD_d32 x.2.2.2.1 1
  have d2 := getD_d32 x.2.2.2.1 2
  have d3 := getD_d32 x.2.2.2.1 3
  have y := x.later (bA bR (.cells #[.int .u64 0, .int .u64 0] 28))
  have c0 := digit_any y 0 0 rfl
  have c1 := digit_any y 1 1 rfl
  have c2 := digit_any y 2 2 rfl
  have c3 := digit_any y 3 3 rfl
  generalize ds.getD 0 0 = x0 at *
  generalize ds.getD 1 0 = x1 at *
  generalize ds.getD 2 0 = x2 at *
  generalize ds.getD 3 0 = x3 at *
  have C0 := lH c0; have C1 := lH c1; have C2 := lH c2; have C3 := lH c3
  unfold D32 at d0 d1 d2 d3
  obtain ⟨g0, k0⟩ := d0
  obtain ⟨g1, k1⟩ := d1
  obtain ⟨g2, k2⟩ := d2
  obtain ⟨g3, k3⟩ := d3
  clear c0 c1 c2 c3 x y hb
  go_enter Tryz.func137, Tryz.ntmps137
  go_wp2_with fail
  (with_reducible refine C0.out.mono ?_); rintro e w1 ⟨rfl, rfl⟩
  go_wp2_with fail
  (with_reducible refine C1.out.mono ?_); rintro e w1 ⟨rfl, rfl⟩
  go_wp2_with fail
  (with_reducible refine C2.out.mono ?_); rintro e w1 ⟨rfl, rfl⟩
  go_wp2_with fail
  (with_reducible refine C3.out.mono ?_); rintro e w1 ⟨rfl, rfl⟩
  go_wp2_with fail
  refine bodyPost_ret (v := .agg #[.int .u64 (x2 + x3 * 4294967296), .int .u64 (x0 + x1 * 4294967296)]) (by simp [results, Tryz.results137, go_sem]) rfl ⟨rfl, ?_⟩
  exact bR.alloc (Nat.le_refl _) _
theorem bN {a w : World} (h : Below a.heap.size a w) (n : Nat) : Below a.heap.size a (w.drewN n) := ⟨h.os, h.tape, h.output, h.size, h.block⟩
theorem norm_less {a b : List Int} (ha : Digs a) (hb : Digs b) (hnb : Norm b) (h : a.length < b.length) : num a < num b := by
  obtain ⟨k, hk⟩ : ∃ k, b.length = k + 1 := ⟨b.length - 1, by omega⟩
  have h1 := norm_ge hb hnb hk
  have h2 := num_lt ha
  have h3 := bp_le (show a.length ≤ k by omega)
  omega
def Top (a b : List Int) (k : Nat) : Prop := ∀ j, k ≤ j → a.getD j 0 = b.getD j 0
theorem cmp_same {ao bo : Option Addr} {n c d : Nat} {a b : List Int} {w : World} (x : Dig w ao n c a) (y : Dig w bo n d b) :
    Calls Tryz.prog 84 #[.slice ao n c, .slice bo n d] w fun e w' => e = .returned (.int .i64 (cmpI (num a) (num b))) ∧ Below w.heap.size w w' := by
  have X := lH x; have Y := lH y
  have hN := x.2.2.1
  clear x y
  go_enter Tryz.func84, Tryz.ntmps84
  go_wp2_with fail
  go_loopw [5] (fun i wr => ∃ k : Nat, k ≤ n ∧ i = .int .i64 ((k : Int) - 1) ∧ Top a b k ∧ Below w.heap.size w wr) (fun i _ => (intOf i + 1).toNat)
  case atStart =>
    refine ⟨n, Nat.le_refl _, rfl, fun j hj => ?_, bR⟩
    rw [List.getD_eq_getElem?_getD, List.getD_eq_getElem?_getD, List.getElem?_eq_none (by have := X.out.1; omega), List.getElem?_eq_none (by have := Y.out.1; omega)]
  case round =>
    obtain ⟨k, hk, rfl, htop, hbel⟩ := hrel
    by_cases h0 : k = 0
    · subst h0
      have e := num_same (a := a) (b := b) fun j => htop j (by omega)
      have E := lH ((cmpI_cases (num a) (num b)).2.2 e)
      clear e
      go_wp2_with fail
      go_ret
      exact ⟨by rw [E.out]; rfl, hbel⟩
    · obtain ⟨j, rfl⟩ : ∃ j, k = j + 1 := ⟨k - 1, by omega⟩
      rw [show ((j + 1 : Nat) : Int) - 1 = (j : Int) from by omega]
      obtain ⟨g1, e1, hg1, hc1⟩ := X.out.2.2.2.2 (by omega)
      obtain ⟨g2, e2, hg2, hc2⟩ := Y.out.2.2.2.2 (by omega)
      subst e1 e2
      have ca := (hbel.cell (p := ⟨g1, j, none⟩) hg1).trans (hc1 j (by omega))
      have cb := (hbel.cell (p := ⟨g2, j, none⟩) hg2).trans (hc2 j (by omega))
      have hjn : (j : Int) < (n : Int) := by omega
      have hj0 : (0 : Int) ≤ (j : Int) := by omega
      have less := fun h => num_less (a := a) (b := b) X.out.2.2.2.1 Y.out.2.2.2.1 (k := j) htop h
      have more := fun h => num_less (a := b) (b := a) Y.out.2.2.2.1 X.out.2.2.2.1 (k := j) (fun i hi => (htop i hi).symm) h
      have Htop := lH htop; have HL := lH less; have HM := lH more
      clear hg1 hg2 hc1 hc2 htop less more h0
      generalize hx1 : a.getD j 0 = x1 at *
      generalize hx2 : b.getD j 0 = x2 at *
      have H1 := lH hx1; have H2 := lH hx2
      clear hx1 hx2
      by_cases hlt : x1 < x2
      · have E := lH ((cmpI_cases (num a) (num b)).1 (HL.out hlt))
        go_wp2_with fail
        go_quiet (fail)
        go_wp2_with fail
        go_ret
        exact ⟨by rw [E.out]; rfl, bN hbel _⟩
      · by_cases hgt : x2 < x1
        · have E := lH ((cmpI_cases (num a) (num b)).2.1 (HM.out hgt))
          go_wp2_with fail
          go_quiet (fail)
          go_wp2_with fail
          go_quiet (fail)
          go_wp2_with fail
          go_ret
          exact ⟨by rw [E.out]; rfl, bN (bN hbel _) _⟩
        · go_wp2_with fail
          go_quiet (fail)
          go_wp2_with fail
          go_quiet (fail)
          go_wp2_with fail
          have tp : Top a b j := fun i hi => by
            rcases Nat.lt_or_ge j i with h | h
            · exact Htop.out i (by omega)
            · obtain rfl : i = j := by omega
              rw [H1.out, H2.out]; omega
          go_roundw
          case rel => exact ⟨j, by omega, rfl, tp, bN hbel _⟩
          case measure => simp [intOf]
theorem cmp_ref {ao bo : Option Addr} {n m c d : Nat} {a b : List Int} {w : World} (x : Dig w ao n c a) (y : Dig w bo m d b) (hna : Norm a) (hnb : Norm b) :
    Calls Tryz.prog 84 #[.slice ao n c, .slice bo m d] w fun e w' => e = .returned (.int .i64 (cmpI (num a) (num b))) ∧ Below w.heap.size w w' := by
  have hN := x.2.2.1
  have hM := y.2.2.1
  by_cases h1 : n < m
  · have E := lH ((cmpI_cases (num a) (num b)).1 (norm_less x.2.2.2.1 y.2.2.2.1 hnb (by have := x.1; have := y.1; omega)))
    have hne : ((n : Int) != (m : Int)) = true := by rw [bne_iff_ne]; omega
    clear x y hna hnb
    go_enter Tryz.func84, Tryz.ntmps84
    go_wp2
    go_ret
    exact ⟨by rw [E.out]; rfl, bR⟩
  · by_cases h2 : m < n
    · have E := lH ((cmpI_cases (num a) (num b)).2.1 (norm_less y.2.2.2.1 x.2.2.2.1 hna (by have := x.1; have := y.1; omega)))
      have hne : ((n : Int) != (m : Int)) = true := by rw [bne_iff_ne]; omega
      clear x y hna hnb
      go_enter Tryz.func84, Tryz.ntmps84
      go_wp2
      go_ret
      exact ⟨by rw [E.out]; rfl, bR⟩
    · obtain rfl : n = m := by omega
      exact cmp_same x y
end Go.Proofs.YtdcdbcccchadfaaGreatDoor
namespace Go.Proofs.YtdcdbcccchadfaaGreatDoor
open Go.RowKit
theorem info32 : (Tryz.prog.info? 177).map (fun i => (i.zero, i.size, i.bytes)) = some (some (.int .u32 0), 1, 4) := by kernel_rfl
def Own (w : World) (base : Nat) (v : Value) (os : List Int) : Prop :=
  w.ownsRow base 177 1 v os.length (os.map (Value.int .u32)) ∧ Digs os
theorem Own.nil (w : World) (base : Nat) : Own w base (.slice none 0 0) [] := ⟨World.ownsRow_nil w base _ 1, digs_nil⟩
theorem Own.dig {w : World} {base : Nat} {v : Value} {os : List Int} (h : Own w base v os) (hl : os.length ≤ 1000000) (h0 : 0 < os.length) : ∃ g cap, v = .slice (some ⟨g, 0, none⟩) os.length cap ∧ Dig w (some ⟨g, 0, none⟩) os.length cap os := by
  obtain ⟨⟨h1, h2⟩, hd⟩ := h
  rcases h2 with ⟨_, h3⟩ | ⟨g, cap, cur, rfl, hg, hh, hnc, hcm, hsz, htk⟩
  · omega
  · have hr : w.ownsRow base 177 1 (.slice (some ⟨g, 0, none⟩) os.length cap) os.length (os.map (Value.int .u32)) := ⟨h1, .inr ⟨g, cap, cur, rfl, hg, hh, hnc, hcm, hsz, htk⟩⟩
    have hlt := (hr.lt g rfl).2
    refine ⟨g, cap, rfl, rfl, hnc, hl, hd, fun _ => ⟨g, rfl, hlt, fun k hk => ?_⟩⟩
    rw [hr.cellAt k (by omega), List.getElem?_map, List.getElem?_eq_getElem hk, List.getD_eq_getElem?_getD, List.getElem?_eq_getElem hk]
    rfl
theorem Own.snoc {w w' : World} {base : Nat} {v v' : Value} {os : List Int} {d : Int} (h : Own w base v os) (hd : D32 d) (h' : w'.ownsRow base 177 1 v' (os.length + 1) (os.map (Value.int .u32) ++ [.int .u32 d])) : Own w' base v' (os ++ [d]) :=
  ⟨by simpa using h', digs_snoc h.2 hd⟩
theorem Own.digAny {w : World} {base : Nat} {v : Value} {os : List Int} (h : Own w base v os) (hl : os.length ≤ 1000000) : ∃ ao cap, v = .slice ao os.length cap ∧ Dig w ao os.length cap os := by
  by_cases h0 : 0 < os.length
  · obtain ⟨g, cap, e, hd⟩ := h.dig hl h0
    exact ⟨_, cap, e, hd⟩
  · have hz : os.length = 0 := by omega
    rcases h.1.2 with ⟨e, _⟩ | ⟨g, cap, cur, e, hg, hh, hnc, _⟩
    · exact ⟨none, 0, by rw [hz]; exact e, rfl, by omega, hl, h.2, fun h => absurd h h0⟩
    · exact ⟨_, cap, e, rfl, hnc, hl, h.2, fun h => absurd h h0⟩
theorem Own.later {W w1 : World} {base : Nat} {v : Value} {os : List Int} (x : Own W base v os) (hb : Below W.heap.size W w1) : Own w1 base v os := by
  refine ⟨⟨x.1.1, ?_⟩, x.2⟩
  rcases x.1.2 with h | ⟨g, cap, cur, rfl, hg, hh, r⟩
  · exact .inl h
  · refine .inr ⟨g, cap, cur, rfl, hg, ?_, r⟩
    have hlt := (x.1.lt g rfl).2
    exact (hb.block g hlt).trans hh
theorem append_u32 {ops : Array Oper} {rest : List Oper} {o : Oper} {a : Act} {Q : Exit → Act → World → Prop} {w : World} (hgd : o.guard = none) (s x : Operand)
    (ho : o.op = .call { callee := .builtin .append, args := #[s, x], argTypes := #[80, 80] })
    (base : Nat) (v : Value) (os : List Int) (hs : a.eval s = v) (hown : Own w base v os) (g : Nat) (hx : a.eval x = .slice (some ⟨g, 0, none⟩) 1 1) (d : Int) (hd : D32 d)
    (hc : w.cell? ⟨g, 0, none⟩ = some (.int .u32 d)) (hl : os.length < 1000000) (hbase : base ≤ w.heap.size)
    (h : ∀ v' w', Own w' base v' (os ++ [d]) → Below base w w' → wpList Tryz.prog ops Q rest (a.put o.dst v') w') : wpList Tryz.prog ops Q (o :: rest) a w := by
  obtain ⟨i0, hi, hz0, hz1, hz2⟩ := info_parts info32
  refine wpList_append_own w hgd s x _ ho base 177 i0 (.int .u32 0) 1 4 Tryz.underlying80 hi hz0 hz1 hz2 rfl (by omega) v os.length (os.map (Value.int .u32)) hs hown.1 ⟨g, 0, none⟩ 1 1 [.int .u32 d] hx rfl ?_ ?_ ?_ ?_ hbase ?_
  · intro j u hj
    match j, hj with
    | 0, hj => simp at hj; subst hj; simpa [Addr.add] using hc
  · intro u hu; simp at hu; subst hu; rfl
  · unfold maxLen; omega
  · omega
  · intro v' w' h1 h2 _
    exact h v' w' (hown.snoc hd h1) (bR.grown h2 hbase (fun k hk => (hown.1.lt k hk).1))
theorem append_u32_last {ops : Array Oper} {rest : List Oper} {o : Oper} {a : Act} {Q : Exit → Act → World → Prop} {w : World} (hgd : o.guard = none) (s x : Operand)
    (ho : o.op = .call { callee := .builtin .append, args := #[s, x], argTypes := #[80, 80] })
    (base : Nat) (v : Value) (os : List Int) (hs : a.eval s = v) (hown : Own w base v os) (g : Nat) (hx : a.eval x = .slice (some ⟨g, 0, none⟩) 1 1) (d : Int) (hd : D32 d)
    (hc : w.cell? ⟨g, 0, none⟩ = some (.int .u32 d)) (hl : os.length < 1000000) (hbase : base ≤ w.heap.size)
    (h : ∀ g' n' cap' w', Dig w' (some ⟨g', 0, none⟩) n' cap' (os ++ [d]) → Below base w w' → wpList Tryz.prog ops Q rest (a.put o.dst (.slice (some ⟨g', 0, none⟩) n' cap')) w') : wpList Tryz.prog ops Q (o :: rest) a w := by
  refine append_u32 hgd s x ho base v os hs hown g hx d hd hc hl hbase ?_
  intro v' w' h1 h2
  obtain ⟨g', cap', rfl, hdig⟩ := h1.dig (by simp; omega) (by simp)
  exact h g' _ cap' w' hdig h2
theorem split32 (p s : Int) : p * (s % 4294967296) + 4294967296 * p * (s / 4294967296) = p * s := by
  have h := Int.emod_add_mul_ediv s 4294967296
  have e : 4294967296 * p * (s / 4294967296) = p * (4294967296 * (s / 4294967296)) := by rw [Int.mul_comm 4294967296 p, Int.mul_assoc]
  rw [e, ← Int.mul_add, h]
def AddInv (w : World) (a b : List Int) (k : Nat) (cy : Int) (v : Value) (wr : World) : Prop :=
  0 ≤ cy ∧ cy ≤ 1 ∧ ∃ os : List Int, os.length = k ∧ Own wr w.heap.size v os ∧ num os + bp k * cy = num (a.take k) + num (b.take k) ∧ Below w.heap.size w wr
theorem add_step {os a b : List Int} {k : Nat} {cy : Int} (hl : os.length = k) (h : num os + bp k * cy = num (a.take k) + num (b.take k)) :
    num (os ++ [(cy + a.getD k 0 + b.getD k 0) % 4294967296]) + bp (k + 1) * ((cy + a.getD k 0 + b.getD k 0) / 4294967296) = num (a.take (k + 1)) + num (b.take (k + 1)) := by
  rw [num_take, num_take, num_snoc, hl, bp_succ]
  have e := split32 (bp k) (cy + a.getD k 0 + b.getD k 0)
  rw [Int.mul_add, Int.mul_add] at e
  omega
theorem add_ref {ao bo : Option Addr} {n m c d : Nat} {a b : List Int} {w : World} (x : Dig w ao n c a) (y : Dig w bo m d b) (hn : n < 900000) (hm : m < 900000) :
    Calls Tryz.prog 93 #[.slice ao n c, .slice bo m d] w (RetDig w (num a + num b)) := by
  have X := lH x; have Y := lH y
  clear x y
  obtain ⟨i0, hi, hz0, hz1, hz2⟩ := info_parts info32
  go_enter Tryz.func93, Tryz.ntmps93
  go_wp2_with fail
  go_loopw [5, 6, 7] (fun v cv i wr => ∃ (k : Nat) (cy : Int), (k ≤ n ∨ k ≤ m) ∧ i = .int .i64 k ∧ cv = .int .u64 cy ∧ AddInv w a b k cy v wr) (fun _ _ i _ => (n + m) - (intOf i).toNat)
  case atStart =>
    exact ⟨0, 0, .inl (Nat.zero_le _), rfl, rfl, by omega, by omega, [], rfl, Own.nil _ _, by simp [num], bR⟩
  case round =>
    obtain ⟨k, cy, hk, rfl, rfl, hinv⟩ := hrel
    obtain ⟨cy0, cy1, os, hos, hown, hsum, hbel⟩ := hinv
    have d1 := getD_d32 X.out.2.2.2.1 k
    have d2 := getD_d32 Y.out.2.2.2.1 k
    have c1 := digit_any (X.out.later hbel) k k rfl
    have c2 := digit_any (Y.out.later hbel) k k rfl
    have st := add_step hos hsum
    have C1 := lH c1; have C2 := lH c2; have ST := lH st
    have HO := lH hown; have HB := lH hbel; have HL := lH hos; have HS := lH hsum
    clear c1 c2 st hown hbel hos hsum
    generalize a.getD k 0 = x1 at *
    generalize b.getD k 0 = x2 at *
    obtain ⟨l1, r1⟩ := d1
    obtain ⟨l2, r2⟩ := d2
    have hlen : os.length < 1000000 := by rw [HL.out]; omega
    have HLen := lH hlen
    clear hlen
    by_cases hlt : k < n ∨ k < m
    · by_cases h1 : k < n
      · go_wp2_with fail
        (with_reducible refine C1.out.mono ?_); rintro e w1 ⟨rfl, rfl⟩
        go_wp2_with fail
        (with_reducible refine C2.out.mono ?_); rintro e w1 ⟨rfl, rfl⟩
        go_wp2_with (at_builtin; refine append_u32 rfl (.tmp 31) (.tmp 34) rfl w.heap.size _ os rfl (HO.out.later (bA bR _)) wr.heap.size rfl ((cy + x1 + x2) % 4294967296) (mod_d32 _) (by go_simp) HLen.out (by have := HB.out.size; simp; omega) ?_; intro v' w1 hown1 hb1)
        have hb2 := HB.out.trans ((bA bR _).mono HB.out.size |>.trans hb1)
        go_roundw
        case rel => exact ⟨k + 1, (cy + x1 + x2) / 4294967296, by omega, by go_num, rfl, by omega, by omega, _, by simp [HL.out], hown1, ST.out, hb2⟩
        case measure => simp [intOf]; omega
      · have h2 : k < m := by omega
        go_wp2_with fail
        (with_reducible refine C1.out.mono ?_); rintro e w1 ⟨rfl, rfl⟩
        go_wp2_with fail
        (with_reducible refine C2.out.mono ?_); rintro e w1 ⟨rfl, rfl⟩
        go_wp2_with (at_builtin; refine append_u32 rfl (.tmp 31) (.tmp 34) rfl w.heap.size _ os rfl (HO.out.later (bA bR _)) wr.heap.size rfl ((cy + x1 + x2) % 4294967296) (mod_d32 _) (by go_simp) HLen.out (by have := HB.out.size; simp; omega) ?_; intro v' w1 hown1 hb1)
        have hb2 := HB.out.trans ((bA bR _).mono HB.out.size |>.trans hb1)
        go_roundw
        case rel => exact ⟨k + 1, (cy + x1 + x2) / 4294967296, by omega, by go_num, rfl, by omega, by omega, _, by simp [HL.out], hown1, ST.out, hb2⟩
        case measure => simp [intOf]; omega
    · have h1 : n ≤ k := by omega
      have h2 : m ≤ k := by omega
      have fin : num (os ++ [cy]) = num a + num b := by
        rw [num_snoc, HL.out, HS.out, num_take_all (by have := X.out.1; omega), num_take_all (by have := Y.out.1; omega)]
      have Fin := lH fin
      clear fin hlt
      go_wp2_with (at_builtin; refine append_u32_last rfl (.tmp 38) (.tmp 41) rfl w.heap.size _ os rfl (HO.out.later (bA bR _)) wr.heap.size rfl cy (by unfold D32; omega) (by go_simp) HLen.out (by have := HB.out.size; simp; omega) ?_; intro g n' cap' w1 hdig hb1; have HD := lH hdig; clear hdig)
      (with_reducible refine (trim_any HD.out).mono ?_)
      intro e w2 hret
      obtain ⟨ao2, k2, cap2, ds2, rfl, R⟩ := hret
      have HR := lH R
      clear R HD
      go_wp2_with fail
      go_ret
      obtain ⟨r1, r2, r3, r4⟩ := HR.out
      exact ⟨ao2, k2, cap2, ds2, rfl, r1, r2.trans Fin.out, r3, bC (HB.out.trans ((bA bR _).mono HB.out.size |>.trans hb1)) r4⟩
def SubInv (w : World) (a b : List Int) (k : Nat) (bo : Int) (v : Value) (wr : World) : Prop :=
  0 ≤ bo ∧ bo ≤ 1 ∧ ∃ os : List Int, os.length = k ∧ Own wr w.heap.size v os ∧ num os - bp k * bo = num (a.take k) - num (b.take k) ∧ Below w.heap.size w wr
theorem sub_step {os a b : List Int} {k : Nat} {bo : Int} (hl : os.length = k) (h : num os - bp k * bo = num (a.take k) - num (b.take k)) :
    num (os ++ [(a.getD k 0 + 4294967296 - b.getD k 0 - bo) % 4294967296]) - bp (k + 1) * (1 - (a.getD k 0 + 4294967296 - b.getD k 0 - bo) / 4294967296) = num (a.take (k + 1)) - num (b.take (k + 1)) := by
  rw [num_take, num_take, num_snoc, hl, bp_succ]
  have e := split32 (bp k) (a.getD k 0 + 4294967296 - b.getD k 0 - bo)
  rw [Int.mul_sub, Int.mul_sub, Int.mul_add] at e
  rw [Int.mul_sub]
  omega
theorem sub_end {os a b : List Int} {k : Nat} {bo : Int} (ho : Digs os) (hl : os.length = k) (h : num os - bp k * bo = num (a.take k) - num (b.take k)) (b0 : 0 ≤ bo) (b1 : bo ≤ 1) (ha : a.length = k) (hb : Digs b) (hnb : Norm b) (hda : Digs a) (hle : num b ≤ num a) : num os = num a - num b := by
  have hlb := norm_len_le hb hnb hda hle
  rw [num_take_all (by omega), num_take_all (by omega)] at h
  have := num_lt ho
  rw [hl] at this
  obtain rfl | rfl : bo = 0 ∨ bo = 1 := by omega
  · omega
  · omega
def RetDigF (w : World) (n : Int) (e : Ending) (w' : World) : Prop :=
  ∃ (ao : Option Addr) (k cap : Nat) (ds : List Int), e = .returned (.slice ao k cap) ∧ Dig w' ao k cap ds ∧ num ds = n ∧ Norm ds ∧ Below w.heap.size w w' ∧ ∀ g o, ao = some ⟨g, o, none⟩ → w.heap.size ≤ g
theorem sub_fresh {ao bo : Option Addr} {n m c d : Nat} {a b : List Int} {w : World} (x : Dig w ao n c a) (y : Dig w bo m d b) (hn : n < 900000) (hnb : Norm b) (hle : num b ≤ num a) :
    Calls Tryz.prog 144 #[.slice ao n c, .slice bo m d] w (RetDigF w (num a - num b)) := by
  have X := lH x; have Y := lH y; have NB := lH hnb; have LE := lH hle
  clear x y hnb hle
  go_enter Tryz.func144, Tryz.ntmps144
  go_wp2_with fail
  go_loopw [5, 6, 7] (fun v cv i wr => ∃ (k : Nat) (cy : Int), k ≤ n ∧ i = .int .i64 k ∧ cv = .int .u64 cy ∧ SubInv w a b k cy v wr) (fun _ _ i _ => n - (intOf i).toNat)
  case atStart =>
    exact ⟨0, 0, Nat.zero_le _, rfl, rfl, by omega, by omega, [], rfl, Own.nil _ _, by simp [num], bR⟩
  case round =>
    obtain ⟨k, cy, hk, rfl, rfl, hinv⟩ := hrel
    obtain ⟨cy0, cy1, os, hos, hown, hsum, hbel⟩ := hinv
    have d1 := getD_d32 X.out.2.2.2.1 k
    have d2 := getD_d32 Y.out.2.2.2.1 k
    have c1 := digit_any (X.out.later hbel) k k rfl
    have c2 := digit_any (Y.out.later hbel) k k rfl
    have st := sub_step hos hsum
    have C1 := lH c1; have C2 := lH c2; have ST := lH st
    have HO := lH hown; have HB := lH hbel; have HL := lH hos; have HS := lH hsum
    clear c1 c2 st hown hbel hos hsum
    generalize a.getD k 0 = x1 at *
    generalize b.getD k 0 = x2 at *
    obtain ⟨l1, r1⟩ := d1
    obtain ⟨l2, r2⟩ := d2
    have hlen : os.length < 1000000 := by rw [HL.out]; omega
    have HLen := lH hlen
    clear hlen
    by_cases hlt : k < n
    · go_wp2_with fail
      (with_reducible refine C1.out.mono ?_); rintro e w1 ⟨rfl, rfl⟩
      go_wp2_with fail
      (with_reducible refine C2.out.mono ?_); rintro e w1 ⟨rfl, rfl⟩
      go_wp2_with (at_builtin; refine append_u32 rfl (.tmp 27) (.tmp 30) rfl w.heap.size _ os rfl (HO.out.later (bA bR _)) wr.heap.size rfl ((x1 + 4294967296 - x2 - cy) % 4294967296) (mod_d32 _) (by go_simp) HLen.out (by have := HB.out.size; simp; omega) ?_; intro v' w1 hown1 hb1)
      have hb2 := HB.out.trans ((bA bR _).mono HB.out.size |>.trans hb1)
      go_roundw
      case rel => exact ⟨k + 1, 1 - (x1 + 4294967296 - x2 - cy) / 4294967296, by omega, by go_num, rfl, by omega, by omega, _, by simp [HL.out], hown1, ST.out, hb2⟩
      case measure => simp [intOf]; omega
    · obtain rfl : k = n := by omega
      have own := HO.out
      obtain ⟨ao2, cap2, rfl, hdig⟩ := HO.out.digAny (Nat.le_of_lt HLen.out)
      have hfr : ∀ g o, ao2 = some ⟨g, o, none⟩ → w.heap.size ≤ g := fun g o h => (own.1.lt g (by rw [h]; rfl)).1
      have FR := lH hfr
      clear own hfr
      have fin := sub_end hdig.2.2.2.1 HL.out HS.out cy0 cy1 X.out.1.symm Y.out.2.2.2.1 NB.out X.out.2.2.2.1 LE.out
      have Fin := lH fin
      have HD := lH hdig
      clear fin hlt hdig
      go_wp2_with fail
      (with_reducible refine (trim_same HD.out).mono ?_)
      intro e w2 hret
      obtain ⟨k2, ds2, rfl, r1, r2, r3, rfl⟩ := hret
      have R1 := lH r1; have R2 := lH r2; have R3 := lH r3
      clear r1 r2 r3 HD
      go_wp2_with fail
      go_ret
      exact ⟨_, k2, _, ds2, rfl, R1.out, R2.out.trans Fin.out, R3.out, HB.out, FR.out⟩
theorem sub_ref {ao bo : Option Addr} {n m c d : Nat} {a b : List Int} {w : World} (x : Dig w ao n c a) (y : Dig w bo m d b) (hn : n < 900000) (hnb : Norm b) (hle : num b ≤ num a) :
    Calls Tryz.prog 144 #[.slice ao n c, .slice bo m d] w (RetDig w (num a - num b)) :=
  (sub_fresh x y hn hnb hle).mono fun e w' ⟨ao, k, cap, ds, h1, h2, h3, h4, h5, _⟩ => ⟨ao, k, cap, ds, h1, h2, h3, h4, h5⟩
end Go.Proofs.YtdcdbcccchadfaaGreatDoor
namespace Go.Proofs.YtdcdbcccchadfaaGreatDoor
open Go.RowKit
theorem make_u32 {ops : Array Oper} {rest : List Oper} {o : Oper} {a : Act} {Q : Exit → Act → World → Prop} {w : World} (hgd : o.guard = none) (l c : Operand)
    (ho : o.op = Op.makeSlice 80 l c) (base : Nat) (L : Int) (q : Nat) (hl : a.eval l = .int .i64 L) (hc : a.eval c = .int .i64 L) (hL : L = (q : Int)) (hq : q ≤ 1000000) (hbase : base ≤ w.heap.size)
    (h : ∀ g w', Own w' base (.slice (some ⟨g, 0, none⟩) q q) (List.replicate q 0) → Below base w w' → wpList Tryz.prog ops Q rest (a.put o.dst (.slice (some ⟨g, 0, none⟩) q q)) w') : wpList Tryz.prog ops Q (o :: rest) a w := by
  obtain ⟨i0, hi, hz0, hz1, hz2⟩ := info_parts info32
  refine wpList_make_full w hgd l c _ ho base 177 i0 (.int .u32 0) 1 Tryz.underlying80 hi hz0 hz1 .i64 .i64 L L q hl hc hL hL (by rw [hz2]; omega) (by unfold maxLen; omega) hbase ?_
  intro w' h1 h2
  refine h _ w' ⟨?_, digs_replicate q⟩ (bR.grown h2 hbase (by simp))
  rw [List.length_replicate, List.map_replicate]
  have e : (madeCells (Value.int IntKind.u32 0).cells (q * 1)).toList = List.replicate q (.int .u32 0) := by
    rw [Nat.mul_one]; exact toList_madeCells_one _ q
  rwa [e] at h1
theorem or_join {cy x : Int} {r : Nat} (h0 : 0 ≤ cy) (h1 : cy < 2 ^ r) (x0 : 0 ≤ x) (x1 : x < 4294967296) (hr : r < 32) : bits .or .u64 cy (x * 2 ^ r) = cy + x * 2 ^ r := by
  obtain ⟨C, rfl⟩ := Int.eq_ofNat_of_zero_le h0
  obtain ⟨X, rfl⟩ := Int.eq_ofNat_of_zero_le x0
  have hp : (2 : Nat) ^ r ≤ 2147483648 := Nat.pow_le_pow_right (by omega) (show r ≤ 31 by omega)
  have hc : C < 2 ^ r := by
    have h2 : ((2 ^ r : Nat) : Int) = 2 ^ r := by simp
    omega
  have e : ((X : Int) * 2 ^ r) = ((X * 2 ^ r : Nat) : Int) := by simp
  have hb : X * 2 ^ r ≤ 4294967296 * 2147483648 := Nat.mul_le_mul (by omega) hp
  rw [e, u64_or_nat C (X * 2 ^ r) (by omega) (by omega), Nat.or_comm, nat_join r (X * 2 ^ r) C (Nat.mul_mod_left ..) hc]
  omega
theorem pow_le31 {r : Nat} (hr : r < 32) : (2 : Int) ^ r ≤ 2147483648 := by
  have hp : (2 : Nat) ^ r ≤ 2147483648 := Nat.pow_le_pow_right (by omega) (show r ≤ 31 by omega)
  have h2 : ((2 ^ r : Nat) : Int) = 2 ^ r := by simp
  omega
theorem shl_lt {x : Int} {r : Nat} (x0 : 0 ≤ x) (x1 : x < 4294967296) (hr : r < 32) : x * 2 ^ r < 18446744073709551616 := by
  have h := pow_le31 hr
  have hp := two_pow_pos r
  have h1 : x * 2 ^ r ≤ 4294967295 * 2 ^ r := Int.mul_le_mul_of_nonneg_right (by omega) (by omega)
  generalize (2 : Int) ^ r = p at *
  omega
theorem bp_two (q : Nat) : bp q = 2 ^ (32 * q) := by
  unfold bp; rw [Int.pow_mul]; rfl
def ShlInv (w : World) (a : List Int) (q r k : Nat) (cy : Int) (v : Value) (wr : World) : Prop :=
  0 ≤ cy ∧ cy < 2 ^ r ∧ ∃ os : List Int, os.length = q + k ∧ Own wr w.heap.size v os ∧ num os + bp (q + k) * cy = bp q * 2 ^ r * num (a.take k) ∧ Below w.heap.size w wr
theorem shl_step {os a : List Int} {q r k : Nat} {cy : Int} (hl : os.length = q + k) (h : num os + bp (q + k) * cy = bp q * 2 ^ r * num (a.take k)) :
    num (os ++ [(cy + a.getD k 0 * 2 ^ r) % 4294967296]) + bp (q + (k + 1)) * ((cy + a.getD k 0 * 2 ^ r) / 4294967296) = bp q * 2 ^ r * num (a.take (k + 1)) := by
  rw [num_take, num_snoc, hl, ← Nat.add_assoc, bp_succ]
  have e := split32 (bp (q + k)) (cy + a.getD k 0 * 2 ^ r)
  rw [Int.mul_add] at e
  rw [Int.mul_add]
  have e2 : bp (q + k) * (a.getD k 0 * 2 ^ r) = bp q * 2 ^ r * (bp k * a.getD k 0) := by
    rw [bp_add]; simp only [Int.mul_assoc, Int.mul_comm, Int.mul_left_comm]
  omega
theorem shl_cy {x cy : Int} {r : Nat} (h0 : 0 ≤ cy) (h1 : cy < 2 ^ r) (x0 : 0 ≤ x) (x1 : x < 4294967296) : 0 ≤ (cy + x * 2 ^ r) / 4294967296 ∧ (cy + x * 2 ^ r) / 4294967296 < 2 ^ r := by
  have hp := two_pow_pos r
  have hx : x * 2 ^ r ≤ 4294967295 * 2 ^ r := Int.mul_le_mul_of_nonneg_right (by omega) (by omega)
  have hx0 : 0 ≤ x * 2 ^ r := Int.mul_nonneg x0 (by omega)
  generalize (2 : Int) ^ r = p at *
  generalize x * p = y at *
  omega
theorem shl_ref {ao : Option Addr} {n c : Nat} {a : List Int} {w : World} (x : Dig w ao n c a) (hn : n < 800000) (N q r : Nat) (hq : (N : Int) / 32 = (q : Int)) (hr : (N : Int) % 32 = (r : Int)) (hq2 : q < 100000) :
    Calls Tryz.prog 140 #[.slice ao n c, .int .i64 N] w (RetDig w (num a * 2 ^ N)) := by
  have X := lH x
  have hr2 : r < 32 := by omega
  clear x
  go_enter Tryz.func140, Tryz.ntmps140
  go_wp2_with (at_make; refine make_u32 rfl (.tmp 9) (.tmp 9) rfl w.heap.size q q rfl rfl rfl (by omega) (Nat.le_refl _) ?_; intro g w1 hown1 hb1; have HO1 := lH hown1; have HB1 := lH hb1; clear hown1 hb1)
  go_loopw [5, 6, 7] (fun v cv i wr => ∃ (k : Nat) (cy : Int), k ≤ n ∧ i = .int .i64 k ∧ cv = .int .u64 cy ∧ ShlInv w a q r k cy v wr) (fun _ _ i _ => n - (intOf i).toNat)
  case atStart =>
    exact ⟨0, 0, Nat.zero_le _, rfl, rfl, by omega, two_pow_pos r, List.replicate q 0, by simp, HO1.out, by simp [num, num_zeros], HB1.out⟩
  case round =>
    obtain ⟨k, cy, hk, rfl, rfl, hinv⟩ := hrel
    obtain ⟨cy0, cy1, os, hos, hown, hsum, hbel⟩ := hinv
    have d1 := getD_d32 X.out.2.2.2.1 k
    have st := shl_step hos hsum
    have ST := lH st
    have HO := lH hown; have HB := lH hbel; have HL := lH hos; have HS := lH hsum
    have hlen : os.length < 1000000 := by rw [HL.out]; omega
    have HLen := lH hlen
    by_cases hlt : k < n
    · obtain ⟨g1, hao, hg1, hc1⟩ := X.out.2.2.2.2 (by omega)
      subst hao
      have ca := (hbel.cell (p := ⟨g1, k, none⟩) hg1).trans (hc1 k hlt)
      clear st hown hbel hos hsum hlen hg1 hc1
      generalize a.getD k 0 = x1 at *
      obtain ⟨l1, r1⟩ := d1
      have hcy := shl_cy cy0 cy1 l1 r1
      obtain ⟨s, hs, hs0, hor⟩ : ∃ s, cy + x1 * 2 ^ r = s ∧ 0 ≤ s ∧ bits .or .u64 cy (IntKind.u64.wrap (x1 * 2 ^ r)) = s := by
        refine ⟨_, rfl, Int.add_nonneg cy0 (Int.mul_nonneg l1 (by have := two_pow_pos r; omega)), ?_⟩
        rw [IntKind.wrap_u64, Int.emod_eq_of_lt (Int.mul_nonneg l1 (by have := two_pow_pos r; omega)) (shl_lt l1 r1 hr2)]
        exact or_join cy0 cy1 l1 r1 hr2
      rw [hs] at ST hcy
      have CY1 := lH cy1; have HC := lH hcy; have HSs := lH hs
      clear cy1 hcy hs
      go_wp2_with (at_builtin; refine append_u32 rfl (.tmp 27) (.tmp 30) rfl w.heap.size _ os rfl (HO.out.later (bA bR _)) wr.heap.size rfl (s % 4294967296) (mod_d32 _) (by go_simp) HLen.out (by have := HB.out.size; simp; omega) ?_; intro v' w2 hown2 hb2)
      have hb3 := HB.out.trans ((bA bR _).mono HB.out.size |>.trans hb2)
      go_roundw
      case rel => exact ⟨k + 1, s / 4294967296, by omega, by go_num, rfl, HC.out.1, HC.out.2, _, by simp [HL.out, Nat.add_assoc], hown2, ST.out, hb3⟩
      case measure => simp [intOf]; omega
    · obtain rfl : k = n := by omega
      have hcb : cy < 4294967296 := by have := pow_le31 hr2; omega
      have fin : num (os ++ [cy]) = num a * 2 ^ N := by
        rw [num_snoc, HL.out, HS.out, num_take_all (by have := X.out.1; omega), Int.mul_comm, bp_two, ← Int.pow_add, show 32 * q + r = N from by omega]
      have Fin := lH fin
      clear fin hlt st hown hbel hos hsum hlen cy1 d1
      go_wp2_with (at_builtin; refine append_u32_last rfl (.tmp 34) (.tmp 37) rfl w.heap.size _ os rfl (HO.out.later (bA bR _)) wr.heap.size rfl cy (by unfold D32; omega) (by go_simp) HLen.out (by have := HB.out.size; simp; omega) ?_; intro g n' cap' w1 hdig hb1; have HD := lH hdig; clear hdig)
      (with_reducible refine (trim_any HD.out).mono ?_)
      intro e w2 hret
      obtain ⟨ao2, k2, cap2, ds2, rfl, R⟩ := hret
      have HR := lH R
      clear R HD
      go_wp2_with fail
      go_ret
      obtain ⟨r1, r2, r3, r4⟩ := HR.out
      exact ⟨ao2, k2, cap2, ds2, rfl, r1, r2.trans Fin.out, r3, bC (HB.out.trans ((bA bR _).mono HB.out.size |>.trans hb1)) r4⟩
end Go.Proofs.YtdcdbcccchadfaaGreatDoor
namespace Go.Proofs.YtdcdbcccchadfaaGreatDoor
open Go.RowKit
def IsNum (w : World) (v : Value) (n : Int) : Prop :=
  ∃ (ao : Option Addr) (k cap : Nat) (ds : List Int), v = .slice ao k cap ∧ Dig w ao k cap ds ∧ num ds = n ∧ Norm ds
theorem IsNum.later {W w1 : World} {v : Value} {n : Int} (x : IsNum W v n) (hb : Below W.heap.size W w1) : IsNum w1 v n := by
  obtain ⟨ao, k, cap, ds, e, h1, h2, h3⟩ := x
  exact ⟨ao, k, cap, ds, e, h1.later hb, h2, h3⟩
theorem IsNum.nonneg {w : World} {v : Value} {n : Int} (x : IsNum w v n) : 0 ≤ n := by
  obtain ⟨ao, k, cap, ds, e, h1, h2, h3⟩ := x
  rw [← h2]; exact num_nonneg h1.2.2.2.1
def RetNum (w : World) (n : Int) (e : Ending) (w' : World) : Prop := ∃ v, e = .returned v ∧ IsNum w' v n ∧ Below w.heap.size w w'
theorem ret_num {w w' : World} {n : Int} {e : Ending} (h : RetDig w n e w') : RetNum w n e w' := by
  obtain ⟨ao, k, cap, ds, rfl, h1, h2, h3, h4⟩ := h
  exact ⟨_, rfl, ⟨ao, k, cap, ds, rfl, h1, h2, h3⟩, h4⟩
def Small (n : Int) : Prop := n < bp 100000
theorem small_of {n : Int} {k : Nat} (h : n < bp k) (hk : k ≤ 100000) : Small n := by
  have := bp_le hk; unfold Small; omega
theorem small_full {n : Int} (h : n ≤ full) : Small n := small_of (k := 5) (by have h1 : bp 5 = 1461501637330902918203684832716283019655932542976 := rfl; rw [h1]; unfold full at h; omega) (by omega)
theorem dig_small {w : World} {ao : Option Addr} {k cap : Nat} {ds : List Int} (h : Dig w ao k cap ds) (hn : Norm ds) (hs : Small (num ds)) : k ≤ 100000 := by
  have := norm_len h.2.2.2.1 hn hs
  have := h.1
  omega
theorem big_num (h l : Int) (uh : U64 h) (ul : U64 l) (w : World) :
    Calls Tryz.prog 180 #[.agg #[.int .u64 h, .int .u64 l]] w (RetNum w (val h l)) := (big_any h l uh ul w).mono fun _ _ h => ret_num h
theorem of_num (x : Int) (ux : U64 x) (w : World) :
    Calls Tryz.prog 141 #[.int .u64 x] w (RetNum w x) := (ofn_any x ux w).mono fun _ _ h => ret_num h
theorem add_num {w : World} {v v' : Value} {n m : Int} (x : IsNum w v n) (y : IsNum w v' m) (hn : Small n) (hm : Small m) :
    Calls Tryz.prog 93 #[v, v'] w (RetNum w (n + m)) := by
  obtain ⟨ao, k, cap, ds, rfl, h1, rfl, h3⟩ := x
  obtain ⟨bo, j, cap', es, rfl, g1, rfl, g3⟩ := y
  have := dig_small h1 h3 hn
  have := dig_small g1 g3 hm
  exact (add_ref h1 g1 (by omega) (by omega)).mono fun _ _ h => ret_num h
theorem sub_num {w : World} {v v' : Value} {n m : Int} (x : IsNum w v n) (y : IsNum w v' m) (hn : Small n) (hle : m ≤ n) :
    Calls Tryz.prog 144 #[v, v'] w (RetNum w (n - m)) := by
  obtain ⟨ao, k, cap, ds, rfl, h1, rfl, h3⟩ := x
  obtain ⟨bo, j, cap', es, rfl, g1, rfl, g3⟩ := y
  have := dig_small h1 h3 hn
  exact (sub_ref h1 g1 (by omega) g3 hle).mono fun _ _ h => ret_num h
theorem cmp_num {w : World} {v v' : Value} {n m : Int} (x : IsNum w v n) (y : IsNum w v' m) :
    Calls Tryz.prog 84 #[v, v'] w fun e w' => e = .returned (.int .i64 (cmpI n m)) ∧ Below w.heap.size w w' := by
  obtain ⟨ao, k, cap, ds, rfl, h1, rfl, h3⟩ := x
  obtain ⟨bo, j, cap', es, rfl, g1, rfl, g3⟩ := y
  exact cmp_ref h1 g1 h3 g3
theorem bits_num2 {w : World} {v : Value} {n : Int} (x : IsNum w v n) :
    Calls Tryz.prog 137 #[v] w fun e w' => e = .returned (.agg #[.int .u64 (hiOf n), .int .u64 (loOf n)]) ∧ Below w.heap.size w w' := by
  obtain ⟨ao, k, cap, ds, rfl, h1, rfl, h3⟩ := x
  exact bits_any h1
theorem shl_num {w : World} {v : Value} {n : Int} (x : IsNum w v n) (hn : Small n) (N : Nat) (hN : N < 3200000) :
    Calls Tryz.prog 140 #[v, .int .i64 N] w (RetNum w (n * 2 ^ N)) := by
  obtain ⟨ao, k, cap, ds, rfl, h1, rfl, h3⟩ := x
  have := dig_small h1 h3 hn
  exact (shl_ref h1 (by omega) N (N / 32) (N % 32) (by omega) (by omega) (by omega)).mono fun _ _ h => ret_num h
end Go.Proofs.YtdcdbcccchadfaaGreatDoor
namespace Go.Proofs.YtdcdbcccchadfaaGreatDoor
open Go.RowKit
theorem Own.store {w : World} {base g L cap : Nat} {os : List Int} (h : Own w base (.slice (some ⟨g, 0, none⟩) L cap) os) (hL : os.length = L) (j : Nat) {d : Int} (hd : D32 d) : Own (w.setCell ⟨g, j, none⟩ (.int .u32 d)) base (.slice (some ⟨g, 0, none⟩) L cap) (os.set j d) := by
  obtain ⟨h1, h2⟩ := h
  subst hL
  refine ⟨?_, digs_set h2 j hd⟩
  have h3 := (h1.stored j (.int .u32 d)).1
  rw [List.length_set, List.map_set]
  exact h3
theorem Own.free {w : World} {base g L cap : Nat} {os : List Int} (h : Own w base (.slice (some ⟨g, 0, none⟩) L cap) os) (hL : os.length = L) (j : Nat) : w.frozen? ⟨g, j, none⟩ = false := by
  subst hL; exact h.1.frozenAt j
theorem Own.cell {w : World} {base g L cap : Nat} {os : List Int} (h : Own w base (.slice (some ⟨g, 0, none⟩) L cap) os) (hL : os.length = L) (j : Nat) (hj : j < L) : w.cell? ⟨g, j, none⟩ = some (.int .u32 (os.getD j 0)) := by
  subst hL
  rw [h.1.cellAt j (by omega), List.getElem?_map, List.getElem?_eq_getElem hj, List.getD_eq_getElem?_getD, List.getElem?_eq_getElem hj]
  rfl
theorem Own.base_le {w : World} {base g L cap : Nat} {os : List Int} (h : Own w base (.slice (some ⟨g, 0, none⟩) L cap) os) : base ≤ g ∧ g < w.heap.size := h.1.lt g rfl
theorem digit_quiet {ao : Option Addr} {n cap : Nat} {ds : List Int} {w : World} (x : Dig w ao n cap ds) (i : Int) (k : Nat) (hi : i = k) (q : Nat) :
    Calls Tryz.prog 142 #[.slice ao n cap, .int .i64 i] (w.drewN q) fun e w'' => e = .returned (.int .u32 (ds.getD k 0)) ∧ ∃ m, w'' = w.drewN m :=
  (digit_any (x.later (bN bR q)) i k hi).mono fun e w' ⟨he, hw⟩ => ⟨he, q, hw.symm⟩
def MulOut (w : World) (a b : List Int) (g L i : Nat) (wr : World) : Prop :=
  ∃ os : List Int, os.length = L ∧ Own wr w.heap.size (.slice (some ⟨g, 0, none⟩) L L) os ∧ num os = num (a.take i) * num b ∧ Below w.heap.size w wr
def MulIn (w : World) (a b : List Int) (g L i k : Nat) (cy : Int) (wr : World) : Prop :=
  0 ≤ cy ∧ cy ≤ 4294967295 ∧ ∃ os : List Int, os.length = L ∧ Own wr w.heap.size (.slice (some ⟨g, 0, none⟩) L L) os ∧ num os + bp (i + k) * cy = num (a.take i) * num b + bp i * a.getD i 0 * num (b.take k) ∧ Below w.heap.size w wr
theorem mul_step {os a b : List Int} {i k : Nat} {cy P : Int} (hk : i + k < os.length) (h : num os + bp (i + k) * cy = P + bp i * a.getD i 0 * num (b.take k)) :
    num (os.set (i + k) ((cy + a.getD i 0 * b.getD k 0 + os.getD (i + k) 0) % 4294967296)) + bp (i + (k + 1)) * ((cy + a.getD i 0 * b.getD k 0 + os.getD (i + k) 0) / 4294967296) = P + bp i * a.getD i 0 * num (b.take (k + 1)) := by
  rw [num_set hk, num_take, ← Nat.add_assoc, bp_succ]
  have e := split32 (bp (i + k)) (cy + a.getD i 0 * b.getD k 0 + os.getD (i + k) 0)
  rw [Int.mul_add, Int.mul_add] at e
  rw [Int.mul_sub, Int.mul_add]
  have e2 : bp (i + k) * (a.getD i 0 * b.getD k 0) = bp i * a.getD i 0 * (bp k * b.getD k 0) := by
    rw [bp_add]; simp only [Int.mul_assoc, Int.mul_comm, Int.mul_left_comm]
  omega
theorem mul_room {os a b : List Int} {i k : Nat} {cy : Int} (ha : Digs a) (hb : Digs b) (ho : Digs os) (hc : 0 < cy) (hkb : b.length ≤ k) (h : num os + bp (i + k) * cy = num (a.take i) * num b + bp i * a.getD i 0 * num (b.take k)) : k ≤ b.length := by
  rw [num_take_all hkb] at h
  have e : num (a.take i) * num b + bp i * a.getD i 0 * num b = num (a.take (i + 1)) * num b := by rw [num_take, Int.add_mul]
  rw [e] at h
  have h1 := num_lt (digs_take ha (i + 1))
  have h2 := bp_le (show (a.take (i + 1)).length ≤ i + 1 from List.length_take_le ..)
  have h3 := num_lt hb
  have h4 := num_nonneg (digs_take ha (i + 1))
  have h5 := num_nonneg hb
  have h6 := num_nonneg ho
  have h7 : num (a.take (i + 1)) * num b ≤ bp (i + 1) * num b := Int.mul_le_mul_of_nonneg_right (by omega) h5
  have h8 : bp (i + 1) * num b < bp (i + 1) * bp b.length := Int.mul_lt_mul_of_pos_left h3 (bp_pos _)
  rw [← bp_add] at h8
  have h9 : bp (i + k) * 1 ≤ bp (i + k) * cy := Int.mul_le_mul_of_nonneg_left (by omega) (by have := bp_pos (i + k); omega)
  rcases Nat.lt_or_ge b.length k with hlt | hge
  · have := bp_le (show i + 1 + b.length ≤ i + k by omega)
    omega
  · exact hge
theorem mul_cy {cy x y z : Int} (c0 : 0 ≤ cy) (c1 : cy ≤ 4294967295) (hx : D32 x) (hy : D32 y) (hz : D32 z) :
    0 ≤ x * y ∧ x * y < 18446744073709551616 ∧ cy + x * y < 18446744073709551616 ∧ cy + x * y + z < 18446744073709551616 ∧ 0 ≤ (cy + x * y + z) / 4294967296 ∧ (cy + x * y + z) / 4294967296 ≤ 4294967295 := by
  unfold D32 at hx hy hz
  have h0 : 0 ≤ x * y := Int.mul_nonneg hx.1 hy.1
  have h1 : x * y ≤ 4294967295 * y := Int.mul_le_mul_of_nonneg_right (by omega) hy.1
  generalize x * y = p at *
  omega
theorem mul_ref {ao bo : Option Addr} {n m c d : Nat} {a b : List Int} {w : World} (x : Dig w ao n c a) (y : Dig w bo m d b) (hn : n ≤ 400000) (hm : m ≤ 400000) :
    Calls Tryz.prog 92 #[.slice ao n c, .slice bo m d] w (RetDig w (num a * num b)) := by
  have X := lH x; have Y := lH y
  clear x y
  go_enter Tryz.func92, Tryz.ntmps92
  go_wp2_with (at_make; refine make_u32 rfl (.tmp 14) (.tmp 14) rfl w.heap.size _ (n + m + 1) rfl rfl (by omega) (by omega) (Nat.le_refl _) ?_; intro g w1 hown1 hb1; have HO1 := lH hown1; have HB1 := lH hb1; clear hown1 hb1)
  go_loopw [6] (fun i wr => ∃ k : Nat, k ≤ n ∧ i = .int .i64 k ∧ MulOut w a b g (n + m + 1) k wr) (fun i _ => n - (intOf i).toNat)
  case atStart =>
    exact ⟨0, Nat.zero_le _, rfl, _, by simp, HO1.out, by simp [num, num_zeros], HB1.out⟩
  case round =>
    obtain ⟨i, hi, rfl, hinv⟩ := hrel
    by_cases hlt : i < n
    · have HI := lH hinv
      clear hinv
      go_wp2_with fail
      go_loopw [7, 8] (fun cv kv wr => ∃ (k : Nat) (cy : Int), k ≤ m + 1 ∧ cv = .int .u64 cy ∧ kv = .int .i64 k ∧ MulIn w a b g (n + m + 1) i k cy wr) (fun _ kv _ => (m + 1) - (intOf kv).toNat)
      case atStart =>
        obtain ⟨os, h1, h2, h3, h4⟩ := HI.out
        exact ⟨0, 0, by omega, rfl, rfl, by omega, by omega, os, h1, h2, by simp [num, h3], h4⟩
      case round =>
        obtain ⟨k, cy, hk, rfl, rfl, hin⟩ := hrel
        obtain ⟨cy0, cy1, os, hos, hown, hsum, hbel⟩ := hin
        by_cases hgo : k < m ∨ 0 < cy
        · have hkm : k ≤ m := by
            by_cases h : k < m
            · omega
            · have := mul_room X.out.2.2.2.1 Y.out.2.2.2.1 hown.2 (by omega) (by have := Y.out.1; omega) hsum
              have := Y.out.1
              omega
          have dx := getD_d32 X.out.2.2.2.1 i
          have dy := getD_d32 Y.out.2.2.2.1 k
          have dz := getD_d32 hown.2 (i + k)
          obtain ⟨b1, b2, b3, b4, b5, b6⟩ := mul_cy cy0 cy1 dx dy dz
          have st := mul_step (a := a) (b := b) (by omega) hsum
          obtain ⟨g1, e1, hg1, hc1⟩ := X.out.2.2.2.2 (by omega)
          subst e1
          have ca := (hbel.cell (p := ⟨g1, i, none⟩) hg1).trans (hc1 i (by omega))
          have hik : i + k < n + m + 1 := by omega
          have co := hown.cell hos (i + k) hik
          have fo := hown.free hos (i + k)
          have HO := lH hown; have HB := lH hbel; have HL := lH hos
          have cd := fun q => digit_quiet (Y.out.later hbel) (k : Int) k rfl q
          generalize hx1 : a.getD i 0 = x1 at *
          have HX1 := lH hx1
          clear hx1
          generalize b.getD k 0 = x2 at *
          generalize os.getD (i + k) 0 = x3 at *
          obtain ⟨x10, x11⟩ := dx
          obtain ⟨x20, x21⟩ := dy
          obtain ⟨x30, x31⟩ := dz
          have hw1 : ∃ p, x1 * x2 = p ∧ IntKind.u64.wrap (x1 * x2) = p := ⟨_, rfl, by rw [IntKind.wrap_u64]; exact Int.emod_eq_of_lt b1 b2⟩
          obtain ⟨p, hpe, hw1⟩ := hw1
          rw [hpe] at b1 b2 b3 b4 b5 b6 st
          have hw2 : ∃ s1, cy + p = s1 ∧ IntKind.u64.wrap (cy + p) = s1 := ⟨_, rfl, by rw [IntKind.wrap_u64]; exact Int.emod_eq_of_lt (by omega) b3⟩
          obtain ⟨s1, hse, hw2⟩ := hw2
          rw [hse] at b3 b4 b5 b6 st
          have hw3 : ∃ s, s1 + x3 = s ∧ 0 ≤ s ∧ IntKind.u64.wrap (s1 + x3) = s := ⟨_, rfl, by omega, by rw [IntKind.wrap_u64]; exact Int.emod_eq_of_lt (by omega) b4⟩
          obtain ⟨s, hsf, hs0, hw3⟩ := hw3
          rw [hsf] at b4 b5 b6 st
          clear hpe hse hsf
          have hwi : IntKind.i64.wrap ((i : Int) + (k : Int)) = ((i + k : Nat) : Int) := by rw [IntWalk.i64_in _ (by omega)]; omega
          have hsi : (i : Int) + (k : Int) = ((i + k : Nat) : Int) := by omega
          have hin0 : (0 : Int) ≤ (i : Int) := by omega
          have hin1 : (i : Int) < (n : Int) := by omega
          have hj0 : (0 : Int) ≤ ((i + k : Nat) : Int) := by omega
          have hj1 : ((i + k : Nat) : Int) < ((n + m + 1 : Nat) : Int) := by omega
          generalize hj : i + k = j at *
          have HJ := lH hj; have CD := lH cd; have ST := lH st; have B5 := lH b5; have B6 := lH b6; have HS := lH hsum; have HI1 := lH hsi
          clear hj cd st b5 b6 b1 b2 b3 b4 hsum hown hbel hos hg1 hc1 hsi
          by_cases h1 : k < m
          · go_wp2_with fail
            go_quiet ((go_at_call 142; exact CD.out _))
            go_wp2_with fail
            have own2 := (HO.out.later (bN bR nq)).store HL.out j (mod_d32 s)
            have bel2 := (bN HB.out nq).setCell (p := ⟨g, j, none⟩) HO.out.base_le.1 (.int .u32 (s % 4294967296))
            go_roundw
            case rel => exact ⟨k + 1, s / 4294967296, by omega, rfl, by go_num, B5.out, B6.out, _, by simp [HL.out], own2, by rw [HX1.out]; exact ST.out, bel2⟩
            case measure => simp [intOf]; omega
          · have h2 : 0 < cy := by omega
            go_wp2_with fail
            go_quiet ((go_at_call 142; exact CD.out _))
            go_wp2_with fail
            have own2 := (HO.out.later (bN bR nq)).store HL.out j (mod_d32 s)
            have bel2 := (bN HB.out nq).setCell (p := ⟨g, j, none⟩) HO.out.base_le.1 (.int .u32 (s % 4294967296))
            go_roundw
            case rel => exact ⟨k + 1, s / 4294967296, by omega, rfl, by go_num, B5.out, B6.out, _, by simp [HL.out], own2, by rw [HX1.out]; exact ST.out, bel2⟩
            case measure => simp [intOf]; omega
        · have h1 : m ≤ k := by omega
          obtain rfl : cy = 0 := by omega
          have fin : num os = num (a.take (i + 1)) * num b := by
            rw [num_take_all (ds := b) (k := k) (by have := Y.out.1; omega), Int.mul_zero] at hsum
            rw [num_take, Int.add_mul]; omega
          have HF := lH fin; have HO := lH hown; have HB := lH hbel; have HL := lH hos
          clear fin hown hbel hos hsum hgo
          go_wp2_with fail
          go_roundw
          case rel => exact ⟨i + 1, by omega, by go_num, _, HL.out, HO.out, HF.out, HB.out⟩
          case measure => simp [intOf]; omega
    · obtain ⟨os, hos, hown, hnum, hbel⟩ := hinv
      rw [num_take_all (by have := X.out.1; omega)] at hnum
      obtain ⟨g2, cap2, e2, hdig⟩ := hown.dig (by omega) (by omega)
      rw [hos] at e2 hdig
      simp only [Value.slice.injEq, Option.some.injEq, Addr.mk.injEq, and_true, true_and] at e2
      obtain ⟨rfl, rfl⟩ := e2
      have HD := lH hdig; have HN := lH hnum; have HB := lH hbel
      clear hdig hnum hbel hown hos
      go_wp2_with fail
      (with_reducible refine (trim_any HD.out).mono ?_)
      intro e w2 hret
      obtain ⟨ao2, k2, cap2, ds2, rfl, R⟩ := hret
      have HR := lH R
      clear R HD
      go_wp2_with fail
      go_ret
      obtain ⟨r1, r2, r3, r4⟩ := HR.out
      exact ⟨ao2, k2, cap2, ds2, rfl, r1, r2.trans HN.out, r3, bC HB.out r4⟩
theorem mul_num {w : World} {v v' : Value} {n m : Int} (x : IsNum w v n) (y : IsNum w v' m) (hn : Small n) (hm : Small m) :
    Calls Tryz.prog 92 #[v, v'] w (RetNum w (n * m)) := by
  obtain ⟨ao, k, cap, ds, rfl, h1, rfl, h3⟩ := x
  obtain ⟨bo, j, cap', es, rfl, g1, rfl, g3⟩ := y
  have := dig_small h1 h3 hn
  have := dig_small g1 g3 hm
  exact (mul_ref h1 g1 (by omega) (by omega)).mono fun _ _ h => ret_num h
end Go.Proofs.YtdcdbcccchadfaaGreatDoor
namespace Go.Proofs.YtdcdbcccchadfaaGreatDoor
open Go.RowKit
def bitN (n i : Int) : Bool := decide (0 ≤ i) && (n / 2 ^ i.toNat % 2 == 1)
theorem num_digit {ds : List Int} (h : Digs ds) (k : Nat) : ∃ r, num ds / bp k = ds.getD k 0 + 4294967296 * r := by
  by_cases hl : k < ds.length
  · refine ⟨num (ds.drop (k + 1)), ?_⟩
    have e : num ds = num (ds.take k) + bp k * (ds.getD k 0 + 4294967296 * num (ds.drop (k + 1))) := by
      have e2 : num ds = num (ds.take (k + 1)) + bp (k + 1) * num (ds.drop (k + 1)) := by
        conv => lhs; rw [← List.take_append_drop (k + 1) ds, num_append, List.length_take, Nat.min_eq_left (by omega)]
      rw [num_take, bp_succ] at e2
      rw [e2, Int.mul_add, ← Int.mul_assoc, Int.mul_comm (bp k) 4294967296]; omega
    have h1 := num_nonneg (digs_take h k)
    have h2 := num_lt (digs_take h k)
    rw [List.length_take, Nat.min_eq_left (by omega)] at h2
    rw [e, Int.add_mul_ediv_left _ _ (by have := bp_pos k; omega), Int.ediv_eq_zero_of_lt h1 h2]; omega
  · refine ⟨0, ?_⟩
    have h1 := num_nonneg h
    have h2 := num_lt h
    have h3 := bp_le (show ds.length ≤ k by omega)
    rw [Int.ediv_eq_zero_of_lt h1 (by omega), List.getD_eq_getElem?_getD, List.getElem?_eq_none (by omega)]
    rfl
theorem and_one32 {v : Int} (h : D32 v) : bits .and .u32 v 1 = v % 2 := by
  rw [u32_and v 1 h.1 h.2 (by omega) (by omega)]
  have e : v.toNat &&& (1 : Int).toNat = v.toNat % 2 := nat_mask1 _
  rw [e]
  have := h.1
  omega
theorem div_pow_d {v : Int} (h : D32 v) (k : Nat) : D32 (v / 2 ^ k) := by
  have hp := two_pow_pos k
  refine ⟨Int.ediv_nonneg h.1 (by omega), ?_⟩
  have := Int.ediv_le_self (b := 2 ^ k) h.1
  have := h.2
  omega
theorem bit_digit {ds : List Int} (h : Digs ds) (N q r : Nat) (hN : N = 32 * q + r) (hr : r < 32) : (bits .and .u32 (ds.getD q 0 / 2 ^ r) 1 == 1) = bitN (num ds) N := by
  rw [and_one32 (div_pow_d (getD_d32 h q) r)]
  unfold bitN
  simp only [Int.toNat_natCast, show decide (0 ≤ (N : Int)) = true from by simp, Bool.true_and]
  obtain ⟨R, hR⟩ := num_digit h q
  have e : num ds / 2 ^ N = (ds.getD q 0 + 4294967296 * R) / 2 ^ r := by
    rw [hN, Int.pow_add, ← Int.ediv_ediv_of_nonneg (by have := two_pow_pos (32 * q); omega), ← bp_two, hR]
  have e2 : ds.getD q 0 + 4294967296 * R = ds.getD q 0 + 2 ^ r * (2 ^ (31 - r) * 2 * R) := by
    have e3 : (4294967296 : Int) = 2 ^ r * (2 ^ (31 - r) * 2) := by
      rw [← Int.pow_succ, ← Int.pow_add, show r + (31 - r + 1) = 32 from by omega]; rfl
    rw [← Int.mul_assoc, ← e3]
  rw [e, e2, Int.add_mul_ediv_left _ _ (by have := two_pow_pos r; omega)]
  congr 1
  have e4 : (2 : Int) ^ (31 - r) * 2 * R = 2 * (2 ^ (31 - r) * R) := by
    rw [Int.mul_comm (2 ^ (31 - r)) 2, Int.mul_assoc]
  omega
theorem bit_ref {ao : Option Addr} {n c : Nat} {a : List Int} {w : World} (x : Dig w ao n c a) (i : Int) (i1 : -9223372036854775808 ≤ i) (i2 : i ≤ 9223372036854775807) :
    Calls Tryz.prog 139 #[.slice ao n c, .int .i64 i] w fun e w' => e = .returned (.bool (bitN (num a) i)) ∧ w = w' := by
  by_cases h0 : i < 0
  · have e : bitN (num a) i = false := by unfold bitN; simp [show ¬ 0 ≤ i from by omega]
    rw [e]
    have hd : decide (0 ≤ i) = false := by simp; omega
    clear x e i1 i2
    go_enter Tryz.func139, Tryz.ntmps139
    go_wp2_with fail
    go_ret
    exact ⟨rfl, rfl⟩
  · obtain ⟨N, rfl⟩ := Int.eq_ofNat_of_zero_le (show 0 ≤ i by omega)
    have hN : N = 32 * (N / 32) + N % 32 := by omega
    have e := bit_digit x.2.2.2.1 N (N / 32) (N % 32) hN (by omega)
    rw [← e]
    have cd := digit_any x ((N : Int) / 32) (N / 32) (by omega)
    have hd := getD_d32 x.2.2.2.1 (N / 32)
    have hr : (N : Int) % 32 = ((N % 32 : Nat) : Int) := by omega
    have hr2 : N % 32 < 32 := by omega
    generalize a.getD (N / 32) 0 = d at *
    generalize N % 32 = r at *
    have CD := lH cd
    obtain ⟨d0, d1⟩ := hd
    clear x e cd i1 hN
    go_enter Tryz.func139, Tryz.ntmps139
    go_wp2_with fail
    (with_reducible refine CD.out.mono ?_); rintro e w1 ⟨rfl, rfl⟩
    go_wp2_with fail
    go_ret
    exact ⟨rfl, rfl⟩
theorem bit_num {w : World} {v : Value} {n : Int} (x : IsNum w v n) (i : Int) (i1 : -9223372036854775808 ≤ i) (i2 : i ≤ 9223372036854775807) :
    Calls Tryz.prog 139 #[v, .int .i64 i] w fun e w' => e = .returned (.bool (bitN n i)) ∧ Below w.heap.size w w' := by
  obtain ⟨ao, k, cap, ds, rfl, h1, rfl, h3⟩ := x
  exact (bit_ref h1 i i1 i2).mono fun e w' ⟨he, hw⟩ => ⟨he, hw ▸ bR⟩
theorem zero_len {w : World} {ao : Option Addr} {k cap : Nat} {ds : List Int} (h : Dig w ao k cap ds) (hn : Norm ds) : k = 0 ↔ num ds = 0 := by
  have hl := h.1
  constructor
  · intro h0
    have : ds = [] := List.eq_nil_of_length_eq_zero (by omega)
    subst this; rfl
  · intro h0
    have := norm_len h.2.2.2.1 hn (k := 0) (by rw [h0]; decide)
    omega
end Go.Proofs.YtdcdbcccchadfaaGreatDoor
namespace Go.Proofs.YtdcdbcccchadfaaGreatDoor
open Go.RowKit
theorem shr_digit {ds : List Int} (h : Digs ds) (q r k : Nat) (hr : r < 32) : ((ds.getD (q + k) 0 + ds.getD (q + k + 1) 0 * 4294967296) / 2 ^ r) % 4294967296 = num ds / bp q / 2 ^ r / bp k % 4294967296 := by
  obtain ⟨R, hR⟩ := num_digit h (q + k)
  obtain ⟨R2, hR2⟩ := num_digit h (q + k + 1)
  have e1 : num ds / bp (q + k + 1) = num ds / bp (q + k) / 4294967296 := by
    rw [bp_succ, Int.mul_comm, Int.ediv_ediv_of_nonneg (by have := bp_pos (q + k); omega)]
  have hd := getD_d32 h (q + k)
  have e2 : num ds / bp q / 2 ^ r / bp k = num ds / bp (q + k) / 2 ^ r := by
    have p1 := bp_pos q; have p2 := bp_pos k; have p3 := two_pow_pos r
    rw [bp_add, Int.ediv_ediv_of_nonneg (by omega), Int.ediv_ediv_of_nonneg (by have := Int.mul_pos p1 p3; omega), Int.ediv_ediv_of_nonneg (by have := Int.mul_pos p1 p2; omega)]
    congr 1
    simp only [Int.mul_assoc, Int.mul_comm (2 ^ r) (bp k)]
  rw [e2]
  rw [e1, hR] at hR2
  unfold D32 at hd
  have e3 : R = ds.getD (q + k + 1) 0 + 4294967296 * R2 := by omega
  rw [hR, e3]
  generalize ds.getD (q + k) 0 = x at *
  generalize ds.getD (q + k + 1) 0 = y at *
  have e4 : x + 4294967296 * (y + 4294967296 * R2) = (x + y * 4294967296) + 2 ^ r * (4294967296 * 2 ^ (32 - r) * R2) := by
    have e5 : (4294967296 : Int) = 2 ^ r * 2 ^ (32 - r) := by
      rw [← Int.pow_add, show r + (32 - r) = 32 from by omega]; rfl
    have e6 : (2 : Int) ^ r * (4294967296 * 2 ^ (32 - r) * R2) = 4294967296 * (4294967296 * R2) := by
      have e8 : (2 : Int) ^ r * (4294967296 * 2 ^ (32 - r) * R2) = 4294967296 * (2 ^ r * 2 ^ (32 - r) * R2) := by
        simp only [Int.mul_assoc, Int.mul_left_comm]
      rw [e8, ← e5]
    rw [e6]; omega
  rw [e4, Int.add_mul_ediv_left _ _ (by have := two_pow_pos r; omega)]
  have e7 : (4294967296 : Int) * 2 ^ (32 - r) * R2 = 4294967296 * (2 ^ (32 - r) * R2) := Int.mul_assoc ..
  rw [e7]; omega
theorem mod_step (X : Int) (k : Nat) : X % bp (k + 1) = X % bp k + bp k * (X / bp k % 4294967296) := by
  have p1 := bp_pos k
  have e1 := Int.emod_add_mul_ediv X (bp k)
  have e2 := Int.emod_add_mul_ediv (X / bp k) 4294967296
  have e3 := Int.emod_add_mul_ediv X (bp (k + 1))
  have e4 : X / bp (k + 1) = X / bp k / 4294967296 := by rw [bp_succ, Int.mul_comm, Int.ediv_ediv_of_nonneg (by omega)]
  rw [e4, bp_succ] at e3
  have e5 : 4294967296 * bp k * (X / bp k / 4294967296) = bp k * (4294967296 * (X / bp k / 4294967296)) := by rw [Int.mul_comm 4294967296, Int.mul_assoc]
  have e6 : bp k * (X / bp k) = bp k * (X / bp k % 4294967296) + bp k * (4294967296 * (X / bp k / 4294967296)) := by rw [← Int.mul_add, e2]
  rw [bp_succ]
  omega
theorem cell_new1 (w : World) (v : Value) (t : TypeId) : (w.alloc (.cells #[v] t)).cell? ⟨w.heap.size, 0, none⟩ = some v := by go_simp
def ShrInv (w : World) (X : Int) (k : Nat) (v : Value) (wr : World) : Prop :=
  ∃ os : List Int, os.length = k ∧ Own wr w.heap.size v os ∧ num os = X % bp k ∧ Below w.heap.size w wr
theorem shr_ref {ao : Option Addr} {n c : Nat} {a : List Int} {w : World} (x : Dig w ao n c a) (N q r : Nat) (hq : (N : Int) / 32 = (q : Int)) (hr : (N : Int) % 32 = (r : Int)) (hN : (N : Int) ≤ 9223372036854775807) :
    Calls Tryz.prog 138 #[.slice ao n c, .int .i64 N] w (RetDig w (num a / 2 ^ N)) := by
  have X := lH x
  have hn := x.2.2.1
  have hr2 : r < 32 := by omega
  have hval : num a / 2 ^ N = num a / bp q / 2 ^ r := by
    rw [show N = 32 * q + r from by omega, Int.pow_add, ← Int.ediv_ediv_of_nonneg (by have := two_pow_pos (32 * q); omega), ← bp_two]
  have HV := lH hval
  clear x hval
  go_enter Tryz.func138, Tryz.ntmps138
  go_wp2_with fail
  go_loopw [5, 6] (fun v i wr => ∃ k : Nat, (q + k ≤ n ∨ k = 0) ∧ i = .int .i64 ((q + k : Nat) : Int) ∧ ShrInv w (num a / bp q / 2 ^ r) k v wr) (fun _ i _ => n - (intOf i).toNat)
  case atStart =>
    refine ⟨0, .inr rfl, rfl, [], rfl, Own.nil _ _, ?_, bR⟩
    rw [bp_zero, Int.emod_one]; rfl
  case round =>
    obtain ⟨k, hk, rfl, hinv⟩ := hrel
    obtain ⟨os, hos, hown, hsum, hbel⟩ := hinv
    by_cases hlt : q + k < n
    · obtain ⟨g1, hao, hg1, hc1⟩ := X.out.2.2.2.2 (by omega)
      subst hao
      have ca := (hbel.cell (p := ⟨g1, q + k, none⟩) hg1).trans (hc1 (q + k) hlt)
      have sd := shr_digit X.out.2.2.2.1 q r k hr2
      have cd := fun p => digit_quiet (X.out.later hbel) ((q + k : Nat) + 1 : Int) (q + k + 1) (by omega) p
      have st : num (os ++ [(a.getD (q + k) 0 + a.getD (q + k + 1) 0 * 4294967296) / 2 ^ r % 4294967296]) = (num a / bp q / 2 ^ r) % bp (k + 1) := by
        rw [num_snoc, hos, hsum, mod_step, sd]
      have dx := getD_d32 X.out.2.2.2.1 (q + k)
      have dy := getD_d32 X.out.2.2.2.1 (q + k + 1)
      have hlen : os.length < 1000000 := by rw [hos]; omega
      have HO := lH hown; have HB := lH hbel; have HL := lH hos; have HLen := lH hlen; have CD := lH cd; have ST := lH st
      clear hown hbel hos hsum hlen cd st sd hg1 hc1
      generalize a.getD (q + k + 1) 0 = x2 at *
      generalize a.getD (q + k) 0 = x1 at *
      obtain ⟨x10, x11⟩ := dx
      obtain ⟨x20, x21⟩ := dy
      obtain ⟨s, hs, hs0, hor, hmul⟩ : ∃ s, x1 + x2 * 4294967296 = s ∧ 0 ≤ s ∧ bits .or .u64 x1 (x2 * 4294967296) = s ∧ IntKind.u64.wrap (x2 * 4294967296) = x2 * 4294967296 := by
        refine ⟨_, rfl, by omega, ?_, by rw [IntKind.wrap_u64]; omega⟩
        obtain ⟨A, rfl⟩ := Int.eq_ofNat_of_zero_le x10
        obtain ⟨B, rfl⟩ := Int.eq_ofNat_of_zero_le x20
        have e : ((B : Int) * 4294967296) = ((B * 4294967296 : Nat) : Int) := by omega
        rw [e, u64_or_nat A (B * 4294967296) (by omega) (by omega), Nat.or_comm, nat_join 32 (B * 4294967296) A (Nat.mul_mod_left ..) (by omega)]
        omega
      rw [hs] at ST
      have hj0 : (0 : Int) ≤ ((q + k : Nat) : Int) := by omega
      have hj1 : ((q + k : Nat) : Int) < (n : Int) := by omega
      have hw1 : IntKind.i64.wrap (((q + k : Nat) : Int) + 1) = ((q + k : Nat) : Int) + 1 := IntWalk.i64_in _ (by omega)
      generalize hqk : q + k = j at *
      have HJ := lH hqk; have HS := lH hs
      clear hqk hs
      go_wp2_with fail
      go_quiet ((go_at_call 142; exact CD.out _))
      go_wp2_with (at_builtin; refine append_u32 rfl (.tmp 28) (.tmp 34) rfl w.heap.size _ os rfl ((HO.out.later (bN bR nq)).later (bA bR _)) wr.heap.size rfl (s / 2 ^ r % 4294967296) (mod_d32 _) (cell_new1 (wr.drewN nq) _ _) HLen.out (by have := HB.out.size; simp; omega) ?_; intro v' w2 hown2 hb2)
      have hb3 := (bN HB.out nq).trans ((bA bR _).mono (bN HB.out nq).size |>.trans hb2)
      go_roundw
      case rel => exact ⟨k + 1, .inl (by have := HJ.out; omega), by have := HJ.out; go_num, _, by simp [HL.out], hown2, ST.out, hb3⟩
      case measure => simp [intOf]; omega
    · have hge : n ≤ q + k := by omega
      have hlt2 : num a / bp q / 2 ^ r < bp k := by
        have h1 := num_lt X.out.2.2.2.1
        rw [← X.out.1] at h1
        have h0 := num_nonneg X.out.2.2.2.1
        have h2 := bp_le hge
        have p1 := bp_pos q; have p3 := two_pow_pos r
        have h3 : num a / bp q < bp k := by
          apply Int.ediv_lt_of_lt_mul p1
          rw [Int.mul_comm, ← bp_add]; omega
        have h4 := Int.ediv_le_self (b := 2 ^ r) (Int.ediv_nonneg h0 (by omega) : 0 ≤ num a / bp q)
        omega
      have hge0 : 0 ≤ num a / bp q / 2 ^ r := Int.ediv_nonneg (Int.ediv_nonneg (num_nonneg X.out.2.2.2.1) (by have := bp_pos q; omega)) (by have := two_pow_pos r; omega)
      rw [Int.emod_eq_of_lt hge0 hlt2, ← HV.out] at hsum
      obtain ⟨ao2, cap2, rfl, hdig⟩ := hown.digAny (by rw [hos]; omega)
      have HD := lH hdig; have HS := lH hsum; have HB := lH hbel
      clear hdig hsum hbel hown hos hlt2 hge0
      go_wp2_with fail
      (with_reducible refine (trim_any HD.out).mono ?_)
      intro e w2 hret
      obtain ⟨ao2, k2, cap2, ds2, rfl, R⟩ := hret
      have HR := lH R
      clear R HD
      go_wp2_with fail
      go_ret
      obtain ⟨r1, r2, r3, r4⟩ := HR.out
      exact ⟨ao2, k2, cap2, ds2, rfl, r1, r2.trans HS.out, r3, bC HB.out r4⟩
theorem shr_num {w : World} {v : Value} {n : Int} (x : IsNum w v n) (N : Nat) (hN : (N : Int) ≤ 9223372036854775807) :
    Calls Tryz.prog 138 #[v, .int .i64 N] w (RetNum w (n / 2 ^ N)) := by
  obtain ⟨ao, k, cap, ds, rfl, h1, rfl, h3⟩ := x
  exact (shr_ref h1 N (N / 32) (N % 32) (by omega) (by omega) hN).mono fun _ _ h => ret_num h
theorem cut_num {w : World} {v : Value} {n : Int} (x : IsNum w v n) (hs : Small n) (N : Nat) (hN : N < 3200000) :
    Calls Tryz.prog 136 #[v, .int .i64 N] w (RetNum w (n % 2 ^ N)) := by
  have hp := two_pow_pos N
  have hn := x.nonneg
  have hle : n / 2 ^ N * 2 ^ N ≤ n := Int.ediv_mul_le _ (by omega)
  have hsm : Small (n / 2 ^ N) := by
    have := Int.ediv_le_self (b := 2 ^ N) hn
    unfold Small at *; omega
  have heq : n - n / 2 ^ N * 2 ^ N = n % 2 ^ N := by
    have := Int.emod_add_mul_ediv n (2 ^ N)
    rw [Int.mul_comm] at this; omega
  have c1 := shr_num x N (by omega)
  have X := lH x; have C1 := lH c1; have HL := lH hle; have HS := lH hsm; have HE := lH heq; have HSN := lH hs
  clear x c1 hle hsm heq hs hp hn
  go_enter Tryz.func136, Tryz.ntmps136
  go_wp2_with fail
  (with_reducible refine C1.out.mono ?_); rintro e w1 ⟨v1, rfl, n1, hb1⟩
  have X1 := lH (X.out.later hb1); have N1 := lH n1; have HB1 := lH hb1
  clear n1 hb1 C1 X
  go_wp2_with fail
  (with_reducible refine (shl_num N1.out HS.out N hN).mono ?_); rintro e w2 ⟨v2, rfl, n2, hb2⟩
  have X2 := lH (X1.out.later hb2); have N2 := lH n2; have HB2 := lH (bC HB1.out hb2)
  clear n2 hb2 X1 N1 HB1
  go_wp2_with fail
  (with_reducible refine (sub_num X2.out N2.out HSN.out HL.out).mono ?_); rintro e w3 ⟨v3, rfl, n3, hb3⟩
  have N3 := lH n3; have HB3 := lH (bC HB2.out hb3)
  clear n3 hb3 X2 N2 HB2
  go_wp2_with fail
  go_ret
  exact ⟨v3, rfl, HE.out ▸ N3.out, HB3.out⟩
end Go.Proofs.YtdcdbcccchadfaaGreatDoor
namespace Go.Proofs.YtdcdbcccchadfaaGreatDoor
open Go.RowKit
def blen (n : Int) : Nat := if n ≤ 0 then 0 else n.toNat.log2 + 1
theorem blen_of {n : Int} {j : Nat} (h0 : 2 ^ j ≤ n) (h1 : n < 2 ^ (j + 1)) : blen n = j + 1 := by
  have hp := two_pow_pos j
  obtain ⟨N, rfl⟩ := Int.eq_ofNat_of_zero_le (show 0 ≤ n by omega)
  unfold blen
  rw [if_neg (by omega), Int.toNat_natCast]
  have e0 : ((2 ^ j : Nat) : Int) = 2 ^ j := by simp
  have e1 : ((2 ^ (j + 1) : Nat) : Int) = 2 ^ (j + 1) := by simp
  have hN : N ≠ 0 := by omega
  have a1 : j ≤ N.log2 := (Nat.le_log2 hN).2 (by omega)
  have a2 : N.log2 < j + 1 := (Nat.log2_lt hN).2 (by omega)
  omega
theorem blen_zero : blen 0 = 0 := rfl
theorem blen_bounds {n : Int} (h : 0 < n) : ∃ j, blen n = j + 1 ∧ 2 ^ j ≤ n ∧ n < 2 ^ (j + 1) := by
  obtain ⟨N, rfl⟩ := Int.eq_ofNat_of_zero_le (show 0 ≤ n by omega)
  have hN : N ≠ 0 := by omega
  refine ⟨N.log2, ?_, ?_, ?_⟩
  · unfold blen; rw [if_neg (by omega), Int.toNat_natCast]
  · have e0 : ((2 ^ N.log2 : Nat) : Int) = 2 ^ N.log2 := by simp
    have := (Nat.le_log2 hN).1 (Nat.le_refl _)
    omega
  · have e1 : ((2 ^ (N.log2 + 1) : Nat) : Int) = 2 ^ (N.log2 + 1) := by simp
    have := (Nat.log2_lt hN).1 (Nat.lt_succ_self _)
    omega
theorem lt_blen (n : Int) (h : 0 ≤ n) : n < 2 ^ blen n := by
  by_cases h0 : n = 0
  · subst h0; decide
  · obtain ⟨j, e, _, h2⟩ := blen_bounds (show 0 < n by omega)
    rw [e]; exact h2
theorem len_top {ds : List Int} (h : Digs ds) {m s : Nat} (hm : ds.length = m + 1) (hs : s ≤ 31) (h1 : 2147483648 ≤ ds.getD m 0 * 2 ^ s) (h2 : ds.getD m 0 * 2 ^ s < 4294967296) : blen (num ds) = 32 * (m + 1) - s := by
  have e : num ds = num (ds.take m) + bp m * ds.getD m 0 := by
    have := num_take ds m
    rwa [List.take_of_length_le (by omega)] at this
  have h3 := num_nonneg (digs_take h m)
  have h4 := num_lt (digs_take h m)
  rw [List.length_take, Nat.min_eq_left (by omega)] at h4
  have hp := bp_pos m
  have hq := two_pow_pos s
  generalize ds.getD m 0 = d at *
  have p31 : (2147483648 : Int) = 2 ^ (31 - s) * 2 ^ s := by rw [← Int.pow_add, show 31 - s + s = 31 from by omega]; rfl
  have p32 : (4294967296 : Int) = 2 ^ (32 - s) * 2 ^ s := by rw [← Int.pow_add, show 32 - s + s = 32 from by omega]; rfl
  have d1 : 2 ^ (31 - s) ≤ d := by
    rw [p31] at h1; exact Int.le_of_mul_le_mul_right h1 hq
  have d2 : d < 2 ^ (32 - s) := by
    rw [p32] at h2; exact Int.lt_of_mul_lt_mul_right h2 (by omega)
  rw [show 32 * (m + 1) - s = (32 * m + (31 - s)) + 1 from by omega]
  refine blen_of ?_ ?_
  · rw [Int.pow_add, ← bp_two, e]
    have : bp m * 2 ^ (31 - s) ≤ bp m * d := Int.mul_le_mul_of_nonneg_left d1 (by omega)
    omega
  · rw [show 32 * m + (31 - s) + 1 = 32 * m + (32 - s) from by omega, Int.pow_add, ← bp_two, e]
    have : bp m * (d + 1) ≤ bp m * 2 ^ (32 - s) := Int.mul_le_mul_of_nonneg_left (by omega) (by omega)
    rw [Int.mul_add] at this
    omega
theorem len_ref {ao : Option Addr} {n c : Nat} {a : List Int} {w : World} (x : Dig w ao n c a) (hnorm : Norm a) :
    Calls Tryz.prog 145 #[.slice ao n c] w fun e w' => e = .returned (.int .i64 (blen (num a))) ∧ w = w' := by
  have hN := x.2.2.1
  by_cases h0 : n = 0
  · subst h0
    have e : a = [] := List.eq_nil_of_length_eq_zero x.1.symm
    subst e
    clear x hnorm
    go_enter Tryz.func145, Tryz.ntmps145
    go_wp2_with fail
    go_ret
    exact ⟨rfl, rfl⟩
  · obtain ⟨m, rfl⟩ : ∃ m, n = m + 1 := ⟨n - 1, by omega⟩
    obtain ⟨g, hao, hg, hc⟩ := x.2.2.2.2 (by omega)
    subst hao
    have ca := hc m (by omega)
    have hd := getD_d32 x.2.2.2.1 m
    have hge := norm_ge x.2.2.2.1 hnorm x.1.symm
    have top := fun s hs h1 h2 => len_top x.2.2.2.1 (m := m) (s := s) x.1.symm hs h1 h2
    have hpos : 1 ≤ a.getD m 0 := by
      have e : num a = num (a.take m) + bp m * a.getD m 0 := by
        have := num_take a m
        rwa [List.take_of_length_le (by have := x.1; omega)] at this
      have h4 := num_lt (digs_take x.2.2.2.1 m)
      rw [List.length_take, Nat.min_eq_left (by have := x.1; omega)] at h4
      rcases Int.lt_or_le 0 (a.getD m 0) with h | h
      · omega
      · have : a.getD m 0 = 0 := by unfold D32 at hd; omega
        rw [this, Int.mul_zero] at e; omega
    have T := lH top
    have hne : ((32 * ((m : Int) + 1)) == 0) = false := by simp; omega
    clear x hnorm hc hg hge top h0
    generalize a.getD m 0 = d at *
    obtain ⟨d0, d1⟩ := hd
    go_enter Tryz.func145, Tryz.ntmps145
    go_wp2_with fail
    go_loop [3, 4] (fun nv tv => ∃ s : Nat, s ≤ 31 ∧ d * 2 ^ s < 4294967296 ∧ nv = .int .i64 (32 * ((m : Int) + 1) - s) ∧ tv = .int .u32 (d * 2 ^ s)) (fun nv _ => (intOf nv).toNat)
    case atStart => exact ⟨0, by omega, by simpa using d1, by simp, by simp⟩
    case round =>
      obtain ⟨s, hs, hlt, rfl, rfl⟩ := hrel
      by_cases hgo : d * 2 ^ s < 2147483648
      · have e2 : d * 2 ^ s * 2 = d * 2 ^ (s + 1) := by rw [Int.pow_succ, Int.mul_assoc]
        have hs31 : s + 1 ≤ 31 := by
          rcases Nat.lt_or_ge s 31 with h | h
          · omega
          · obtain rfl : s = 31 := by omega
            have : (1 : Int) * 2 ^ 31 ≤ d * 2 ^ 31 := Int.mul_le_mul_of_nonneg_right hpos (by decide)
            simp at this; omega
        have E2 := lH e2
        have t0 : 0 ≤ d * 2 ^ s := Int.mul_nonneg d0 (by have := two_pow_pos s; omega)
        generalize hx : d * 2 ^ s = t at *
        clear hx e2
        go_wp2_with fail
        go_round
        case rel => exact ⟨s + 1, hs31, by rw [← E2.out]; omega, by go_num, by rw [E2.out]⟩
        case measure => simp [intOf]; omega
      · have e : ((blen (num a) : Nat) : Int) = 32 * ((m : Int) + 1) - s := by
          rw [T.out s hs (by omega) hlt]; omega
        have E := lH e
        generalize d * 2 ^ s = t at *
        clear e
        go_wp2_with fail
        go_ret
        exact ⟨by rw [E.out]; rfl, rfl⟩
theorem len_num {w : World} {v : Value} {n : Int} (x : IsNum w v n) :
    Calls Tryz.prog 145 #[v] w fun e w' => e = .returned (.int .i64 (blen n)) ∧ w = w' := by
  obtain ⟨ao, k, cap, ds, rfl, h1, rfl, h3⟩ := x
  exact len_ref h1 h3
end Go.Proofs.YtdcdbcccchadfaaGreatDoor
