/-
  Plain arithmetic of natural numbers as lists of digits of 32 bits, the lowest first. No Go in sight.
-/
set_option linter.unusedVariables false
set_option maxRecDepth 100000
namespace Go.Proofs.YtkhcbioohoeegaaDoor

def B32 : Int := 4294967296
/-- A digit. -/
def D32 (d : Int) : Prop := 0 ≤ d ∧ d < 4294967296
def num : List Int → Int
  | [] => 0
  | d :: r => d + 4294967296 * num r
def Digs (ds : List Int) : Prop := ∀ d ∈ ds, D32 d
/-- The last digit is not 0. -/
def Norm (ds : List Int) : Prop := ∀ d, ds.getLast? = some d → d ≠ 0
/-- 2^(32 k). -/
def bp (k : Nat) : Int := 4294967296 ^ k

theorem bp_zero : bp 0 = 1 := rfl
theorem bp_succ (k : Nat) : bp (k + 1) = 4294967296 * bp k := by unfold bp; rw [Int.pow_succ, Int.mul_comm]
theorem bp_pos (k : Nat) : 0 < bp k := Int.pow_pos (by omega)
theorem bp_add (j k : Nat) : bp (j + k) = bp j * bp k := by unfold bp; exact Int.pow_add ..
theorem bp_le {j k : Nat} (h : j ≤ k) : bp j ≤ bp k := by
  induction h with
  | refl => exact Int.le_refl _
  | step _ ih => rw [bp_succ]; have := bp_pos ‹_›; omega
theorem d32_zero : D32 0 := by unfold D32; omega
theorem getD_d32 {ds : List Int} (h : Digs ds) (i : Nat) : D32 (ds.getD i 0) := by
  rw [List.getD_eq_getElem?_getD]
  cases e : ds[i]? with
  | none => exact d32_zero
  | some d => exact h d (List.mem_of_getElem? e)
theorem digs_nil : Digs [] := fun _ h => by cases h
theorem digs_snoc {ds : List Int} {d : Int} (h : Digs ds) (hd : D32 d) : Digs (ds ++ [d]) := by
  intro x hx
  rcases List.mem_append.1 hx with h1 | h1
  · exact h x h1
  · simp at h1; subst h1; exact hd
theorem digs_take {ds : List Int} (h : Digs ds) (k : Nat) : Digs (ds.take k) := fun x hx => h x (List.mem_of_mem_take hx)
theorem digs_set {ds : List Int} (h : Digs ds) (k : Nat) {d : Int} (hd : D32 d) : Digs (ds.set k d) := by
  intro x hx
  rcases List.mem_or_eq_of_mem_set hx with h1 | h1
  · exact h x h1
  · subst h1; exact hd
theorem digs_replicate (k : Nat) : Digs (List.replicate k 0) := by
  intro x hx
  rw [List.mem_replicate] at hx
  rw [hx.2]; exact d32_zero

theorem num_nonneg {ds : List Int} (h : Digs ds) : 0 ≤ num ds := by
  induction ds with
  | nil => simp [num]
  | cons d r ih =>
    have := ih fun x hx => h x (List.mem_cons_of_mem _ hx)
    have hd := h d (List.mem_cons_self ..)
    unfold D32 at hd
    simp only [num]; omega
theorem num_lt {ds : List Int} (h : Digs ds) : num ds < bp ds.length := by
  induction ds with
  | nil => simp [num, bp]
  | cons d r ih =>
    have := ih fun x hx => h x (List.mem_cons_of_mem _ hx)
    have hd := h d (List.mem_cons_self ..)
    unfold D32 at hd
    simp only [num, List.length_cons, bp_succ]; omega
theorem num_append (xs ys : List Int) : num (xs ++ ys) = num xs + bp xs.length * num ys := by
  induction xs with
  | nil => simp [num, bp]
  | cons d r ih =>
    simp only [List.cons_append, num, List.length_cons, bp_succ, ih, Int.mul_add, Int.mul_assoc]; omega
theorem num_snoc (xs : List Int) (d : Int) : num (xs ++ [d]) = num xs + bp xs.length * d := by
  rw [num_append]; simp [num]
theorem num_zeros (k : Nat) : num (List.replicate k 0) = 0 := by
  induction k with
  | zero => rfl
  | succ k ih => simp [List.replicate_succ, num, ih]
theorem take_snoc {ds : List Int} {k : Nat} (h : k < ds.length) : ds.take (k + 1) = ds.take k ++ [ds.getD k 0] := by
  rw [List.take_succ_eq_append_getElem h, List.getD_eq_getElem?_getD, List.getElem?_eq_getElem h]; rfl
theorem num_take (ds : List Int) (k : Nat) : num (ds.take (k + 1)) = num (ds.take k) + bp k * ds.getD k 0 := by
  by_cases h : k < ds.length
  · rw [take_snoc h, num_snoc, List.length_take, Nat.min_eq_left (by omega)]
  · rw [List.take_of_length_le (by omega), List.take_of_length_le (by omega), List.getD_eq_getElem?_getD, List.getElem?_eq_none (by omega)]
    simp
theorem num_take_all {ds : List Int} {k : Nat} (h : ds.length ≤ k) : num (ds.take k) = num ds := by
  rw [List.take_of_length_le h]
theorem num_zero_snoc {ds : List Int} {k : Nat} (h : ds.getD k 0 = 0) : num (ds.take (k + 1)) = num (ds.take k) := by
  rw [num_take, h, Int.mul_zero, Int.add_zero]

theorem norm_nil : Norm [] := fun d h => by cases h
theorem norm_take {ds : List Int} {k : Nat} (h : k < ds.length) (hd : ds.getD k 0 ≠ 0) : Norm (ds.take (k + 1)) := by
  intro d hl
  rw [take_snoc h, List.getLast?_append] at hl
  simp at hl; subst hl
  simpa using hd
theorem norm_ge {ds : List Int} (h : Digs ds) (hn : Norm ds) {k : Nat} (hk : ds.length = k + 1) : bp k ≤ num ds := by
  have hlt : k < ds.length := by omega
  have e : ds = ds.take k ++ [ds.getD k 0] := by rw [← take_snoc hlt, List.take_of_length_le (by omega)]
  have hd := getD_d32 h k
  have h0 : ds.getD k 0 ≠ 0 := by
    have e2 := congrArg List.getLast? e
    rw [List.getLast?_append] at e2
    exact hn _ (e2.trans (by simp))
  have hlen : (ds.take k).length = k := by rw [List.length_take, Nat.min_eq_left (by omega)]
  have := num_nonneg (digs_take h k)
  have hs : num ds = num (ds.take k) + bp k * ds.getD k 0 := by
    have := num_take ds k
    rwa [List.take_of_length_le (by omega : ds.length ≤ k + 1)] at this
  unfold D32 at hd
  have hm : bp k * 1 ≤ bp k * ds.getD k 0 := Int.mul_le_mul_of_nonneg_left (by omega) (by have := bp_pos k; omega)
  rw [hs]; omega
/-- A number below 2^(32 k) has at most k digits. -/
theorem norm_len {ds : List Int} (h : Digs ds) (hn : Norm ds) {k : Nat} (hk : num ds < bp k) : ds.length ≤ k := by
  rcases Nat.lt_or_ge k ds.length with hlt | hge
  · obtain ⟨j, hj⟩ : ∃ j, ds.length = j + 1 := ⟨ds.length - 1, by omega⟩
    have := norm_ge h hn hj
    have := bp_le (show k ≤ j by omega)
    omega
  · exact hge
theorem norm_len_le {a b : List Int} (ha : Digs a) (hna : Norm a) (hb : Digs b) (h : num a ≤ num b) : a.length ≤ b.length :=
  norm_len ha hna (by have := num_lt hb; omega)

/-- Digit by digit, from the top. -/
theorem num_top {a b : List Int} (k : Nat) (h : ∀ j, k ≤ j → a.getD j 0 = b.getD j 0) (n : Nat) : num (a.take (k + n)) - num (a.take k) = num (b.take (k + n)) - num (b.take k) := by
  induction n with
  | zero => simp
  | succ n ih => rw [← Nat.add_assoc, num_take, num_take, h (k + n) (by omega)]; omega
theorem num_less {a b : List Int} (ha : Digs a) (hb : Digs b) {k : Nat} (h : ∀ j, k + 1 ≤ j → a.getD j 0 = b.getD j 0) (hlt : a.getD k 0 < b.getD k 0) : num a < num b := by
  have e := num_top (k + 1) h (a.length + b.length)
  rw [num_take_all (show a.length ≤ _ by omega), num_take_all (show b.length ≤ _ by omega), num_take, num_take] at e
  have h1 := num_lt (digs_take ha k)
  have h2 := bp_le (show (a.take k).length ≤ k from List.length_take_le ..)
  have h3 := num_nonneg (digs_take hb k)
  have hm : bp k * (a.getD k 0 + 1) ≤ bp k * b.getD k 0 := Int.mul_le_mul_of_nonneg_left (by omega) (by have := bp_pos k; omega)
  rw [Int.mul_add] at hm
  omega
theorem num_same {a b : List Int} (h : ∀ j, a.getD j 0 = b.getD j 0) : num a = num b := by
  have e := num_top 0 (fun j _ => h j) (a.length + b.length)
  rw [num_take_all (show a.length ≤ _ by omega), num_take_all (show b.length ≤ _ by omega)] at e
  simp [num] at e
  omega
theorem num_set {ds : List Int} {k : Nat} (hk : k < ds.length) (d : Int) : num (ds.set k d) = num ds + bp k * (d - ds.getD k 0) := by
  induction ds generalizing k with
  | nil => simp at hk
  | cons x r ih =>
    cases k with
    | zero => simp [num, bp]; omega
    | succ k =>
      simp only [List.length_cons] at hk
      have := ih (k := k) (by omega)
      simp only [List.set_cons_succ, num, this, bp_succ, List.getD_cons_succ, Int.mul_add, Int.mul_assoc]; omega

end Go.Proofs.YtkhcbioohoeegaaDoor
