/-
  FlagJoins: the walk.
-/
import Derived.Test.YteobcedcgkfmjaaDoorGoes12
import Derived.Test.YteobcedcgkfmjaaDoorOrder12
set_option linter.unusedVariables false
set_option linter.unusedSimpArgs false
set_option maxRecDepth 100000
namespace Go.Proofs.YteobcedcgkfmjaaDoor
open Go.RowKit
attribute [local go_sem ↓] Go.wp_at_zero Go.wp_at_succ

theorem joinN_cons (z : Nat) (ys : List Nat) : joinN [z, joinN ys] = joinN (z :: ys) := by
  refine Nat.eq_of_testBit_eq fun i => ?_
  rw [joinN_bit, joinN_bit]
  simp only [List.any_cons, List.any_nil, Bool.or_false]
  rw [joinN_bit]
  cases decide (i < 5) <;> simp
theorem joinN_self (j : Nat) (h : j < 32) : joinN [j, j] = j := by
  unfold joinN
  simp only [orL, List.foldr, Nat.or_zero, Nat.or_self]
  exact Nat.mod_eq_of_lt h
theorem has_join (y : Nat) (xs : List Nat) : hasN y (joinN xs) = xs.all fun x => hasN y (joinN [x]) := by
  rw [Bool.eq_iff_iff, has_iff, List.all_eq_true]
  constructor
  · intro h x hx
    rw [has_iff]
    intro i hi
    rw [joinN_bit, Bool.and_eq_true] at hi
    refine h i ?_
    rw [joinN_bit, Bool.and_eq_true]
    refine ⟨hi.1, ?_⟩
    rw [List.any_eq_true]
    exact ⟨x, hx, by simpa using hi.2⟩
  · intro h i hi
    rw [joinN_bit, Bool.and_eq_true, List.any_eq_true] at hi
    obtain ⟨h5, x, hx, hb⟩ := hi
    have := has_iff.1 (h x hx) i
    rw [joinN_bit, Bool.and_eq_true] at this
    exact this ⟨h5, by simpa using hb⟩
theorem has_each (xs : List Nat) {k : Nat} (hk : k < xs.length) : hasN (joinN xs) (joinN [xs.getD k 0]) = true := by
  have h := has_join (joinN xs) xs
  rw [has_refl] at h
  have h := List.all_eq_true.1 h.symm (xs.getD k 0) (by rw [List.getD_eq_getElem?_getD, List.getElem?_eq_getElem hk]; exact List.getElem_mem _)
  exact h
theorem all_take_succ (p : Nat → Bool) {xs : List Nat} {k : Nat} (h : k < xs.length) : (xs.take (k + 1)).all p = ((xs.take k).all p && p (xs.getD k 0)) := by
  rw [List.take_add_one, List.all_append, List.getD_eq_getElem?_getD, List.getElem?_eq_getElem h]
  simp
theorem drop_pre {xs : List Nat} {n k : Nat} (hn : n = xs.length) (h : k < n) : xs.drop (n - (k + 1)) = xs.getD (n - 1 - k) 0 :: xs.drop (n - k) := by
  have e : n - (k + 1) < xs.length := by omega
  rw [List.drop_eq_getElem_cons e, List.getD_eq_getElem?_getD, show n - 1 - k = n - (k + 1) by omega, List.getElem?_eq_getElem e, show n - (k + 1) + 1 = n - k by omega]
  rfl
set_option maxRecDepth 100000 in
set_option maxHeartbeats 4000000 in
theorem joins12_long (ao : Option Addr) (n cap : Nat) (s : Nat) (w : World) (hn : 100 < n) : Calls Tryd.prog 4 #[.slice ao n cap, .int .u8 ((s : Nat) : Int)] w fun e w' => e = .returned (.bool true) ∧ Below w.heap.size w w' := by
  have g : decide ((100 : Int) < (n : Int)) = true := by simp; omega
  go_enter Tryd.func4, Tryd.ntmps4
  go_wp2_with fail
  go_ret
  exact ⟨rfl, Below.refl _ _⟩
set_option maxRecDepth 100000 in
set_option maxHeartbeats 4000000 in
theorem joins12_core (ao : Option Addr) (n cap : Nat) (xs : List Nat) (s y r : Nat) (US : Hid (s < 256)) (RL : Hid (r < 32)) (YL : Hid (y < 32)) (HR : Hid (joinN xs = r)) (hn : n ≤ 100)
    (J : Hid (∀ w, NTab w → Fs w ao n cap xs → Calls Tryd.prog 8 #[.slice ao n cap] w fun e w' => e = .returned (.int .u8 (r : Int)) ∧ Below w.heap.size w w')) (JS : Hid (∀ bo w, NTab w → Fs w bo 1 1 [s] → Calls Tryd.prog 8 #[.slice bo 1 1] w fun e w' => e = .returned (.int .u8 ((y : Nat) : Int)) ∧ Below w.heap.size w w')) (w : World) (nt : NTab w) (x : Fs w ao n cap xs) : Calls Tryd.prog 4 #[.slice ao n cap, .int .u8 ((s : Nat) : Int)] w fun e w' => e = .returned (.bool true) ∧ Below w.heap.size w w' := by
  have NT := Lib.hid nt
  have HX := Lib.hid x
  have HN := Lib.hid hn
  have g : decide ((100 : Int) < (n : Int)) = false := by simp; omega
  clear nt x hn
  go_enter Tryd.func4, Tryd.ntmps4
  go_wp2_with fail
  refine (J.out _ (NT.out.later (Below.refl _ _)) (HX.out.later (Below.refl _ _))).mono ?_
  rintro e u0 ⟨rfl, hb⟩
  have KK0 := Lib.hid (bC (Below.refl _ _) hb)
  clear hb
  have S1_1 : Fs (u0.alloc (.cells #[.int .u8 ((s : Nat) : Int)] 23)) (some ⟨u0.heap.size, 0, none⟩) 1 1 [s] := Fs.ofHB 1 [s] (HB.newAt (by first | rfl | simp) _ _) rfl (by simp) rfl (fun q hq => by simp at hq; subst hq; exact US.out)
  go_wp2_with fail
  refine (JS.out _ _ (NT.out.later (bA KK0.out _)) S1_1).mono ?_
  rintro e u2 ⟨rfl, hb⟩
  have KK2 := Lib.hid (bC (bA KK0.out _) hb)
  clear hb
  clear S1_1
  go_wp2_with fail
  go_loopw [6, 7, 8] (fun al st i wr => ∃ k : Nat, k ≤ n ∧ i = .int .i64 k ∧ al = .bool ((xs.take k).all fun x => hasN y (joinN [x])) ∧ st = .int .u8 ((joinN (xs.drop (n - k)) : Nat) : Int) ∧ Below w.heap.size w wr) (fun _ _ i _ => n - (intOf i).toNat)
  case atStart => exact ⟨0, by omega, rfl, by first | trivial | rfl | simp, by first | rfl | (have h := HX.out.1; subst h; simp [joinN, orL]), KK2.out⟩
  case round =>
    obtain ⟨k, hk, rfl, rfl, rfl, kw⟩ := hrel
    have KW := Lib.hid kw
    clear kw
    by_cases hlt : k < n
    · obtain ⟨g1, g2, g3, g5, g4⟩ := HX.out.later KW.out
      obtain ⟨a, hao, c0⟩ := g4 k hlt
      obtain ⟨a', hao', c1⟩ := g4 (n - 1 - k) (by omega)
      subst hao
      obtain rfl := Option.some.inj hao'
      clear hao'
      have au := all_take_succ (fun x => hasN y (joinN [x])) (xs := xs) (k := k) (by omega)
      have du := drop_pre g1 hlt
      have he := has_each xs (k := k) (by omega)
      rw [HR.out] at he
      have ux := getD_lt g5 (k := k) (by omega)
      have uz := getD_lt g5 (k := n - 1 - k) (by omega)
      obtain ⟨x, hx⟩ : ∃ x, xs.getD k 0 = x := ⟨_, rfl⟩
      obtain ⟨z, hz⟩ : ∃ z, xs.getD (n - 1 - k) 0 = z := ⟨_, rfl⟩
      rw [hx] at c0 au he ux
      rw [hz] at c1 du uz
      have jz := joinN_cons z (xs.drop (n - k))
      rw [← du] at jz
      have sl := joinN_lt (xs.drop (n - k))
      have xl := joinN_lt [x]
      obtain ⟨st, hst⟩ : ∃ st, joinN (xs.drop (n - k)) = st := ⟨_, rfl⟩
      rw [hst] at jz sl ⊢
      obtain ⟨al, hal⟩ : ∃ al, (xs.take k).all (fun x => hasN y (joinN [x])) = al := ⟨_, rfl⟩
      rw [hal] at au ⊢
      have JX := Lib.hid fun bo w nt h => flag_join bo 1 1 [x] w nt h
      have JZ := Lib.hid fun bo w nt h => flag_join bo 2 2 [z, st] w nt h
      rw [jz] at JZ
      try dsimp only at au
      generalize joinN [x] = jx at *
      have h1 := flag_has r jx (by have := RL.out; omega) (by omega)
      rw [he] at h1
      have h2 := flag_has y jx (by have := YL.out; omega) (by omega)
      obtain ⟨b, hb⟩ : ∃ b, hasN y jx = b := ⟨_, rfl⟩
      rw [hb] at h2 au
      have H1 := Lib.hid h1
      have H2 := Lib.hid h2
      have AU := Lib.hid au
      have UX := Lib.hid ux
      have UZ := Lib.hid uz
      have SL := Lib.hid sl
      have HK := Lib.hid hlt
      have C0 := Lib.hid c0
      have C1 := Lib.hid c1
      have gk : decide ((k : Int) < (n : Int)) = true := by simp; omega
      have gk' : decide (k < n) = true := by simp; omega
      have inck : IntKind.i64.wrap ((k : Int) + 1) = ((k + 1 : Nat) : Int) := by have := HN.out; rw [IntKind.wrap_i64]; omega
      have w1 : IntKind.i64.wrap ((n : Int) - 1) = ((n - 1 : Nat) : Int) := by have := HN.out; rw [IntKind.wrap_i64]; omega
      have w2 : IntKind.i64.wrap (((n - 1 : Nat) : Int) - (k : Int)) = ((n - 1 - k : Nat) : Int) := by have := HN.out; rw [IntKind.wrap_i64]; omega
      have gz : decide (((n - 1 - k : Nat) : Int) < (n : Int)) = true := by simp; omega
      have gz' : decide (n - 1 - k < n) = true := by simp; omega
      obtain ⟨m1, hm1⟩ : ∃ m1, n - 1 = m1 := ⟨_, rfl⟩
      rw [hm1] at w1 w2 gz gz' C1 c1
      obtain ⟨m2, hm2⟩ : ∃ m2, m1 - k = m2 := ⟨_, rfl⟩
      rw [hm2] at w2 gz gz' C1 c1
      have gp : m2 < n := by have := of_decide_eq_true gz'; exact this
      have gq : (m2 : Int) < (n : Int) := by omega
      clear g1 g2 g3 g4 g5 du he ux uz hx hz jz sl xl hst hal h1 h2 au hb hm1 hm2 hk hlt
      cases al
      · have S220_1 : Fs (wr.alloc (.cells #[.int .u8 ((x : Nat) : Int)] 23)) (some ⟨wr.heap.size, 0, none⟩) 1 1 [x] := Fs.ofHB 1 [x] (HB.newAt (by first | rfl | simp) _ _) rfl (by simp) rfl (fun q hq => by simp at hq; subst hq; exact UX.out)
        go_wp2_with fail
        refine (JX.out _ _ (NT.out.later (bA KW.out _)) S220_1).mono ?_
        rintro e u221 ⟨rfl, hb⟩
        have KK221 := Lib.hid (bC (bA KW.out _) hb)
        clear c0 c1
        replace C0 := Lib.hid (cell_later (bC (bA (Below.refl _ _) _) hb) C0.out)
        have c0 := C0.out
        replace C1 := Lib.hid (cell_later (bC (bA (Below.refl _ _) _) hb) C1.out)
        have c1 := C1.out
        clear hb S220_1
        go_wp2_with fail
        refine (H1.out _).mono ?_
        rintro e u222 ⟨rfl, rfl⟩
        have S223_2 : Fs (u222.alloc (.cells #[.int .u8 ((z : Nat) : Int), .int .u8 ((st : Nat) : Int)] 23)) (some ⟨u222.heap.size, 0, none⟩) 2 2 [z, st] := Fs.ofHB 2 [z, st] (HB.newAt (by first | rfl | simp) _ _) rfl (by simp) rfl (fun q hq => by simp at hq; rcases hq with rfl | rfl <;> first | exact UZ.out | (have := SL.out; omega))
        go_wp2_with fail
        refine (JZ.out _ _ (NT.out.later (bA KK221.out _)) S223_2).mono ?_
        rintro e u224 ⟨rfl, hb⟩
        have KK224 := Lib.hid (bC (bA KK221.out _) hb)
        clear c0 c1
        replace C0 := Lib.hid (cell_later (bC (bA (Below.refl _ _) _) hb) C0.out)
        have c0 := C0.out
        replace C1 := Lib.hid (cell_later (bC (bA (Below.refl _ _) _) hb) C1.out)
        have c1 := C1.out
        clear hb S223_2
        go_wp2_with fail
        go_roundw
        case rel => exact ⟨k + 1, by have := HK.out; omega, by first | trivial | go_num, by first | (rw [AU.out]; done) | (rw [AU.out]; simp), by first | trivial | rfl, by first | exact KK224.out | simp⟩
        case measure => have := HK.out; simp [intOf]; omega
      · skip
        have S220_1 : Fs (wr.alloc (.cells #[.int .u8 ((x : Nat) : Int)] 23)) (some ⟨wr.heap.size, 0, none⟩) 1 1 [x] := Fs.ofHB 1 [x] (HB.newAt (by first | rfl | simp) _ _) rfl (by simp) rfl (fun q hq => by simp at hq; subst hq; exact UX.out)
        go_wp2_with fail
        refine (JX.out _ _ (NT.out.later (bA KW.out _)) S220_1).mono ?_
        rintro e u221 ⟨rfl, hb⟩
        have KK221 := Lib.hid (bC (bA KW.out _) hb)
        clear c0 c1
        replace C0 := Lib.hid (cell_later (bC (bA (Below.refl _ _) _) hb) C0.out)
        have c0 := C0.out
        replace C1 := Lib.hid (cell_later (bC (bA (Below.refl _ _) _) hb) C1.out)
        have c1 := C1.out
        clear hb S220_1
        go_wp2_with fail
        refine (H1.out _).mono ?_
        rintro e u222 ⟨rfl, rfl⟩
        have S223_2 : Fs (u222.alloc (.cells #[.int .u8 ((x : Nat) : Int)] 23)) (some ⟨u222.heap.size, 0, none⟩) 1 1 [x] := Fs.ofHB 1 [x] (HB.newAt (by first | rfl | simp) _ _) rfl (by simp) rfl (fun q hq => by simp at hq; subst hq; exact UX.out)
        go_wp2_with fail
        refine (JX.out _ _ (NT.out.later (bA KK221.out _)) S223_2).mono ?_
        rintro e u224 ⟨rfl, hb⟩
        have KK224 := Lib.hid (bC (bA KK221.out _) hb)
        clear c0 c1
        replace C0 := Lib.hid (cell_later (bC (bA (Below.refl _ _) _) hb) C0.out)
        have c0 := C0.out
        replace C1 := Lib.hid (cell_later (bC (bA (Below.refl _ _) _) hb) C1.out)
        have c1 := C1.out
        clear hb S223_2
        go_wp2_with fail
        refine (H2.out _).mono ?_
        rintro e u225 ⟨rfl, rfl⟩
        have S226_3 : Fs (u225.alloc (.cells #[.int .u8 ((z : Nat) : Int), .int .u8 ((st : Nat) : Int)] 23)) (some ⟨u225.heap.size, 0, none⟩) 2 2 [z, st] := Fs.ofHB 2 [z, st] (HB.newAt (by first | rfl | simp) _ _) rfl (by simp) rfl (fun q hq => by simp at hq; rcases hq with rfl | rfl <;> first | exact UZ.out | (have := SL.out; omega))
        go_wp2_with fail
        refine (JZ.out _ _ (NT.out.later (bA KK224.out _)) S226_3).mono ?_
        rintro e u227 ⟨rfl, hb⟩
        have KK227 := Lib.hid (bC (bA KK224.out _) hb)
        clear c0 c1
        replace C0 := Lib.hid (cell_later (bC (bA (Below.refl _ _) _) hb) C0.out)
        have c0 := C0.out
        replace C1 := Lib.hid (cell_later (bC (bA (Below.refl _ _) _) hb) C1.out)
        have c1 := C1.out
        clear hb S226_3
        go_wp2_with fail
        go_roundw
        case rel => exact ⟨k + 1, by have := HK.out; omega, by first | trivial | go_num, by first | (rw [AU.out]; done) | (rw [AU.out]; simp), by first | trivial | rfl, by first | exact KK227.out | simp⟩
        case measure => have := HK.out; simp [intOf]; omega
    · have gk : decide ((k : Int) < (n : Int)) = false := by simp; omega
      have gk' : decide (k < n) = false := by simp; omega
      have hl := HX.out.1
      have hkn : k = n := by omega
      have eA : ((xs.take k).all fun x => hasN y (joinN [x])) = hasN y r := by rw [hkn, hl, List.take_length, ← has_join, HR.out]
      have eS : joinN (xs.drop (n - k)) = r := by rw [hkn, Nat.sub_self, List.drop_zero, HR.out]
      rw [eA, eS]
      have h1 := Lib.hid (flag_has y r (by have := YL.out; omega) (by have := RL.out; omega))
      have gd := Lib.hid fun w nt => flag_good r (by have := RL.out; omega) w nt
      have e32 : decide (r < 32) = true := by have := RL.out; simp; omega
      rw [e32] at gd
      have JJ := Lib.hid fun bo w nt h => flag_join bo 2 2 [r, r] w nt h
      rw [joinN_self r RL.out] at JJ
      obtain ⟨q, hq⟩ : ∃ q, hasN y r = q := ⟨_, rfl⟩
      rw [hq] at h1 ⊢
      clear e32 hq eA eS hkn hl hk hlt
      go_wp2_with fail
      refine (gd.out _ (NT.out.later KW.out)).mono ?_
      rintro e u340 ⟨rfl, hb⟩
      have KK340 := Lib.hid (bC KW.out hb)
      clear hb
      go_wp2_with fail
      refine (h1.out _).mono ?_
      rintro e u341 ⟨rfl, rfl⟩
      have S342_1 : Fs (u341.alloc (.cells #[.int .u8 ((r : Nat) : Int), .int .u8 ((r : Nat) : Int)] 23)) (some ⟨u341.heap.size, 0, none⟩) 2 2 [r, r] := Fs.ofHB 2 [r, r] (HB.newAt (by first | rfl | simp) _ _) rfl (by simp) rfl (fun q hq => by simp at hq; subst hq; have := RL.out; omega)
      go_wp2_with fail
      refine (JJ.out _ _ (NT.out.later (bA KK340.out _)) S342_1).mono ?_
      rintro e u343 ⟨rfl, hb⟩
      have KK343 := Lib.hid (bC (bA KK340.out _) hb)
      clear hb
      clear S342_1
      go_wp2_with fail
      refine (goes12_any _ (NT.out.later KK343.out)).mono ?_
      rintro e u344 ⟨rfl, hb⟩
      have KK344 := Lib.hid (bC KK343.out hb)
      clear hb
      go_wp2_with fail
      go_ret
      exact ⟨rfl, KK344.out⟩
theorem joins12_law (ao : Option Addr) (n cap : Nat) (xs : List Nat) (s : Int) (hs : 0 ≤ s ∧ s ≤ 255) (w : World) (nt : NTab w) (x : Fs w ao n cap xs) : Calls Tryd.prog 4 #[.slice ao n cap, .int .u8 s] w fun e w' => e = .returned (.bool true) ∧ Below w.heap.size w w' := by
  obtain ⟨s, rfl, us⟩ := nat_u8 hs
  have ly : s % 32 < 32 := Nat.mod_lt _ (by decide)
  have JS : ∀ bo w, NTab w → Fs w bo 1 1 [s] → _ := fun bo w nt x => flag_join bo 1 1 [s] w nt x
  rw [joinN_one] at JS
  by_cases hn : n ≤ 100
  · exact joins12_core ao n cap xs s (s % 32) (joinN xs) (Lib.hid us) (Lib.hid (joinN_lt xs)) (Lib.hid ly) (Lib.hid rfl) hn (Lib.hid fun w nt x => flag_join ao n cap xs w nt x) (Lib.hid JS) w nt x
  · exact joins12_long ao n cap s w (by omega)

end Go.Proofs.YteobcedcgkfmjaaDoor
