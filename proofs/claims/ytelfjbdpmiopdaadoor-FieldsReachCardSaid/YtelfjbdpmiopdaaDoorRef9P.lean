/-
  The document's Pack, over numbers.
-/
import Derived.Test.YtelfjbdpmiopdaaDoorRef9
set_option linter.unusedVariables false
set_option linter.unusedSimpArgs false
set_option maxRecDepth 100000
namespace Go.Proofs.YtelfjbdpmiopdaaDoor
open Go.RowKit

theorem neq_bits (a b c d : Int) (w : World) : (binOp .neq 25 (.agg #[.int .u64 a, .int .u64 b]) (.agg #[.int .u64 c, .int .u64 d])).run Tryd.prog w = .ok (.bool (!decide (a = c ∧ b = d))) w := by
  by_cases h1 : a = c
  · subst h1
    by_cases h2 : b = d
    · subst h2
      go_simp
    · go_simp
  · go_simp
theorem fit_no {f c e s : Int} (h : ¬ fitK f e s) (c0 : c ≠ 0) (c3 : c ≠ 3) (g : Bool) : packK f c e s = false ∧ packV f g c e s = 0 := by
  have k : packK f c e s = false := by unfold packK; simp [h, c0, c3]
  exact ⟨k, by unfold packV; rw [k, if_neg (by decide)]⟩
/-- The document's Pack. -/
theorem ref9_pack (f : Int) (g : Bool) (c e s : Int) (f0 : 0 ≤ f) (f1 : f ≤ 255) (c0 : 0 ≤ c) (c1 : c ≤ 255) (e0 : -9223372036854775808 ≤ e) (e1 : e ≤ 9223372036854775807) (w : World) :
    Calls Tryd.prog 14 #[.int .u8 f, .agg #[.bool g, .int .u8 c, .int .i64 e, .int .u64 (hiOf s), .int .u64 (loOf s)]] w fun e' w' => e' = .returned (.tuple #[.agg #[.int .u64 (hiOf (packV f g c e (s % full))), .int .u64 (loOf (packV f g c e (s % full)))], .bool (packK f c e (s % full))]) ∧ Below w.heap.size w w' := by
  obtain ⟨z1, z2⟩ := hl_zero
  by_cases h : f < 4
  · have g3 : decide (3 < f) = false := by simp; omega
    obtain ⟨p0, p1, p2, p3, p4, p5, p6, p7, p8⟩ := f_nums f0 h
    obtain ⟨m0, m1⟩ := mod_f s
    by_cases gc : 3 < c
    · have k : packK f c e (s % full) = false := by unfold packK; simp; omega
      have v : packV f g c e (s % full) = 0 := by unfold packV; rw [k, if_neg (by decide)]
      rw [k, v, z1, z2]
      exact ref9_pack_no2 f _ _ _ _ g g3 (by simp [gc]) w
    · have gc' : decide (3 < c) = false := by simp [gc]
      by_cases cz : c = 0
      · subst cz
        have k : packK f 0 e (s % full) = true := by unfold packK; simp [h]
        have v : packV f g 0 e (s % full) = makeF f g 0 0 := by unfold packV; rw [k, if_pos rfl, if_pos rfl]
        rw [k, v]
        exact ref9_pack_zero f _ _ _ _ _ g g3 (Lib.hid fun w => ref7_make f 0 0 g (.slice none 0 0) f0 f1 (by decide) (by decide) (small_full (by unfold full; decide)) w (nil_num w)) w
      · by_cases c3 : c = 3
        · subst c3
          have k : packK f 3 e (s % full) = true := by unfold packK; simp [h]
          have v : packV f g 3 e (s % full) = infF f g := by unfold packV; rw [k, if_pos rfl, if_neg (by decide), if_pos rfl]
          rw [k, v]
          exact ref9_pack_inf f _ _ _ _ _ g g3 (Lib.hid (ref7_inf f g f0 f1)) w
        · have cz' : (c == 0) = false := by simp [cz]
          have c3' : (c == 3) = false := by simp [c3]
          have PF := Lib.hid (ref7_prec f f0 f1)
          have EF := Lib.hid (ref7_emax f f0 f1)
          by_cases d1 : (fE f : Int) < e
          · obtain ⟨k, v⟩ := fit_no (f := f) (c := c) (e := e) (s := s % full) (fun x => by have := x.1; omega) cz c3 g
            rw [k, v, z1, z2]
            exact ref9_pack_far f _ _ _ _ _ _ g g3 gc' cz' c3' PF EF (by simp [d1]) w
          · have w1 : IntKind.i64.wrap (1 - (fE f : Int)) = 1 - fE f := IntWalk.i64_in _ (by omega)
            have w2 : IntKind.i64.wrap ((fP f : Int) - 1) = (fP f : Int) - 1 := IntWalk.i64_in _ (by omega)
            have w3 : IntKind.i64.wrap (1 - (fE f : Int) - ((fP f : Int) - 1)) = 2 - fE f - fP f := by rw [IntWalk.i64_in _ (by omega)]; omega
            by_cases d2 : e < 2 - fE f - fP f
            · obtain ⟨k, v⟩ := fit_no (f := f) (c := c) (e := e) (s := s % full) (fun x => by have := x.2.1; omega) cz c3 g
              rw [k, v, z1, z2]
              exact ref9_pack_near f _ _ _ _ _ _ _ _ _ g g3 gc' cz' c3' PF EF (by simp [d1]) w1 w2 w3 (by simp [d2]) w
            · obtain ⟨o1, o2⟩ := off_le f0 h (show 2 - fE f - fP f ≤ e by omega)
              have fr : fieldF f e ≤ 2 * fE f ∧ 0 ≤ fieldF f e := by unfold fieldF; split <;> omega
              have q0 : 0 ≤ s % full / 2 ^ offF f e := Int.ediv_nonneg m0 (by have := two_pow_pos (offF f e); omega)
              have q1 : s % full / 2 ^ offF f e ≤ full := by have := Int.ediv_le_self (2 ^ offF f e) m0; omega
              obtain ⟨b, hb⟩ : ∃ b, makeF f g (fieldF f e) (s % full / 2 ^ offF f e) = b := ⟨_, rfl⟩
              have fi := fit_iff f0 h g m0 m1 (show e ≤ fE f by omega) (show 2 - fE f - fP f ≤ e by omega) b hb
              have bf := make_full f0 g (fieldF f e) (s % full / 2 ^ offF f e)
              have ng := (make_fields f0 h g (fieldF f e) (s % full / 2 ^ offF f e)).2.2
              have MK := Lib.hid fun w v (nv : IsNum w v (s % full / 2 ^ offF f e)) => ref7_make f (fieldF f e) _ g v f0 f1 (by omega) (by omega) (small_full q1) w nv
              have UN := ref9_unpack f b f0 f1
              rw [hb] at MK bf ng
              rw [Int.emod_eq_of_lt bf.1 bf.2, ng] at UN
              have BN := Lib.hid (bigN s)
              have w4 : IntKind.i64.wrap (e + (fE f : Int)) = e + fE f := IntWalk.i64_in _ (by omega)
              have w5 : IntKind.i64.wrap (128 - (fP f : Int)) = ((128 - fP f : Nat) : Int) := by rw [IntWalk.i64_in _ (by omega)]; omega
              have HO : Hid (((offF f e : Nat) : Int) ≤ 9223372036854775807) := Lib.hid (by omega)
              have NQ : uS f b = s % full ∨ (∀ w, (binOp .neq 25 (.agg #[.int .u64 (hiOf (uS f b)), .int .u64 (loOf (uS f b))]) (.agg #[.int .u64 (hiOf s), .int .u64 (loOf s)])).run Tryd.prog w = .ok (.bool true) w) := by
                by_cases x : uS f b = s % full
                · exact Or.inl x
                · refine Or.inr fun w => ?_
                  rw [neq_bits]
                  have u := uS_range (f := f) f0 bf.1
                  have i := hl_inj u.1 u.2 m0 m1
                  rw [(hl_mod s).1, (hl_mod s).2] at i
                  have : ¬ (hiOf (uS f b) = hiOf s ∧ loOf (uS f b) = loOf s) := fun y => x (i.1 ⟨y.2, y.1⟩)
                  simp [this]
              have KO : ∀ w, (binOp .neq 25 (.agg #[.int .u64 (hiOf s), .int .u64 (loOf s)]) (.agg #[.int .u64 (hiOf s), .int .u64 (loOf s)])).run Tryd.prog w = .ok (.bool false) w := fun w => by rw [neq_bits]; simp
              have hd1 : decide ((fE f : Int) < e) = false := by simp [d1]
              have hd2 : decide (e < 2 - (fE f : Int) - fP f) = false := by simp [d2]
              by_cases x1 : uE f b = e
              · rcases NQ with x2 | NE
                · have k := fi.1 ⟨x1, x2, ng⟩
                  have kk : packK f c e (s % full) = true := by unfold packK; simp [h, k]; omega
                  have vv : packV f g c e (s % full) = b := by unfold packV; rw [kk, if_pos rfl, if_neg cz, if_neg c3, hb]
                  rw [kk, vv]
                  rw [x1, x2, (hl_mod s).1, (hl_mod s).2] at UN
                  by_cases d3 : e + (fE f : Int) < 1
                  · have eo : offF f e = (129 - fP f - (e + fE f)).toNat := by unfold offF; rw [if_pos d3]
                    have ef : fieldF f e = 0 := by unfold fieldF; rw [if_pos d3]
                    rw [ef] at MK
                    exact ref9_pack_sub_ok f c _ _ _ _ _ _ _ _ _ _ ((128 - fP f : Nat) : Int) ((129 - fP f : Nat) : Int) _ _ _ _ g g3 gc' cz' c3' PF EF hd1 w1 w2 w3 hd2 BN w4 (offF f e) w5 (by simp [d3]) (by rw [IntWalk.i64_in _ (by omega)]; omega) (by rw [IntWalk.i64_in _ (by omega)]; omega) HO rfl MK (Lib.hid UN) KO w
                  · have eo : offF f e = 128 - fP f := by unfold offF; rw [if_neg d3]
                    have ef : fieldF f e = e + fE f := by unfold fieldF; rw [if_neg d3]
                    rw [ef] at MK
                    exact ref9_pack_nor_ok f c _ _ _ _ _ _ _ _ _ _ 0 0 _ _ _ _ g g3 gc' cz' c3' PF EF hd1 w1 w2 w3 hd2 BN w4 (offF f e) (by rw [eo]; exact w5) (by simp [d3]) HO rfl MK (Lib.hid UN) KO w
                · have nk : ¬ fitK f e (s % full) := fun k => by
                    have x2 := (fi.2 k).2.1
                    have := NE w
                    rw [x2, (hl_mod s).1, (hl_mod s).2, neq_bits] at this
                    simp at this
                  obtain ⟨k, v⟩ := fit_no (c := c) nk cz c3 g
                  rw [k, v, z1, z2]
                  rw [x1] at UN
                  by_cases d3 : e + (fE f : Int) < 1
                  · have eo : offF f e = (129 - fP f - (e + fE f)).toNat := by unfold offF; rw [if_pos d3]
                    have ef : fieldF f e = 0 := by unfold fieldF; rw [if_pos d3]
                    rw [ef] at MK
                    exact ref9_pack_sub_sig f c _ _ _ _ _ _ _ _ _ _ ((128 - fP f : Nat) : Int) ((129 - fP f : Nat) : Int) _ _ _ _ _ _ g g3 gc' cz' c3' PF EF hd1 w1 w2 w3 hd2 BN w4 (offF f e) w5 (by simp [d3]) (by rw [IntWalk.i64_in _ (by omega)]; omega) (by rw [IntWalk.i64_in _ (by omega)]; omega) HO rfl MK (Lib.hid UN) NE w
                  · have eo : offF f e = 128 - fP f := by unfold offF; rw [if_neg d3]
                    have ef : fieldF f e = e + fE f := by unfold fieldF; rw [if_neg d3]
                    rw [ef] at MK
                    exact ref9_pack_nor_sig f c _ _ _ _ _ _ _ _ _ _ 0 0 _ _ _ _ _ _ g g3 gc' cz' c3' PF EF hd1 w1 w2 w3 hd2 BN w4 (offF f e) (by rw [eo]; exact w5) (by simp [d3]) HO rfl MK (Lib.hid UN) NE w
              · have nk : ¬ fitK f e (s % full) := fun k => x1 (fi.2 k).1
                obtain ⟨k, v⟩ := fit_no (c := c) nk cz c3 g
                rw [k, v, z1, z2]
                by_cases d3 : e + (fE f : Int) < 1
                · have eo : offF f e = (129 - fP f - (e + fE f)).toNat := by unfold offF; rw [if_pos d3]
                  have ef : fieldF f e = 0 := by unfold fieldF; rw [if_pos d3]
                  rw [ef] at MK
                  exact ref9_pack_sub_exp f c _ _ _ _ _ _ _ _ _ _ ((128 - fP f : Nat) : Int) ((129 - fP f : Nat) : Int) _ _ _ _ _ _ _ g g3 gc' cz' c3' PF EF hd1 w1 w2 w3 hd2 BN w4 (offF f e) w5 (by simp [d3]) (by rw [IntWalk.i64_in _ (by omega)]; omega) (by rw [IntWalk.i64_in _ (by omega)]; omega) HO rfl MK (Lib.hid UN) (by simp [x1]) w
                · have eo : offF f e = 128 - fP f := by unfold offF; rw [if_neg d3]
                  have ef : fieldF f e = e + fE f := by unfold fieldF; rw [if_neg d3]
                  rw [ef] at MK
                  exact ref9_pack_nor_exp f c _ _ _ _ _ _ _ _ _ _ 0 0 _ _ _ _ _ _ _ g g3 gc' cz' c3' PF EF hd1 w1 w2 w3 hd2 BN w4 (offF f e) (by rw [eo]; exact w5) (by simp [d3]) HO rfl MK (Lib.hid UN) (by simp [x1]) w
  · have k : packK f c e (s % full) = false := by unfold packK; simp [h]
    have v : packV f g c e (s % full) = 0 := by unfold packV; rw [k, if_neg (by decide)]
    rw [k, v, z1, z2]
    exact ref9_pack_no1 f _ _ _ _ g (by simp; omega) w


end Go.Proofs.YtelfjbdpmiopdaaDoor
