/-
  The library's Div64: two estimated digits.
-/
import Derived.Test.YtlmgebanfjclcaaGcA
import Derived.Test.YtlmgebanfjclcaaQuotM
set_option linter.unusedVariables false
set_option linter.unusedSimpArgs false
set_option maxRecDepth 100000
namespace Go.Proofs.Ytlmgebanfjclcaa
open Go.RowKit
attribute [local go_sem ↓] Go.wp_at_zero Go.wp_at_succ

theorem lz64_core (y l m : Int) (L : Hid (∀ w, Calls Try.prog 79 #[.int .u64 y] w fun e w' => e = .returned (.int .i64 l) ∧ w = w')) (hm : IntKind.i64.wrap (64 - l) = m) (w : World) :
    Calls Try.prog 66 #[.int .u64 y] w fun e w' => e = .returned (.int .i64 m) ∧ w = w' := by
  go_enter Try.func66, Try.ntmps66
  go_wp2_with fail
  (with_reducible refine (L.out _).mono ?_); rintro e w1 ⟨rfl, rfl⟩
  go_wp2_with fail
  go_ret
  exact ⟨rfl, rfl⟩

theorem u64w {x : Int} (h0 : 0 ≤ x) (h1 : x < 18446744073709551616) : IntKind.u64.wrap x = x := by
  rw [IntKind.wrap_u64]; omega

/-- The relation at the loop's head. -/
def KRel (A un y1 y0 Q : Int) (w : World) (q r : Value) (wr : World) : Prop :=
  ∃ a b : Int, q = .int .u64 a ∧ r = .int .u64 b ∧ KInv A un y1 y0 Q a b ∧ b < 4294967296 ∧ w = wr
theorem KInv.facts {A un y1 y0 Q q r : Int} (h : KInv A un y1 y0 Q q r) (hr : r < 4294967296) :
    (4294967296 ≤ q ∧ decide (4294967296 ≤ q) = true ∨ q < 4294967296 ∧ decide (4294967296 ≤ q) = false ∧ IntKind.u64.wrap (q * y0) = q * y0) ∧ IntKind.u64.wrap (4294967296 * r) = 4294967296 * r ∧ IntKind.u64.wrap (4294967296 * r + un) = 4294967296 * r + un := by
  have b0 := h.b0; have b1 := h.b1; have u0 := h.u0; have u1 := h.u1; have r0 := h.r0; have Q0 := h.Q0; have ge := h.ge
  refine ⟨?_, u64w (by omega) (by omega), u64w (by omega) (by omega)⟩
  by_cases g : 4294967296 ≤ q
  · exact .inl ⟨g, by simp [g]⟩
  · refine .inr ⟨by omega, by simp; omega, u64w (Int.mul_nonneg (by omega) b0) ?_⟩
    have : q * y0 ≤ 4294967295 * y0 := mul_le_of b0 (by omega)
    omega

set_option maxHeartbeats 8000000 in
theorem div64_core (hi lo y s t Y y1 y0 A B un1 un0 X1 X2 q1 r1 Q1 m1 m2 m3 U q0 p0 r0 Q0 n1 n2 n3 n4 n5 n6 R : Int)
    (g1 : (y == 0) = false) (g2 : decide (y ≤ hi) = false) (g3 : (hi == 0) = false) (g4 : ¬ y1 = 0)
    (L : Hid (∀ w, Calls Try.prog 66 #[.int .u64 y] w fun e w' => e = .returned (.int .i64 s) ∧ w = w')) (ws : IntKind.u64.wrap s = s)
    (s1 : Op.shift .shl .u64 y .u64 s = pure (.int .u64 Y)) (s2 : Op.shift .shr .u64 Y .u64 32 = pure (.int .u64 y1)) (a1 : bits .and .u64 Y 4294967295 = y0)
    (s3 : Op.shift .shl .u64 hi .u64 s = pure (.int .u64 X1)) (wt : IntKind.u64.wrap (64 - s) = t) (s4 : Op.shift .shr .u64 lo .u64 t = pure (.int .u64 X2)) (o1 : bits .or .u64 X1 X2 = A)
    (s5 : Op.shift .shl .u64 lo .u64 s = pure (.int .u64 B)) (s6 : Op.shift .shr .u64 B .u64 32 = pure (.int .u64 un1)) (a2 : bits .and .u64 B 4294967295 = un0)
    (d1 : IntKind.u64.wrap (A.tdiv y1) = q1) (w1 : IntKind.u64.wrap (q1 * y1) = m1) (w2 : IntKind.u64.wrap (A - m1) = r1)
    (K1 : Hid (KInv A un1 y1 y0 Q1 q1 r1 ∧ r1 < 4294967296))
    (w3 : IntKind.u64.wrap (A * 4294967296) = m2) (w4 : IntKind.u64.wrap (Q1 * Y) = m3) (w5 : IntKind.u64.wrap (IntKind.u64.wrap (m2 + un1) - m3) = U)
    (d2 : IntKind.u64.wrap (U.tdiv y1) = q0) (w6 : IntKind.u64.wrap (q0 * y1) = p0) (w7 : IntKind.u64.wrap (U - p0) = r0)
    (K2 : Hid (KInv U un0 y1 y0 Q0 q0 r0 ∧ r0 < 4294967296))
    (w8 : IntKind.u64.wrap (Q1 * 4294967296) = n1) (w9 : IntKind.u64.wrap (n1 + Q0) = n2)
    (w10 : IntKind.u64.wrap (U * 4294967296) = n3) (w11 : IntKind.u64.wrap (n3 + un0) = n4) (w12 : IntKind.u64.wrap (Q0 * Y) = n5) (w13 : IntKind.u64.wrap (n4 - n5) = n6)
    (s7 : Op.shift .shr .u64 n6 .u64 s = pure (.int .u64 R)) (w : World) :
    Calls Try.prog 38 #[.int .u64 hi, .int .u64 lo, .int .u64 y] w fun e w' => e = .returned (.tuple #[.int .u64 n2, .int .u64 R]) ∧ Below w.heap.size w w' := by
  go_enter Try.func38, Try.ntmps38
  go_wp2_with fail
  (with_reducible refine (L.out _).mono ?_); rintro e w1 ⟨rfl, rfl⟩
  go_wp2_with fail
  go_loopw [15, 16] (fun q r wr => KRel A un1 y1 y0 Q1 w q r wr) (fun q _ _ => (intOf q).toNat)
  case atStart => exact ⟨_, _, rfl, rfl, K1.out.1, K1.out.2, rfl⟩
  case round =>
    obtain ⟨a1, b1, rfl, rfl, hKI, hb, rfl⟩ := hrel
    obtain ⟨hq, e1, e2⟩ := hKI.facts hb
    have more : (4294967296 ≤ a1 ∨ 4294967296 * b1 + un1 < a1 * y0) → KInv A un1 y1 y0 Q1 (a1 - 1) (b1 + y1) ∧ IntKind.u64.wrap (a1 - 1) = a1 - 1 ∧ IntKind.u64.wrap (b1 + y1) = b1 + y1 ∧ a1 - 1 ≤ 4294967296 ∧ 1 ≤ a1 := fun g => by
      obtain ⟨n1, n2, n3⟩ := hKI.less hb g
      have c1 := hKI.r0; have c2 := hKI.a0; have c3 := hKI.a1
      exact ⟨n1, u64w (by omega) (by omega), u64w (by omega) (by omega), n3, n2⟩
    rcases hq with ⟨g, gd⟩ | ⟨g, gd, em⟩
    · have gg := Lib.hid (show 4294967296 ≤ a1 ∨ 4294967296 * b1 + un1 < a1 * y0 from .inl g)
      clear g hb
      obtain ⟨k1, k2, k3, k4, k5⟩ := more (gg.out)
      by_cases hr : 4294967296 ≤ b1 + y1
      · have hrd : decide (4294967296 ≤ b1 + y1) = true := by simp [hr]
        have ea := k1.out hr k4
        replace k2 := k2.trans ea
        clear k1 k4 k5 hr more hKI ea
        go_wp2
        go_loopw [18, 16] (fun q r wr => KRel U un0 y1 y0 Q0 w q r wr) (fun q _ _ => (intOf q).toNat)
        case atStart => exact ⟨_, _, rfl, rfl, K2.out.1, K2.out.2, rfl⟩
        case round =>
          obtain ⟨a2, b2, rfl, rfl, hKI, hb, rfl⟩ := hrel
          obtain ⟨hq, e1, e2⟩ := hKI.facts hb
          have more : (4294967296 ≤ a2 ∨ 4294967296 * b2 + un0 < a2 * y0) → KInv U un0 y1 y0 Q0 (a2 - 1) (b2 + y1) ∧ IntKind.u64.wrap (a2 - 1) = a2 - 1 ∧ IntKind.u64.wrap (b2 + y1) = b2 + y1 ∧ a2 - 1 ≤ 4294967296 ∧ 1 ≤ a2 := fun g => by
            obtain ⟨n1, n2, n3⟩ := hKI.less hb g
            have c1 := hKI.r0; have c2 := hKI.a0; have c3 := hKI.a1
            exact ⟨n1, u64w (by omega) (by omega), u64w (by omega) (by omega), n3, n2⟩
          rcases hq with ⟨g, gd⟩ | ⟨g, gd, em⟩
          · have gg := Lib.hid (show 4294967296 ≤ a2 ∨ 4294967296 * b2 + un0 < a2 * y0 from .inl g)
            clear g hb
            obtain ⟨k1, k2, k3, k4, k5⟩ := more (gg.out)
            by_cases hr : 4294967296 ≤ b2 + y1
            · have hrd : decide (4294967296 ≤ b2 + y1) = true := by simp [hr]
              have ea := k1.out hr k4
              replace k2 := k2.trans ea
              clear k1 k4 k5 hr more hKI ea
              go_wp2
              go_ret2
              exact ⟨rfl, Below.refl _ _⟩
            · have hrd : decide (4294967296 ≤ b2 + y1) = false := by simp; omega
              have REL := Lib.hid (show KRel U un0 y1 y0 Q0 w (.int .u64 (a2 - 1)) (.int .u64 (b2 + y1)) w from ⟨_, _, rfl, rfl, k1, by omega, rfl⟩)
              have MS := Lib.hid k5
              clear k1 k4 k5 hr more hKI
              go_wp2
              go_roundw
              case rel => exact REL.out
              case measure => have := MS.out; simp [intOf]; omega

          · by_cases hg : 4294967296 * b2 + un0 < a2 * y0
            · have hgd : decide (4294967296 * b2 + un0 < a2 * y0) = true := by simp [hg]
              have gg := Lib.hid (show 4294967296 ≤ a2 ∨ 4294967296 * b2 + un0 < a2 * y0 from .inr hg)
              clear g hb
              obtain ⟨k1, k2, k3, k4, k5⟩ := more (gg.out)
              by_cases hr : 4294967296 ≤ b2 + y1
              · have hrd : decide (4294967296 ≤ b2 + y1) = true := by simp [hr]
                have ea := k1.out hr k4
                replace k2 := k2.trans ea
                clear k1 k4 k5 hr more hKI ea
                go_wp2
                go_ret2
                exact ⟨rfl, Below.refl _ _⟩
              · have hrd : decide (4294967296 ≤ b2 + y1) = false := by simp; omega
                have REL := Lib.hid (show KRel U un0 y1 y0 Q0 w (.int .u64 (a2 - 1)) (.int .u64 (b2 + y1)) w from ⟨_, _, rfl, rfl, k1, by omega, rfl⟩)
                have MS := Lib.hid k5
                clear k1 k4 k5 hr more hKI
                go_wp2
                go_roundw
                case rel => exact REL.out
                case measure => have := MS.out; simp [intOf]; omega

            · have hgd : decide (4294967296 * b2 + un0 < a2 * y0) = false := by simp; omega
              obtain rfl := hKI.done (by omega)
              clear g hb more hKI hg
              go_wp2
              go_ret2
              exact ⟨rfl, Below.refl _ _⟩

      · have hrd : decide (4294967296 ≤ b1 + y1) = false := by simp; omega
        have REL := Lib.hid (show KRel A un1 y1 y0 Q1 w (.int .u64 (a1 - 1)) (.int .u64 (b1 + y1)) w from ⟨_, _, rfl, rfl, k1, by omega, rfl⟩)
        have MS := Lib.hid k5
        clear k1 k4 k5 hr more hKI
        go_wp2
        go_roundw
        case rel => exact REL.out
        case measure => have := MS.out; simp [intOf]; omega

    · by_cases hg : 4294967296 * b1 + un1 < a1 * y0
      · have hgd : decide (4294967296 * b1 + un1 < a1 * y0) = true := by simp [hg]
        have gg := Lib.hid (show 4294967296 ≤ a1 ∨ 4294967296 * b1 + un1 < a1 * y0 from .inr hg)
        clear g hb
        obtain ⟨k1, k2, k3, k4, k5⟩ := more (gg.out)
        by_cases hr : 4294967296 ≤ b1 + y1
        · have hrd : decide (4294967296 ≤ b1 + y1) = true := by simp [hr]
          have ea := k1.out hr k4
          replace k2 := k2.trans ea
          clear k1 k4 k5 hr more hKI ea
          go_wp2
          go_loopw [18, 16] (fun q r wr => KRel U un0 y1 y0 Q0 w q r wr) (fun q _ _ => (intOf q).toNat)
          case atStart => exact ⟨_, _, rfl, rfl, K2.out.1, K2.out.2, rfl⟩
          case round =>
            obtain ⟨a2, b2, rfl, rfl, hKI, hb, rfl⟩ := hrel
            obtain ⟨hq, e1, e2⟩ := hKI.facts hb
            have more : (4294967296 ≤ a2 ∨ 4294967296 * b2 + un0 < a2 * y0) → KInv U un0 y1 y0 Q0 (a2 - 1) (b2 + y1) ∧ IntKind.u64.wrap (a2 - 1) = a2 - 1 ∧ IntKind.u64.wrap (b2 + y1) = b2 + y1 ∧ a2 - 1 ≤ 4294967296 ∧ 1 ≤ a2 := fun g => by
              obtain ⟨n1, n2, n3⟩ := hKI.less hb g
              have c1 := hKI.r0; have c2 := hKI.a0; have c3 := hKI.a1
              exact ⟨n1, u64w (by omega) (by omega), u64w (by omega) (by omega), n3, n2⟩
            rcases hq with ⟨g, gd⟩ | ⟨g, gd, em⟩
            · have gg := Lib.hid (show 4294967296 ≤ a2 ∨ 4294967296 * b2 + un0 < a2 * y0 from .inl g)
              clear g hb
              obtain ⟨k1, k2, k3, k4, k5⟩ := more (gg.out)
              by_cases hr : 4294967296 ≤ b2 + y1
              · have hrd : decide (4294967296 ≤ b2 + y1) = true := by simp [hr]
                have ea := k1.out hr k4
                replace k2 := k2.trans ea
                clear k1 k4 k5 hr more hKI ea
                go_wp2
                go_ret2
                exact ⟨rfl, Below.refl _ _⟩
              · have hrd : decide (4294967296 ≤ b2 + y1) = false := by simp; omega
                have REL := Lib.hid (show KRel U un0 y1 y0 Q0 w (.int .u64 (a2 - 1)) (.int .u64 (b2 + y1)) w from ⟨_, _, rfl, rfl, k1, by omega, rfl⟩)
                have MS := Lib.hid k5
                clear k1 k4 k5 hr more hKI
                go_wp2
                go_roundw
                case rel => exact REL.out
                case measure => have := MS.out; simp [intOf]; omega

            · by_cases hg : 4294967296 * b2 + un0 < a2 * y0
              · have hgd : decide (4294967296 * b2 + un0 < a2 * y0) = true := by simp [hg]
                have gg := Lib.hid (show 4294967296 ≤ a2 ∨ 4294967296 * b2 + un0 < a2 * y0 from .inr hg)
                clear g hb
                obtain ⟨k1, k2, k3, k4, k5⟩ := more (gg.out)
                by_cases hr : 4294967296 ≤ b2 + y1
                · have hrd : decide (4294967296 ≤ b2 + y1) = true := by simp [hr]
                  have ea := k1.out hr k4
                  replace k2 := k2.trans ea
                  clear k1 k4 k5 hr more hKI ea
                  go_wp2
                  go_ret2
                  exact ⟨rfl, Below.refl _ _⟩
                · have hrd : decide (4294967296 ≤ b2 + y1) = false := by simp; omega
                  have REL := Lib.hid (show KRel U un0 y1 y0 Q0 w (.int .u64 (a2 - 1)) (.int .u64 (b2 + y1)) w from ⟨_, _, rfl, rfl, k1, by omega, rfl⟩)
                  have MS := Lib.hid k5
                  clear k1 k4 k5 hr more hKI
                  go_wp2
                  go_roundw
                  case rel => exact REL.out
                  case measure => have := MS.out; simp [intOf]; omega

              · have hgd : decide (4294967296 * b2 + un0 < a2 * y0) = false := by simp; omega
                obtain rfl := hKI.done (by omega)
                clear g hb more hKI hg
                go_wp2
                go_ret2
                exact ⟨rfl, Below.refl _ _⟩

        · have hrd : decide (4294967296 ≤ b1 + y1) = false := by simp; omega
          have REL := Lib.hid (show KRel A un1 y1 y0 Q1 w (.int .u64 (a1 - 1)) (.int .u64 (b1 + y1)) w from ⟨_, _, rfl, rfl, k1, by omega, rfl⟩)
          have MS := Lib.hid k5
          clear k1 k4 k5 hr more hKI
          go_wp2
          go_roundw
          case rel => exact REL.out
          case measure => have := MS.out; simp [intOf]; omega

      · have hgd : decide (4294967296 * b1 + un1 < a1 * y0) = false := by simp; omega
        obtain rfl := hKI.done (by omega)
        clear g hb more hKI hg
        go_wp2
        go_loopw [18, 16] (fun q r wr => KRel U un0 y1 y0 Q0 w q r wr) (fun q _ _ => (intOf q).toNat)
        case atStart => exact ⟨_, _, rfl, rfl, K2.out.1, K2.out.2, rfl⟩
        case round =>
          obtain ⟨a2, b2, rfl, rfl, hKI, hb, rfl⟩ := hrel
          obtain ⟨hq, e1, e2⟩ := hKI.facts hb
          have more : (4294967296 ≤ a2 ∨ 4294967296 * b2 + un0 < a2 * y0) → KInv U un0 y1 y0 Q0 (a2 - 1) (b2 + y1) ∧ IntKind.u64.wrap (a2 - 1) = a2 - 1 ∧ IntKind.u64.wrap (b2 + y1) = b2 + y1 ∧ a2 - 1 ≤ 4294967296 ∧ 1 ≤ a2 := fun g => by
            obtain ⟨n1, n2, n3⟩ := hKI.less hb g
            have c1 := hKI.r0; have c2 := hKI.a0; have c3 := hKI.a1
            exact ⟨n1, u64w (by omega) (by omega), u64w (by omega) (by omega), n3, n2⟩
          rcases hq with ⟨g, gd⟩ | ⟨g, gd, em⟩
          · have gg := Lib.hid (show 4294967296 ≤ a2 ∨ 4294967296 * b2 + un0 < a2 * y0 from .inl g)
            clear g hb
            obtain ⟨k1, k2, k3, k4, k5⟩ := more (gg.out)
            by_cases hr : 4294967296 ≤ b2 + y1
            · have hrd : decide (4294967296 ≤ b2 + y1) = true := by simp [hr]
              have ea := k1.out hr k4
              replace k2 := k2.trans ea
              clear k1 k4 k5 hr more hKI ea
              go_wp2
              go_ret2
              exact ⟨rfl, Below.refl _ _⟩
            · have hrd : decide (4294967296 ≤ b2 + y1) = false := by simp; omega
              have REL := Lib.hid (show KRel U un0 y1 y0 Q0 w (.int .u64 (a2 - 1)) (.int .u64 (b2 + y1)) w from ⟨_, _, rfl, rfl, k1, by omega, rfl⟩)
              have MS := Lib.hid k5
              clear k1 k4 k5 hr more hKI
              go_wp2
              go_roundw
              case rel => exact REL.out
              case measure => have := MS.out; simp [intOf]; omega

          · by_cases hg : 4294967296 * b2 + un0 < a2 * y0
            · have hgd : decide (4294967296 * b2 + un0 < a2 * y0) = true := by simp [hg]
              have gg := Lib.hid (show 4294967296 ≤ a2 ∨ 4294967296 * b2 + un0 < a2 * y0 from .inr hg)
              clear g hb
              obtain ⟨k1, k2, k3, k4, k5⟩ := more (gg.out)
              by_cases hr : 4294967296 ≤ b2 + y1
              · have hrd : decide (4294967296 ≤ b2 + y1) = true := by simp [hr]
                have ea := k1.out hr k4
                replace k2 := k2.trans ea
                clear k1 k4 k5 hr more hKI ea
                go_wp2
                go_ret2
                exact ⟨rfl, Below.refl _ _⟩
              · have hrd : decide (4294967296 ≤ b2 + y1) = false := by simp; omega
                have REL := Lib.hid (show KRel U un0 y1 y0 Q0 w (.int .u64 (a2 - 1)) (.int .u64 (b2 + y1)) w from ⟨_, _, rfl, rfl, k1, by omega, rfl⟩)
                have MS := Lib.hid k5
                clear k1 k4 k5 hr more hKI
                go_wp2
                go_roundw
                case rel => exact REL.out
                case measure => have := MS.out; simp [intOf]; omega

            · have hgd : decide (4294967296 * b2 + un0 < a2 * y0) = false := by simp; omega
              obtain rfl := hKI.done (by omega)
              clear g hb more hKI hg
              go_wp2
              go_ret2
              exact ⟨rfl, Below.refl _ _⟩


theorem and_mask32 {v : Int} (h : U64 v) : bits .and .u64 v 4294967295 = v % 4294967296 := by
  rw [u64_and v 4294967295 h.1 h.2 (by omega) (by omega)]
  have e : v.toNat &&& (4294967295 : Int).toNat = v.toNat % 4294967296 := Nat.and_two_pow_sub_one_eq_mod _ 32
  rw [e]
  have := h.1
  omega
theorem lz64_any (y : Int) (u : U64 y) (w : World) : Calls Try.prog 66 #[.int .u64 y] w fun e w' => e = .returned (.int .i64 ((64 - blen y : Nat) : Int)) ∧ w = w' := by
  have := blen_u u
  refine lz64_core y (blen y) _ (Lib.hid (len64_any y u)) ?_ w
  rw [IntWalk.i64_in _ (by omega)]; omega

set_option maxHeartbeats 4000000 in
theorem div64_lo (lo y : Int) (g1 : (y == 0) = false) (g4 : ¬ y = 0) (g2 : decide (y ≤ 0) = false) (q r : Int) (d1 : IntKind.u64.wrap (lo.tdiv y) = q) (d2 : lo.tmod y = r) (w : World) :
    Calls Try.prog 38 #[.int .u64 0, .int .u64 lo, .int .u64 y] w fun e w' => e = .returned (.tuple #[.int .u64 q, .int .u64 r]) ∧ Below w.heap.size w w' := by
  go_enter Try.func38, Try.ntmps38
  go_wp2_with fail
  go_region
  all_goals go_wp2_with fail
  all_goals go_ret2
  all_goals exact ⟨rfl, (Below.refl _ _).drew⟩

/-- The library's quotient of 128 bits by 64. -/
theorem div64_any (hi lo y : Int) (uh : U64 hi) (ul : U64 lo) (uy : U64 y) (h : hi < y) (w : World) :
    Calls Try.prog 38 #[.int .u64 hi, .int .u64 lo, .int .u64 y] w fun e w' => e = .returned (.tuple #[.int .u64 (val hi lo / y), .int .u64 (val hi lo % y)]) ∧ Below w.heap.size w w' := by
  obtain ⟨uh0, uh1⟩ := uh
  obtain ⟨ul0, ul1⟩ := ul
  obtain ⟨uy0, uy1⟩ := uy
  have yp : 0 < y := by omega
  by_cases h0 : hi = 0
  · subst h0
    have e : val 0 lo = lo := by unfold val; omega
    rw [e]
    have q0 : 0 ≤ lo / y := Int.ediv_nonneg ul0 uy0
    have q1 : lo / y ≤ lo := Int.ediv_le_self _ ul0
    have r0 := Int.emod_nonneg lo (show y ≠ 0 by omega)
    have r1 := Int.emod_lt_of_pos lo yp
    refine div64_lo lo y (by simp; omega) (by omega) (by simp; omega) _ _ ?_ ?_ w
    · rw [Int.tdiv_eq_ediv_of_nonneg ul0]; exact u64w q0 (by omega)
    · exact Int.tmod_eq_emod_of_nonneg ul0
  · obtain ⟨j, hj, b0, b1⟩ := blen_bounds yp
    have bl := blen_u (show U64 y from ⟨uy0, uy1⟩)
    obtain ⟨s, hs⟩ : ∃ s, 64 - blen y = s := ⟨_, rfl⟩
    have hs63 : s ≤ 63 := by omega
    have L := Lib.hid (lz64_any y ⟨uy0, uy1⟩)
    rw [hs] at L
    obtain ⟨Y, hY⟩ : ∃ Y, y * 2 ^ s = Y := ⟨_, rfl⟩
    have ps := two_pow_pos s
    have e64 : (2 : Int) ^ (j + 1) * 2 ^ s = 18446744073709551616 := by rw [← Int.pow_add, show j + 1 + s = 64 by omega]; rfl
    have e63 : (2 : Int) ^ j * 2 ^ s = 9223372036854775808 := by rw [← Int.pow_add, show j + s = 63 by omega]; rfl
    have Y0 : 9223372036854775808 ≤ Y := by rw [← hY, ← e63]; exact Int.mul_le_mul_of_nonneg_right b0 (by omega)
    have Y1 : Y < 18446744073709551616 := by rw [← hY, ← e64]; exact Int.mul_lt_mul_of_pos_right b1 ps
    have uY : U64 Y := ⟨by omega, Y1⟩
    have upA := up_eq hi (p := s) (by omega)
    have upB := up_eq lo (p := s) (by omega)
    have hX : hi * 2 ^ s ≤ Y - 2 ^ s := by
      rw [← hY, show y * 2 ^ s - 2 ^ s = (y - 1) * 2 ^ s by rw [Int.sub_mul, Int.one_mul]]
      exact mul_le_of (by omega) (by omega)
    have hX0 : 0 ≤ hi * 2 ^ s := Int.mul_nonneg uh0 (by omega)
    have eX : upLo hi s = hi * 2 ^ s := by unfold upLo; omega
    have hH := upHi_lt (show U64 lo from ⟨ul0, ul1⟩) (p := s) (by omega)
    have uB := u_upLo lo s
    obtain ⟨A, hA⟩ : ∃ A, upLo hi s + upHi lo s = A := ⟨_, rfl⟩
    have hA0 : 0 ≤ A := by omega
    have hA1 : A < Y := by omega
    obtain ⟨B, hB⟩ : ∃ B, upLo lo s = B := ⟨_, rfl⟩
    rw [hB] at uB upB
    have tot : val hi lo * 2 ^ s = A * 18446744073709551616 + B := by
      unfold val
      rw [Int.add_mul, Int.mul_right_comm, upB, ← eX]; omega
    have y1a : 2147483648 ≤ Y / 4294967296 := by omega
    have y1b : Y / 4294967296 < 4294967296 := by omega
    have y0a : 0 ≤ Y % 4294967296 := by omega
    have y0b : Y % 4294967296 < 4294967296 := by omega
    have Ysum : Y / 4294967296 * 4294967296 + Y % 4294967296 = Y := by omega
    have n1a : 0 ≤ B / 4294967296 := Int.ediv_nonneg uB.1 (by decide)
    have n1b : B / 4294967296 < 4294967296 := by have := uB.2; omega
    obtain ⟨K1, K1r⟩ := k_start (A := A) (un := B / 4294967296) y1a y1b y0a y0b hA0 (by omega) n1a n1b
    rw [Ysum] at K1
    obtain ⟨Q1, hQ1⟩ : ∃ Q, (A * 4294967296 + B / 4294967296) / Y = Q := ⟨_, rfl⟩
    rw [hQ1] at K1
    have q1y := K1.Qy; have q1n := K1.Qn; have q1s := K1.Qs; have q10 := K1.Q0
    rw [Ysum] at q1y q1n
    rw [Int.add_mul, Int.one_mul] at q1n
    obtain ⟨U, hU⟩ : ∃ U, A * 4294967296 + B / 4294967296 - Q1 * Y = U := ⟨_, rfl⟩
    have U0 : 0 ≤ U := by omega
    have U1 : U < Y := by omega
    obtain ⟨K2, K2r⟩ := k_start (A := U) (un := B % 4294967296) y1a y1b y0a y0b U0 (by omega) (by omega) (by omega)
    rw [Ysum] at K2
    obtain ⟨Q0, hQ0⟩ : ∃ Q, (U * 4294967296 + B % 4294967296) / Y = Q := ⟨_, rfl⟩
    rw [hQ0] at K2
    have q0y := K2.Qy; have q0n := K2.Qn; have q0s := K2.Qs; have q00 := K2.Q0
    rw [Ysum] at q0y q0n
    rw [Int.add_mul, Int.one_mul] at q0n
    obtain ⟨V, hV⟩ : ∃ V, U * 4294967296 + B % 4294967296 - Q0 * Y = V := ⟨_, rfl⟩
    -- the two digits together are the quotient
    have total : val hi lo * 2 ^ s = (Q1 * 4294967296 + Q0) * Y + V := by
      rw [tot, Int.add_mul, Int.mul_right_comm]; omega
    have eV : V = (val hi lo - (Q1 * 4294967296 + Q0) * y) * 2 ^ s := by
      rw [Int.sub_mul, total, ← hY, Int.mul_assoc]; omega
    have eR : V / 2 ^ s = val hi lo - (Q1 * 4294967296 + Q0) * y := by rw [eV]; exact Int.mul_ediv_cancel _ (by omega)
    have R0 : 0 ≤ V / 2 ^ s := Int.ediv_nonneg (by omega) (by omega)
    have R1 : V / 2 ^ s < y := by
      refine Int.ediv_lt_of_lt_mul ps ?_
      rw [hY]; omega
    obtain ⟨d1, d2⟩ := (Int.ediv_emod_unique (a := val hi lo) (r := V / 2 ^ s) (q := Q1 * 4294967296 + Q0) yp).2 ⟨by rw [eR, Int.mul_comm y]; omega, R0, R1⟩
    rw [d1, d2]
    have uV : U64 V := ⟨by omega, by omega⟩
    have qq0 : 0 ≤ A / (Y / 4294967296) := Int.ediv_nonneg hA0 (by omega)
    have qq1 : A / (Y / 4294967296) ≤ A := Int.ediv_le_self _ hA0
    have qu0 : 0 ≤ U / (Y / 4294967296) := Int.ediv_nonneg U0 (by omega)
    have qu1 : U / (Y / 4294967296) ≤ U := Int.ediv_le_self _ U0
    have k1r0 := K1.r0; have k2r0 := K2.r0
    have p10 : 0 ≤ A / (Y / 4294967296) * (Y / 4294967296) := Int.mul_nonneg qq0 (by omega)
    have p20 : 0 ≤ U / (Y / 4294967296) * (Y / 4294967296) := Int.mul_nonneg qu0 (by omega)
    refine div64_core hi lo y (s : Int) (64 - (s : Int)) Y (Y / 4294967296) (Y % 4294967296) A B (B / 4294967296) (B % 4294967296) (upLo hi s) (upHi lo s)
      (A / (Y / 4294967296)) (A - A / (Y / 4294967296) * (Y / 4294967296)) Q1 (A / (Y / 4294967296) * (Y / 4294967296)) _ _ U
      (U / (Y / 4294967296)) (U / (Y / 4294967296) * (Y / 4294967296)) (U - U / (Y / 4294967296) * (Y / 4294967296)) Q0 (Q1 * 4294967296) (Q1 * 4294967296 + Q0) _ _ _ V (V / 2 ^ s)
      (by simp; omega) (by simp; omega) (by simpa using h0) (by omega) L (u64w (by omega) (by omega)) ?_ ?_ (and_mask32 uY) ?_ (u64w (by omega) (by omega)) ?_ ?_ ?_ ?_ (and_mask32 uB) ?_ (u64w p10 (by omega)) (u64w (by omega) (by omega))
      (Lib.hid ⟨K1, K1r⟩) rfl rfl ?_ ?_ (u64w p20 (by omega)) (u64w (by omega) (by omega)) (Lib.hid ⟨K2, K2r⟩) (u64w (by omega) (by omega)) (u64w (by omega) (by omega)) rfl rfl rfl ?_ ?_ w
    · rw [shift_shl .u64 .u64 _ _ (by omega) (by show (_ : Int) ≤ 64; omega), Int.toNat_natCast, hY, u64w (by omega) (by omega)]
    · rw [shift_shr .u64 .u64 _ _ (by omega) (by show (_ : Int) ≤ 64; omega)]; rfl
    · rw [shift_shl .u64 .u64 _ _ (by omega) (by show (_ : Int) ≤ 64; omega), Int.toNat_natCast, IntKind.wrap_u64]; rfl
    · rw [shift_shr .u64 .u64 _ _ (by omega) (by show (_ : Int) ≤ 64; omega), show ((64 : Int) - (s : Int)).toNat = 64 - s by omega]; rfl
    · rw [up_or ⟨ul0, ul1⟩ (by omega), hA]
    · rw [shift_shl .u64 .u64 _ _ (by omega) (by show (_ : Int) ≤ 64; omega), Int.toNat_natCast, IntKind.wrap_u64, ← hB]; rfl
    · rw [shift_shr .u64 .u64 _ _ (by omega) (by show (_ : Int) ≤ 64; omega)]; rfl
    · rw [Int.tdiv_eq_ediv_of_nonneg hA0]; exact u64w qq0 (by omega)
    · simp only [IntKind.wrap_u64]
      generalize Q1 * Y = p at *
      omega
    · rw [Int.tdiv_eq_ediv_of_nonneg U0]; exact u64w qu0 (by omega)
    · simp only [IntKind.wrap_u64]
      generalize Q0 * Y = p at *
      omega
    · rw [shift_shr .u64 .u64 _ _ (by omega) (by show (_ : Int) ≤ 64; omega), Int.toNat_natCast]

end Go.Proofs.Ytlmgebanfjclcaa
