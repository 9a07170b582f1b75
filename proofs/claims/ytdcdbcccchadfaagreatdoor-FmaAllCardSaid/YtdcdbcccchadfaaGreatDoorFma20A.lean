import Derived.Test.YtdcdbcccchadfaaGreatDoorFma20M
set_option linter.unusedVariables false
set_option linter.unusedSimpArgs false
set_option maxRecDepth 100000
namespace Go.Proofs.YtdcdbcccchadfaaGreatDoor
open Go.RowKit
attribute [local go_sem ↓] Go.wp_at_zero Go.wp_at_succ
def rdE (e s : Int) : Int := if wfull ≤ s + s then e else e - 1
def rdS (s : Int) : Int := if wfull ≤ s + s then s else s + s
theorem rd_room {s : Int} (h : roomM s) : roomM (rdS s) := by
  unfold rdS
  by_cases k : wfull ≤ s + s
  · rw [if_pos k]; exact h
  · rw [if_neg k]
    obtain ⟨h0, h1, h2, h3⟩ := h
    exact ⟨by omega, by omega, by omega, by omega⟩
theorem rd_base {e s : Int} (e0 : -40000 ≤ e) (e1 : e ≤ 40000) : baseT (rdE e s) (rdS s) = baseT e s := by
  unfold rdE rdS
  by_cases k : wfull ≤ s + s
  · rw [if_pos k, if_pos k]
  · rw [if_neg k, if_neg k]
    unfold baseT
    rw [clT_id (by omega) (by omega), clT_id (by omega) (by omega), show (e + 1099511627776).toNat = (e - 1 + 1099511627776).toNat + 1 by omega, Int.pow_succ, Int.mul_comm (2 ^ _) 2, ← Int.mul_assoc]
    congr 1; omega
theorem rd_range {e s : Int} (e0 : -40000 ≤ e) (e1 : e ≤ 40000) : -40001 ≤ rdE e s ∧ rdE e s ≤ 40000 := by
  unfold rdE; split <;> omega
def fpE (f a b c : Int) : Int := if mlN f a b = negF f c then levT (rdE (mlE f a b) (mlS f a b)) (rdS (mlS f a b)) (uE f c) (uS f c * full) + 1 else levT (rdE (mlE f a b) (mlS f a b)) (rdS (mlS f a b)) (uE f c) (uS f c * full)
def fpS (f a b c : Int) : Int := if mlN f a b = negF f c then sumT (rdE (mlE f a b) (mlS f a b)) (rdS (mlS f a b)) (uE f c) (uS f c * full) else diffT (rdE (mlE f a b) (mlS f a b)) (rdS (mlS f a b)) (uE f c) (uS f c * full)
theorem fp_turn {f a b c : Int} (f0 : 0 ≤ f) (a0 : 0 ≤ a) (b0 : 0 ≤ b) : cmpT (rdE (mlE f a b) (mlS f a b)) (rdS (mlS f a b)) (uE f c) (uS f c * full) < 0 ↔ cmpT (mlE f a b) (mlS f a b) (uE f c) (uS f c * full) < 0 := by
  have e := mlE_small (f := f) f0 a0 b0
  rw [cmpT_base, cmpI_lti, cmpT_base, cmpI_lti, rd_base e.1 e.2]
theorem fp_neg {f a b c : Int} (f0 : 0 ≤ f) (a0 : 0 ≤ a) (b0 : 0 ≤ b) (h : ¬ mlN f a b = negF f c) : (!(mlN f a b == decide (cmpT (rdE (mlE f a b) (mlS f a b)) (rdS (mlS f a b)) (uE f c) (uS f c * full) < 0))) = fmT f a b c := by
  unfold fmT
  rw [if_neg h, decide_eq_decide.2 (fp_turn (c := c) f0 a0 b0)]
  by_cases k : cmpT (mlE f a b) (mlS f a b) (uE f c) (uS f c * full) < 0
  · rw [if_pos k, decide_eq_true k]; revert h; cases mlN f a b <;> cases negF f c <;> simp
  · rw [if_neg k, decide_eq_false k]; cases mlN f a b <;> rfl
theorem fp_range {f a b c : Int} (f0 : 0 ≤ f) (a0 : 0 ≤ a) (b0 : 0 ≤ b) (c0 : 0 ≤ c) : -9223372036854775808 ≤ fpE f a b c ∧ fpE f a b c ≤ 9223372036854775807 ∧ 0 ≤ fpS f a b c ∧ fpS f a b c < wfull := by
  have ra := rd_room (ml_room (f := f) f0 a0 b0); have rc := room_u (f := f) f0 c0
  have lr := lev_range (rdE (mlE f a b) (mlS f a b)) (rdS (mlS f a b)) (uE f c) (uS f c * full)
  have s1 := sum_range (e := rdE (mlE f a b) (mlS f a b)) (g := uE f c) ra.1 ra.2.1 rc.1 rc.2.1
  have s2 := diff_range (e := rdE (mlE f a b) (mlS f a b)) (g := uE f c) ra.1 ra.2.1 rc.1 rc.2.1
  unfold fpE fpS
  split
  · exact ⟨by omega, by omega, s1.1, s1.2⟩
  · exact ⟨by omega, by omega, s2.1, s2.2⟩
theorem fp_fm {f m a b c : Int} {ng : Bool} (f0 : 0 ≤ f) (a0 : 0 ≤ a) (b0 : 0 ≤ b) (c0 : 0 ≤ c) :
    pkB f m ng (fpE f a b c) (fpS f a b c) = pkB f m ng (fmE f a b c) (fmS f a b c) ∧ (∀ t, pkFl f m t ng (fpE f a b c) (fpS f a b c) = pkFl f m t ng (fmE f a b c) (fmS f a b c)) ∧ (fpS f a b c = 0 ↔ fmS f a b c = 0) := by
  obtain ⟨x1, x2, x3⟩ := fm_exact (m := m) (ng := ng) f0 a0 b0 c0
  have rp := rd_room (ml_room (f := f) f0 a0 b0); have rc := room_m (room_u (f := f) f0 c0)
  have ea := mlE_small (f := f) f0 a0 b0; have ec := uE_range (f := f) f0 c0
  have er := rd_range (s := mlS f a b) ea.1 ea.2
  have rb := rd_base (s := mlS f a b) ea.1 ea.2
  suffices h : pkB f m ng (fpE f a b c) (fpS f a b c) = dcB f m ng (fmX f a b c) (-1099511628031) false ∧ (∀ t, pkFl f m t ng (fpE f a b c) (fpS f a b c) = dcFl f m t ng (fmX f a b c) (-1099511628031) false) ∧ (fpS f a b c = 0 ↔ fmX f a b c = 0) from
    ⟨h.1.trans x1.symm, fun t => (h.2.1 t).trans (x2 t).symm, h.2.2.trans x3.symm⟩
  clear x1 x2 x3
  unfold fpE fpS fmX pF vF
  by_cases h : mlN f a b = negF f c
  · rw [if_pos h, if_pos h, if_pos h, ← rb]
    exact dc_sumM f0 rp rc (by rw [clT_id (by omega) (by omega)]; omega) (by rw [clT_u f0 c0]; omega)
  · rw [if_neg h, if_neg h, if_neg h, ← rb]
    exact dc_diffM f0 rp rc _ rfl
end Go.Proofs.YtdcdbcccchadfaaGreatDoor
