import Derived.Test.YtnlmceafleeaiaaGreatDoorAdd18M
import Derived.Test.YtnlmceafleeaiaaGreatDoorGpA
set_option linter.unusedVariables false
set_option linter.unusedSimpArgs false
set_option maxRecDepth 100000
namespace Go.Proofs.YtnlmceafleeaiaaGreatDoor
open Go.RowKit
theorem dc_same {f m b : Int} (f0 : 0 ≤ f) (hf : f < 4) (hm : m < 5) (b0 : 0 ≤ b) (c : clsF f b ≤ 2) : dcB f m (negF f b) (vF f b) (-1099511628031) false = cutF f b ∧ ∀ t, dcFl f m t (negF f b) (vF f b) (-1099511628031) false = 0 := by
  obtain ⟨p1, p2⟩ := pk_same (m := m) f0 hf hm b0 c
  have r := room_u (f := f) f0 b0
  have er := uE_range (f := f) f0 b0
  obtain ⟨d1, d2⟩ := dc_pk (f := f) (m := m) (exp := uE f b) (x := uS f b * full) (ng := negF f b) f0 r.1 r.2.1
  rw [clip_id (by omega) (by omega)] at d1 d2
  have s := dc_scale (f := f) (m := m) (E := uE f b - 255) (ng := negF f b) (uE f b + 1099511627776).toNat r.1
  rw [show uE f b - 255 - (((uE f b + 1099511627776).toNat : Nat) : Int) = -1099511628031 by omega] at s
  have v : vF f b = uS f b * full * 2 ^ (uE f b + 1099511627776).toNat := by unfold vF baseT; rw [clT_u f0 b0]
  rw [v]
  exact ⟨s.1.trans (d1.trans p1), fun t => (s.2 t).trans ((d2 t).trans (p2 t))⟩
end Go.Proofs.YtnlmceafleeaiaaGreatDoor
