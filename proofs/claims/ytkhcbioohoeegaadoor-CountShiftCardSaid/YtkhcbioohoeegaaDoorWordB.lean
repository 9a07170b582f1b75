/-
  Contracts of the program's word.Cmp, and of the statements' own helper counts.
-/
import Derived.Test.YtkhcbioohoeegaaDoorWordA
import Derived.StillTailTactics
import Derived.Deep.QuietTactic
import Derived.BigQuiet
import Derived.Deep.RegionHeld3
set_option linter.unusedVariables false
set_option maxRecDepth 100000
namespace Go.Proofs.YtkhcbioohoeegaaDoor
open Go.RowKit

set_option maxHeartbeats 400000 in
theorem compare_any (x y : Int) (w : World) :
    Calls Tryd.prog 57 #[.int .u64 x, .int .u64 y] w fun e w' => e = .returned (.int .i64 (cmpI x y)) ∧ w = w' := by
  have hn := cmpI_cases x y
  have Hn := Lib.hid hn
  clear hn
  by_cases h1 : x < y
  · go_enter Tryd.func57, Tryd.ntmps57
    go_wp2
    go_ret
    exact ⟨by rw [(Hn.out).1 h1]; rfl, rfl⟩
  · by_cases h2 : y < x
    · go_enter Tryd.func57, Tryd.ntmps57
      go_wp2
      go_ret
      exact ⟨by rw [(Hn.out).2.1 h2]; rfl, rfl⟩
    · go_enter Tryd.func57, Tryd.ntmps57
      go_wp2
      go_ret
      exact ⟨by rw [(Hn.out).2.2 (by omega)]; rfl, rfl⟩

set_option maxHeartbeats 400000 in
theorem first_zero (d : Int) (b : Nat) (w : World) (h0 : w.cell? ⟨b, 0, none⟩ = some (.int .i64 0)) (h1 : w.cell? ⟨b, 1, none⟩ = some (.int .i64 d)) :
    Calls Tryd.prog 56 #[.slice (some ⟨b, 0, none⟩) 2 2] w fun e w' => e = .returned (.int .i64 d) ∧ w = w' := by
  go_enter Tryd.func56, Tryd.ntmps56
  go_wp2
  go_loop [7] (fun i => ∃ k : Nat, k ≤ 2 ∧ i = .int .i64 k ∧ (k = 2 → d = 0)) (fun i => 2 - (intOf i).toNat)
  case atStart => exact ⟨0, by omega, rfl, by omega⟩
  case round =>
    obtain ⟨k, hk, rfl, hd⟩ := hrel
    have HD := Lib.hid hd
    clear hd
    obtain rfl | rfl | rfl : k = 0 ∨ k = 1 ∨ k = 2 := by omega
    · go_wp2
      go_round
      case rel => exact ⟨1, by omega, by go_num, by omega⟩
      case measure => simp [intOf]
    · by_cases hd : d = 0
      · subst hd
        go_wp2
        go_round
        case rel => exact ⟨2, by omega, by go_num, by simp⟩
        case measure => simp [intOf]
      · have hd' : (d != 0) = true := by simp [hd]
        go_wp2
        go_ret
        exact ⟨rfl, rfl⟩
    · have hd0 : d = 0 := HD.out rfl
      clear HD
      subst hd0
      go_wp2
      go_ret
      exact ⟨rfl, rfl⟩

set_option maxHeartbeats 400000 in
theorem first_not (c : Int) (b : Nat) (w : World) (h0 : w.cell? ⟨b, 0, none⟩ = some (.int .i64 c)) (hc : (c != 0) = true) :
    Calls Tryd.prog 56 #[.slice (some ⟨b, 0, none⟩) 2 2] w fun e w' => e = .returned (.int .i64 c) ∧ w = w' := by
  go_enter Tryd.func56, Tryd.ntmps56
  go_wp2
  go_loop [7] (fun i => i = .int .i64 0) (fun _ => 0)
  case atStart => rfl
  case round =>
    subst hrel
    go_wp2
    go_ret
    exact ⟨rfl, rfl⟩

def firstOf (c d : Int) : Int := if (c != 0) = true then c else d
theorem first_any (c d : Int) (b : Nat) (w : World) (h0 : w.cell? ⟨b, 0, none⟩ = some (.int .i64 c)) (h1 : w.cell? ⟨b, 1, none⟩ = some (.int .i64 d)) :
    Calls Tryd.prog 56 #[.slice (some ⟨b, 0, none⟩) 2 2] w fun e w' => e = .returned (.int .i64 (firstOf c d)) ∧ w = w' := by
  by_cases hc : (c != 0) = true
  · unfold firstOf; rw [if_pos hc]; exact first_not c b w h0 hc
  · unfold firstOf; rw [if_neg hc]
    have : c = 0 := by simpa using hc
    subst this
    exact first_zero d b w h0 h1

theorem cmp_first {ah al bh bl : Int} (u1 : U64 ah) (u2 : U64 al) (u3 : U64 bh) (u4 : U64 bl) : firstOf (cmpI ah bh) (cmpI al bl) = cmpI (val ah al) (val bh bl) := by
  unfold U64 at u1 u2 u3 u4
  unfold firstOf
  by_cases h : ah < bh
  · rw [(cmpI_cases ah bh).1 h, if_pos (by decide), (cmpI_cases _ _).1 (by unfold val; omega)]
  · by_cases h' : bh < ah
    · rw [(cmpI_cases ah bh).2.1 h', if_pos (by decide), (cmpI_cases _ _).2.1 (by unfold val; omega)]
    · obtain rfl : ah = bh := by omega
      rw [(cmpI_cases ah ah).2.2 rfl, if_neg (by decide)]
      by_cases g : al < bl
      · rw [(cmpI_cases al bl).1 g, (cmpI_cases _ _).1 (by unfold val; omega)]
      · by_cases g' : bl < al
        · rw [(cmpI_cases al bl).2.1 g', (cmpI_cases _ _).2.1 (by unfold val; omega)]
        · rw [(cmpI_cases al bl).2.2 (by omega), (cmpI_cases _ _).2.2 (by unfold val; omega)]

set_option maxHeartbeats 1000000 in
theorem cmp_any (ah al bh bl : Int) (u1 : U64 ah) (u2 : U64 al) (u3 : U64 bh) (u4 : U64 bl) (w : World) :
    Calls Tryd.prog 47 #[.agg #[.int .u64 ah, .int .u64 al], .agg #[.int .u64 bh, .int .u64 bl]] w fun e w' =>
      e = .returned (.int .i64 (cmpI (val ah al) (val bh bl))) ∧ Below w.heap.size w w' := by
  rw [← cmp_first u1 u2 u3 u4]
  clear u1 u2 u3 u4
  go_enter Tryd.func47, Tryd.ntmps47
  go_wp2
  go_region_held3 (fun w' => w'.cell? ⟨w.heap.size, 0, none⟩ = some (.int .u64 ah) ∧ w'.cell? ⟨w.heap.size, 1, none⟩ = some (.int .u64 al) ∧ w'.cell? ⟨w.heap.size + 1, 0, none⟩ = some (.int .u64 bh) ∧ w'.cell? ⟨w.heap.size + 1, 1, none⟩ = some (.int .u64 bl)) (go_keep)
    (first | (go_at_call 57; refine (compare_any _ _ _).mono ?_; rintro e w' ⟨rfl, rfl⟩) | (go_at_call 56; refine (first_any (cmpI ah bh) (cmpI al bl) _ _ ?_ ?_).mono ?_; (go_simp); (go_simp); rintro e w' ⟨rfl, rfl⟩))
  all_goals
    go_wp2
    go_ret
    exact ⟨rfl, ((((Below.refl _ _).alloc (Nat.le_refl _) _).alloc (by simp) _).alloc (by simp; omega) _).drew⟩

end Go.Proofs.YtkhcbioohoeegaaDoor
