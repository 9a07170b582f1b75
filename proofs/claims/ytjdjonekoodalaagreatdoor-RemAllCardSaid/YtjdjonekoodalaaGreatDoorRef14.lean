import Derived.Test.YtjdjonekoodalaaGreatDoorGoA
import Derived.Test.YtjdjonekoodalaaGreatDoorRest0
set_option maxHeartbeats 4000000
set_option linter.unusedVariables false
set_option linter.unusedSimpArgs false
set_option maxRecDepth 100000
namespace Go.Proofs.YtjdjonekoodalaaGreatDoor
open Go.RowKit
attribute [local go_sem ↓] Go.wp_at_zero Go.wp_at_succ
theorem ref14_over_no1 (f m : Int) (ng : Bool)
     (g : decide (3 < f) = true) (w : World) :
    Calls Tryz.prog 98 #[.int .u8 f, .int .u8 m, .bool ng] w fun e w' => e = .returned (.agg #[.int .u64 0, .int .u64 0, .int .u8 0]) ∧ Below w.heap.size w w' := by
  go_enter Tryz.func98, Tryz.ntmps98
  go_wp2_with fail
  refine bodyPost_ret (v := .agg #[.int .u64 0, .int .u64 0, .int .u8 0]) (by simp [results, Tryz.results98, go_sem]) rfl ⟨rfl, (bA bR _)⟩
theorem ref14_over_no2 (f m : Int) (ng : Bool)
     (g : decide (3 < f) = false) (g2 : decide (4 < m) = true) (w : World) :
    Calls Tryz.prog 98 #[.int .u8 f, .int .u8 m, .bool ng] w fun e w' => e = .returned (.agg #[.int .u64 0, .int .u64 0, .int .u8 0]) ∧ Below w.heap.size w w' := by
  go_enter Tryz.func98, Tryz.ntmps98
  go_wp2_with fail
  refine bodyPost_ret (v := .agg #[.int .u64 0, .int .u64 0, .int .u8 0]) (by simp [results, Tryz.results98, go_sem]) rfl ⟨rfl, (bA bR _)⟩
theorem ref14_over_inf (f m bh bl ch cl : Int) (ng : Bool)
    (h0 : Hid (∀ w, Calls Tryz.prog 134 #[.int .u8 f, .bool ng] w fun e w' => e = .returned (.agg #[.int .u64 bh, .int .u64 bl]) ∧ Below w.heap.size w w'))
    (h1 : Hid (∀ w, Calls Tryz.prog 135 #[.int .u8 m, .bool ng] w fun e w' => e = .returned (.bool true) ∧ Below w.heap.size w w'))
    (h2 : Hid (∀ w, Calls Tryz.prog 136 #[.int .u8 f, .bool ng] w fun e w' => e = .returned (.agg #[.int .u64 ch, .int .u64 cl]) ∧ Below w.heap.size w w')) (g : decide (3 < f) = false) (g2 : decide (4 < m) = false) (w : World) :
    Calls Tryz.prog 98 #[.int .u8 f, .int .u8 m, .bool ng] w fun e w' => e = .returned (.agg #[.int .u64 ch, .int .u64 cl, .int .u8 20]) ∧ Below w.heap.size w w' := by
  go_enter Tryz.func98, Tryz.ntmps98
  go_wp2_with fail
  (with_reducible refine (h0.out _).mono ?_); rintro e w1 ⟨rfl, hb⟩
  have hz := bC (bA bR _) hb
  have gX0 : w.heap.size ≤ w.heap.size := by omega
  have cX0_0 := cL hb (a := ⟨w.heap.size, 0, none⟩) (v := .int .u64 0) (by go_simp)
  have cX0_1 := cL hb (a := ⟨w.heap.size, 1, none⟩) (v := .int .u64 0) (by go_simp)
  have cX0_2 := cL hb (a := ⟨w.heap.size, 2, none⟩) (v := .int .u8 0) (by go_simp)
  have sX0 : w.heap.size < w1.heap.size := bL cX0_0
  have fX0_0 := fL hb (a := ⟨w.heap.size, 0, none⟩) (v := .int .u64 0) (by go_simp) (by go_simp)
  have fX0_1 := fL hb (a := ⟨w.heap.size, 1, none⟩) (v := .int .u64 0) (by go_simp) (by go_simp)
  have fX0_2 := fL hb (a := ⟨w.heap.size, 2, none⟩) (v := .int .u8 0) (by go_simp) (by go_simp)
  have kk := hz
  clear hb hz
  go_wp2_with fail
  (with_reducible refine (h1.out _).mono ?_); rintro e w2 ⟨rfl, hb⟩
  have hz := bC (bA bR _) hb
  have nX0_X1 : w.heap.size < w1.heap.size := by omega
  have gX1 : w.heap.size ≤ w1.heap.size := by have := kk.size; omega
  replace fX0_0 := fL hz cX0_0 fX0_0; replace fX0_1 := fL hz cX0_1 fX0_1; replace fX0_2 := fL hz cX0_2 fX0_2
  replace cX0_0 := cL hz cX0_0; replace cX0_1 := cL hz cX0_1; replace cX0_2 := cL hz cX0_2
  replace sX0 : w.heap.size < w2.heap.size := bL cX0_0
  have cX1_0 := cL hb (a := ⟨w1.heap.size, 0, none⟩) (v := .int .u64 bh) (by go_simp)
  have cX1_1 := cL hb (a := ⟨w1.heap.size, 1, none⟩) (v := .int .u64 bl) (by go_simp)
  have sX1 : w1.heap.size < w2.heap.size := bL cX1_0
  have fX1_0 := fL hb (a := ⟨w1.heap.size, 0, none⟩) (v := .int .u64 bh) (by go_simp) (by go_simp)
  have fX1_1 := fL hb (a := ⟨w1.heap.size, 1, none⟩) (v := .int .u64 bl) (by go_simp) (by go_simp)
  replace kk := bC kk hz
  clear hb hz
  go_wp2_with fail
  (with_reducible refine (h2.out _).mono ?_); rintro e w3 ⟨rfl, hb⟩
  replace fX0_0 := fL hb cX0_0 fX0_0; replace fX0_1 := fL hb cX0_1 fX0_1; replace fX0_2 := fL hb cX0_2 fX0_2
  replace cX0_0 := cL hb cX0_0; replace cX0_1 := cL hb cX0_1; replace cX0_2 := cL hb cX0_2
  replace sX0 : w.heap.size < w3.heap.size := bL cX0_0
  replace fX1_0 := fL hb cX1_0 fX1_0; replace fX1_1 := fL hb cX1_1 fX1_1
  replace cX1_0 := cL hb cX1_0; replace cX1_1 := cL hb cX1_1
  replace sX1 : w1.heap.size < w3.heap.size := bL cX1_0
  replace kk := bC kk hb
  clear hb
  have KEY : Hid ((((((w3.setCell ⟨w1.heap.size, 0, none⟩ (.int .u64 ch)).setCell ⟨w1.heap.size, 1, none⟩ (.int .u64 cl)).setCell ⟨w.heap.size, 0, none⟩ (.int .u64 ch)).setCell ⟨w.heap.size, 1, none⟩ (.int .u64 cl)).setCell ⟨w.heap.size, 2, none⟩ (.int .u8 20)).cell? ⟨w.heap.size, 0, none⟩ = some (.int .u64 ch) ∧ (((((w3.setCell ⟨w1.heap.size, 0, none⟩ (.int .u64 ch)).setCell ⟨w1.heap.size, 1, none⟩ (.int .u64 cl)).setCell ⟨w.heap.size, 0, none⟩ (.int .u64 ch)).setCell ⟨w.heap.size, 1, none⟩ (.int .u64 cl)).setCell ⟨w.heap.size, 2, none⟩ (.int .u8 20)).cell? ⟨w.heap.size, 1, none⟩ = some (.int .u64 cl) ∧ (((((w3.setCell ⟨w1.heap.size, 0, none⟩ (.int .u64 ch)).setCell ⟨w1.heap.size, 1, none⟩ (.int .u64 cl)).setCell ⟨w.heap.size, 0, none⟩ (.int .u64 ch)).setCell ⟨w.heap.size, 1, none⟩ (.int .u64 cl)).setCell ⟨w.heap.size, 2, none⟩ (.int .u8 20)).cell? ⟨w.heap.size, 2, none⟩ = some (.int .u8 20) ∧ Below w.heap.size w (((((w3.setCell ⟨w1.heap.size, 0, none⟩ (.int .u64 ch)).setCell ⟨w1.heap.size, 1, none⟩ (.int .u64 cl)).setCell ⟨w.heap.size, 0, none⟩ (.int .u64 ch)).setCell ⟨w.heap.size, 1, none⟩ (.int .u64 cl)).setCell ⟨w.heap.size, 2, none⟩ (.int .u8 20))) := lH ⟨by go_simp, by go_simp, by go_simp, (((((kk.setCell (p := ⟨w1.heap.size, 0, none⟩) gX1 _).setCell (p := ⟨w1.heap.size, 1, none⟩) gX1 _).setCell (p := ⟨w.heap.size, 0, none⟩) gX0 _).setCell (p := ⟨w.heap.size, 1, none⟩) gX0 _).setCell (p := ⟨w.heap.size, 2, none⟩) gX0 _)⟩
  go_wp2_with fail
  obtain ⟨e0, e1, e2, kb⟩ := KEY.out
  clear KEY cX0_0 cX0_1 cX0_2 fX0_0 fX0_1 fX0_2
  refine bodyPost_ret (v := .agg #[.int .u64 ch, .int .u64 cl, .int .u8 20]) ?_ rfl ⟨rfl, kb⟩
  simp [results, Tryz.results98, go_sem, e0, e1, e2]
theorem ref14_over_fin (f m bh bl : Int) (ng : Bool)
    (h0 : Hid (∀ w, Calls Tryz.prog 134 #[.int .u8 f, .bool ng] w fun e w' => e = .returned (.agg #[.int .u64 bh, .int .u64 bl]) ∧ Below w.heap.size w w'))
    (h1 : Hid (∀ w, Calls Tryz.prog 135 #[.int .u8 m, .bool ng] w fun e w' => e = .returned (.bool false) ∧ Below w.heap.size w w')) (g : decide (3 < f) = false) (g2 : decide (4 < m) = false) (w : World) :
    Calls Tryz.prog 98 #[.int .u8 f, .int .u8 m, .bool ng] w fun e w' => e = .returned (.agg #[.int .u64 bh, .int .u64 bl, .int .u8 20]) ∧ Below w.heap.size w w' := by
  go_enter Tryz.func98, Tryz.ntmps98
  go_wp2_with fail
  (with_reducible refine (h0.out _).mono ?_); rintro e w1 ⟨rfl, hb⟩
  have hz := bC (bA bR _) hb
  have gX0 : w.heap.size ≤ w.heap.size := by omega
  have cX0_0 := cL hb (a := ⟨w.heap.size, 0, none⟩) (v := .int .u64 0) (by go_simp)
  have cX0_1 := cL hb (a := ⟨w.heap.size, 1, none⟩) (v := .int .u64 0) (by go_simp)
  have cX0_2 := cL hb (a := ⟨w.heap.size, 2, none⟩) (v := .int .u8 0) (by go_simp)
  have sX0 : w.heap.size < w1.heap.size := bL cX0_0
  have fX0_0 := fL hb (a := ⟨w.heap.size, 0, none⟩) (v := .int .u64 0) (by go_simp) (by go_simp)
  have fX0_1 := fL hb (a := ⟨w.heap.size, 1, none⟩) (v := .int .u64 0) (by go_simp) (by go_simp)
  have fX0_2 := fL hb (a := ⟨w.heap.size, 2, none⟩) (v := .int .u8 0) (by go_simp) (by go_simp)
  have kk := hz
  clear hb hz
  go_wp2_with fail
  (with_reducible refine (h1.out _).mono ?_); rintro e w2 ⟨rfl, hb⟩
  have hz := bC (bA bR _) hb
  have nX0_X1 : w.heap.size < w1.heap.size := by omega
  replace fX0_0 := fL hz cX0_0 fX0_0; replace fX0_1 := fL hz cX0_1 fX0_1; replace fX0_2 := fL hz cX0_2 fX0_2
  replace cX0_0 := cL hz cX0_0; replace cX0_1 := cL hz cX0_1; replace cX0_2 := cL hz cX0_2
  replace sX0 : w.heap.size < w2.heap.size := bL cX0_0
  have cX1_0 := cL hb (a := ⟨w1.heap.size, 0, none⟩) (v := .int .u64 bh) (by go_simp)
  have cX1_1 := cL hb (a := ⟨w1.heap.size, 1, none⟩) (v := .int .u64 bl) (by go_simp)
  have sX1 : w1.heap.size < w2.heap.size := bL cX1_0
  replace kk := bC kk hz
  clear hb hz
  have KEY : Hid ((((w2.setCell ⟨w.heap.size, 0, none⟩ (.int .u64 bh)).setCell ⟨w.heap.size, 1, none⟩ (.int .u64 bl)).setCell ⟨w.heap.size, 2, none⟩ (.int .u8 20)).cell? ⟨w.heap.size, 0, none⟩ = some (.int .u64 bh) ∧ (((w2.setCell ⟨w.heap.size, 0, none⟩ (.int .u64 bh)).setCell ⟨w.heap.size, 1, none⟩ (.int .u64 bl)).setCell ⟨w.heap.size, 2, none⟩ (.int .u8 20)).cell? ⟨w.heap.size, 1, none⟩ = some (.int .u64 bl) ∧ (((w2.setCell ⟨w.heap.size, 0, none⟩ (.int .u64 bh)).setCell ⟨w.heap.size, 1, none⟩ (.int .u64 bl)).setCell ⟨w.heap.size, 2, none⟩ (.int .u8 20)).cell? ⟨w.heap.size, 2, none⟩ = some (.int .u8 20) ∧ Below w.heap.size w (((w2.setCell ⟨w.heap.size, 0, none⟩ (.int .u64 bh)).setCell ⟨w.heap.size, 1, none⟩ (.int .u64 bl)).setCell ⟨w.heap.size, 2, none⟩ (.int .u8 20))) := lH ⟨by go_simp, by go_simp, by go_simp, (((kk.setCell (p := ⟨w.heap.size, 0, none⟩) gX0 _).setCell (p := ⟨w.heap.size, 1, none⟩) gX0 _).setCell (p := ⟨w.heap.size, 2, none⟩) gX0 _)⟩
  go_wp2_with fail
  obtain ⟨e0, e1, e2, kb⟩ := KEY.out
  clear KEY cX0_0 cX0_1 cX0_2 fX0_0 fX0_1 fX0_2
  refine bodyPost_ret (v := .agg #[.int .u64 bh, .int .u64 bl, .int .u8 20]) ?_ rfl ⟨rfl, kb⟩
  simp [results, Tryz.results98, go_sem, e0, e1, e2]
theorem ref14_over (f m : Int) (ng : Bool) (f0 : 0 ≤ f) (f1 : f ≤ 255) (m0 : 0 ≤ m) (w : World) : Calls Tryz.prog 98 #[.int .u8 f, .int .u8 m, .bool ng] w fun e w' => e = .returned (.agg #[.int .u64 (hiOf (overB f m ng)), .int .u64 (loOf (overB f m ng)), .int .u8 (overFl f m)]) ∧ Below w.heap.size w w' := by
  by_cases hf : f < 4
  · by_cases hm : m < 5
    · have X := lH (ref7_max f ng f0 f1)
      have I := lH (ref7_inf f ng f0 f1)
      have J := ref13_inf m ng
      cases i : infM m ng with
      | true =>
        rw [(over_inf ⟨hf, hm⟩ i).1, (over_inf ⟨hf, hm⟩ i).2]
        rw [i] at J
        exact ref14_over_inf f m _ _ _ _ ng X (lH J) I (by simp; omega) (by simp; omega) w
      | false =>
        rw [(over_fin ⟨hf, hm⟩ i).1, (over_fin ⟨hf, hm⟩ i).2]
        rw [i] at J
        exact ref14_over_fin f m _ _ ng X (lH J) (by simp; omega) (by simp; omega) w
    · have z := over_no (f := f) (m := m) (by omega) ng
      rw [z.1, z.2]
      exact ref14_over_no2 f m ng (by simp; omega) (by simp; omega) w
  · have z := over_no (f := f) (m := m) (by omega) ng
    rw [z.1, z.2]
    exact ref14_over_no1 f m ng (by simp; omega) w
theorem small_0 : Small 0 := small_full (by decide)
end Go.Proofs.YtjdjonekoodalaaGreatDoor
