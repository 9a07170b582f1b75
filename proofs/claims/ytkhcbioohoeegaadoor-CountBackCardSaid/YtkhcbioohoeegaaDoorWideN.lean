/-
  Contracts of the program's packages word and wide over whole numbers: digits are those of a number.
-/
import Derived.Test.YtkhcbioohoeegaaDoorWideX
set_option linter.unusedVariables false
set_option maxRecDepth 100000
namespace Go.Proofs.YtkhcbioohoeegaaDoor
open Go.RowKit

theorem wd_mod (n : Int) : wd0 (n % wfull) = wd0 n ∧ wd1 (n % wfull) = wd1 n ∧ wd2 (n % wfull) = wd2 n ∧ wd3 (n % wfull) = wd3 n := by
  unfold wd0 wd1 wd2 wd3 wfull; omega
theorem wd_congr {n m : Int} (h : n % wfull = m % wfull) : wd0 n = wd0 m ∧ wd1 n = wd1 m ∧ wd2 n = wd2 m ∧ wd3 n = wd3 m := by
  obtain ⟨h0, h1, h2, h3⟩ := wd_mod n
  obtain ⟨k0, k1, k2, k3⟩ := wd_mod m
  rw [h] at h0 h1 h2 h3
  exact ⟨h0.symm.trans k0, h1.symm.trans k1, h2.symm.trans k2, h3.symm.trans k3⟩
theorem hl_mod (n : Int) : hiOf (n % full) = hiOf n ∧ loOf (n % full) = loOf n := by
  unfold hiOf loOf full; omega
theorem hl_congr {n m : Int} (h : n % full = m % full) : hiOf n = hiOf m ∧ loOf n = loOf m := by
  obtain ⟨h0, h1⟩ := hl_mod n
  obtain ⟨k0, k1⟩ := hl_mod m
  rw [h] at h0 h1
  exact ⟨h0.symm.trans k0, h1.symm.trans k1⟩
theorem val_wd_lo (n : Int) : val (wd1 n) (wd0 n) = n % full := by unfold val wd1 wd0 full; omega
theorem val_wd_hi (n : Int) : val (wd3 n) (wd2 n) = n / full % full := by unfold val wd3 wd2 full; omega
theorem hl_lo (n : Int) : hiOf n = wd1 n ∧ loOf n = wd0 n := by unfold hiOf loOf wd1 wd0; omega
theorem hl_hi (n : Int) : hiOf (n / full) = wd3 n ∧ loOf (n / full) = wd2 n := by unfold hiOf loOf wd3 wd2 full; omega
theorem hl_val {h l : Int} (uh : U64 h) (ul : U64 l) : hiOf (val h l) = h ∧ loOf (val h l) = l := by
  unfold U64 at uh ul; unfold hiOf loOf val; omega
theorem wd_join (n m : Int) : wd0 (n % full * full + m % full) = loOf m ∧ wd1 (n % full * full + m % full) = hiOf m ∧ wd2 (n % full * full + m % full) = loOf n ∧ wd3 (n % full * full + m % full) = hiOf n := by
  unfold wd0 wd1 wd2 wd3 hiOf loOf full; omega
theorem wd_small (n : Int) : wd0 (n % full) = loOf n ∧ wd1 (n % full) = hiOf n ∧ wd2 (n % full) = 0 ∧ wd3 (n % full) = 0 := by
  unfold wd0 wd1 wd2 wd3 hiOf loOf full; omega

theorem wd_add_mod (n m : Int) : wd0 (n % wfull + m % wfull) = wd0 (n + m) ∧ wd1 (n % wfull + m % wfull) = wd1 (n + m) ∧ wd2 (n % wfull + m % wfull) = wd2 (n + m) ∧ wd3 (n % wfull + m % wfull) = wd3 (n + m) := wd_congr (by rw [← Int.add_emod])
theorem wd_sub_mod (n m : Int) : wd0 (n % wfull - m % wfull) = wd0 (n - m) ∧ wd1 (n % wfull - m % wfull) = wd1 (n - m) ∧ wd2 (n % wfull - m % wfull) = wd2 (n - m) ∧ wd3 (n % wfull - m % wfull) = wd3 (n - m) := wd_congr (by rw [← Int.sub_emod])

theorem cmpW (n m : Int) (w : World) : Calls Tryd.prog 24 #[.agg #[.int .u64 (wd0 n), .int .u64 (wd1 n), .int .u64 (wd2 n), .int .u64 (wd3 n)], .agg #[.int .u64 (wd0 m), .int .u64 (wd1 m), .int .u64 (wd2 m), .int .u64 (wd3 m)]] w fun e w' =>
    e = .returned (.int .i64 (cmpI (n % wfull) (m % wfull))) ∧ Below w.heap.size w w' :=
  (wcmp_any _ _ _ _ _ _ _ _ (wd0_u n) (wd1_u n) (wd2_u n) (wd3_u n) (wd0_u m) (wd1_u m) (wd2_u m) (wd3_u m) w).mono fun e w' ⟨he, hb⟩ => ⟨he.trans (by
    rw [wval_wd_mod, wval_wd_mod]), hb⟩
theorem zeroW (n : Int) (w : World) : Calls Tryd.prog 23 #[.agg #[.int .u64 (wd0 n), .int .u64 (wd1 n), .int .u64 (wd2 n), .int .u64 (wd3 n)]] w fun e w' =>
    e = .returned (.bool (n % wfull == 0)) ∧ Below w.heap.size w w' :=
  (wzero_any _ _ _ _ (wd0_u n) (wd1_u n) (wd2_u n) (wd3_u n) w).mono fun e w' ⟨he, hb⟩ => ⟨he.trans (by rw [wval_wd_mod]), hb⟩
theorem highW (n : Int) (w : World) : Calls Tryd.prog 30 #[.agg #[.int .u64 (wd0 n), .int .u64 (wd1 n), .int .u64 (wd2 n), .int .u64 (wd3 n)]] w fun e w' =>
    e = .returned (.agg #[.int .u64 (hiOf (n / full)), .int .u64 (loOf (n / full))]) ∧ Below w.heap.size w w' :=
  (high_any _ _ _ _ w).mono fun e w' ⟨he, hb⟩ => ⟨he.trans (by rw [(hl_hi n).1, (hl_hi n).2]), hb⟩
theorem lowW (n : Int) (w : World) : Calls Tryd.prog 31 #[.agg #[.int .u64 (wd0 n), .int .u64 (wd1 n), .int .u64 (wd2 n), .int .u64 (wd3 n)]] w fun e w' =>
    e = .returned (.agg #[.int .u64 (hiOf n), .int .u64 (loOf n)]) ∧ Below w.heap.size w w' :=
  (low_any _ _ _ _ w).mono fun e w' ⟨he, hb⟩ => ⟨he.trans (by rw [(hl_lo n).1, (hl_lo n).2]), hb⟩
theorem joinW (n m : Int) (w : World) : Calls Tryd.prog 49 #[.agg #[.int .u64 (hiOf n), .int .u64 (loOf n)], .agg #[.int .u64 (hiOf m), .int .u64 (loOf m)]] w fun e w' =>
    e = .returned (.agg #[.int .u64 (wd0 (n % full * full + m % full)), .int .u64 (wd1 (n % full * full + m % full)), .int .u64 (wd2 (n % full * full + m % full)), .int .u64 (wd3 (n % full * full + m % full))]) ∧ Below w.heap.size w w' :=
  (join_any _ _ _ _ w).mono fun e w' ⟨he, hb⟩ => ⟨he.trans (by
    obtain ⟨h0, h1, h2, h3⟩ := wd_join n m
    rw [h0, h1, h2, h3]), hb⟩
theorem ofW (n : Int) (w : World) : Calls Tryd.prog 26 #[.agg #[.int .u64 (hiOf n), .int .u64 (loOf n)]] w fun e w' =>
    e = .returned (.agg #[.int .u64 (wd0 (n % full)), .int .u64 (wd1 (n % full)), .int .u64 (wd2 (n % full)), .int .u64 (wd3 (n % full))]) ∧ Below w.heap.size w w' :=
  (of_any _ _ w).mono fun e w' ⟨he, hb⟩ => ⟨he.trans (by
    obtain ⟨h0, h1, h2, h3⟩ := wd_small n
    rw [h0, h1, h2, h3]), hb⟩
theorem cmpB (n m : Int) (w : World) : Calls Tryd.prog 47 #[.agg #[.int .u64 (hiOf n), .int .u64 (loOf n)], .agg #[.int .u64 (hiOf m), .int .u64 (loOf m)]] w fun e w' =>
    e = .returned (.int .i64 (cmpI (n % full) (m % full))) ∧ Below w.heap.size w w' :=
  (cmp_any _ _ _ _ (hiOf_u n) (loOf_u n) (hiOf_u m) (loOf_u m) w).mono fun e w' ⟨he, hb⟩ => ⟨he.trans (by rw [val_hiLo_mod, val_hiLo_mod]), hb⟩
theorem zeroB (n : Int) (w : World) : Calls Tryd.prog 27 #[.agg #[.int .u64 (hiOf n), .int .u64 (loOf n)]] w fun e w' =>
    e = .returned (.bool (n % full == 0)) ∧ Below w.heap.size w w' :=
  (zero_any _ _ (hiOf_u n) (loOf_u n) w).mono fun e w' ⟨he, hb⟩ => ⟨he.trans (by rw [val_hiLo_mod]), hb⟩

end Go.Proofs.YtkhcbioohoeegaaDoor
