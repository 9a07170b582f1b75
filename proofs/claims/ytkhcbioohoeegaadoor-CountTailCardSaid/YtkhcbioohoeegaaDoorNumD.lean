/-
  Contracts of the document's own numbers: Shl, Full, Bit.
-/
import Derived.Test.YtkhcbioohoeegaaDoorNumC
set_option linter.unusedVariables false
set_option maxRecDepth 100000
namespace Go.Proofs.YtkhcbioohoeegaaDoor
open Go.RowKit

/-- make(N, q). -/
theorem make_u32 {ops : Array Oper} {rest : List Oper} {o : Oper} {a : Act} {Q : Exit → Act → World → Prop} {w : World} (hgd : o.guard = none) (l c : Operand)
    (ho : o.op = Op.makeSlice 26 l c) (base : Nat) (L : Int) (q : Nat) (hl : a.eval l = .int .i64 L) (hc : a.eval c = .int .i64 L) (hL : L = (q : Int)) (hq : q ≤ 1000000) (hbase : base ≤ w.heap.size)
    (h : ∀ g w', Own w' base (.slice (some ⟨g, 0, none⟩) q q) (List.replicate q 0) → Below base w w' → wpList Tryd.prog ops Q rest (a.put o.dst (.slice (some ⟨g, 0, none⟩) q q)) w') : wpList Tryd.prog ops Q (o :: rest) a w := by
  obtain ⟨i0, hi, hz0, hz1, hz2⟩ := info_parts info32
  refine wpList_make_full w hgd l c _ ho base 55 i0 (.int .u32 0) 1 Tryd.underlying26 hi hz0 hz1 .i64 .i64 L L q hl hc hL hL (by rw [hz2]; omega) (by unfold maxLen; omega) hbase ?_
  intro w' h1 h2
  refine h _ w' ⟨?_, digs_replicate q⟩ ((Below.refl _ _).grown h2 hbase (by simp))
  rw [List.length_replicate, List.map_replicate]
  have e : (madeCells (Value.int IntKind.u32 0).cells (q * 1)).toList = List.replicate q (.int .u32 0) := by
    rw [Nat.mul_one]; exact toList_madeCells_one _ q
  rwa [e] at h1

theorem or_join {cy x : Int} {r : Nat} (h0 : 0 ≤ cy) (h1 : cy < 2 ^ r) (x0 : 0 ≤ x) (x1 : x < 4294967296) (hr : r < 32) : bits .or .u64 cy (x * 2 ^ r) = cy + x * 2 ^ r := by
  obtain ⟨C, rfl⟩ := Int.eq_ofNat_of_zero_le h0
  obtain ⟨X, rfl⟩ := Int.eq_ofNat_of_zero_le x0
  have hp : (2 : Nat) ^ r ≤ 2147483648 := Nat.pow_le_pow_right (by omega) (show r ≤ 31 by omega)
  have hc : C < 2 ^ r := by
    have h2 : ((2 ^ r : Nat) : Int) = 2 ^ r := by simp
    omega
  have e : ((X : Int) * 2 ^ r) = ((X * 2 ^ r : Nat) : Int) := by simp
  have hb : X * 2 ^ r ≤ 4294967296 * 2147483648 := Nat.mul_le_mul (by omega) hp
  rw [e, u64_or_nat C (X * 2 ^ r) (by omega) (by omega), Nat.or_comm, nat_join r (X * 2 ^ r) C (Nat.mul_mod_left ..) hc]
  omega

theorem pow_le31 {r : Nat} (hr : r < 32) : (2 : Int) ^ r ≤ 2147483648 := by
  have hp : (2 : Nat) ^ r ≤ 2147483648 := Nat.pow_le_pow_right (by omega) (show r ≤ 31 by omega)
  have h2 : ((2 ^ r : Nat) : Int) = 2 ^ r := by simp
  omega
theorem shl_lt {x : Int} {r : Nat} (x0 : 0 ≤ x) (x1 : x < 4294967296) (hr : r < 32) : x * 2 ^ r < 18446744073709551616 := by
  have h := pow_le31 hr
  have hp := two_pow_pos r
  have h1 : x * 2 ^ r ≤ 4294967295 * 2 ^ r := Int.mul_le_mul_of_nonneg_right (by omega) (by omega)
  generalize (2 : Int) ^ r = p at *
  omega
theorem bp_two (q : Nat) : bp q = 2 ^ (32 * q) := by
  unfold bp; rw [Int.pow_mul]; rfl
/-- At the head of a round of Shl. -/
def ShlInv (w : World) (a : List Int) (q r k : Nat) (cy : Int) (v : Value) (wr : World) : Prop :=
  0 ≤ cy ∧ cy < 2 ^ r ∧ ∃ os : List Int, os.length = q + k ∧ Own wr w.heap.size v os ∧ num os + bp (q + k) * cy = bp q * 2 ^ r * num (a.take k) ∧ Below w.heap.size w wr

theorem shl_step {os a : List Int} {q r k : Nat} {cy : Int} (hl : os.length = q + k) (h : num os + bp (q + k) * cy = bp q * 2 ^ r * num (a.take k)) :
    num (os ++ [(cy + a.getD k 0 * 2 ^ r) % 4294967296]) + bp (q + (k + 1)) * ((cy + a.getD k 0 * 2 ^ r) / 4294967296) = bp q * 2 ^ r * num (a.take (k + 1)) := by
  rw [num_take, num_snoc, hl, ← Nat.add_assoc, bp_succ]
  have e := split32 (bp (q + k)) (cy + a.getD k 0 * 2 ^ r)
  rw [Int.mul_add] at e
  rw [Int.mul_add]
  have e2 : bp (q + k) * (a.getD k 0 * 2 ^ r) = bp q * 2 ^ r * (bp k * a.getD k 0) := by
    rw [bp_add]; simp only [Int.mul_assoc, Int.mul_comm, Int.mul_left_comm]
  omega
theorem shl_cy {x cy : Int} {r : Nat} (h0 : 0 ≤ cy) (h1 : cy < 2 ^ r) (x0 : 0 ≤ x) (x1 : x < 4294967296) : 0 ≤ (cy + x * 2 ^ r) / 4294967296 ∧ (cy + x * 2 ^ r) / 4294967296 < 2 ^ r := by
  have hp := two_pow_pos r
  have hx : x * 2 ^ r ≤ 4294967295 * 2 ^ r := Int.mul_le_mul_of_nonneg_right (by omega) (by omega)
  have hx0 : 0 ≤ x * 2 ^ r := Int.mul_nonneg x0 (by omega)
  generalize (2 : Int) ^ r = p at *
  generalize x * p = y at *
  omega

set_option maxHeartbeats 2000000 in
theorem shl_ref {ao : Option Addr} {n c : Nat} {a : List Int} {w : World} (x : Dig w ao n c a) (hn : n < 800000) (N q r : Nat) (hq : (N : Int) / 32 = (q : Int)) (hr : (N : Int) % 32 = (r : Int)) (hq2 : q < 100000) :
    Calls Tryd.prog 39 #[.slice ao n c, .int .i64 N] w (RetDig w (num a * 2 ^ N)) := by
  have X := Lib.hid x
  have hr2 : r < 32 := by omega
  clear x
  go_enter Tryd.func39, Tryd.ntmps39
  go_wp2_with (at_make; refine make_u32 rfl (.tmp 9) (.tmp 9) rfl w.heap.size q q rfl rfl rfl (by omega) (Nat.le_refl _) ?_; intro g w1 hown1 hb1; have HO1 := Lib.hid hown1; have HB1 := Lib.hid hb1; clear hown1 hb1)
  go_loopw [5, 6, 7] (fun v cv i wr => ∃ (k : Nat) (cy : Int), k ≤ n ∧ i = .int .i64 k ∧ cv = .int .u64 cy ∧ ShlInv w a q r k cy v wr) (fun _ _ i _ => n - (intOf i).toNat)
  case atStart =>
    exact ⟨0, 0, Nat.zero_le _, rfl, rfl, by omega, two_pow_pos r, List.replicate q 0, by simp, HO1.out, by simp [num, num_zeros], HB1.out⟩
  case round =>
    obtain ⟨k, cy, hk, rfl, rfl, hinv⟩ := hrel
    obtain ⟨cy0, cy1, os, hos, hown, hsum, hbel⟩ := hinv
    have d1 := getD_d32 X.out.2.2.2.1 k
    have st := shl_step hos hsum
    have ST := Lib.hid st
    have HO := Lib.hid hown; have HB := Lib.hid hbel; have HL := Lib.hid hos; have HS := Lib.hid hsum
    have hlen : os.length < 1000000 := by rw [HL.out]; omega
    have HLen := Lib.hid hlen
    by_cases hlt : k < n
    · obtain ⟨g1, hao, hg1, hc1⟩ := X.out.2.2.2.2 (by omega)
      subst hao
      have ca := (hbel.cell (p := ⟨g1, k, none⟩) hg1).trans (hc1 k hlt)
      clear st hown hbel hos hsum hlen hg1 hc1
      generalize a.getD k 0 = x1 at *
      obtain ⟨l1, r1⟩ := d1
      have hcy := shl_cy cy0 cy1 l1 r1
      obtain ⟨s, hs, hs0, hor⟩ : ∃ s, cy + x1 * 2 ^ r = s ∧ 0 ≤ s ∧ bits .or .u64 cy (IntKind.u64.wrap (x1 * 2 ^ r)) = s := by
        refine ⟨_, rfl, Int.add_nonneg cy0 (Int.mul_nonneg l1 (by have := two_pow_pos r; omega)), ?_⟩
        rw [IntKind.wrap_u64, Int.emod_eq_of_lt (Int.mul_nonneg l1 (by have := two_pow_pos r; omega)) (shl_lt l1 r1 hr2)]
        exact or_join cy0 cy1 l1 r1 hr2
      rw [hs] at ST hcy
      have CY1 := Lib.hid cy1; have HC := Lib.hid hcy; have HSs := Lib.hid hs
      clear cy1 hcy hs
      go_wp2_with (at_builtin; refine append_u32 rfl (.tmp 27) (.tmp 30) rfl w.heap.size _ os rfl (HO.out.later (bA (Below.refl _ _) _)) wr.heap.size rfl (s % 4294967296) (mod_d32 _) (by go_simp) HLen.out (by have := HB.out.size; simp; omega) ?_; intro v' w2 hown2 hb2)
      have hb3 := HB.out.trans ((bA (Below.refl _ _) _).mono HB.out.size |>.trans hb2)
      go_roundw
      case rel => exact ⟨k + 1, s / 4294967296, by omega, by go_num, rfl, HC.out.1, HC.out.2, _, by simp [HL.out, Nat.add_assoc], hown2, ST.out, hb3⟩
      case measure => simp [intOf]; omega
    · obtain rfl : k = n := by omega
      have hcb : cy < 4294967296 := by have := pow_le31 hr2; omega
      have fin : num (os ++ [cy]) = num a * 2 ^ N := by
        rw [num_snoc, HL.out, HS.out, num_take_all (by have := X.out.1; omega), Int.mul_comm, bp_two, ← Int.pow_add, show 32 * q + r = N from by omega]
      have Fin := Lib.hid fin
      clear fin hlt st hown hbel hos hsum hlen cy1 d1
      go_wp2_with (at_builtin; refine append_u32_last rfl (.tmp 34) (.tmp 37) rfl w.heap.size _ os rfl (HO.out.later (bA (Below.refl _ _) _)) wr.heap.size rfl cy (by unfold D32; omega) (by go_simp) HLen.out (by have := HB.out.size; simp; omega) ?_; intro g n' cap' w1 hdig hb1; have HD := Lib.hid hdig; clear hdig)
      (with_reducible refine (trim_any HD.out).mono ?_)
      intro e w2 hret
      obtain ⟨ao2, k2, cap2, ds2, rfl, R⟩ := hret
      have HR := Lib.hid R
      clear R HD
      go_wp2_with fail
      go_ret
      obtain ⟨r1, r2, r3, r4⟩ := HR.out
      exact ⟨ao2, k2, cap2, ds2, rfl, r1, r2.trans Fin.out, r3, bC (HB.out.trans ((bA (Below.refl _ _) _).mono HB.out.size |>.trans hb1)) r4⟩

end Go.Proofs.YtkhcbioohoeegaaDoor
