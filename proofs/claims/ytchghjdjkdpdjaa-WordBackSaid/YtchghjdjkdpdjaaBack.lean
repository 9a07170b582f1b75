/-
  The walk of the statement WordBack: for every a, b, c it returns true.
-/
import Derived.Test.YtchghjdjkdpdjaaCounts
set_option linter.unusedVariables false
namespace Go.Proofs.Ytchghjdjkdpdjaa
open Go.RowKit

theorem back_hi {ah al bh bl : Int} (u1 : U64 ah) (u2 : U64 al) (u3 : U64 bh) (u4 : U64 bl) : hiOf (val (hiOf (val ah al + val bh bl)) (loOf (val ah al + val bh bl)) - val bh bl) = ah := by
  unfold U64 at u1 u2 u3 u4; rw [val_hiLo_mod]; unfold hiOf val full; omega
theorem back_lo {ah al bh bl : Int} (u1 : U64 ah) (u2 : U64 al) (u3 : U64 bh) (u4 : U64 bl) : loOf (val (hiOf (val ah al + val bh bl)) (loOf (val ah al + val bh bl)) - val bh bl) = al := by
  unfold U64 at u1 u2 u3 u4; rw [val_hiLo_mod]; unfold loOf val full; omega
theorem back_less {a b : Int} (ha : 0 ≤ a ∧ a < full) (hb : 0 ≤ b ∧ b < full) : decide ((a + b) % full < b) = decide (full ≤ a + b) := by
  unfold full at *; rw [Bool.eq_iff_iff]; simp only [decide_eq_true_eq]; omega
theorem back_cmp {a b : Int} (ha : 0 ≤ a ∧ a < full) (hb : 0 ≤ b ∧ b < full) : (decide (full ≤ a + b) == decide (cmpI ((a + b) % full) a < 0)) = true := by
  have e : decide (cmpI ((a + b) % full) a < 0) = decide ((a + b) % full < a) := by
    rw [Bool.eq_iff_iff]; simp only [decide_eq_true_eq]
    unfold cmpI; split
    · simp; omega
    · split <;> simp <;> omega
  rw [e]; unfold full at *; rw [beq_iff_eq, Bool.eq_iff_iff]; simp only [decide_eq_true_eq]; omega
theorem hi_mod_add (n m : Int) : hiOf (n % full + m) = hiOf (n + m) := by unfold hiOf full; omega
theorem lo_mod_add (n m : Int) : loOf (n % full + m) = loOf (n + m) := by unfold loOf full; omega

/-- Sub takes b away again. -/
theorem sub_back (ah al bh bl : Int) (u1 : U64 ah) (u2 : U64 al) (u3 : U64 bh) (u4 : U64 bl) (w : World) :
    Calls Try.prog 11 #[.agg #[.int .u64 (hiOf (val ah al + val bh bl)), .int .u64 (loOf (val ah al + val bh bl))], .agg #[.int .u64 bh, .int .u64 bl]] w fun e w' =>
      e = .returned (.tuple #[.agg #[.int .u64 ah, .int .u64 al], .bool (decide (full ≤ val ah al + val bh bl))]) ∧ Below w.heap.size w w' :=
  (sub_any _ _ bh bl (hiOf_u _) (loOf_u _) u3 u4 w).mono fun e w' ⟨he, hb⟩ => ⟨he.trans (by
    rw [back_hi u1 u2 u3 u4, back_lo u1 u2 u3 u4, val_hiLo_mod, back_less (val_range u1 u2) (val_range u3 u4)]), hb⟩
theorem add_turn (ah al bh bl : Int) (u1 : U64 ah) (u2 : U64 al) (u3 : U64 bh) (u4 : U64 bl) (w : World) :
    Calls Try.prog 10 #[.agg #[.int .u64 bh, .int .u64 bl], .agg #[.int .u64 ah, .int .u64 al]] w fun e w' =>
      e = .returned (.tuple #[.agg #[.int .u64 (hiOf (val ah al + val bh bl)), .int .u64 (loOf (val ah al + val bh bl))], .bool (decide (full ≤ val ah al + val bh bl))]) ∧ Below w.heap.size w w' :=
  (add_any bh bl ah al u3 u4 u1 u2 w).mono fun e w' ⟨he, hb⟩ => ⟨he.trans (by rw [Int.add_comm (val bh bl)]), hb⟩
theorem add_then (n ch cl : Int) (u3 : U64 ch) (u4 : U64 cl) (w : World) :
    Calls Try.prog 10 #[.agg #[.int .u64 (hiOf n), .int .u64 (loOf n)], .agg #[.int .u64 ch, .int .u64 cl]] w fun e w' =>
      e = .returned (.tuple #[.agg #[.int .u64 (hiOf (n + val ch cl)), .int .u64 (loOf (n + val ch cl))], .bool (decide (full ≤ n % full + val ch cl))]) ∧ Below w.heap.size w w' :=
  (add_any _ _ ch cl (hiOf_u _) (loOf_u _) u3 u4 w).mono fun e w' ⟨he, hb⟩ => ⟨he.trans (by rw [val_hiLo_mod, hi_mod_add, lo_mod_add]), hb⟩
theorem add_ahead (n ah al : Int) (u3 : U64 ah) (u4 : U64 al) (w : World) :
    Calls Try.prog 10 #[.agg #[.int .u64 ah, .int .u64 al], .agg #[.int .u64 (hiOf n), .int .u64 (loOf n)]] w fun e w' =>
      e = .returned (.tuple #[.agg #[.int .u64 (hiOf (val ah al + n)), .int .u64 (loOf (val ah al + n))], .bool (decide (full ≤ val ah al + n % full))]) ∧ Below w.heap.size w w' :=
  (add_any ah al _ _ u3 u4 (hiOf_u _) (loOf_u _) w).mono fun e w' ⟨he, hb⟩ => ⟨he.trans (by
    rw [val_hiLo_mod, Int.add_comm _ (n % full), hi_mod_add, lo_mod_add, Int.add_comm n]), hb⟩
theorem add_again (ah al bh bl ch cl : Int) (u3 : U64 ah) (u4 : U64 al) (w : World) :
    Calls Try.prog 10 #[.agg #[.int .u64 ah, .int .u64 al], .agg #[.int .u64 (hiOf (val bh bl + val ch cl)), .int .u64 (loOf (val bh bl + val ch cl))]] w fun e w' =>
      e = .returned (.tuple #[.agg #[.int .u64 (hiOf (val ah al + val bh bl + val ch cl)), .int .u64 (loOf (val ah al + val bh bl + val ch cl))], .bool (decide (full ≤ val ah al + (val bh bl + val ch cl) % full))]) ∧ Below w.heap.size w w' :=
  (add_ahead (val bh bl + val ch cl) ah al u3 u4 w).mono fun e w' ⟨he, hb⟩ => ⟨he.trans (by rw [← Int.add_assoc]), hb⟩
theorem cmp_mod (n ah al : Int) (u3 : U64 ah) (u4 : U64 al) (w : World) :
    Calls Try.prog 22 #[.agg #[.int .u64 (hiOf n), .int .u64 (loOf n)], .agg #[.int .u64 ah, .int .u64 al]] w fun e w' =>
      e = .returned (.int .i64 (cmpI (n % full) (val ah al))) ∧ Below w.heap.size w w' :=
  (cmp_any _ _ ah al (hiOf_u _) (loOf_u _) u3 u4 w).mono fun e w' ⟨he, hb⟩ => ⟨he.trans (by rw [val_hiLo_mod]), hb⟩

set_option maxHeartbeats 2000000 in
set_option maxRecDepth 100000 in
theorem back_walk (ah al bh bl ch cl : Int) (u1 : U64 ah) (u2 : U64 al) (u3 : U64 bh) (u4 : U64 bl) (u5 : U64 ch) (u6 : U64 cl) (w : World) :
    Calls Try.prog 5 #[.agg #[.int .u64 ah, .int .u64 al], .agg #[.int .u64 bh, .int .u64 bl], .agg #[.int .u64 ch, .int .u64 cl]] w fun e w' => e = .returned (.bool true) ∧ Below w.heap.size w w' := by
  have hq := back_cmp (val_range u1 u2) (val_range u3 u4)
  go_enter Try.func5, Try.ntmps5
  go_wp2_with fail
  obtain ⟨p0A, p0B, p0C, kk0⟩ := boxes3 w ah al bh bl ch cl 24
  (with_reducible refine (add_any ah al bh bl u1 u2 u3 u4 _).mono ?_); rintro e w1 ⟨rfl, hb1⟩
  have p1A := p0A.later hb1; have p1B := p0B.later hb1; have p1C := p0C.later hb1; have kk1 := bC kk0 hb1
  clear p0A p0B p0C kk0 hb1
  obtain ⟨sB, cB0, cB1⟩ := id p1B
  have p1X := Box.new w1 (hiOf (val ah al + val bh bl)) (loOf (val ah al + val bh bl)) 24
  go_wp2_with fail
  (with_reducible refine (sub_back ah al bh bl u1 u2 u3 u4 _).mono ?_); rintro e w2 ⟨rfl, hb2⟩
  have p2A := (p1A.alloc _).later hb2; have p2B := (p1B.alloc _).later hb2; have p2C := (p1C.alloc _).later hb2; have p2X := p1X.later hb2; have kk2 := bC (bA kk1 _) hb2
  clear p1A p1B p1C p1X kk1 hb2 sB cB0 cB1
  obtain ⟨sA, cA0, cA1⟩ := id p2A
  obtain ⟨sB, cB0, cB1⟩ := id p2B
  have p2Y := Box.new w2 (ah) (al) 24
  go_wp2_with fail
  (with_reducible refine (add_turn ah al bh bl u1 u2 u3 u4 _).mono ?_); rintro e w3 ⟨rfl, hb3⟩
  have p3A := (p2A.alloc _).later hb3; have p3B := (p2B.alloc _).later hb3; have p3C := (p2C.alloc _).later hb3; have p3X := (p2X.alloc _).later hb3; have p3Y := p2Y.later hb3; have kk3 := bC (bA kk2 _) hb3
  clear p2A p2B p2C p2X p2Y kk2 hb3 sA cA0 cA1 sB cB0 cB1
  obtain ⟨sX, cX0, cX1⟩ := id p3X
  obtain ⟨sC, cC0, cC1⟩ := id p3C
  have p3Z := Box.new w3 (hiOf (val ah al + val bh bl)) (loOf (val ah al + val bh bl)) 24
  go_wp2_with fail
  (with_reducible refine (add_then (val ah al + val bh bl) ch cl u5 u6 _).mono ?_); rintro e w4 ⟨rfl, hb4⟩
  have p4A := (p3A.alloc _).later hb4; have p4B := (p3B.alloc _).later hb4; have p4C := (p3C.alloc _).later hb4; have p4X := (p3X.alloc _).later hb4; have p4Y := (p3Y.alloc _).later hb4; have p4Z := p3Z.later hb4; have kk4 := bC (bA kk3 _) hb4
  clear p3A p3B p3C p3X p3Y p3Z kk3 hb4 sX cX0 cX1 sC cC0 cC1
  obtain ⟨sB, cB0, cB1⟩ := id p4B
  obtain ⟨sC, cC0, cC1⟩ := id p4C
  have p4P := Box.new w4 (hiOf (val ah al + val bh bl + val ch cl)) (loOf (val ah al + val bh bl + val ch cl)) 24
  go_wp2_with fail
  (with_reducible refine (add_any bh bl ch cl u3 u4 u5 u6 _).mono ?_); rintro e w5 ⟨rfl, hb5⟩
  have p5A := (p4A.alloc _).later hb5; have p5B := (p4B.alloc _).later hb5; have p5C := (p4C.alloc _).later hb5; have p5X := (p4X.alloc _).later hb5; have p5Y := (p4Y.alloc _).later hb5; have p5Z := (p4Z.alloc _).later hb5; have p5P := p4P.later hb5; have kk5 := bC (bA kk4 _) hb5
  clear p4A p4B p4C p4X p4Y p4Z p4P kk4 hb5 sB cB0 cB1 sC cC0 cC1
  obtain ⟨sA, cA0, cA1⟩ := id p5A
  have p5Q := Box.new w5 (hiOf (val bh bl + val ch cl)) (loOf (val bh bl + val ch cl)) 24
  clear p5B
  clear p5C
  go_wp2_with fail
  (with_reducible refine (add_again ah al bh bl ch cl u1 u2 _).mono ?_); rintro e w6 ⟨rfl, hb6⟩
  have p6A := (p5A.alloc _).later hb6; have p6X := (p5X.alloc _).later hb6; have p6Y := (p5Y.alloc _).later hb6; have p6Z := (p5Z.alloc _).later hb6; have p6P := (p5P.alloc _).later hb6; have p6Q := p5Q.later hb6; have kk6 := bC (bA kk5 _) hb6
  clear p5A p5X p5Y p5Z p5P p5Q kk5 hb6 sA cA0 cA1
  obtain ⟨sY, cY0, cY1⟩ := id p6Y
  obtain ⟨sA, cA0, cA1⟩ := id p6A
  obtain ⟨sX, cX0, cX1⟩ := id p6X
  obtain ⟨sZ, cZ0, cZ1⟩ := id p6Z
  obtain ⟨sP, cP0, cP1⟩ := id p6P
  have p6R := Box.new w6 (hiOf (val ah al + val bh bl + val ch cl)) (loOf (val ah al + val bh bl + val ch cl)) 24
  clear p6Q
  go_wp2_with fail
  (with_reducible refine (cmp_mod (val ah al + val bh bl) ah al u1 u2 _).mono ?_); rintro e w7 ⟨rfl, hb7⟩
  have p7A := (p6A.alloc _).later hb7; have p7X := (p6X.alloc _).later hb7; have p7Y := (p6Y.alloc _).later hb7; have p7Z := (p6Z.alloc _).later hb7; have p7P := (p6P.alloc _).later hb7; have p7R := p6R.later hb7; have kk7 := bC (bA kk6 _) hb7
  clear p6A p6X p6Y p6Z p6P p6R kk6 hb7 sY cY0 cY1 sA cA0 cA1 sX cX0 cX1 sZ cZ0 cZ1 sP cP0 cP1
  clear p7A
  clear p7X
  clear p7Y
  clear p7Z
  clear p7P
  clear p7R
  go_wp2_with fail
  (with_reducible refine (counts_any _).mono ?_); rintro e w8 ⟨rfl, hb8⟩
  have kk8 := bC kk7 hb8
  clear kk7 hb8
  go_wp2_with fail
  go_ret
  exact ⟨rfl, kk8⟩

end Go.Proofs.Ytchghjdjkdpdjaa
