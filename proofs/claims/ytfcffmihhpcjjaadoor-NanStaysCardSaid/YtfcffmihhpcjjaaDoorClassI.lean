/-
  slices.Contains over classes, slices.ContainsFunc over encodings, the closure that class.Any makes: contracts.
-/
import Derived.Test.YtfcffmihhpcjjaaDoorClassC
import Derived.Test.YtfcffmihhpcjjaaDoorAny8
import Derived.Defers
import Derived.Recover
set_option linter.unusedVariables false
set_option linter.unusedSimpArgs false
set_option maxRecDepth 100000
namespace Go.Proofs.YtfcffmihhpcjjaaDoor
open Go.RowKit
attribute [local go_sem ↓] Go.wp_at_zero Go.wp_at_succ

/-- The cells of a list of classes. -/
def Us (w : World) (a : Addr) (xs : List Int) : Prop := ∀ k, k < xs.length → w.cell? (a.add k) = some (.int .u8 (xs.getD k 0))
theorem Us.later {W w1 : World} {a : Addr} {xs : List Int} (x : Us W a xs) (hb : Below W.heap.size W w1) : Us w1 a xs := fun k hk => cell_later hb (x k hk)
set_option maxRecDepth 100000 in
set_option maxHeartbeats 1000000 in
theorem index_u8 (a : Addr) (n cap : Nat) (xs : List Int) (v : Int) (hn : n = xs.length) (hm : n ≤ 9223372036854775807) (w : World) (x : Us w a xs) :
    Calls Tryd.prog 81 #[.slice (some a) n cap, .int .u8 v] w fun e w' => ∃ r : Int, e = .returned (.int .i64 r) ∧ decide (0 ≤ r) = xs.any (fun y => v == y) ∧ Below w.heap.size w w' := by
  have HX := Lib.hid x
  have HM := Lib.hid hm
  have HN := Lib.hid hn
  clear x hm hn
  go_enter Tryd.func81, Tryd.ntmps81
  go_wp2_with fail
  go_loopw [8] (fun i wr => ∃ k : Nat, k ≤ n ∧ i = .int .i64 k ∧ someB (fun y => v == y) xs k = false ∧ Below w.heap.size w wr) (fun i _ => n - (intOf i).toNat)
  case atStart => exact ⟨0, by omega, rfl, rfl, Below.refl _ _⟩
  case round =>
    obtain ⟨k, hk, rfl, hno, hb⟩ := hrel
    by_cases hlt : k < n
    · have c := (HX.out.later hb) k (HN.out ▸ hlt)
      have su := someB_succ (fun y => v == y) xs k (HN.out ▸ hlt)
      rw [hno, Bool.false_or] at su
      obtain ⟨y, hy⟩ : ∃ y, xs.getD k 0 = y := ⟨_, rfl⟩
      rw [hy] at c su
      have gk : decide ((k : Int) < (n : Int)) = true := by simp; omega
      have inc : IntKind.i64.wrap ((k : Int) + 1) = ((k + 1 : Nat) : Int) := by have := HM.out; rw [IntKind.wrap_i64]; omega
      have HB := Lib.hid hb; have SU := Lib.hid su; have HK := Lib.hid (And.intro hk hlt)
      by_cases hv : (v == y) = true
      · clear hb su hno
        go_wp2_with fail
        refine bodyPost_ret (v := .int .i64 k) (by simp [results, Tryd.results81, go_sem]) rfl ⟨_, rfl, ?_, HB.out⟩
        rw [show decide (0 ≤ (k : Int)) = true by simp]
        have h : someB (fun y => v == y) xs (k + 1) = true := by rw [SU.out]; exact hv
        unfold someB at h
        rw [List.any_eq_true] at h
        obtain ⟨z, hz, hp⟩ := h
        exact (List.any_eq_true.2 ⟨z, List.mem_of_mem_take hz, hp⟩).symm
      · have hv' : (v == y) = false := by simpa using hv
        clear hb su hno hv
        go_wp2_with fail
        go_roundw
        case rel => exact ⟨k + 1, by have := HK.out; omega, by go_num, by rw [SU.out]; exact hv', HB.out⟩
        case measure => have := HK.out; simp [intOf]; omega
    · have gk : decide ((k : Int) < (n : Int)) = false := by simp; omega
      have e : k = n := by omega
      have HB := Lib.hid hb; have HE := Lib.hid (And.intro e hno)
      clear hb e hno
      go_wp2_with fail
      refine bodyPost_ret (v := .int .i64 (-1)) (by simp [results, Tryd.results81, go_sem]) rfl ⟨_, rfl, ?_, HB.out⟩
      rw [← someB_all (fun y => v == y) xs HN.out, ← HE.out.1, HE.out.2]; rfl

theorem contains_u8 (a : Addr) (n cap : Nat) (xs : List Int) (v : Int) (hn : n = xs.length) (hm : n ≤ 9223372036854775807) (w : World) (x : Us w a xs) :
    Calls Tryd.prog 64 #[.slice (some a) n cap, .int .u8 v] w fun e w' => e = .returned (.bool (xs.any fun y => v == y)) ∧ Below w.heap.size w w' := by
  have K := Lib.hid (index_u8 a n cap xs v hn hm w x)
  clear x hn hm
  go_enter Tryd.func64, Tryd.ntmps64
  go_wp2_with fail
  (with_reducible refine (K.out).mono ?_); rintro e w1 ⟨r, rfl, hr, hb⟩
  have HB := Lib.hid hb; have HR := Lib.hid hr
  clear hb hr
  go_wp2_with fail
  go_ret
  exact ⟨congrArg (fun z => Ending.returned (.bool z)) HR.out, HB.out⟩

/-- recover finds nothing in a frame that returns. -/
theorem recover_idle (w : World) : CallsD Tryd.prog 42 #[] .returning w fun e u' w' => e = .returned (.tuple #[]) ∧ u' = .returning ∧ w' = w := by
  refine callsD_of_wpS Tryd.func42 rfl fun c₀ cs hu => ?_
  apply wpS_region
  simp [wpOpsS, go_sem, recoverD, hu, Tryd.ntmps42, Exit.thenS, bodyPostS, results, Tryd.results42]
  cases c₀; simp_all

set_option maxRecDepth 100000 in
set_option maxHeartbeats 1000000 in
theorem ask_fun (g : Nat) (hg : ∀ args w, (callFunc g args).run Tryd.prog w = .ok (.enter g args) w) (p : Bool) (f b : Int) (b4 b3 : Nat) (w : World) (ft : FTab w) (c4 : w.cell? ⟨b4, 0, none⟩ = some (.func (.func g) #[] #[])) (c3 : w.cell? ⟨b3, 0, none⟩ = some (.int .u8 f))
    (H : Hid (∀ w, FTab w → Calls Tryd.prog g #[.int .u8 f, .agg #[.int .u64 (hiOf b), .int .u64 (loOf b)]] w fun e w' => e = .returned (.bool p) ∧ Below w.heap.size w w')) :
    Calls Tryd.prog 41 #[.agg #[.int .u64 (hiOf b), .int .u64 (loOf b)], .pointer (some ⟨b4, 0, none⟩), .pointer (some ⟨b3, 0, none⟩)] w fun e w' => e = .returned (.bool p) ∧ Below w.heap.size w w' := by
  have FT := Lib.hid ft
  have q4 : b4 < w.heap.size := World.block_lt_of_cell? _ _ c4
  have q3 : b3 < w.heap.size := World.block_lt_of_cell? _ _ c3
  clear ft
  go_enter_defers Tryd.func41, Tryd.ntmps41
  go_wp2_with fail
  (with_reducible refine (H.out _ (FT.out.later (bA (Below.refl _ _) _))).mono ?_); rintro e w1 ⟨rfl, hb⟩
  have HB := Lib.hid (bC (bA (Below.refl _ _) _) hb)
  clear hb
  go_wp2_with fail
  refine leaves_cons (f := 42) (args := #[]) (by simp) (by simp [go_sem]) ?_
  refine (recover_idle _).mono ?_
  rintro e u' w'' ⟨rfl, rfl, rfl⟩
  exact ⟨_, results_tmp rfl _ _ _, rfl, HB.out⟩

set_option maxRecDepth 100000 in
set_option maxHeartbeats 1000000 in
theorem index_func (p : Int → Bool) (b4 b3 : Nat) (ao : Option Addr) (n cap : Nat) (xs : List Int) (w : World) (x : Bs w ao n cap xs)
    (H : Hid (∀ b W, Below w.heap.size w W → Calls Tryd.prog 41 #[.agg #[.int .u64 (hiOf b), .int .u64 (loOf b)], .pointer (some ⟨b4, 0, none⟩), .pointer (some ⟨b3, 0, none⟩)] W fun e W' => e = .returned (.bool (p b)) ∧ Below W.heap.size W W')) :
    Calls Tryd.prog 37 #[.slice ao n cap, .func (.func 41) #[] #[.pointer (some ⟨b4, 0, none⟩), .pointer (some ⟨b3, 0, none⟩)]] w fun e w' => ∃ r : Int, e = .returned (.int .i64 r) ∧ decide (0 ≤ r) = xs.any p ∧ Below w.heap.size w w' := by
  have HX := Lib.hid x
  clear x
  go_enter Tryd.func37, Tryd.ntmps37
  go_wp2_with fail
  go_loopw [8] (fun i wr => ∃ k : Nat, k ≤ n ∧ i = .int .i64 k ∧ someB p xs k = false ∧ Below w.heap.size w wr) (fun i _ => n - (intOf i).toNat)
  case atStart => exact ⟨0, by omega, rfl, rfl, Below.refl _ _⟩
  case round =>
    obtain ⟨k, hk, rfl, hno, hb⟩ := hrel
    by_cases hlt : k < n
    · obtain ⟨a, hao, c0, c1⟩ := (HX.out.later hb).2.2.2 k hlt
      subst hao
      have su := someB_succ p xs k (HX.out.1 ▸ hlt)
      rw [hno, Bool.false_or] at su
      obtain ⟨y, hy⟩ : ∃ y, xs.getD k 0 = y := ⟨_, rfl⟩
      rw [hy] at c0 c1 su
      have gk : decide ((k : Int) < (n : Int)) = true := by simp; omega
      have inc : IntKind.i64.wrap ((k : Int) + 1) = ((k + 1 : Nat) : Int) := by have := HX.out.2.2.1.1; rw [IntKind.wrap_i64]; omega
      have HB := Lib.hid hb; have SU := Lib.hid su; have HK := Lib.hid (And.intro hk hlt)
      have HH := Lib.hid (H.out y _ hb)
      cases hv : p y
      · rw [hv] at SU HH
        clear hb su hno hk
        go_wp2_with fail
        (with_reducible refine (HH.out).mono ?_); rintro e w1 ⟨rfl, hb1⟩
        have K1 := Lib.hid (bC HB.out hb1)
        clear hb1 c0 c1
        go_wp2_with fail
        go_roundw
        case rel => exact ⟨k + 1, by have := HK.out; omega, by go_num, SU.out, K1.out⟩
        case measure => have := HK.out; simp [intOf]; omega
      · rw [hv] at SU HH
        clear hb su hno hk
        go_wp2_with fail
        (with_reducible refine (HH.out).mono ?_); rintro e w1 ⟨rfl, hb1⟩
        have K1 := Lib.hid (bC HB.out hb1)
        clear hb1 c0 c1
        go_wp2_with fail
        refine bodyPost_ret (v := .int .i64 k) (by simp [results, Tryd.results37, go_sem]) rfl ⟨_, rfl, ?_, K1.out⟩
        rw [show decide (0 ≤ (k : Int)) = true by simp]
        have h := SU.out
        unfold someB at h
        rw [List.any_eq_true] at h
        obtain ⟨z, hz, hp⟩ := h
        exact (List.any_eq_true.2 ⟨z, List.mem_of_mem_take hz, hp⟩).symm
    · have gk : decide ((k : Int) < (n : Int)) = false := by simp; omega
      have e : k = n := by omega
      have HB := Lib.hid hb; have HE := Lib.hid (And.intro e hno)
      clear hb e hno
      go_wp2_with fail
      refine bodyPost_ret (v := .int .i64 (-1)) (by simp [results, Tryd.results37, go_sem]) rfl ⟨_, rfl, ?_, HB.out⟩
      rw [← someB_all p xs HX.out.1, ← HE.out.1, HE.out.2]; rfl

theorem contains_func (p : Int → Bool) (b4 b3 : Nat) (ao : Option Addr) (n cap : Nat) (xs : List Int) (w : World) (x : Bs w ao n cap xs)
    (H : Hid (∀ b W, Below w.heap.size w W → Calls Tryd.prog 41 #[.agg #[.int .u64 (hiOf b), .int .u64 (loOf b)], .pointer (some ⟨b4, 0, none⟩), .pointer (some ⟨b3, 0, none⟩)] W fun e W' => e = .returned (.bool (p b)) ∧ Below W.heap.size W W')) :
    Calls Tryd.prog 40 #[.slice ao n cap, .func (.func 41) #[] #[.pointer (some ⟨b4, 0, none⟩), .pointer (some ⟨b3, 0, none⟩)]] w fun e w' => e = .returned (.bool (xs.any p)) ∧ Below w.heap.size w w' := by
  have K := Lib.hid (index_func p b4 b3 ao n cap xs w x H)
  clear x H
  go_enter Tryd.func40, Tryd.ntmps40
  go_wp2_with fail
  (with_reducible refine (K.out).mono ?_); rintro e w1 ⟨r, rfl, hr, hb⟩
  have HB := Lib.hid hb; have HR := Lib.hid hr
  clear hb hr
  go_wp2_with fail
  go_ret
  exact ⟨congrArg (fun z => Ending.returned (.bool z)) HR.out, HB.out⟩

set_option maxRecDepth 100000 in
set_option maxHeartbeats 1000000 in
theorem any_fun (g : Nat) (hg : ∀ args w, (callFunc g args).run Tryd.prog w = .ok (.enter g args) w) (p : Int → Bool) (f : Int) (ao : Option Addr) (n cap : Nat) (xs : List Int) (w : World) (ft : FTab w) (x : Bs w ao n cap xs)
    (H : Hid (∀ b w, FTab w → Calls Tryd.prog g #[.int .u8 f, .agg #[.int .u64 (hiOf b), .int .u64 (loOf b)]] w fun e w' => e = .returned (.bool (p b)) ∧ Below w.heap.size w w')) :
    Calls Tryd.prog 17 #[.int .u8 f, .func (.func g) #[] #[], .slice ao n cap] w fun e w' => e = .returned (.bool (xs.any p)) ∧ Below w.heap.size w w' := by
  have FT := Lib.hid ft
  have HX := Lib.hid x
  have HG := Lib.hid hg
  clear ft x hg
  go_enter Tryd.func17, Tryd.ntmps17
  have hnf : ∀ w : World, (binOp .eql 29 (.func (.func g) #[] #[]) Value.nilFunc).run Tryd.prog w = .ok (.bool false) w := fun _ => by kernel_rfl
  have hmf : ∀ (fn : Fn) (first cap : Array Value) (w : World), (Instr.makeFunc fn first cap).run Tryd.prog w = .ok (.func fn first cap) w := fun _ _ _ _ => rfl
  go_wp2_with fail
  (with_reducible refine (contains_func p (w.heap.size + 1) w.heap.size ao n cap xs _ (HX.out.later (bA (bA (Below.refl _ _) _) _)) (Lib.hid fun b W hb => ask_fun g HG.out (p b) f b _ _ W (FT.out.later (bC (bA (bA (Below.refl _ _) _) _) hb)) (cell_later hb (by go_simp)) (cell_later hb (by go_simp)) (Lib.hid fun w ft => H.out b w ft))).mono ?_); rintro e w1 ⟨rfl, hb⟩
  have HB := Lib.hid (bC (bA (bA (Below.refl _ _) _) _) hb)
  clear hb
  go_wp2_with fail
  go_ret
  exact ⟨rfl, HB.out⟩

set_option maxRecDepth 100000 in
theorem any_nil (f : Int) (ao : Option Addr) (n cap : Nat) (w : World) :
    Calls Tryd.prog 17 #[.int .u8 f, Value.nilFunc, .slice ao n cap] w fun e w' => e = .returned (.bool false) ∧ Below w.heap.size w w' := by
  have hnf : ∀ w : World, (binOp .eql 29 Value.nilFunc Value.nilFunc).run Tryd.prog w = .ok (.bool true) w := fun _ => by kernel_rfl
  go_enter Tryd.func17, Tryd.ntmps17
  go_wp2_with fail
  go_ret
  exact ⟨rfl, bA (bA (Below.refl _ _) _) _⟩

end Go.Proofs.YtfcffmihhpcjjaaDoor
