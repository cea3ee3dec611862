/- Layer 2: sums, products and quotients that are to be rounded. -/
import Derived.Test.YtogfiekbikechaaGreatDoorGg
import Derived.Test.YtogfiekbikechaaGreatDoorGe
import Derived.Test.YtogfiekbikechaaGreatDoorGd
import Derived.Deep.RegionWith
import Derived.IntWalk
namespace Go.Proofs.YtogfiekbikechaaGreatDoor
open Go.RowKit

theorem ex_any (m x : Int) (h1 : -9223372036854775808 ≤ m) (h2 : m < 9223372036854775808) (w : World) :
    Calls Tryz.prog 52 #[.int .i64 m, .int .i64 x] w fun e w' => e = .returned (.agg #[.bool ((exV m x)).neg, .int .u64 ((exV m x)).man, .int .i64 ((exV m x)).exp, .bool ((exV m x)).more]) ∧ Ext w w' := exactly_any m x h1 h2 w
theorem rd_any (a : Ex) (hm : a.man < 18446744073709551616) (h1 : -1000000 ≤ a.exp) (h2 : a.exp ≤ 1000000) (w : World) :
    Calls Tryz.prog 53 #[.agg #[.bool (a).neg, .int .u64 (a).man, .int .i64 (a).exp, .bool (a).more]] w fun e w' => Ends a.rd e ∧ Ext w w' := rounded_ends a.neg a.more a.man a.exp hm h1 h2 w
theorem exV_man {m x : Int} (h1 : -9223372036854775808 ≤ m) (h2 : m < 9223372036854775808) : (exV m x).man < 18446744073709551616 := by unfold exV; simp only; omega

theorem fromInt_any (n : Int) (h1 : -9223372036854775808 ≤ n) (h2 : n < 9223372036854775808) (w : World) :
    Calls Tryz.prog 13 #[.int .i64 n] w fun e w' => Ends (exV n 0).rd e ∧ Ext w w' := by
  have A := Lib.hid (ex_any n 0 h1 h2)
  have B := Lib.hid (rd_any (exV n 0) (exV_man h1 h2) (by simp [exV]) (by simp [exV]))
  generalize exV n 0 = a at *
  obtain ⟨neg, man, ex, more⟩ := a
  simp only at A B
  generalize Ex.rd _ = r at *
  go_enter Tryz.func13, Tryz.ntmps13
  go_wp2_with fail
  refine (A.out _).mono ?_
  rintro e w1 ⟨rfl, hx1⟩
  go_wp2_with fail
  refine (B.out _).mono ?_
  rintro e w2 ⟨hE, hx2⟩
  cases r with
  | none =>
    obtain rfl : e = RangePanic := hE
    exact ⟨rfl, rfl, ((Ext.refl w).alloc _).trans (hx1.trans hx2)⟩
  | some p =>
    obtain ⟨m, x⟩ := p
    obtain rfl : e = .returned (.agg #[.int .i64 m, .int .i64 x]) := hE
    have hx := hx1.trans hx2
    have X := Lib.hid (((Ext.refl w).alloc _).trans hx)
    have c0 : w2.cell? ⟨w.heap.size, 0, none⟩ = some (.int .i64 0) := (hx.cell 0 (by simp)).trans (by simp [go_sem])
    have c1 : w2.cell? ⟨w.heap.size, 1, none⟩ = some (.int .i64 0) := (hx.cell 1 (by simp)).trans (by simp [go_sem])
    have f0 : ∀ j, w2.frozen? ⟨w.heap.size, j, none⟩ = false := fun j => (hx.froz j (by simp)).trans (by simp [go_sem])
    clear hx hx1 hx2
    go_wp2
    refine bodyPost_ret (v := .agg #[.int .i64 m, .int .i64 x]) ?_ rfl ⟨rfl, ?_⟩
    · simp [results, Tryz.results13, go_sem, c0, c1]
    · exact (X.out.setCell (Nat.le_refl _) _).setCell (Nat.le_refl _) _

theorem sum_m0 (m x n y : Int) (neg : Bool) (man : Nat) (h : (m == 0) = true) (w : World)
    (A : ∀ w, Calls Tryz.prog 52 #[.int .i64 n, .int .i64 y] w fun e w' => e = .returned (.agg #[.bool neg, .int .u64 man, .int .i64 y, .bool false]) ∧ Ext w w') :
    Calls Tryz.prog 63 #[.agg #[.int .i64 m, .int .i64 x], .agg #[.int .i64 n, .int .i64 y]] w fun e w' => e = .returned (.agg #[.bool neg, .int .u64 man, .int .i64 y, .bool false]) ∧ Ext w w' := by
  have HA := Lib.hid A
  clear A
  go_enter Tryz.func63, Tryz.ntmps63
  go_wp2_with fail
  refine (HA.out _).mono ?_
  rintro e w1 ⟨rfl, hx⟩
  have sz := hx.size
  simp at sz
  have c0 : w1.cell? ⟨w.heap.size + 1 + 1, 0, none⟩ = some (.bool false) := (hx.cell 0 (by simp)).trans (by simp [go_sem])
  have c1 : w1.cell? ⟨w.heap.size + 1 + 1, 1, none⟩ = some (.int .u64 0) := (hx.cell 1 (by simp)).trans (by simp [go_sem])
  have c2 : w1.cell? ⟨w.heap.size + 1 + 1, 2, none⟩ = some (.int .i64 0) := (hx.cell 2 (by simp)).trans (by simp [go_sem])
  have c3 : w1.cell? ⟨w.heap.size + 1 + 1, 3, none⟩ = some (.bool false) := (hx.cell 3 (by simp)).trans (by simp [go_sem])
  have f0 : ∀ j, w1.frozen? ⟨w.heap.size + 1 + 1, j, none⟩ = false := fun j => (hx.froz j (by simp)).trans (by simp [go_sem])
  have X : Hid (Ext w w1) := Lib.hid (Ext.trans (by repeat (first | with_reducible exact X.out | with_reducible exact Ext.refl _ | with_reducible refine Ext.alloc ?_ _ | with_reducible refine Ext.setCell ?_ (by simp; try omega) _)) hx)
  clear hx
  go_wp2
  refine bodyPost_ret (v := .agg #[.bool neg, .int .u64 man, .int .i64 y, .bool false]) ?_ rfl ⟨rfl, ?_⟩
  · simp [results, Tryz.results63, go_sem, c0, c1, c2, c3]
  · repeat (first | with_reducible exact X.out | with_reducible exact Ext.refl _ | with_reducible refine Ext.alloc ?_ _ | with_reducible refine Ext.setCell ?_ (by simp; try omega) _)

theorem sum_n0 (m x n y : Int) (neg : Bool) (man : Nat) (h : (m == 0) = false) (h2 : (n == 0) = true) (w : World)
    (A : ∀ w, Calls Tryz.prog 52 #[.int .i64 m, .int .i64 x] w fun e w' => e = .returned (.agg #[.bool neg, .int .u64 man, .int .i64 x, .bool false]) ∧ Ext w w') :
    Calls Tryz.prog 63 #[.agg #[.int .i64 m, .int .i64 x], .agg #[.int .i64 n, .int .i64 y]] w fun e w' => e = .returned (.agg #[.bool neg, .int .u64 man, .int .i64 x, .bool false]) ∧ Ext w w' := by
  have HA := Lib.hid A
  clear A
  go_enter Tryz.func63, Tryz.ntmps63
  go_wp2_with fail
  refine (HA.out _).mono ?_
  rintro e w1 ⟨rfl, hx⟩
  have sz := hx.size
  simp at sz
  have c0 : w1.cell? ⟨w.heap.size + 1 + 1, 0, none⟩ = some (.bool false) := (hx.cell 0 (by simp)).trans (by simp [go_sem])
  have c1 : w1.cell? ⟨w.heap.size + 1 + 1, 1, none⟩ = some (.int .u64 0) := (hx.cell 1 (by simp)).trans (by simp [go_sem])
  have c2 : w1.cell? ⟨w.heap.size + 1 + 1, 2, none⟩ = some (.int .i64 0) := (hx.cell 2 (by simp)).trans (by simp [go_sem])
  have c3 : w1.cell? ⟨w.heap.size + 1 + 1, 3, none⟩ = some (.bool false) := (hx.cell 3 (by simp)).trans (by simp [go_sem])
  have f0 : ∀ j, w1.frozen? ⟨w.heap.size + 1 + 1, j, none⟩ = false := fun j => (hx.froz j (by simp)).trans (by simp [go_sem])
  have X : Hid (Ext w w1) := Lib.hid (Ext.trans (by repeat (first | with_reducible exact X.out | with_reducible exact Ext.refl _ | with_reducible refine Ext.alloc ?_ _ | with_reducible refine Ext.setCell ?_ (by simp; try omega) _)) hx)
  clear hx
  go_wp2
  refine bodyPost_ret (v := .agg #[.bool neg, .int .u64 man, .int .i64 x, .bool false]) ?_ rfl ⟨rfl, ?_⟩
  · simp [results, Tryz.results63, go_sem, c0, c1, c2, c3]
  · repeat (first | with_reducible exact X.out | with_reducible exact Ext.refl _ | with_reducible refine Ext.alloc ?_ _ | with_reducible refine Ext.setCell ?_ (by simp; try omega) _)

theorem sum_gt (m x n y : Int) (neg : Bool) (man : Nat) (h : (m == 0) = false) (h2 : (n == 0) = false) (h3 : ¬ x < y) (b1 : -150 ≤ x) (b2 : x ≤ 150) (b3 : -150 ≤ y) (b4 : y ≤ 150) (h4 : x - y > 32) (w : World)
    (A : ∀ w, Calls Tryz.prog 52 #[.int .i64 m, .int .i64 x] w fun e w' => e = .returned (.agg #[.bool neg, .int .u64 man, .int .i64 x, .bool false]) ∧ Ext w w') :
    Calls Tryz.prog 63 #[.agg #[.int .i64 m, .int .i64 x], .agg #[.int .i64 n, .int .i64 y]] w fun e w' => e = .returned (.agg #[.bool neg, .int .u64 man, .int .i64 x, .bool false]) ∧ Ext w w' := by
  have HA := Lib.hid A
  clear A
  go_enter Tryz.func63, Tryz.ntmps63
  go_wp2_with fail
  refine (HA.out _).mono ?_
  rintro e w1 ⟨rfl, hx⟩
  have sz := hx.size
  simp at sz
  have c0 : w1.cell? ⟨w.heap.size + 1 + 1, 0, none⟩ = some (.bool false) := (hx.cell 0 (by simp)).trans (by simp [go_sem])
  have c1 : w1.cell? ⟨w.heap.size + 1 + 1, 1, none⟩ = some (.int .u64 0) := (hx.cell 1 (by simp)).trans (by simp [go_sem])
  have c2 : w1.cell? ⟨w.heap.size + 1 + 1, 2, none⟩ = some (.int .i64 0) := (hx.cell 2 (by simp)).trans (by simp [go_sem])
  have c3 : w1.cell? ⟨w.heap.size + 1 + 1, 3, none⟩ = some (.bool false) := (hx.cell 3 (by simp)).trans (by simp [go_sem])
  have f0 : ∀ j, w1.frozen? ⟨w.heap.size + 1 + 1, j, none⟩ = false := fun j => (hx.froz j (by simp)).trans (by simp [go_sem])
  have X : Hid (Ext w w1) := Lib.hid (Ext.trans (by repeat (first | with_reducible exact X.out | with_reducible exact Ext.refl _ | with_reducible refine Ext.alloc ?_ _ | with_reducible refine Ext.setCell ?_ (by simp; try omega) _)) hx)
  clear hx
  go_wp2
  refine bodyPost_ret (v := .agg #[.bool neg, .int .u64 man, .int .i64 x, .bool false]) ?_ rfl ⟨rfl, ?_⟩
  · simp [results, Tryz.results63, go_sem, c0, c1, c2, c3]
  · repeat (first | with_reducible exact X.out | with_reducible exact Ext.refl _ | with_reducible refine Ext.alloc ?_ _ | with_reducible refine Ext.setCell ?_ (by simp; try omega) _)

theorem sum_lt (m x n y : Int) (neg : Bool) (man : Nat) (h : (m == 0) = false) (h2 : (n == 0) = false) (h3 : x < y) (b1 : -150 ≤ x) (b2 : x ≤ 150) (b3 : -150 ≤ y) (b4 : y ≤ 150) (h4 : y - x > 32) (w : World)
    (A : ∀ w, Calls Tryz.prog 52 #[.int .i64 n, .int .i64 y] w fun e w' => e = .returned (.agg #[.bool neg, .int .u64 man, .int .i64 y, .bool false]) ∧ Ext w w') :
    Calls Tryz.prog 63 #[.agg #[.int .i64 m, .int .i64 x], .agg #[.int .i64 n, .int .i64 y]] w fun e w' => e = .returned (.agg #[.bool neg, .int .u64 man, .int .i64 y, .bool false]) ∧ Ext w w' := by
  have HA := Lib.hid A
  clear A
  go_enter Tryz.func63, Tryz.ntmps63
  go_wp2_with fail
  refine (HA.out _).mono ?_
  rintro e w1 ⟨rfl, hx⟩
  have sz := hx.size
  simp at sz
  have c0 : w1.cell? ⟨w.heap.size + 1 + 1, 0, none⟩ = some (.bool false) := (hx.cell 0 (by simp)).trans (by simp [go_sem])
  have c1 : w1.cell? ⟨w.heap.size + 1 + 1, 1, none⟩ = some (.int .u64 0) := (hx.cell 1 (by simp)).trans (by simp [go_sem])
  have c2 : w1.cell? ⟨w.heap.size + 1 + 1, 2, none⟩ = some (.int .i64 0) := (hx.cell 2 (by simp)).trans (by simp [go_sem])
  have c3 : w1.cell? ⟨w.heap.size + 1 + 1, 3, none⟩ = some (.bool false) := (hx.cell 3 (by simp)).trans (by simp [go_sem])
  have f0 : ∀ j, w1.frozen? ⟨w.heap.size + 1 + 1, j, none⟩ = false := fun j => (hx.froz j (by simp)).trans (by simp [go_sem])
  have X : Hid (Ext w w1) := Lib.hid (Ext.trans (by repeat (first | with_reducible exact X.out | with_reducible exact Ext.refl _ | with_reducible refine Ext.alloc ?_ _ | with_reducible refine Ext.setCell ?_ (by simp; try omega) _)) hx)
  clear hx
  go_wp2
  refine bodyPost_ret (v := .agg #[.bool neg, .int .u64 man, .int .i64 y, .bool false]) ?_ rfl ⟨rfl, ?_⟩
  · simp [results, Tryz.results63, go_sem, c0, c1, c2, c3]
  · repeat (first | with_reducible exact X.out | with_reducible exact Ext.refl _ | with_reducible refine Ext.alloc ?_ _ | with_reducible refine Ext.setCell ?_ (by simp; try omega) _)

set_option maxHeartbeats 1000000 in
theorem sum_sh (m x n y : Int) (neg : Bool) (man : Nat) (h : (m == 0) = false) (h2 : (n == 0) = false) (h3 : ¬ x < y) (_b1 : -150 ≤ x) (_b2 : x ≤ 150) (_b3 : -150 ≤ y) (_b4 : y ≤ 150) (h4 : ¬ x - y > 32) (K : Int) (k1 : -72057594037927936 ≤ K) (k2 : K ≤ 72057594037927936) (g1 : -16777216 < n) (g2 : n < 16777216) (hw : IntKind.i64.wrap (m * 2 ^ (x - y).toNat) = K) (hw2 : wrap64 (m * 2 ^ (x - y).toNat) = K) (w : World)
    (A : ∀ w, Calls Tryz.prog 52 #[.int .i64 (K + n), .int .i64 y] w fun e w' => e = .returned (.agg #[.bool neg, .int .u64 man, .int .i64 y, .bool false]) ∧ Ext w w') :
    Calls Tryz.prog 63 #[.agg #[.int .i64 m, .int .i64 x], .agg #[.int .i64 n, .int .i64 y]] w fun e w' => e = .returned (.agg #[.bool neg, .int .u64 man, .int .i64 y, .bool false]) ∧ Ext w w' := by
  have HA := Lib.hid A
  clear A
  go_enter Tryz.func63, Tryz.ntmps63
  go_wp2
  generalize hU : (((w.alloc (.cells #[.int .i64 m, .int .i64 x] 23)).alloc (.cells #[.int .i64 n, .int .i64 y] 23)).alloc (.cells #[.bool false, .int .u64 0, .int .i64 0, .bool false] 66)) = u0
  have l0 : u0.cell? ⟨w.heap.size, 0, none⟩ = some (.int .i64 m) := by rw [← hU]; simp [go_sem]
  have l1 : u0.cell? ⟨w.heap.size + 1, 0, none⟩ = some (.int .i64 n) := by rw [← hU]; simp [go_sem]
  have l2 : u0.cell? ⟨w.heap.size + 1, 1, none⟩ = some (.int .i64 y) := by rw [← hU]; simp [go_sem]
  have d0 : u0.cell? ⟨w.heap.size + 1 + 1, 0, none⟩ = some (.bool false) := by rw [← hU]; simp [go_sem]
  have d1 : u0.cell? ⟨w.heap.size + 1 + 1, 1, none⟩ = some (.int .u64 0) := by rw [← hU]; simp [go_sem]
  have d2 : u0.cell? ⟨w.heap.size + 1 + 1, 2, none⟩ = some (.int .i64 0) := by rw [← hU]; simp [go_sem]
  have d3 : u0.cell? ⟨w.heap.size + 1 + 1, 3, none⟩ = some (.bool false) := by rw [← hU]; simp [go_sem]
  have df : ∀ j, u0.frozen? ⟨w.heap.size + 1 + 1, j, none⟩ = false := by intro j; rw [← hU]; simp [go_sem]
  have X0 : Hid (Ext w u0) := Lib.hid (by rw [← hU]; repeat (first | with_reducible exact X.out | with_reducible exact Ext.refl _ | with_reducible refine Ext.alloc ?_ _ | with_reducible refine Ext.setCell ?_ (by simp; try omega) _))
  have sz0 : u0.heap.size = w.heap.size + 1 + 1 + 1 := by rw [← hU]; simp
  have hu : K + n ≤ 144115188075855872 := by omega
  have hu2 : -144115188075855872 ≤ K + n := by omega
  have hv : IntKind.i64.wrap (K + n) = K + n := IntWalk.i64_in _ ⟨by omega, by omega⟩
  clear hU
  go_region_with ((go_at_call 52; refine (HA.out _).mono ?_; rintro e w1 ⟨rfl, hx⟩; have HU := (show Ext u0 w1 from Ext.trans (by repeat (first | exact Ext.refl _ | with_reducible refine Ext.drewN ?_ _ | with_reducible refine Ext.drew ?_)) hx); have c0 := (HU.cell 0 (b := w.heap.size + 1 + 1) (by omega)).trans d0; have c1 := (HU.cell 1 (b := w.heap.size + 1 + 1) (by omega)).trans d1; have c2 := (HU.cell 2 (b := w.heap.size + 1 + 1) (by omega)).trans d2; have c3 := (HU.cell 3 (b := w.heap.size + 1 + 1) (by omega)).trans d3; have f0 : ∀ j, w1.frozen? ⟨w.heap.size + 1 + 1, j, none⟩ = false := fun j => (HU.froz j (by omega)).trans (df j); have X := Lib.hid (X0.out.trans HU); have sz := HU.size; clear hx HU))
  all_goals
    go_wp2
    refine bodyPost_ret (v := .agg #[.bool neg, .int .u64 man, .int .i64 y, .bool false]) ?_ rfl ⟨rfl, ?_⟩
    · simp [results, Tryz.results63, go_sem, c0, c1, c2, c3]
    · repeat (first | with_reducible exact X.out | with_reducible exact Ext.refl _ | with_reducible refine Ext.alloc ?_ _ | with_reducible refine Ext.setCell ?_ (by simp; try omega) _)

set_option maxHeartbeats 1000000 in
theorem sum_sl (m x n y : Int) (neg : Bool) (man : Nat) (h : (m == 0) = false) (h2 : (n == 0) = false) (h3 : x < y) (_b1 : -150 ≤ x) (_b2 : x ≤ 150) (_b3 : -150 ≤ y) (_b4 : y ≤ 150) (h4 : ¬ y - x > 32) (K : Int) (k1 : -72057594037927936 ≤ K) (k2 : K ≤ 72057594037927936) (g1 : -16777216 < m) (g2 : m < 16777216) (hw : IntKind.i64.wrap (n * 2 ^ (y - x).toNat) = K) (hw2 : wrap64 (n * 2 ^ (y - x).toNat) = K) (w : World)
    (A : ∀ w, Calls Tryz.prog 52 #[.int .i64 (K + m), .int .i64 x] w fun e w' => e = .returned (.agg #[.bool neg, .int .u64 man, .int .i64 x, .bool false]) ∧ Ext w w') :
    Calls Tryz.prog 63 #[.agg #[.int .i64 m, .int .i64 x], .agg #[.int .i64 n, .int .i64 y]] w fun e w' => e = .returned (.agg #[.bool neg, .int .u64 man, .int .i64 x, .bool false]) ∧ Ext w w' := by
  have HA := Lib.hid A
  clear A
  go_enter Tryz.func63, Tryz.ntmps63
  go_wp2
  generalize hU : (((w.alloc (.cells #[.int .i64 n, .int .i64 y] 23)).alloc (.cells #[.int .i64 m, .int .i64 x] 23)).alloc (.cells #[.bool false, .int .u64 0, .int .i64 0, .bool false] 66)) = u0
  have l0 : u0.cell? ⟨w.heap.size, 0, none⟩ = some (.int .i64 n) := by rw [← hU]; simp [go_sem]
  have l1 : u0.cell? ⟨w.heap.size + 1, 0, none⟩ = some (.int .i64 m) := by rw [← hU]; simp [go_sem]
  have l2 : u0.cell? ⟨w.heap.size + 1, 1, none⟩ = some (.int .i64 x) := by rw [← hU]; simp [go_sem]
  have d0 : u0.cell? ⟨w.heap.size + 1 + 1, 0, none⟩ = some (.bool false) := by rw [← hU]; simp [go_sem]
  have d1 : u0.cell? ⟨w.heap.size + 1 + 1, 1, none⟩ = some (.int .u64 0) := by rw [← hU]; simp [go_sem]
  have d2 : u0.cell? ⟨w.heap.size + 1 + 1, 2, none⟩ = some (.int .i64 0) := by rw [← hU]; simp [go_sem]
  have d3 : u0.cell? ⟨w.heap.size + 1 + 1, 3, none⟩ = some (.bool false) := by rw [← hU]; simp [go_sem]
  have df : ∀ j, u0.frozen? ⟨w.heap.size + 1 + 1, j, none⟩ = false := by intro j; rw [← hU]; simp [go_sem]
  have X0 : Hid (Ext w u0) := Lib.hid (by rw [← hU]; repeat (first | with_reducible exact X.out | with_reducible exact Ext.refl _ | with_reducible refine Ext.alloc ?_ _ | with_reducible refine Ext.setCell ?_ (by simp; try omega) _))
  have sz0 : u0.heap.size = w.heap.size + 1 + 1 + 1 := by rw [← hU]; simp
  have hu : K + m ≤ 144115188075855872 := by omega
  have hu2 : -144115188075855872 ≤ K + m := by omega
  have hv : IntKind.i64.wrap (K + m) = K + m := IntWalk.i64_in _ ⟨by omega, by omega⟩
  clear hU
  go_region_with ((go_at_call 52; refine (HA.out _).mono ?_; rintro e w1 ⟨rfl, hx⟩; have HU := (show Ext u0 w1 from Ext.trans (by repeat (first | exact Ext.refl _ | with_reducible refine Ext.drewN ?_ _ | with_reducible refine Ext.drew ?_)) hx); have c0 := (HU.cell 0 (b := w.heap.size + 1 + 1) (by omega)).trans d0; have c1 := (HU.cell 1 (b := w.heap.size + 1 + 1) (by omega)).trans d1; have c2 := (HU.cell 2 (b := w.heap.size + 1 + 1) (by omega)).trans d2; have c3 := (HU.cell 3 (b := w.heap.size + 1 + 1) (by omega)).trans d3; have f0 : ∀ j, w1.frozen? ⟨w.heap.size + 1 + 1, j, none⟩ = false := fun j => (HU.froz j (by omega)).trans (df j); have X := Lib.hid (X0.out.trans HU); have sz := HU.size; clear hx HU))
  all_goals
    go_wp2
    refine bodyPost_ret (v := .agg #[.bool neg, .int .u64 man, .int .i64 x, .bool false]) ?_ rfl ⟨rfl, ?_⟩
    · simp [results, Tryz.results63, go_sem, c0, c1, c2, c3]
    · repeat (first | with_reducible exact X.out | with_reducible exact Ext.refl _ | with_reducible refine Ext.alloc ?_ _ | with_reducible refine Ext.setCell ?_ (by simp; try omega) _)

theorem prod_w (m x n y : Int) (neg : Bool) (man : Nat) (b1 : -150 ≤ x) (b2 : x ≤ 150) (b3 : -150 ≤ y) (b4 : y ≤ 150) (hm : IntKind.i64.wrap (m * n) = m * n) (w : World)
    (A : ∀ w, Calls Tryz.prog 52 #[.int .i64 (m * n), .int .i64 (x + y)] w fun e w' => e = .returned (.agg #[.bool neg, .int .u64 man, .int .i64 (x + y), .bool false]) ∧ Ext w w') :
    Calls Tryz.prog 68 #[.agg #[.int .i64 m, .int .i64 x], .agg #[.int .i64 n, .int .i64 y]] w fun e w' => e = .returned (.agg #[.bool neg, .int .u64 man, .int .i64 (x + y), .bool false]) ∧ Ext w w' := by
  have HA := Lib.hid A
  clear A
  go_enter Tryz.func68, Tryz.ntmps68
  go_wp2_with fail
  refine (HA.out _).mono ?_
  rintro e w1 ⟨rfl, hx⟩
  have sz := hx.size
  simp at sz
  have c0 : w1.cell? ⟨w.heap.size + 1 + 1, 0, none⟩ = some (.bool false) := (hx.cell 0 (by simp)).trans (by simp [go_sem])
  have c1 : w1.cell? ⟨w.heap.size + 1 + 1, 1, none⟩ = some (.int .u64 0) := (hx.cell 1 (by simp)).trans (by simp [go_sem])
  have c2 : w1.cell? ⟨w.heap.size + 1 + 1, 2, none⟩ = some (.int .i64 0) := (hx.cell 2 (by simp)).trans (by simp [go_sem])
  have c3 : w1.cell? ⟨w.heap.size + 1 + 1, 3, none⟩ = some (.bool false) := (hx.cell 3 (by simp)).trans (by simp [go_sem])
  have f0 : ∀ j, w1.frozen? ⟨w.heap.size + 1 + 1, j, none⟩ = false := fun j => (hx.froz j (by simp)).trans (by simp [go_sem])
  have X : Hid (Ext w w1) := Lib.hid (Ext.trans (by repeat (first | with_reducible exact X.out | with_reducible exact Ext.refl _ | with_reducible refine Ext.alloc ?_ _ | with_reducible refine Ext.setCell ?_ (by simp; try omega) _)) hx)
  clear hx
  go_wp2
  refine bodyPost_ret (v := .agg #[.bool neg, .int .u64 man, .int .i64 (x + y), .bool false]) ?_ rfl ⟨rfl, ?_⟩
  · simp [results, Tryz.results68, go_sem, c0, c1, c2, c3]
  · repeat (first | with_reducible exact X.out | with_reducible exact Ext.refl _ | with_reducible refine Ext.alloc ?_ _ | with_reducible refine Ext.setCell ?_ (by simp; try omega) _)

end Go.Proofs.YtogfiekbikechaaGreatDoor
