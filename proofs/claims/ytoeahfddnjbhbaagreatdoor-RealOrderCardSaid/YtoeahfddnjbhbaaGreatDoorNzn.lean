/- Layer 2: Div. -/
import Derived.Test.YtoeahfddnjbhbaaGreatDoorNzm
namespace Go.Proofs.YtoeahfddnjbhbaaGreatDoor
open Go.RowKit

set_option maxHeartbeats 1000000 in
theorem div_inv (m x n y : Int) (hv : (validV m x && validV n y) = false) (rm rx re : Int) (w : World)
    (hc : ∀ w, Calls Tryz.prog 74 #[.agg #[.int .i64 m, .int .i64 x], .agg #[.int .i64 n, .int .i64 y], .func (.func 81) #[] #[]] w fun e w' => e = .returned (.tuple #[.agg #[.int .i64 rm, .int .i64 rx], .int .i64 re]) ∧ Ext w w') :
    Calls Tryz.prog 41 #[.agg #[.int .i64 m, .int .i64 x], .agg #[.int .i64 n, .int .i64 y]] w fun e w' => e = .returned (.tuple #[.agg #[.int .i64 rm, .int .i64 rx], .int .i64 re]) ∧ Ext w w' := by
  have A := Lib.hid (both_any m x n y)
  rw [hv] at A
  have HC := Lib.hid hc
  clear hc
  have hmf : ∀ (fn : Fn) (first cap : Array Value) (w : World), (Instr.makeFunc fn first cap).run Tryz.prog w = .ok (.func fn first cap) w := fun _ _ _ _ => rfl
  go_enter Tryz.func41, Tryz.ntmps41
  go_wp2_with fail
  refine (A.out _).mono ?_
  rintro e w1 ⟨rfl, hx⟩
  have X : Hid (Ext w w1) := Lib.hid (Ext.trans (by repeat (first | with_reducible exact Ext.refl _ | with_reducible refine Ext.alloc ?_ _ | with_reducible refine Ext.setCell ?_ (by simp) _)) hx)
  have sz : w.heap.size + 1 + 1 + 1 ≤ w1.heap.size := by simpa using hx.size
  have p00 : w1.cell? ⟨w.heap.size, 0, none⟩ = some (.int .i64 m) := (hx.cell 0 (by simp; try omega)).trans (by simp [go_sem])
  have p01 : w1.cell? ⟨w.heap.size, 1, none⟩ = some (.int .i64 x) := (hx.cell 1 (by simp; try omega)).trans (by simp [go_sem])
  have p10 : w1.cell? ⟨w.heap.size + 1, 0, none⟩ = some (.int .i64 n) := (hx.cell 0 (by simp; try omega)).trans (by simp [go_sem])
  have p11 : w1.cell? ⟨w.heap.size + 1, 1, none⟩ = some (.int .i64 y) := (hx.cell 1 (by simp; try omega)).trans (by simp [go_sem])
  have p20 : w1.cell? ⟨w.heap.size + 1 + 1, 0, none⟩ = some (.int .i64 0) := (hx.cell 0 (by simp; try omega)).trans (by simp [go_sem])
  have p21 : w1.cell? ⟨w.heap.size + 1 + 1, 1, none⟩ = some (.int .i64 0) := (hx.cell 1 (by simp; try omega)).trans (by simp [go_sem])
  have f0 : ∀ j, w1.frozen? ⟨w.heap.size + 1 + 1, j, none⟩ = false := fun j => (hx.froz j (by simp)).trans (by simp [go_sem])
  clear hx
  go_wp2_with fail
  refine (HC.out _).mono ?_
  rintro e w2 ⟨rfl, hx⟩
  have X := Lib.hid (X.out.trans hx)
  have p20 := (hx.cell 0 (b := w.heap.size + 1 + 1) (by omega)).trans p20
  have p21 := (hx.cell 1 (b := w.heap.size + 1 + 1) (by omega)).trans p21
  have f0 : ∀ j, w2.frozen? ⟨w.heap.size + 1 + 1, j, none⟩ = false := fun j => (hx.froz j (by omega)).trans (f0 j)
  clear hx p00 p01 p10 p11
  go_wp2
  refine bodyPost_ret (v := .tuple #[.agg #[.int .i64 rm, .int .i64 rx], .int .i64 re]) ?_ rfl ⟨rfl, ?_⟩
  · simp [results, Tryz.results41, go_sem, p20, p21]
  · exact (X.out.setCell (by simp; omega) _).setCell (by simp; omega) _
set_option maxHeartbeats 1000000 in
theorem div_none (m x n y : Int) (hv : (validV m x && validV n y) = true) (hn : (n == 0) = true) (w : World) :
    Calls Tryz.prog 41 #[.agg #[.int .i64 m, .int .i64 x], .agg #[.int .i64 n, .int .i64 y]] w fun e w' => e = .returned (.tuple #[.agg #[.int .i64 0, .int .i64 0], .int .i64 5]) ∧ Ext w w' := by
  have A := Lib.hid (both_any m x n y)
  rw [hv] at A
  have hmf : ∀ (fn : Fn) (first cap : Array Value) (w : World), (Instr.makeFunc fn first cap).run Tryz.prog w = .ok (.func fn first cap) w := fun _ _ _ _ => rfl
  go_enter Tryz.func41, Tryz.ntmps41
  go_wp2_with fail
  refine (A.out _).mono ?_
  rintro e w1 ⟨rfl, hx⟩
  have X : Hid (Ext w w1) := Lib.hid (Ext.trans (by repeat (first | with_reducible exact Ext.refl _ | with_reducible refine Ext.alloc ?_ _ | with_reducible refine Ext.setCell ?_ (by simp) _)) hx)
  have sz : w.heap.size + 1 + 1 + 1 ≤ w1.heap.size := by simpa using hx.size
  have p00 : w1.cell? ⟨w.heap.size, 0, none⟩ = some (.int .i64 m) := (hx.cell 0 (by simp; try omega)).trans (by simp [go_sem])
  have p01 : w1.cell? ⟨w.heap.size, 1, none⟩ = some (.int .i64 x) := (hx.cell 1 (by simp; try omega)).trans (by simp [go_sem])
  have p10 : w1.cell? ⟨w.heap.size + 1, 0, none⟩ = some (.int .i64 n) := (hx.cell 0 (by simp; try omega)).trans (by simp [go_sem])
  have p11 : w1.cell? ⟨w.heap.size + 1, 1, none⟩ = some (.int .i64 y) := (hx.cell 1 (by simp; try omega)).trans (by simp [go_sem])
  have p20 : w1.cell? ⟨w.heap.size + 1 + 1, 0, none⟩ = some (.int .i64 0) := (hx.cell 0 (by simp; try omega)).trans (by simp [go_sem])
  have p21 : w1.cell? ⟨w.heap.size + 1 + 1, 1, none⟩ = some (.int .i64 0) := (hx.cell 1 (by simp; try omega)).trans (by simp [go_sem])
  have f0 : ∀ j, w1.frozen? ⟨w.heap.size + 1 + 1, j, none⟩ = false := fun j => (hx.froz j (by simp)).trans (by simp [go_sem])
  clear hx
  go_wp2
  refine bodyPost_ret (v := .tuple #[.agg #[.int .i64 0, .int .i64 0], .int .i64 5]) ?_ rfl ⟨rfl, ?_⟩
  · simp [results, Tryz.results41, go_sem, p20, p21]
  · exact (X.out.setCell (by simp; omega) _).setCell (by simp; omega) _
set_option maxHeartbeats 1000000 in
theorem div_go (m x n y : Int) (hv : (validV m x && validV n y) = true) (hn : (n == 0) = false) (rm rx re : Int) (w : World)
    (hc : ∀ w, Calls Tryz.prog 74 #[.agg #[.int .i64 m, .int .i64 x], .agg #[.int .i64 n, .int .i64 y], .func (.func 81) #[] #[]] w fun e w' => e = .returned (.tuple #[.agg #[.int .i64 rm, .int .i64 rx], .int .i64 re]) ∧ Ext w w') :
    Calls Tryz.prog 41 #[.agg #[.int .i64 m, .int .i64 x], .agg #[.int .i64 n, .int .i64 y]] w fun e w' => e = .returned (.tuple #[.agg #[.int .i64 rm, .int .i64 rx], .int .i64 re]) ∧ Ext w w' := by
  have A := Lib.hid (both_any m x n y)
  rw [hv] at A
  have HC := Lib.hid hc
  clear hc
  have hmf : ∀ (fn : Fn) (first cap : Array Value) (w : World), (Instr.makeFunc fn first cap).run Tryz.prog w = .ok (.func fn first cap) w := fun _ _ _ _ => rfl
  go_enter Tryz.func41, Tryz.ntmps41
  go_wp2_with fail
  refine (A.out _).mono ?_
  rintro e w1 ⟨rfl, hx⟩
  have X : Hid (Ext w w1) := Lib.hid (Ext.trans (by repeat (first | with_reducible exact Ext.refl _ | with_reducible refine Ext.alloc ?_ _ | with_reducible refine Ext.setCell ?_ (by simp) _)) hx)
  have sz : w.heap.size + 1 + 1 + 1 ≤ w1.heap.size := by simpa using hx.size
  have p00 : w1.cell? ⟨w.heap.size, 0, none⟩ = some (.int .i64 m) := (hx.cell 0 (by simp; try omega)).trans (by simp [go_sem])
  have p01 : w1.cell? ⟨w.heap.size, 1, none⟩ = some (.int .i64 x) := (hx.cell 1 (by simp; try omega)).trans (by simp [go_sem])
  have p10 : w1.cell? ⟨w.heap.size + 1, 0, none⟩ = some (.int .i64 n) := (hx.cell 0 (by simp; try omega)).trans (by simp [go_sem])
  have p11 : w1.cell? ⟨w.heap.size + 1, 1, none⟩ = some (.int .i64 y) := (hx.cell 1 (by simp; try omega)).trans (by simp [go_sem])
  have p20 : w1.cell? ⟨w.heap.size + 1 + 1, 0, none⟩ = some (.int .i64 0) := (hx.cell 0 (by simp; try omega)).trans (by simp [go_sem])
  have p21 : w1.cell? ⟨w.heap.size + 1 + 1, 1, none⟩ = some (.int .i64 0) := (hx.cell 1 (by simp; try omega)).trans (by simp [go_sem])
  have f0 : ∀ j, w1.frozen? ⟨w.heap.size + 1 + 1, j, none⟩ = false := fun j => (hx.froz j (by simp)).trans (by simp [go_sem])
  clear hx
  go_wp2_with fail
  refine (HC.out _).mono ?_
  rintro e w2 ⟨rfl, hx⟩
  have X := Lib.hid (X.out.trans hx)
  have p20 := (hx.cell 0 (b := w.heap.size + 1 + 1) (by omega)).trans p20
  have p21 := (hx.cell 1 (b := w.heap.size + 1 + 1) (by omega)).trans p21
  have f0 : ∀ j, w2.frozen? ⟨w.heap.size + 1 + 1, j, none⟩ = false := fun j => (hx.froz j (by omega)).trans (f0 j)
  clear hx p00 p01 p10 p11
  go_wp2
  refine bodyPost_ret (v := .tuple #[.agg #[.int .i64 rm, .int .i64 rx], .int .i64 re]) ?_ rfl ⟨rfl, ?_⟩
  · simp [results, Tryz.results41, go_sem, p20, p21]
  · exact (X.out.setCell (by simp; omega) _).setCell (by simp; omega) _
theorem div_real (m x n y : Int) (w : World) :
    Calls Tryz.prog 41 #[.agg #[.int .i64 m, .int .i64 x], .agg #[.int .i64 n, .int .i64 y]] w fun e w' => e = .returned (.tuple #[.agg #[.int .i64 (divV m x n y).1.1, .int .i64 (divV m x n y).1.2], .int .i64 (divV m x n y).2]) ∧ Ext w w' := by
  unfold divV
  cases hv : validV m x && validV n y with
  | false =>
    simp only [Bool.false_and, Bool.false_eq_true, if_false]
    have hc : combV m x n y (quotV m x n y) = ((0, 0), 1) := by unfold combV; rw [hv]; rfl
    rw [hc]
    exact div_inv m x n y hv 0 0 1 w (fun w => combined_bad _ m x n y w hv)
  | true =>
    cases hn : n == 0 with
    | true => simp only [Bool.and_self, if_true]; exact div_none m x n y hv hn w
    | false =>
      simp only [Bool.and_false, Bool.false_eq_true, if_false]
      exact div_go m x n y hv hn _ _ _ w (fun w => div_comb m x n y (by simpa using hn) w)
end Go.Proofs.YtoeahfddnjbhbaaGreatDoor
