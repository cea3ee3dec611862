/- Layer 2: Pow where there is no power. -/
import Derived.Test.YtoeahfddnjbhbaaGreatDoorNzn
namespace Go.Proofs.YtoeahfddnjbhbaaGreatDoor
open Go.RowKit

set_option maxHeartbeats 1000000 in
theorem pow_none (x n : Int) (hv : validV 0 x = true) (hn : n < 0) (w : World) :
    Calls Tryz.prog 46 #[.agg #[.int .i64 0, .int .i64 x], .int .i64 n] w fun e w' => e = .returned (.tuple #[.agg #[.int .i64 0, .int .i64 0], .int .i64 5]) ∧ Ext w w' := by
  have A := Lib.hid (valid_any 0 x)
  rw [hv] at A
  go_enter Tryz.func46, Tryz.ntmps46
  go_wp2_with fail
  refine (A.out _).mono ?_
  rintro e w1 ⟨rfl, hx⟩
  have X : Hid (Ext w w1) := Lib.hid (Ext.trans (by repeat (first | with_reducible exact Ext.refl _ | with_reducible refine Ext.alloc ?_ _)) hx)
  have sz : w.heap.size + 1 + 1 + 1 ≤ w1.heap.size := by simpa using hx.size
  have p0 : w1.cell? ⟨w.heap.size, 0, none⟩ = some (.int .i64 0) := (hx.cell 0 (by simp; omega)).trans (by simp [go_sem])
  have p1 : w1.cell? ⟨w.heap.size, 1, none⟩ = some (.int .i64 x) := (hx.cell 1 (by simp; omega)).trans (by simp [go_sem])
  have q0 : w1.cell? ⟨w.heap.size + 1, 0, none⟩ = some (.int .i64 n) := (hx.cell 0 (by simp)).trans (by simp [go_sem])
  have c0 : w1.cell? ⟨w.heap.size + 1 + 1, 0, none⟩ = some (.int .i64 0) := (hx.cell 0 (by simp)).trans (by simp [go_sem])
  have c1 : w1.cell? ⟨w.heap.size + 1 + 1, 1, none⟩ = some (.int .i64 0) := (hx.cell 1 (by simp)).trans (by simp [go_sem])
  have f0 : ∀ j, w1.frozen? ⟨w.heap.size + 1 + 1, j, none⟩ = false := fun j => (hx.froz j (by simp)).trans (by simp [go_sem])
  clear hx
  go_wp2
  refine bodyPost_ret (v := .tuple #[.agg #[.int .i64 0, .int .i64 0], .int .i64 5]) ?_ rfl ⟨rfl, ?_⟩
  · simp [results, Tryz.results46, go_sem, c0, c1]
  · exact (X.out.setCell (by simp; omega) _).setCell (by simp; omega) _
end Go.Proofs.YtoeahfddnjbhbaaGreatDoor
