/- Layer 2: magnitudes, neighbours and comparison of reals. -/
import Derived.Test.YtoeahfddnjbhbaaGreatDoorNzj
import Derived.Test.YtoeahfddnjbhbaaGreatDoorNzg
import Derived.Deep.RegionHeld3
namespace Go.Proofs.YtoeahfddnjbhbaaGreatDoor
open Go.RowKit

set_option maxHeartbeats 1000000 in
theorem Abs_good (m x : Int)  (w : World) (hv : validV m x = true) :
    Calls Tryz.prog 27 #[.agg #[.int .i64 m, .int .i64 x]] w fun e w' => e = .returned (.tuple #[.agg #[.int .i64 (max m (-m)), .int .i64 x], .int .i64 0]) ∧ Ext w w' := by
  have A := Lib.hid (valid_any m x)
  rw [hv] at A
  obtain ⟨b1, b2, b3, b4, _⟩ := valid_bd hv
  go_enter Tryz.func27, Tryz.ntmps27
  go_wp2_with fail
  refine (A.out _).mono ?_
  rintro e w1 ⟨rfl, hx⟩
  have sz : w.heap.size + 2 ≤ w1.heap.size := by simpa using hx.size
  have X : Hid (Ext w w1) := Lib.hid (Ext.trans (by repeat (first | with_reducible exact Ext.refl _ | with_reducible refine Ext.alloc ?_ _ | with_reducible refine Ext.setCell ?_ (by simp) _)) hx)
  have p0 : w1.cell? ⟨w.heap.size, 0, none⟩ = some (.int .i64 m) := (hx.cell 0 (by simp; try omega)).trans (by simp [go_sem])
  have p1 : w1.cell? ⟨w.heap.size, 1, none⟩ = some (.int .i64 x) := (hx.cell 1 (by simp; try omega)).trans (by simp [go_sem])
  have c0 : w1.cell? ⟨w.heap.size + 1, 0, none⟩ = some (.int .i64 0) := (hx.cell 0 (by simp)).trans (by simp [go_sem])
  have c1 : w1.cell? ⟨w.heap.size + 1, 1, none⟩ = some (.int .i64 0) := (hx.cell 1 (by simp)).trans (by simp [go_sem])
  have f0 : ∀ j, w1.frozen? ⟨w.heap.size + 1, j, none⟩ = false := fun j => (hx.froz j (by simp)).trans (by simp [go_sem])
  clear hx
  go_wp2
  refine bodyPost_ret (v := .tuple #[.agg #[.int .i64 (max m (-m)), .int .i64 x], .int .i64 0]) ?_ rfl ⟨rfl, ?_⟩
  · simp [results, Tryz.results27, go_sem, c0, c1]
  · repeat (first | with_reducible exact X.out | with_reducible refine Ext.drewN ?_ _ | with_reducible refine Ext.drew ?_ | with_reducible refine Ext.alloc ?_ _ | with_reducible refine Ext.setCell ?_ (by simp; try omega) _)
set_option maxHeartbeats 1000000 in
theorem Next_top (m x : Int) (pv : Int) (hp : placeV m x = pv) (h : (pv == 2533359615) = true) (w : World) (hv : validV m x = true) :
    Calls Tryz.prog 25 #[.agg #[.int .i64 m, .int .i64 x]] w fun e w' => e = .returned (.tuple #[.agg #[.int .i64 0, .int .i64 0], .int .i64 3]) ∧ Ext w w' := by
  have A := Lib.hid (valid_any m x)
  rw [hv] at A
  obtain ⟨b1, b2, b3, b4, _⟩ := valid_bd hv
  have Pl := Lib.hid (place_any m x b1 b2 b3 b4)
  rw [hp] at Pl
  go_enter Tryz.func25, Tryz.ntmps25
  go_wp2_with fail
  refine (A.out _).mono ?_
  rintro e w1 ⟨rfl, hx⟩
  have sz : w.heap.size + 2 ≤ w1.heap.size := by simpa using hx.size
  have X : Hid (Ext w w1) := Lib.hid (Ext.trans (by repeat (first | with_reducible exact Ext.refl _ | with_reducible refine Ext.alloc ?_ _ | with_reducible refine Ext.setCell ?_ (by simp) _)) hx)
  have p0 : w1.cell? ⟨w.heap.size, 0, none⟩ = some (.int .i64 m) := (hx.cell 0 (by simp; try omega)).trans (by simp [go_sem])
  have p1 : w1.cell? ⟨w.heap.size, 1, none⟩ = some (.int .i64 x) := (hx.cell 1 (by simp; try omega)).trans (by simp [go_sem])
  have c0 : w1.cell? ⟨w.heap.size + 1, 0, none⟩ = some (.int .i64 0) := (hx.cell 0 (by simp)).trans (by simp [go_sem])
  have c1 : w1.cell? ⟨w.heap.size + 1, 1, none⟩ = some (.int .i64 0) := (hx.cell 1 (by simp)).trans (by simp [go_sem])
  have f0 : ∀ j, w1.frozen? ⟨w.heap.size + 1, j, none⟩ = false := fun j => (hx.froz j (by simp)).trans (by simp [go_sem])
  clear hx
  go_wp2_with fail
  refine (Pl.out _).mono ?_
  rintro e w2 ⟨rfl, hx⟩
  have hx : Ext w1 w2 := Ext.trans (by repeat (first | exact Ext.refl _ | with_reducible refine Ext.drewN ?_ _ | with_reducible refine Ext.drew ?_)) hx
  have p0 := (hx.cell 0 (b := w.heap.size) (by omega)).trans p0
  have p1 := (hx.cell 1 (b := w.heap.size) (by omega)).trans p1
  have c0 := (hx.cell 0 (b := w.heap.size + 1) (by omega)).trans c0
  have c1 := (hx.cell 1 (b := w.heap.size + 1) (by omega)).trans c1
  have f0 : ∀ j, w2.frozen? ⟨w.heap.size + 1, j, none⟩ = false := fun j => (hx.froz j (by omega)).trans (f0 j)
  have sz : w.heap.size + 2 ≤ w2.heap.size := Nat.le_trans sz hx.size
  have X := Lib.hid (X.out.trans hx)
  clear hx
  go_wp2
  refine bodyPost_ret (v := .tuple #[.agg #[.int .i64 0, .int .i64 0], .int .i64 3]) ?_ rfl ⟨rfl, ?_⟩
  · simp [results, Tryz.results25, go_sem, c0, c1]
  · repeat (first | with_reducible exact X.out | with_reducible refine Ext.drewN ?_ _ | with_reducible refine Ext.drew ?_ | with_reducible refine Ext.alloc ?_ _ | with_reducible refine Ext.setCell ?_ (by simp; try omega) _)
set_option maxHeartbeats 1000000 in
theorem Next_good (m x : Int) (pv : Int) (hp : placeV m x = pv) (h : (pv == 2533359615) = false) (g1 : -4611686018427387000 < pv) (g2 : pv < 4611686018427387000) (w : World) (hv : validV m x = true) :
    Calls Tryz.prog 25 #[.agg #[.int .i64 m, .int .i64 x]] w fun e w' => e = .returned (.tuple #[.agg #[.int .i64 (atV (pv + 1)).1, .int .i64 (atV (pv + 1)).2], .int .i64 0]) ∧ Ext w w' := by
  have A := Lib.hid (valid_any m x)
  rw [hv] at A
  obtain ⟨b1, b2, b3, b4, _⟩ := valid_bd hv
  have Pl := Lib.hid (place_any m x b1 b2 b3 b4)
  rw [hp] at Pl
  have At := Lib.hid (at_any (pv + 1) (by omega) (by omega))
  go_enter Tryz.func25, Tryz.ntmps25
  go_wp2_with fail
  refine (A.out _).mono ?_
  rintro e w1 ⟨rfl, hx⟩
  have sz : w.heap.size + 2 ≤ w1.heap.size := by simpa using hx.size
  have X : Hid (Ext w w1) := Lib.hid (Ext.trans (by repeat (first | with_reducible exact Ext.refl _ | with_reducible refine Ext.alloc ?_ _ | with_reducible refine Ext.setCell ?_ (by simp) _)) hx)
  have p0 : w1.cell? ⟨w.heap.size, 0, none⟩ = some (.int .i64 m) := (hx.cell 0 (by simp; try omega)).trans (by simp [go_sem])
  have p1 : w1.cell? ⟨w.heap.size, 1, none⟩ = some (.int .i64 x) := (hx.cell 1 (by simp; try omega)).trans (by simp [go_sem])
  have c0 : w1.cell? ⟨w.heap.size + 1, 0, none⟩ = some (.int .i64 0) := (hx.cell 0 (by simp)).trans (by simp [go_sem])
  have c1 : w1.cell? ⟨w.heap.size + 1, 1, none⟩ = some (.int .i64 0) := (hx.cell 1 (by simp)).trans (by simp [go_sem])
  have f0 : ∀ j, w1.frozen? ⟨w.heap.size + 1, j, none⟩ = false := fun j => (hx.froz j (by simp)).trans (by simp [go_sem])
  clear hx
  go_wp2_with fail
  refine (Pl.out _).mono ?_
  rintro e w2 ⟨rfl, hx⟩
  have hx : Ext w1 w2 := Ext.trans (by repeat (first | exact Ext.refl _ | with_reducible refine Ext.drewN ?_ _ | with_reducible refine Ext.drew ?_)) hx
  have p0 := (hx.cell 0 (b := w.heap.size) (by omega)).trans p0
  have p1 := (hx.cell 1 (b := w.heap.size) (by omega)).trans p1
  have c0 := (hx.cell 0 (b := w.heap.size + 1) (by omega)).trans c0
  have c1 := (hx.cell 1 (b := w.heap.size + 1) (by omega)).trans c1
  have f0 : ∀ j, w2.frozen? ⟨w.heap.size + 1, j, none⟩ = false := fun j => (hx.froz j (by omega)).trans (f0 j)
  have sz : w.heap.size + 2 ≤ w2.heap.size := Nat.le_trans sz hx.size
  have X := Lib.hid (X.out.trans hx)
  clear hx
  go_wp2_with fail
  refine (Pl.out _).mono ?_
  rintro e w3 ⟨rfl, hx⟩
  have hx : Ext w2 w3 := Ext.trans (by repeat (first | exact Ext.refl _ | with_reducible refine Ext.drewN ?_ _ | with_reducible refine Ext.drew ?_)) hx
  have p0 := (hx.cell 0 (b := w.heap.size) (by omega)).trans p0
  have p1 := (hx.cell 1 (b := w.heap.size) (by omega)).trans p1
  have c0 := (hx.cell 0 (b := w.heap.size + 1) (by omega)).trans c0
  have c1 := (hx.cell 1 (b := w.heap.size + 1) (by omega)).trans c1
  have f0 : ∀ j, w3.frozen? ⟨w.heap.size + 1, j, none⟩ = false := fun j => (hx.froz j (by omega)).trans (f0 j)
  have sz : w.heap.size + 2 ≤ w3.heap.size := Nat.le_trans sz hx.size
  have X := Lib.hid (X.out.trans hx)
  clear hx
  go_wp2_with fail
  refine (At.out _).mono ?_
  rintro e w4 ⟨rfl, hx⟩
  have hx : Ext w3 w4 := Ext.trans (by repeat (first | exact Ext.refl _ | with_reducible refine Ext.drewN ?_ _ | with_reducible refine Ext.drew ?_)) hx
  have p0 := (hx.cell 0 (b := w.heap.size) (by omega)).trans p0
  have p1 := (hx.cell 1 (b := w.heap.size) (by omega)).trans p1
  have c0 := (hx.cell 0 (b := w.heap.size + 1) (by omega)).trans c0
  have c1 := (hx.cell 1 (b := w.heap.size + 1) (by omega)).trans c1
  have f0 : ∀ j, w4.frozen? ⟨w.heap.size + 1, j, none⟩ = false := fun j => (hx.froz j (by omega)).trans (f0 j)
  have sz : w.heap.size + 2 ≤ w4.heap.size := Nat.le_trans sz hx.size
  have X := Lib.hid (X.out.trans hx)
  clear hx
  go_wp2
  refine bodyPost_ret (v := .tuple #[.agg #[.int .i64 (atV (pv + 1)).1, .int .i64 (atV (pv + 1)).2], .int .i64 0]) ?_ rfl ⟨rfl, ?_⟩
  · simp [results, Tryz.results25, go_sem, c0, c1]
  · repeat (first | with_reducible exact X.out | with_reducible refine Ext.drewN ?_ _ | with_reducible refine Ext.drew ?_ | with_reducible refine Ext.alloc ?_ _ | with_reducible refine Ext.setCell ?_ (by simp; try omega) _)
theorem At_lo (i : Int) (h : i < -2533359615) (w : World) :
    Calls Tryz.prog 17 #[.int .i64 i] w fun e w' => e = .returned (.tuple #[.agg #[.int .i64 0, .int .i64 0], .int .i64 1]) ∧ Ext w w' := by
  go_enter Tryz.func17, Tryz.ntmps17
  go_wp2
  refine bodyPost_ret (v := .tuple #[.agg #[.int .i64 0, .int .i64 0], .int .i64 1]) ?_ rfl ⟨rfl, ?_⟩
  · simp [results, Tryz.results17, go_sem]
  · repeat (first | with_reducible exact Ext.refl _ | with_reducible refine Ext.alloc ?_ _ | with_reducible refine Ext.setCell ?_ (by simp) _)
theorem At_hi (i : Int) (h1 : ¬ i < -2533359615) (h : i > 2533359615) (w : World) :
    Calls Tryz.prog 17 #[.int .i64 i] w fun e w' => e = .returned (.tuple #[.agg #[.int .i64 0, .int .i64 0], .int .i64 1]) ∧ Ext w w' := by
  go_enter Tryz.func17, Tryz.ntmps17
  go_wp2
  refine bodyPost_ret (v := .tuple #[.agg #[.int .i64 0, .int .i64 0], .int .i64 1]) ?_ rfl ⟨rfl, ?_⟩
  · simp [results, Tryz.results17, go_sem]
  · repeat (first | with_reducible exact Ext.refl _ | with_reducible refine Ext.alloc ?_ _ | with_reducible refine Ext.setCell ?_ (by simp) _)
theorem At_in (i : Int) (h1 : ¬ i < -2533359615) (h2 : ¬ i > 2533359615) (w : World) :
    Calls Tryz.prog 17 #[.int .i64 i] w fun e w' => e = .returned (.tuple #[.agg #[.int .i64 (atV i).1, .int .i64 (atV i).2], .int .i64 0]) ∧ Ext w w' := by
  have A := Lib.hid (at_any i (by omega) (by omega))
  generalize atV i = q at *
  obtain ⟨qm, qx⟩ := q
  simp only at *
  go_enter Tryz.func17, Tryz.ntmps17
  go_wp2_with fail
  refine (A.out _).mono ?_
  rintro e w2 ⟨rfl, hx⟩
  have X := Lib.hid (((Ext.refl w).alloc _).trans hx)
  have c0 : w2.cell? ⟨w.heap.size, 0, none⟩ = some (.int .i64 0) := (hx.cell 0 (by simp)).trans (by simp [go_sem])
  have c1 : w2.cell? ⟨w.heap.size, 1, none⟩ = some (.int .i64 0) := (hx.cell 1 (by simp)).trans (by simp [go_sem])
  have f0 : ∀ j, w2.frozen? ⟨w.heap.size, j, none⟩ = false := fun j => (hx.froz j (by simp)).trans (by simp [go_sem])
  clear hx
  go_wp2
  refine bodyPost_ret (v := .tuple #[.agg #[.int .i64 qm, .int .i64 qx], .int .i64 0]) ?_ rfl ⟨rfl, ?_⟩
  · simp [results, Tryz.results17, go_sem, c0, c1]
  · exact (X.out.setCell (Nat.le_refl _) _).setCell (Nat.le_refl _) _
set_option maxHeartbeats 1000000 in
theorem Cmp_bad (m x n y : Int) (hv : (validV m x && validV n y) = false) (w : World) :
    Calls Tryz.prog 29 #[.agg #[.int .i64 m, .int .i64 x], .agg #[.int .i64 n, .int .i64 y]] w fun e w' => e = .returned (.tuple #[.int .i64 0, .int .i64 1]) ∧ Ext w w' := by
  have A := Lib.hid (both_any m x n y)
  rw [hv] at A
  go_enter Tryz.func29, Tryz.ntmps29
  go_wp2_with fail
  refine (A.out _).mono ?_
  rintro e w1 ⟨rfl, hx⟩
  have sz : w.heap.size + 1 + 1 ≤ w1.heap.size := by simpa using hx.size
  have X : Hid (Ext w w1) := Lib.hid (Ext.trans (by repeat (first | with_reducible exact Ext.refl _ | with_reducible refine Ext.alloc ?_ _ | with_reducible refine Ext.setCell ?_ (by simp) _)) hx)
  have p00 : w1.cell? ⟨w.heap.size, 0, none⟩ = some (.int .i64 m) := (hx.cell 0 (by simp; try omega)).trans (by simp [go_sem])
  have p01 : w1.cell? ⟨w.heap.size, 1, none⟩ = some (.int .i64 x) := (hx.cell 1 (by simp; try omega)).trans (by simp [go_sem])
  have p10 : w1.cell? ⟨w.heap.size + 1, 0, none⟩ = some (.int .i64 n) := (hx.cell 0 (by simp; try omega)).trans (by simp [go_sem])
  have p11 : w1.cell? ⟨w.heap.size + 1, 1, none⟩ = some (.int .i64 y) := (hx.cell 1 (by simp; try omega)).trans (by simp [go_sem])
  clear hx
  go_wp2
  refine bodyPost_ret (v := .tuple #[.int .i64 0, .int .i64 1]) ?_ rfl ⟨rfl, ?_⟩
  · simp [results, Tryz.results29, go_sem]
  · repeat (first | with_reducible exact X.out | with_reducible refine Ext.drewN ?_ _ | with_reducible refine Ext.drew ?_ | with_reducible refine Ext.alloc ?_ _ | with_reducible refine Ext.setCell ?_ (by simp; try omega) _)
set_option maxHeartbeats 1000000 in
theorem Cmp_same (m x n y : Int) (hv : (validV m x && validV n y) = true) (h : (m == n && x == y) = true) (w : World) :
    Calls Tryz.prog 29 #[.agg #[.int .i64 m, .int .i64 x], .agg #[.int .i64 n, .int .i64 y]] w fun e w' => e = .returned (.tuple #[.int .i64 0, .int .i64 0]) ∧ Ext w w' := by
  have A := Lib.hid (both_any m x n y)
  rw [hv] at A
  have eqR := eqReal
  go_enter Tryz.func29, Tryz.ntmps29
  go_wp2_with fail
  refine (A.out _).mono ?_
  rintro e w1 ⟨rfl, hx⟩
  have sz : w.heap.size + 1 + 1 ≤ w1.heap.size := by simpa using hx.size
  have X : Hid (Ext w w1) := Lib.hid (Ext.trans (by repeat (first | with_reducible exact Ext.refl _ | with_reducible refine Ext.alloc ?_ _ | with_reducible refine Ext.setCell ?_ (by simp) _)) hx)
  have p00 : w1.cell? ⟨w.heap.size, 0, none⟩ = some (.int .i64 m) := (hx.cell 0 (by simp; try omega)).trans (by simp [go_sem])
  have p01 : w1.cell? ⟨w.heap.size, 1, none⟩ = some (.int .i64 x) := (hx.cell 1 (by simp; try omega)).trans (by simp [go_sem])
  have p10 : w1.cell? ⟨w.heap.size + 1, 0, none⟩ = some (.int .i64 n) := (hx.cell 0 (by simp; try omega)).trans (by simp [go_sem])
  have p11 : w1.cell? ⟨w.heap.size + 1, 1, none⟩ = some (.int .i64 y) := (hx.cell 1 (by simp; try omega)).trans (by simp [go_sem])
  clear hx
  go_wp2
  refine bodyPost_ret (v := .tuple #[.int .i64 0, .int .i64 0]) ?_ rfl ⟨rfl, ?_⟩
  · simp [results, Tryz.results29, go_sem]
  · repeat (first | with_reducible exact X.out | with_reducible refine Ext.drewN ?_ _ | with_reducible refine Ext.drew ?_ | with_reducible refine Ext.alloc ?_ _ | with_reducible refine Ext.setCell ?_ (by simp; try omega) _)
set_option maxHeartbeats 1000000 in
theorem Cmp_diff (m x n y : Int) (hv : (validV m x && validV n y) = true) (h : (m == n && x == y) = false) (w : World) :
    Calls Tryz.prog 29 #[.agg #[.int .i64 m, .int .i64 x], .agg #[.int .i64 n, .int .i64 y]] w fun e w' => e = .returned (.tuple #[.int .i64 (cmpI (placeV m x) (placeV n y)), .int .i64 0]) ∧ Ext w w' := by
  have A := Lib.hid (both_any m x n y)
  rw [hv] at A
  obtain ⟨⟨a1, a2, a3, a4⟩, c1, c2, c3, c4⟩ := both_bd hv
  have Pl1 := Lib.hid (place_any m x c1 c2 a1 a2)
  have Pl2 := Lib.hid (place_any n y c3 c4 a3 a4)
  generalize placeV m x = pm at *
  generalize placeV n y = pn at *
  have Cc := Lib.hid (compareI_any pm pn)
  generalize cmpI pm pn = cv at *
  have eqR := eqReal
  go_enter Tryz.func29, Tryz.ntmps29
  go_wp2_with fail
  refine (A.out _).mono ?_
  rintro e w1 ⟨rfl, hx⟩
  have sz : w.heap.size + 1 + 1 ≤ w1.heap.size := by simpa using hx.size
  have X : Hid (Ext w w1) := Lib.hid (Ext.trans (by repeat (first | with_reducible exact Ext.refl _ | with_reducible refine Ext.alloc ?_ _ | with_reducible refine Ext.setCell ?_ (by simp) _)) hx)
  have p00 : w1.cell? ⟨w.heap.size, 0, none⟩ = some (.int .i64 m) := (hx.cell 0 (by simp; try omega)).trans (by simp [go_sem])
  have p01 : w1.cell? ⟨w.heap.size, 1, none⟩ = some (.int .i64 x) := (hx.cell 1 (by simp; try omega)).trans (by simp [go_sem])
  have p10 : w1.cell? ⟨w.heap.size + 1, 0, none⟩ = some (.int .i64 n) := (hx.cell 0 (by simp; try omega)).trans (by simp [go_sem])
  have p11 : w1.cell? ⟨w.heap.size + 1, 1, none⟩ = some (.int .i64 y) := (hx.cell 1 (by simp; try omega)).trans (by simp [go_sem])
  clear hx
  go_wp2
  have KE : Hid (∀ u : World, Ext w1 u → (fun w' : World => w'.cell? ⟨w.heap.size, 0, none⟩ = some (.int .i64 m) ∧ w'.cell? ⟨w.heap.size, 1, none⟩ = some (.int .i64 x) ∧ w'.cell? ⟨w.heap.size + 1, 0, none⟩ = some (.int .i64 n) ∧ w'.cell? ⟨w.heap.size + 1, 1, none⟩ = some (.int .i64 y)) u) := Lib.hid (fun u hx => ⟨(hx.cell 0 (by omega)).trans p00, (hx.cell 1 (by omega)).trans p01, (hx.cell 0 (by omega)).trans p10, (hx.cell 1 (by omega)).trans p11⟩)
  go_region_held3 (fun w' : World => w'.cell? ⟨w.heap.size, 0, none⟩ = some (.int .i64 m) ∧ w'.cell? ⟨w.heap.size, 1, none⟩ = some (.int .i64 x) ∧ w'.cell? ⟨w.heap.size + 1, 0, none⟩ = some (.int .i64 n) ∧ w'.cell? ⟨w.heap.size + 1, 1, none⟩ = some (.int .i64 y)) ((refine KE.out _ ?_; (repeat (first | with_reducible exact Ext.refl _ | assumption | with_reducible refine Ext.drew ?_ | with_reducible refine Ext.drewN ?_ _ | refine Ext.trans ?_ (by assumption))); done)) (first | (go_at_call 70; ((with_reducible refine (Pl1.out _).mono ?_); rintro e v1 ⟨rfl, hx⟩)) | (go_at_call 70; ((with_reducible refine (Pl2.out _).mono ?_); rintro e v2 ⟨rfl, hx2⟩)) | (go_at_call 72; ((with_reducible refine (Cc.out _).mono ?_); rintro e v3 ⟨rfl, rfl⟩)))
  have X : Hid (Ext w v2) := Lib.hid (X.out.trans (((Ext.refl w1).drew.trans hx).trans hx2))
  clear hx hx2 KE p00 p01 p10 p11
  go_wp2
  refine bodyPost_ret (v := .tuple #[.int .i64 cv, .int .i64 0]) ?_ rfl ⟨rfl, ?_⟩
  · simp [results, Tryz.results29, go_sem]
  · repeat (first | with_reducible exact X.out | with_reducible refine Ext.drewN ?_ _ | with_reducible refine Ext.drew ?_ | with_reducible refine Ext.alloc ?_ _ | with_reducible refine Ext.setCell ?_ (by simp; try omega) _)
end Go.Proofs.YtoeahfddnjbhbaaGreatDoor
