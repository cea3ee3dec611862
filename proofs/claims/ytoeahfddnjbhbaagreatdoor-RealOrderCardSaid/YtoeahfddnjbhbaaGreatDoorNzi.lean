/- Layer 2: indices and order of reals, as the program makes them. -/
import Derived.Test.YtoeahfddnjbhbaaGreatDoorNzd
import Derived.Test.YtoeahfddnjbhbaaGreatDoorNk
import Derived.IntWalk
namespace Go.Proofs.YtoeahfddnjbhbaaGreatDoor
open Go.RowKit


theorem place_z (x : Int) (w : World) :
    Calls Tryz.prog 70 #[.agg #[.int .i64 0, .int .i64 x]] w fun e w' => e = .returned (.int .i64 0) ∧ Ext w w' := by
  go_enter Tryz.func70, Tryz.ntmps70
  go_wp2
  refine bodyPost_ret (v := .int .i64 0) ?_ rfl ⟨rfl, ?_⟩
  · simp [results, Tryz.results70, go_sem]
  · repeat (first | with_reducible exact Ext.refl _ | with_reducible refine Ext.alloc ?_ _ | with_reducible refine Ext.setCell ?_ (by simp) _)
theorem place_n (m x : Int) (b1 : -16777216 < m) (b2 : m < 16777216) (b3 : -150 ≤ x) (b4 : x ≤ 150) (h0 : (m == 0) = false) (h : m < 0) (w : World) :
    Calls Tryz.prog 70 #[.agg #[.int .i64 m, .int .i64 x]] w fun e w' => e = .returned (.int .i64 (m - (x - -150) * 8388608)) ∧ Ext w w' := by
  go_enter Tryz.func70, Tryz.ntmps70
  go_wp2
  refine bodyPost_ret (v := .int .i64 (m - (x - -150) * 8388608)) ?_ rfl ⟨rfl, ?_⟩
  · simp [results, Tryz.results70, go_sem]
  · repeat (first | with_reducible exact Ext.refl _ | with_reducible refine Ext.alloc ?_ _ | with_reducible refine Ext.setCell ?_ (by simp) _)
theorem place_p (m x : Int) (b1 : -16777216 < m) (b2 : m < 16777216) (b3 : -150 ≤ x) (b4 : x ≤ 150) (h0 : (m == 0) = false) (h : ¬ m < 0) (w : World) :
    Calls Tryz.prog 70 #[.agg #[.int .i64 m, .int .i64 x]] w fun e w' => e = .returned (.int .i64 (m + (x - -150) * 8388608)) ∧ Ext w w' := by
  go_enter Tryz.func70, Tryz.ntmps70
  go_wp2
  refine bodyPost_ret (v := .int .i64 (m + (x - -150) * 8388608)) ?_ rfl ⟨rfl, ?_⟩
  · simp [results, Tryz.results70, go_sem]
  · repeat (first | with_reducible exact Ext.refl _ | with_reducible refine Ext.alloc ?_ _ | with_reducible refine Ext.setCell ?_ (by simp) _)
theorem place_any (m x : Int) (b1 : -16777216 < m) (b2 : m < 16777216) (b3 : -150 ≤ x) (b4 : x ≤ 150) (w : World) :
    Calls Tryz.prog 70 #[.agg #[.int .i64 m, .int .i64 x]] w fun e w' => e = .returned (.int .i64 (placeV m x)) ∧ Ext w w' := by
  unfold placeV
  by_cases h0 : m = 0
  · subst h0; rw [if_pos rfl]; exact place_z x w
  rw [if_neg h0]
  by_cases h : m < 0
  · rw [if_pos h]; exact place_n m x b1 b2 b3 b4 (by simpa using h0) h w
  · rw [if_neg h]; exact place_p m x b1 b2 b3 b4 (by simpa using h0) h w
theorem isNaN_i (x : Int) (w : World) :
    Calls Tryz.prog 107 #[.int .i64 x] w fun e w' => e = .returned (.bool false) ∧ w = w' := by
  have h1 : (x != x) = false := by simp
  go_enter Tryz.func107, Tryz.ntmps107
  go_wp2
  go_ret
  exact ⟨rfl, rfl⟩
theorem compareI_any (a b : Int) (w : World) :
    Calls Tryz.prog 72 #[.int .i64 a, .int .i64 b] w fun e w' => e = .returned (.int .i64 (cmpI a b)) ∧ w = w' := by
  rcases Int.lt_trichotomy a b with h | h | h
  · have hc : cmpI a b = -1 := by unfold cmpI; rw [if_pos h]
    rw [hc]
    go_enter Tryz.func72, Tryz.ntmps72
    go_wp2_with (first | (go_at_call 107; refine (isNaN_i _ _).mono ?_; rintro e w' ⟨rfl, rfl⟩))
    all_goals go_ret
    all_goals exact ⟨rfl, rfl⟩
  · subst h
    have hc : cmpI a a = 0 := by unfold cmpI; rw [if_neg (by omega), if_neg (by omega)]
    rw [hc]
    go_enter Tryz.func72, Tryz.ntmps72
    go_wp2_with (first | (go_at_call 107; refine (isNaN_i _ _).mono ?_; rintro e w' ⟨rfl, rfl⟩))
    all_goals go_ret
    all_goals exact ⟨rfl, rfl⟩
  · have hc : cmpI a b = 1 := by unfold cmpI; rw [if_neg (by omega), if_pos h]
    have h' : ¬ a < b := by omega
    rw [hc]
    go_enter Tryz.func72, Tryz.ntmps72
    go_wp2_with (first | (go_at_call 107; refine (isNaN_i _ _).mono ?_; rintro e w' ⟨rfl, rfl⟩))
    all_goals go_ret
    all_goals exact ⟨rfl, rfl⟩
theorem at_z (w : World) :
    Calls Tryz.prog 64 #[.int .i64 0] w fun e w' => e = .returned (.agg #[.int .i64 0, .int .i64 0]) ∧ Ext w w' := by
  go_enter Tryz.func64, Tryz.ntmps64
  go_wp2
  refine bodyPost_ret (v := .agg #[.int .i64 0, .int .i64 0]) ?_ rfl ⟨rfl, ?_⟩
  · simp [results, Tryz.results64, go_sem]
  · repeat (first | with_reducible exact Ext.refl _ | with_reducible refine Ext.alloc ?_ _ | with_reducible refine Ext.setCell ?_ (by simp) _)
theorem at_p (i k : Int) (hk : k = max (i / 8388608 - 1) 0) (h0 : (i == 0) = false) (h1 : 0 < i) (h2 : i < 4611686018427387904) (w : World) :
    Calls Tryz.prog 64 #[.int .i64 i] w fun e w' => e = .returned (.agg #[.int .i64 (i - k * 8388608), .int .i64 (-150 + k)]) ∧ Ext w w' := by
  have d1 : i.tdiv 8388608 = i / 8388608 := Int.tdiv_eq_ediv_of_nonneg (by omega)
  have k0 : 0 ≤ k := by omega
  have k1 : k * 8388608 ≤ i := by omega
  have q1 : 0 ≤ i / 8388608 := by omega
  have q2 : i / 8388608 ≤ i := by omega
  have n1 : ¬ i < 0 := by omega
  go_enter Tryz.func64, Tryz.ntmps64
  go_wp2
  subst hk
  refine bodyPost_ret (v := .agg #[.int .i64 (i - max (i / 8388608 - 1) 0 * 8388608), .int .i64 (-150 + max (i / 8388608 - 1) 0)]) ?_ rfl ⟨rfl, ?_⟩
  · simp [results, Tryz.results64, go_sem]
  · repeat (first | with_reducible exact Ext.refl _ | with_reducible refine Ext.alloc ?_ _ | with_reducible refine Ext.setCell ?_ (by simp) _)
theorem at_pos (i : Int) (h1 : 0 ≤ i) (h2 : i < 4611686018427387904) (w : World) :
    Calls Tryz.prog 64 #[.int .i64 i] w fun e w' => e = .returned (.agg #[.int .i64 (atP i).1, .int .i64 (atP i).2]) ∧ Ext w w' := by
  unfold atP
  by_cases h0 : i = 0
  · subst h0; exact at_z w
  · rw [if_neg h0]; exact at_p i _ rfl (by simpa using h0) (by omega) h2 w
theorem atP_bd {i : Int} (h1 : 0 ≤ i) (h2 : i < 4611686018427387904) : 0 ≤ (atP i).1 ∧ (atP i).1 < 4611686018427387904 := by
  unfold atP
  split
  · exact ⟨by omega, by omega⟩
  · simp only; omega
theorem at_neg (i : Int) (h : i < 0) (h2 : -4611686018427387904 < i) (w : World) :
    Calls Tryz.prog 64 #[.int .i64 i] w fun e w' => e = .returned (.agg #[.int .i64 (-(atP (-i)).1), .int .i64 (atP (-i)).2]) ∧ Ext w w' := by
  obtain ⟨z1, z2⟩ := atP_bd (i := -i) (by omega) (by omega)
  have A := Lib.hid (at_pos (-i) (by omega) (by omega))
  have B := Lib.hid (opposite_any (atP (-i)).1 (atP (-i)).2 (by omega) (by omega))
  generalize atP (-i) = q at *
  obtain ⟨qm, qx⟩ := q
  simp only at *
  go_enter Tryz.func64, Tryz.ntmps64
  go_wp2_with fail
  refine (A.out _).mono ?_
  rintro e w1 ⟨rfl, hx1⟩
  go_wp2_with fail
  refine (B.out _).mono ?_
  rintro e w2 ⟨rfl, hx2⟩
  have hx := hx1.trans hx2
  have X := Lib.hid (((Ext.refl w).alloc _).trans hx)
  have c0 : w2.cell? ⟨w.heap.size, 0, none⟩ = some (.int .i64 0) := (hx.cell 0 (by simp)).trans (by simp [go_sem])
  have c1 : w2.cell? ⟨w.heap.size, 1, none⟩ = some (.int .i64 0) := (hx.cell 1 (by simp)).trans (by simp [go_sem])
  have f0 : ∀ j, w2.frozen? ⟨w.heap.size, j, none⟩ = false := fun j => (hx.froz j (by simp)).trans (by simp [go_sem])
  clear hx hx1 hx2
  go_wp2
  refine bodyPost_ret (v := .agg #[.int .i64 (-qm), .int .i64 qx]) ?_ rfl ⟨rfl, ?_⟩
  · simp [results, Tryz.results64, go_sem, c0, c1]
  · exact (X.out.setCell (Nat.le_refl _) _).setCell (Nat.le_refl _) _
theorem at_any (i : Int) (h1 : -4611686018427387904 < i) (h2 : i < 4611686018427387904) (w : World) :
    Calls Tryz.prog 64 #[.int .i64 i] w fun e w' => e = .returned (.agg #[.int .i64 (atV i).1, .int .i64 (atV i).2]) ∧ Ext w w' := by
  unfold atV
  by_cases h : i < 0
  · rw [if_pos h]; exact at_neg i h h1 w
  · rw [if_neg h]; exact at_pos i (by omega) h2 w
set_option maxHeartbeats 1000000 in
theorem Index_bad (m x : Int)  (w : World) (hv : validV m x = false) :
    Calls Tryz.prog 24 #[.agg #[.int .i64 m, .int .i64 x]] w fun e w' => e = .returned (.tuple #[.int .i64 0, .int .i64 1]) ∧ Ext w w' := by
  have A := Lib.hid (valid_any m x)
  rw [hv] at A
  go_enter Tryz.func24, Tryz.ntmps24
  go_wp2_with fail
  refine (A.out _).mono ?_
  rintro e w1 ⟨rfl, hx⟩
  have sz : w.heap.size + 1 ≤ w1.heap.size := by simpa using hx.size
  have X : Hid (Ext w w1) := Lib.hid (Ext.trans (by repeat (first | with_reducible exact Ext.refl _ | with_reducible refine Ext.alloc ?_ _ | with_reducible refine Ext.setCell ?_ (by simp) _)) hx)
  have p0 : w1.cell? ⟨w.heap.size, 0, none⟩ = some (.int .i64 m) := (hx.cell 0 (by simp; try omega)).trans (by simp [go_sem])
  have p1 : w1.cell? ⟨w.heap.size, 1, none⟩ = some (.int .i64 x) := (hx.cell 1 (by simp; try omega)).trans (by simp [go_sem])
  clear hx
  go_wp2
  refine bodyPost_ret (v := .tuple #[.int .i64 0, .int .i64 1]) ?_ rfl ⟨rfl, ?_⟩
  · simp [results, Tryz.results24, go_sem]
  · repeat (first | with_reducible exact X.out | with_reducible refine Ext.alloc ?_ _ | with_reducible refine Ext.setCell ?_ (by simp; try omega) _)
set_option maxHeartbeats 1000000 in
theorem Neg_bad (m x : Int)  (w : World) (hv : validV m x = false) :
    Calls Tryz.prog 26 #[.agg #[.int .i64 m, .int .i64 x]] w fun e w' => e = .returned (.tuple #[.agg #[.int .i64 0, .int .i64 0], .int .i64 1]) ∧ Ext w w' := by
  have A := Lib.hid (valid_any m x)
  rw [hv] at A
  go_enter Tryz.func26, Tryz.ntmps26
  go_wp2_with fail
  refine (A.out _).mono ?_
  rintro e w1 ⟨rfl, hx⟩
  have sz : w.heap.size + 2 ≤ w1.heap.size := by simpa using hx.size
  have X : Hid (Ext w w1) := Lib.hid (Ext.trans (by repeat (first | with_reducible exact Ext.refl _ | with_reducible refine Ext.alloc ?_ _ | with_reducible refine Ext.setCell ?_ (by simp) _)) hx)
  have p0 : w1.cell? ⟨w.heap.size, 0, none⟩ = some (.int .i64 m) := (hx.cell 0 (by simp; try omega)).trans (by simp [go_sem])
  have p1 : w1.cell? ⟨w.heap.size, 1, none⟩ = some (.int .i64 x) := (hx.cell 1 (by simp; try omega)).trans (by simp [go_sem])
  have c0 : w1.cell? ⟨w.heap.size + 1, 0, none⟩ = some (.int .i64 0) := (hx.cell 0 (by simp)).trans (by simp [go_sem])
  have c1 : w1.cell? ⟨w.heap.size + 1, 1, none⟩ = some (.int .i64 0) := (hx.cell 1 (by simp)).trans (by simp [go_sem])
  have f0 : ∀ j, w1.frozen? ⟨w.heap.size + 1, j, none⟩ = false := fun j => (hx.froz j (by simp)).trans (by simp [go_sem])
  clear hx
  go_wp2
  refine bodyPost_ret (v := .tuple #[.agg #[.int .i64 0, .int .i64 0], .int .i64 1]) ?_ rfl ⟨rfl, ?_⟩
  · simp [results, Tryz.results26, go_sem, c0, c1]
  · repeat (first | with_reducible exact X.out | with_reducible refine Ext.alloc ?_ _ | with_reducible refine Ext.setCell ?_ (by simp; try omega) _)
set_option maxHeartbeats 1000000 in
theorem Abs_bad (m x : Int)  (w : World) (hv : validV m x = false) :
    Calls Tryz.prog 27 #[.agg #[.int .i64 m, .int .i64 x]] w fun e w' => e = .returned (.tuple #[.agg #[.int .i64 0, .int .i64 0], .int .i64 1]) ∧ Ext w w' := by
  have A := Lib.hid (valid_any m x)
  rw [hv] at A
  go_enter Tryz.func27, Tryz.ntmps27
  go_wp2_with fail
  refine (A.out _).mono ?_
  rintro e w1 ⟨rfl, hx⟩
  have sz : w.heap.size + 2 ≤ w1.heap.size := by simpa using hx.size
  have X : Hid (Ext w w1) := Lib.hid (Ext.trans (by repeat (first | with_reducible exact Ext.refl _ | with_reducible refine Ext.alloc ?_ _ | with_reducible refine Ext.setCell ?_ (by simp) _)) hx)
  have p0 : w1.cell? ⟨w.heap.size, 0, none⟩ = some (.int .i64 m) := (hx.cell 0 (by simp; try omega)).trans (by simp [go_sem])
  have p1 : w1.cell? ⟨w.heap.size, 1, none⟩ = some (.int .i64 x) := (hx.cell 1 (by simp; try omega)).trans (by simp [go_sem])
  have c0 : w1.cell? ⟨w.heap.size + 1, 0, none⟩ = some (.int .i64 0) := (hx.cell 0 (by simp)).trans (by simp [go_sem])
  have c1 : w1.cell? ⟨w.heap.size + 1, 1, none⟩ = some (.int .i64 0) := (hx.cell 1 (by simp)).trans (by simp [go_sem])
  have f0 : ∀ j, w1.frozen? ⟨w.heap.size + 1, j, none⟩ = false := fun j => (hx.froz j (by simp)).trans (by simp [go_sem])
  clear hx
  go_wp2
  refine bodyPost_ret (v := .tuple #[.agg #[.int .i64 0, .int .i64 0], .int .i64 1]) ?_ rfl ⟨rfl, ?_⟩
  · simp [results, Tryz.results27, go_sem, c0, c1]
  · repeat (first | with_reducible exact X.out | with_reducible refine Ext.alloc ?_ _ | with_reducible refine Ext.setCell ?_ (by simp; try omega) _)
set_option maxHeartbeats 1000000 in
theorem Sign_bad (m x : Int)  (w : World) (hv : validV m x = false) :
    Calls Tryz.prog 28 #[.agg #[.int .i64 m, .int .i64 x]] w fun e w' => e = .returned (.tuple #[.int .i64 0, .int .i64 1]) ∧ Ext w w' := by
  have A := Lib.hid (valid_any m x)
  rw [hv] at A
  go_enter Tryz.func28, Tryz.ntmps28
  go_wp2_with fail
  refine (A.out _).mono ?_
  rintro e w1 ⟨rfl, hx⟩
  have sz : w.heap.size + 1 ≤ w1.heap.size := by simpa using hx.size
  have X : Hid (Ext w w1) := Lib.hid (Ext.trans (by repeat (first | with_reducible exact Ext.refl _ | with_reducible refine Ext.alloc ?_ _ | with_reducible refine Ext.setCell ?_ (by simp) _)) hx)
  have p0 : w1.cell? ⟨w.heap.size, 0, none⟩ = some (.int .i64 m) := (hx.cell 0 (by simp; try omega)).trans (by simp [go_sem])
  have p1 : w1.cell? ⟨w.heap.size, 1, none⟩ = some (.int .i64 x) := (hx.cell 1 (by simp; try omega)).trans (by simp [go_sem])
  clear hx
  go_wp2
  refine bodyPost_ret (v := .tuple #[.int .i64 0, .int .i64 1]) ?_ rfl ⟨rfl, ?_⟩
  · simp [results, Tryz.results28, go_sem]
  · repeat (first | with_reducible exact X.out | with_reducible refine Ext.alloc ?_ _ | with_reducible refine Ext.setCell ?_ (by simp; try omega) _)
set_option maxHeartbeats 1000000 in
theorem Next_bad (m x : Int)  (w : World) (hv : validV m x = false) :
    Calls Tryz.prog 25 #[.agg #[.int .i64 m, .int .i64 x]] w fun e w' => e = .returned (.tuple #[.agg #[.int .i64 0, .int .i64 0], .int .i64 1]) ∧ Ext w w' := by
  have A := Lib.hid (valid_any m x)
  rw [hv] at A
  go_enter Tryz.func25, Tryz.ntmps25
  go_wp2_with fail
  refine (A.out _).mono ?_
  rintro e w1 ⟨rfl, hx⟩
  have sz : w.heap.size + 2 ≤ w1.heap.size := by simpa using hx.size
  have X : Hid (Ext w w1) := Lib.hid (Ext.trans (by repeat (first | with_reducible exact Ext.refl _ | with_reducible refine Ext.alloc ?_ _ | with_reducible refine Ext.setCell ?_ (by simp) _)) hx)
  have p0 : w1.cell? ⟨w.heap.size, 0, none⟩ = some (.int .i64 m) := (hx.cell 0 (by simp; try omega)).trans (by simp [go_sem])
  have p1 : w1.cell? ⟨w.heap.size, 1, none⟩ = some (.int .i64 x) := (hx.cell 1 (by simp; try omega)).trans (by simp [go_sem])
  have c0 : w1.cell? ⟨w.heap.size + 1, 0, none⟩ = some (.int .i64 0) := (hx.cell 0 (by simp)).trans (by simp [go_sem])
  have c1 : w1.cell? ⟨w.heap.size + 1, 1, none⟩ = some (.int .i64 0) := (hx.cell 1 (by simp)).trans (by simp [go_sem])
  have f0 : ∀ j, w1.frozen? ⟨w.heap.size + 1, j, none⟩ = false := fun j => (hx.froz j (by simp)).trans (by simp [go_sem])
  clear hx
  go_wp2
  refine bodyPost_ret (v := .tuple #[.agg #[.int .i64 0, .int .i64 0], .int .i64 1]) ?_ rfl ⟨rfl, ?_⟩
  · simp [results, Tryz.results25, go_sem, c0, c1]
  · repeat (first | with_reducible exact X.out | with_reducible refine Ext.alloc ?_ _ | with_reducible refine Ext.setCell ?_ (by simp; try omega) _)
set_option maxHeartbeats 1000000 in
theorem Index_good (m x : Int)  (w : World) (hv : validV m x = true) :
    Calls Tryz.prog 24 #[.agg #[.int .i64 m, .int .i64 x]] w fun e w' => e = .returned (.tuple #[.int .i64 (placeV m x), .int .i64 0]) ∧ Ext w w' := by
  have A := Lib.hid (valid_any m x)
  rw [hv] at A
  obtain ⟨b1, b2, b3, b4, _⟩ := valid_bd hv
  have Pl := Lib.hid (place_any m x b1 b2 b3 b4)
  go_enter Tryz.func24, Tryz.ntmps24
  go_wp2_with fail
  refine (A.out _).mono ?_
  rintro e w1 ⟨rfl, hx⟩
  have sz : w.heap.size + 1 ≤ w1.heap.size := by simpa using hx.size
  have X : Hid (Ext w w1) := Lib.hid (Ext.trans (by repeat (first | with_reducible exact Ext.refl _ | with_reducible refine Ext.alloc ?_ _ | with_reducible refine Ext.setCell ?_ (by simp) _)) hx)
  have p0 : w1.cell? ⟨w.heap.size, 0, none⟩ = some (.int .i64 m) := (hx.cell 0 (by simp; try omega)).trans (by simp [go_sem])
  have p1 : w1.cell? ⟨w.heap.size, 1, none⟩ = some (.int .i64 x) := (hx.cell 1 (by simp; try omega)).trans (by simp [go_sem])
  clear hx
  go_wp2_with fail
  refine (Pl.out _).mono ?_
  rintro e w2 ⟨rfl, hx⟩
  have p0 := (hx.cell 0 (b := w.heap.size) (by omega)).trans p0
  have p1 := (hx.cell 1 (b := w.heap.size) (by omega)).trans p1
  have sz : w.heap.size + 1 ≤ w2.heap.size := Nat.le_trans sz hx.size
  have X := Lib.hid (X.out.trans hx)
  clear hx
  go_wp2
  refine bodyPost_ret (v := .tuple #[.int .i64 (placeV m x), .int .i64 0]) ?_ rfl ⟨rfl, ?_⟩
  · simp [results, Tryz.results24, go_sem]
  · repeat (first | with_reducible exact X.out | with_reducible refine Ext.alloc ?_ _ | with_reducible refine Ext.setCell ?_ (by simp; try omega) _)
set_option maxHeartbeats 1000000 in
theorem Neg_good (m x : Int)  (w : World) (hv : validV m x = true) :
    Calls Tryz.prog 26 #[.agg #[.int .i64 m, .int .i64 x]] w fun e w' => e = .returned (.tuple #[.agg #[.int .i64 (-m), .int .i64 x], .int .i64 0]) ∧ Ext w w' := by
  have A := Lib.hid (valid_any m x)
  rw [hv] at A
  obtain ⟨b1, b2, b3, b4, _⟩ := valid_bd hv
  have Op := Lib.hid (opposite_any m x (by omega) (by omega))
  go_enter Tryz.func26, Tryz.ntmps26
  go_wp2_with fail
  refine (A.out _).mono ?_
  rintro e w1 ⟨rfl, hx⟩
  have sz : w.heap.size + 2 ≤ w1.heap.size := by simpa using hx.size
  have X : Hid (Ext w w1) := Lib.hid (Ext.trans (by repeat (first | with_reducible exact Ext.refl _ | with_reducible refine Ext.alloc ?_ _ | with_reducible refine Ext.setCell ?_ (by simp) _)) hx)
  have p0 : w1.cell? ⟨w.heap.size, 0, none⟩ = some (.int .i64 m) := (hx.cell 0 (by simp; try omega)).trans (by simp [go_sem])
  have p1 : w1.cell? ⟨w.heap.size, 1, none⟩ = some (.int .i64 x) := (hx.cell 1 (by simp; try omega)).trans (by simp [go_sem])
  have c0 : w1.cell? ⟨w.heap.size + 1, 0, none⟩ = some (.int .i64 0) := (hx.cell 0 (by simp)).trans (by simp [go_sem])
  have c1 : w1.cell? ⟨w.heap.size + 1, 1, none⟩ = some (.int .i64 0) := (hx.cell 1 (by simp)).trans (by simp [go_sem])
  have f0 : ∀ j, w1.frozen? ⟨w.heap.size + 1, j, none⟩ = false := fun j => (hx.froz j (by simp)).trans (by simp [go_sem])
  clear hx
  go_wp2_with fail
  refine (Op.out _).mono ?_
  rintro e w2 ⟨rfl, hx⟩
  have p0 := (hx.cell 0 (b := w.heap.size) (by omega)).trans p0
  have p1 := (hx.cell 1 (b := w.heap.size) (by omega)).trans p1
  have c0 := (hx.cell 0 (b := w.heap.size + 1) (by omega)).trans c0
  have c1 := (hx.cell 1 (b := w.heap.size + 1) (by omega)).trans c1
  have f0 : ∀ j, w2.frozen? ⟨w.heap.size + 1, j, none⟩ = false := fun j => (hx.froz j (by omega)).trans (f0 j)
  have sz : w.heap.size + 2 ≤ w2.heap.size := Nat.le_trans sz hx.size
  have X := Lib.hid (X.out.trans hx)
  clear hx
  go_wp2
  refine bodyPost_ret (v := .tuple #[.agg #[.int .i64 (-m), .int .i64 x], .int .i64 0]) ?_ rfl ⟨rfl, ?_⟩
  · simp [results, Tryz.results26, go_sem, c0, c1]
  · repeat (first | with_reducible exact X.out | with_reducible refine Ext.alloc ?_ _ | with_reducible refine Ext.setCell ?_ (by simp; try omega) _)
set_option maxHeartbeats 1000000 in
theorem Sign_good (m x : Int)  (w : World) (hv : validV m x = true) :
    Calls Tryz.prog 28 #[.agg #[.int .i64 m, .int .i64 x]] w fun e w' => e = .returned (.tuple #[.int .i64 (cmpI m 0), .int .i64 0]) ∧ Ext w w' := by
  have A := Lib.hid (valid_any m x)
  rw [hv] at A
  obtain ⟨b1, b2, b3, b4, _⟩ := valid_bd hv
  have Cm := Lib.hid (compareI_any m 0)
  go_enter Tryz.func28, Tryz.ntmps28
  go_wp2_with fail
  refine (A.out _).mono ?_
  rintro e w1 ⟨rfl, hx⟩
  have sz : w.heap.size + 1 ≤ w1.heap.size := by simpa using hx.size
  have X : Hid (Ext w w1) := Lib.hid (Ext.trans (by repeat (first | with_reducible exact Ext.refl _ | with_reducible refine Ext.alloc ?_ _ | with_reducible refine Ext.setCell ?_ (by simp) _)) hx)
  have p0 : w1.cell? ⟨w.heap.size, 0, none⟩ = some (.int .i64 m) := (hx.cell 0 (by simp; try omega)).trans (by simp [go_sem])
  have p1 : w1.cell? ⟨w.heap.size, 1, none⟩ = some (.int .i64 x) := (hx.cell 1 (by simp; try omega)).trans (by simp [go_sem])
  clear hx
  go_wp2_with fail
  refine (Cm.out _).mono ?_
  rintro e w2 ⟨rfl, rfl⟩
  go_wp2
  refine bodyPost_ret (v := .tuple #[.int .i64 (cmpI m 0), .int .i64 0]) ?_ rfl ⟨rfl, ?_⟩
  · simp [results, Tryz.results28, go_sem]
  · repeat (first | with_reducible exact X.out | with_reducible refine Ext.alloc ?_ _ | with_reducible refine Ext.setCell ?_ (by simp; try omega) _)
end Go.Proofs.YtoeahfddnjbhbaaGreatDoor
