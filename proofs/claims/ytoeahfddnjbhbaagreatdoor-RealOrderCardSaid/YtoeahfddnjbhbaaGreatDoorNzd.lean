/- Layer 2: validity, indices and exact numbers, as the program makes them. -/
import Derived.Test.YtoeahfddnjbhbaaGreatDoorNp
import Derived.Test.YtoeahfddnjbhbaaGreatDoorPz
import Derived.Deep.QuietTactic
import Derived.BigQuiet
namespace Go.Proofs.YtoeahfddnjbhbaaGreatDoor
open Go.RowKit

theorem eqReal (x0 x1 y0 y1 : Int) (w : World) :
    (Op.equalIn 10000 23 (.agg #[.int .i64 x0, .int .i64 x1]) (.agg #[.int .i64 y0, .int .i64 y1])).run Tryz.prog w =
      .ok (x0 == y0 && x1 == y1) w := by
  have u3 := Tryz.underlying3
  have a3 := Tryz.isAgg3
  have z3 := Tryz.sizeOf3
  rw [show (10000 : Nat) = 9999 + 1 from rfl, Op.equalIn]
  simp only [Sem.run_bind, run_underlying Tryz.underlying23, Result.andThen_ok]
  go_simp
  by_cases h0 : x0 = y0
  · by_cases h1 : x1 = y1 <;> simp [h0, h1]
  · simp [h0]

theorem valid_a (m x : Int) (h : m ≤ -16777216) (w : World) :
    Calls Tryz.prog 22 #[.agg #[.int .i64 m, .int .i64 x]] w fun e w' => e = .returned (.bool false) ∧ Ext w w' := by
  go_enter Tryz.func22, Tryz.ntmps22
  go_wp2
  refine bodyPost_ret (v := .bool false) ?_ rfl ⟨rfl, ?_⟩
  · simp [results, Tryz.results22, go_sem]
  · repeat (first | with_reducible exact Ext.refl _ | with_reducible refine Ext.alloc ?_ _ | with_reducible refine Ext.setCell ?_ (by simp) _)
theorem valid_b (m x : Int) (n1 : ¬ m ≤ -16777216) (h : m ≥ 16777216) (w : World) :
    Calls Tryz.prog 22 #[.agg #[.int .i64 m, .int .i64 x]] w fun e w' => e = .returned (.bool false) ∧ Ext w w' := by
  go_enter Tryz.func22, Tryz.ntmps22
  go_wp2
  refine bodyPost_ret (v := .bool false) ?_ rfl ⟨rfl, ?_⟩
  · simp [results, Tryz.results22, go_sem]
  · repeat (first | with_reducible exact Ext.refl _ | with_reducible refine Ext.alloc ?_ _ | with_reducible refine Ext.setCell ?_ (by simp) _)
theorem valid_c (m x : Int) (n1 : ¬ m ≤ -16777216) (n2 : ¬ m ≥ 16777216) (h : x < -150) (w : World) :
    Calls Tryz.prog 22 #[.agg #[.int .i64 m, .int .i64 x]] w fun e w' => e = .returned (.bool false) ∧ Ext w w' := by
  go_enter Tryz.func22, Tryz.ntmps22
  go_wp2
  refine bodyPost_ret (v := .bool false) ?_ rfl ⟨rfl, ?_⟩
  · simp [results, Tryz.results22, go_sem]
  · repeat (first | with_reducible exact Ext.refl _ | with_reducible refine Ext.alloc ?_ _ | with_reducible refine Ext.setCell ?_ (by simp) _)
theorem valid_d (m x : Int) (n1 : ¬ m ≤ -16777216) (n2 : ¬ m ≥ 16777216) (n3 : ¬ x < -150) (h : x > 150) (w : World) :
    Calls Tryz.prog 22 #[.agg #[.int .i64 m, .int .i64 x]] w fun e w' => e = .returned (.bool false) ∧ Ext w w' := by
  go_enter Tryz.func22, Tryz.ntmps22
  go_wp2
  refine bodyPost_ret (v := .bool false) ?_ rfl ⟨rfl, ?_⟩
  · simp [results, Tryz.results22, go_sem]
  · repeat (first | with_reducible exact Ext.refl _ | with_reducible refine Ext.alloc ?_ _ | with_reducible refine Ext.setCell ?_ (by simp) _)
theorem valid_z (x : Int) (n3 : ¬ x < -150) (n4 : ¬ x > 150) (w : World) :
    Calls Tryz.prog 22 #[.agg #[.int .i64 0, .int .i64 x]] w fun e w' => e = .returned (.bool (x == 0)) ∧ Ext w w' := by
  have eqR := eqReal
  go_enter Tryz.func22, Tryz.ntmps22
  go_wp2
  refine bodyPost_ret (v := .bool (x == 0)) ?_ rfl ⟨rfl, ?_⟩
  · simp [results, Tryz.results22, go_sem]
  · repeat (first | with_reducible exact Ext.refl _ | with_reducible refine Ext.alloc ?_ _ | with_reducible refine Ext.setCell ?_ (by simp) _)
theorem valid_e (m x : Int) (n1 : ¬ m ≤ -16777216) (n2 : ¬ m ≥ 16777216) (n3 : ¬ x < -150) (n4 : ¬ x > 150) (n5 : (m == 0) = false) (n6 : (x == -150) = true) (w : World) :
    Calls Tryz.prog 22 #[.agg #[.int .i64 m, .int .i64 x]] w fun e w' => e = .returned (.bool true) ∧ Ext w w' := by
  go_enter Tryz.func22, Tryz.ntmps22
  go_wp2
  refine bodyPost_ret (v := .bool true) ?_ rfl ⟨rfl, ?_⟩
  · simp [results, Tryz.results22, go_sem]
  · repeat (first | with_reducible exact Ext.refl _ | with_reducible refine Ext.alloc ?_ _ | with_reducible refine Ext.setCell ?_ (by simp) _)
theorem valid_f (m x : Int) (n1 : ¬ m ≤ -16777216) (n2 : ¬ m ≥ 16777216) (n3 : ¬ x < -150) (n4 : ¬ x > 150) (n5 : (m == 0) = false) (n6 : (x == -150) = false) (h : m ≤ -8388608) (w : World) :
    Calls Tryz.prog 22 #[.agg #[.int .i64 m, .int .i64 x]] w fun e w' => e = .returned (.bool true) ∧ Ext w w' := by
  go_enter Tryz.func22, Tryz.ntmps22
  go_wp2
  refine bodyPost_ret (v := .bool true) ?_ rfl ⟨rfl, ?_⟩
  · simp [results, Tryz.results22, go_sem]
  · repeat (first | with_reducible exact Ext.refl _ | with_reducible refine Ext.alloc ?_ _ | with_reducible refine Ext.setCell ?_ (by simp) _)
theorem valid_g (m x : Int) (n1 : ¬ m ≤ -16777216) (n2 : ¬ m ≥ 16777216) (n3 : ¬ x < -150) (n4 : ¬ x > 150) (n5 : (m == 0) = false) (n6 : (x == -150) = false) (n7 : ¬ m ≤ -8388608) (w : World) :
    Calls Tryz.prog 22 #[.agg #[.int .i64 m, .int .i64 x]] w fun e w' => e = .returned (.bool (decide (m ≥ 8388608))) ∧ Ext w w' := by
  go_enter Tryz.func22, Tryz.ntmps22
  go_wp2
  refine bodyPost_ret (v := .bool (decide (m ≥ 8388608))) ?_ rfl ⟨rfl, ?_⟩
  · simp [results, Tryz.results22, go_sem]
  · repeat (first | with_reducible exact Ext.refl _ | with_reducible refine Ext.alloc ?_ _ | with_reducible refine Ext.setCell ?_ (by simp) _)
theorem valid_any (m x : Int) (w : World) :
    Calls Tryz.prog 22 #[.agg #[.int .i64 m, .int .i64 x]] w fun e w' => e = .returned (.bool (validV m x)) ∧ Ext w w' := by
  unfold validV
  by_cases h1 : m ≤ -16777216
  · rw [if_pos h1]; exact valid_a m x h1 w
  rw [if_neg h1]
  by_cases h2 : 16777216 ≤ m
  · rw [if_pos h2]; exact valid_b m x h1 h2 w
  rw [if_neg h2]
  by_cases h3 : x < -150
  · rw [if_pos h3]; exact valid_c m x h1 h2 h3 w
  rw [if_neg h3]
  by_cases h4 : 150 < x
  · rw [if_pos h4]; exact valid_d m x h1 h2 h3 h4 w
  rw [if_neg h4]
  by_cases h5 : m = 0
  · subst h5; rw [if_pos rfl]; exact valid_z x h3 h4 w
  rw [if_neg h5]
  have n5 : (m == 0) = false := by simpa using h5
  by_cases h6 : x = -150
  · rw [if_pos h6]; exact valid_e m x h1 h2 h3 h4 n5 (by simpa using h6) w
  rw [if_neg h6]
  have n6 : (x == -150) = false := by simpa using h6
  by_cases h7 : m ≤ -8388608
  · rw [if_pos h7]; exact valid_f m x h1 h2 h3 h4 n5 n6 h7 w
  rw [if_neg h7]
  exact valid_g m x h1 h2 h3 h4 n5 n6 h7 w
theorem valid_bd {m x : Int} (h : validV m x = true) : -16777216 < m ∧ m < 16777216 ∧ -150 ≤ x ∧ x ≤ 150 ∧ (m = 0 → x = 0) := by
  unfold validV at h
  repeat' split at h
  all_goals (first | (cases h; done) | (refine ⟨by omega, by omega, by omega, by omega, fun h0 => ?_⟩; first | omega | (simp at h; omega)))

theorem both_f (m x n y : Int) (h : validV m x = false) (w : World) :
    Calls Tryz.prog 73 #[.agg #[.int .i64 m, .int .i64 x], .agg #[.int .i64 n, .int .i64 y]] w fun e w' => e = .returned (.bool false) ∧ Ext w w' := by
  have V1 := Lib.hid (valid_any m x)
  have V2 := Lib.hid (valid_any n y)
  generalize validV m x = vx at *
  generalize validV n y = vy at *
  subst h
  go_enter Tryz.func73, Tryz.ntmps73
  go_wp2_with fail
  refine (V1.out _).mono ?_
  rintro e w1 ⟨rfl, hx1⟩
  go_wp2
  refine bodyPost_ret (v := .bool false) ?_ rfl ⟨rfl, ?_⟩
  · simp [results, Tryz.results73, go_sem]
  · exact (((Ext.refl w).alloc _).alloc _).trans hx1
theorem both_t (m x n y : Int) (h : validV m x = true) (w : World) :
    Calls Tryz.prog 73 #[.agg #[.int .i64 m, .int .i64 x], .agg #[.int .i64 n, .int .i64 y]] w fun e w' => e = .returned (.bool (validV n y)) ∧ Ext w w' := by
  have V1 := Lib.hid (valid_any m x)
  have V2 := Lib.hid (valid_any n y)
  generalize validV m x = vx at *
  generalize validV n y = vy at *
  subst h
  go_enter Tryz.func73, Tryz.ntmps73
  go_wp2_with fail
  refine (V1.out _).mono ?_
  rintro e w1 ⟨rfl, hx1⟩
  have b0 : w1.cell? ⟨w.heap.size + 1, 0, none⟩ = some (.int .i64 n) := (hx1.cell 0 (by simp)).trans (by simp [go_sem])
  have b1 : w1.cell? ⟨w.heap.size + 1, 1, none⟩ = some (.int .i64 y) := (hx1.cell 1 (by simp)).trans (by simp [go_sem])
  go_wp2_with fail
  refine (V2.out _).mono ?_
  rintro e w2 ⟨rfl, hx2⟩
  go_wp2
  refine bodyPost_ret (v := .bool vy) ?_ rfl ⟨rfl, ?_⟩
  · simp [results, Tryz.results73, go_sem]
  · exact (((Ext.refl w).alloc _).alloc _).trans hx1 |>.trans hx2
theorem both_any (m x n y : Int) (w : World) :
    Calls Tryz.prog 73 #[.agg #[.int .i64 m, .int .i64 x], .agg #[.int .i64 n, .int .i64 y]] w fun e w' => e = .returned (.bool (validV m x && validV n y)) ∧ Ext w w' := by
  cases h : validV m x with
  | false => exact both_f m x n y h w
  | true => exact both_t m x n y h w
theorem opposite_any (m x : Int) (h1 : -9223372036854775808 < m) (h2 : m < 9223372036854775808) (w : World) :
    Calls Tryz.prog 71 #[.agg #[.int .i64 m, .int .i64 x]] w fun e w' => e = .returned (.agg #[.int .i64 (-m), .int .i64 x]) ∧ Ext w w' := by
  go_enter Tryz.func71, Tryz.ntmps71
  go_wp2
  refine bodyPost_ret (v := .agg #[.int .i64 (-m), .int .i64 x]) ?_ rfl ⟨rfl, ?_⟩
  · simp [results, Tryz.results71, go_sem]
  · repeat (first | with_reducible exact Ext.refl _ | with_reducible refine Ext.alloc ?_ _ | with_reducible refine Ext.setCell ?_ (by simp) _)
theorem exactly_pos (m x : Int) (h : ¬ m < 0) (h2 : m < 9223372036854775808) (hu : IntKind.u64.wrap m = m) (w : World) :
    Calls Tryz.prog 65 #[.int .i64 m, .int .i64 x] w fun e w' => e = .returned (.agg #[.bool false, .int .u64 m, .int .i64 x, .bool false]) ∧ Ext w w' := by
  go_enter Tryz.func65, Tryz.ntmps65
  go_wp2
  refine bodyPost_ret (v := .agg #[.bool false, .int .u64 m, .int .i64 x, .bool false]) ?_ rfl ⟨rfl, ?_⟩
  · simp [results, Tryz.results65, go_sem]
  · repeat (first | with_reducible exact Ext.refl _ | with_reducible refine Ext.alloc ?_ _ | with_reducible refine Ext.setCell ?_ (by simp) _)
theorem exactly_neg (m x : Int) (h : m < 0) (h1 : -9223372036854775808 ≤ m) (hu : IntKind.u64.wrap (wrap64 (-m)) = -m) (w : World) :
    Calls Tryz.prog 65 #[.int .i64 m, .int .i64 x] w fun e w' => e = .returned (.agg #[.bool true, .int .u64 (-m), .int .i64 x, .bool false]) ∧ Ext w w' := by
  go_enter Tryz.func65, Tryz.ntmps65
  go_wp2
  refine bodyPost_ret (v := .agg #[.bool true, .int .u64 (-m), .int .i64 x, .bool false]) ?_ rfl ⟨rfl, ?_⟩
  · simp [results, Tryz.results65, go_sem]
  · repeat (first | with_reducible exact Ext.refl _ | with_reducible refine Ext.alloc ?_ _ | with_reducible refine Ext.setCell ?_ (by simp) _)
theorem exactly_any (m x : Int) (h1 : -9223372036854775808 ≤ m) (h2 : m < 9223372036854775808) (w : World) :
    Calls Tryz.prog 65 #[.int .i64 m, .int .i64 x] w fun e w' => e = .returned (.agg #[.bool (decide (m < 0)), .int .u64 m.natAbs, .int .i64 x, .bool false]) ∧ Ext w w' := by
  by_cases h : m < 0
  · have hn : (m.natAbs : Int) = -m := by omega
    rw [hn, decide_eq_true h]
    refine exactly_neg m x h h1 ?_ w
    by_cases hm : m = -9223372036854775808
    · subst hm; decide +kernel
    · have e1 : wrap64 (-m) = -m := by unfold wrap64; omega
      rw [e1]; exact IntWalk.u64_in _ ⟨by omega, by omega⟩
  · have hn : (m.natAbs : Int) = m := by omega
    rw [hn, decide_eq_false h]
    exact exactly_pos m x h h2 (IntWalk.u64_in _ ⟨by omega, by omega⟩) w

end Go.Proofs.YtoeahfddnjbhbaaGreatDoor
