/- Layer 2: the reference's Valid. -/
import Derived.Test.YtogfiekbikechaaGreatDoorGr
namespace Go.Proofs.YtogfiekbikechaaGreatDoor
open Go.RowKit

theorem refvalid_z (x : Int) (w : World) : Calls Tryz.prog 16 #[.agg #[.int .i64 0, .int .i64 x]] w fun e w' => e = .returned (.bool (x == 0)) ∧ Ext w w' := by
  go_enter Tryz.func16, Tryz.ntmps16
  go_wp2
  refine bodyPost_ret (v := .bool (x == 0)) ?_ rfl ⟨rfl, ?_⟩
  · simp [results, Tryz.results16, go_sem]
  · repeat (first | with_reducible exact Ext.refl _ | with_reducible refine Ext.alloc ?_ _)
theorem refvalid_n1 (m x M : Int) (hn : m < 0) (w1 : IntKind.i64.wrap (-m) = M) (_w2 : wrap64 (-m) = M) (_w3 : IntKind.i64.wrap (0 - m) = M) (_w4 : wrap64 (0 - m) = M) (_z0 : (m == 0) = false) (z1 : (M == 0) = false) (_z2 : ¬ M = 0) (_z3 : ¬ m = 0) (a1 : M < 0) (w : World) : Calls Tryz.prog 16 #[.agg #[.int .i64 m, .int .i64 x]] w fun e w' => e = .returned (.bool (false)) ∧ Ext w w' := by
  go_enter Tryz.func16, Tryz.ntmps16
  go_wp2
  refine bodyPost_ret (v := .bool (false)) ?_ rfl ⟨rfl, ?_⟩
  · simp [results, Tryz.results16, go_sem]
  · repeat (first | with_reducible exact Ext.refl _ | with_reducible refine Ext.alloc ?_ _)
theorem refvalid_n2 (m x M : Int) (hn : m < 0) (w1 : IntKind.i64.wrap (-m) = M) (_w2 : wrap64 (-m) = M) (_w3 : IntKind.i64.wrap (0 - m) = M) (_w4 : wrap64 (0 - m) = M) (_z0 : (m == 0) = false) (z1 : (M == 0) = false) (_z2 : ¬ M = 0) (_z3 : ¬ m = 0) (a1 : ¬ M < 0) (a2 : M ≥ 16777216) (w : World) : Calls Tryz.prog 16 #[.agg #[.int .i64 m, .int .i64 x]] w fun e w' => e = .returned (.bool (false)) ∧ Ext w w' := by
  go_enter Tryz.func16, Tryz.ntmps16
  go_wp2
  refine bodyPost_ret (v := .bool (false)) ?_ rfl ⟨rfl, ?_⟩
  · simp [results, Tryz.results16, go_sem]
  · repeat (first | with_reducible exact Ext.refl _ | with_reducible refine Ext.alloc ?_ _)
theorem refvalid_n3 (m x M : Int) (hn : m < 0) (w1 : IntKind.i64.wrap (-m) = M) (_w2 : wrap64 (-m) = M) (_w3 : IntKind.i64.wrap (0 - m) = M) (_w4 : wrap64 (0 - m) = M) (_z0 : (m == 0) = false) (z1 : (M == 0) = false) (_z2 : ¬ M = 0) (_z3 : ¬ m = 0) (a1 : ¬ M < 0) (a2 : ¬ M ≥ 16777216) (a3 : x < -150) (w : World) : Calls Tryz.prog 16 #[.agg #[.int .i64 m, .int .i64 x]] w fun e w' => e = .returned (.bool (false)) ∧ Ext w w' := by
  go_enter Tryz.func16, Tryz.ntmps16
  go_wp2
  refine bodyPost_ret (v := .bool (false)) ?_ rfl ⟨rfl, ?_⟩
  · simp [results, Tryz.results16, go_sem]
  · repeat (first | with_reducible exact Ext.refl _ | with_reducible refine Ext.alloc ?_ _)
theorem refvalid_n4 (m x M : Int) (hn : m < 0) (w1 : IntKind.i64.wrap (-m) = M) (_w2 : wrap64 (-m) = M) (_w3 : IntKind.i64.wrap (0 - m) = M) (_w4 : wrap64 (0 - m) = M) (_z0 : (m == 0) = false) (z1 : (M == 0) = false) (_z2 : ¬ M = 0) (_z3 : ¬ m = 0) (a1 : ¬ M < 0) (a2 : ¬ M ≥ 16777216) (a3 : ¬ x < -150) (a4 : x > 150) (w : World) : Calls Tryz.prog 16 #[.agg #[.int .i64 m, .int .i64 x]] w fun e w' => e = .returned (.bool (false)) ∧ Ext w w' := by
  go_enter Tryz.func16, Tryz.ntmps16
  go_wp2
  refine bodyPost_ret (v := .bool (false)) ?_ rfl ⟨rfl, ?_⟩
  · simp [results, Tryz.results16, go_sem]
  · repeat (first | with_reducible exact Ext.refl _ | with_reducible refine Ext.alloc ?_ _)
theorem refvalid_n5 (m x M : Int) (hn : m < 0) (w1 : IntKind.i64.wrap (-m) = M) (_w2 : wrap64 (-m) = M) (_w3 : IntKind.i64.wrap (0 - m) = M) (_w4 : wrap64 (0 - m) = M) (_z0 : (m == 0) = false) (z1 : (M == 0) = false) (_z2 : ¬ M = 0) (_z3 : ¬ m = 0) (a1 : ¬ M < 0) (a2 : ¬ M ≥ 16777216) (a3 : ¬ x < -150) (a4 : ¬ x > 150) (a5 : M ≥ 8388608) (w : World) : Calls Tryz.prog 16 #[.agg #[.int .i64 m, .int .i64 x]] w fun e w' => e = .returned (.bool (true)) ∧ Ext w w' := by
  go_enter Tryz.func16, Tryz.ntmps16
  go_wp2
  refine bodyPost_ret (v := .bool (true)) ?_ rfl ⟨rfl, ?_⟩
  · simp [results, Tryz.results16, go_sem]
  · repeat (first | with_reducible exact Ext.refl _ | with_reducible refine Ext.alloc ?_ _)
theorem refvalid_n6 (m x M : Int) (hn : m < 0) (w1 : IntKind.i64.wrap (-m) = M) (_w2 : wrap64 (-m) = M) (_w3 : IntKind.i64.wrap (0 - m) = M) (_w4 : wrap64 (0 - m) = M) (_z0 : (m == 0) = false) (z1 : (M == 0) = false) (_z2 : ¬ M = 0) (_z3 : ¬ m = 0) (a1 : ¬ M < 0) (a2 : ¬ M ≥ 16777216) (a3 : ¬ x < -150) (a4 : ¬ x > 150) (a5 : ¬ M ≥ 8388608) (w : World) : Calls Tryz.prog 16 #[.agg #[.int .i64 m, .int .i64 x]] w fun e w' => e = .returned (.bool (x == -150)) ∧ Ext w w' := by
  go_enter Tryz.func16, Tryz.ntmps16
  go_wp2
  refine bodyPost_ret (v := .bool (x == -150)) ?_ rfl ⟨rfl, ?_⟩
  · simp [results, Tryz.results16, go_sem]
  · repeat (first | with_reducible exact Ext.refl _ | with_reducible refine Ext.alloc ?_ _)
theorem refvalid_p2 (m x : Int) (hn : ¬ m < 0) (z0 : (m == 0) = false) (_z2 : ¬ m = 0) (a2 : m ≥ 16777216) (w : World) : Calls Tryz.prog 16 #[.agg #[.int .i64 m, .int .i64 x]] w fun e w' => e = .returned (.bool (false)) ∧ Ext w w' := by
  go_enter Tryz.func16, Tryz.ntmps16
  go_wp2
  refine bodyPost_ret (v := .bool (false)) ?_ rfl ⟨rfl, ?_⟩
  · simp [results, Tryz.results16, go_sem]
  · repeat (first | with_reducible exact Ext.refl _ | with_reducible refine Ext.alloc ?_ _)
theorem refvalid_p3 (m x : Int) (hn : ¬ m < 0) (z0 : (m == 0) = false) (_z2 : ¬ m = 0) (a2 : ¬ m ≥ 16777216) (a3 : x < -150) (w : World) : Calls Tryz.prog 16 #[.agg #[.int .i64 m, .int .i64 x]] w fun e w' => e = .returned (.bool (false)) ∧ Ext w w' := by
  go_enter Tryz.func16, Tryz.ntmps16
  go_wp2
  refine bodyPost_ret (v := .bool (false)) ?_ rfl ⟨rfl, ?_⟩
  · simp [results, Tryz.results16, go_sem]
  · repeat (first | with_reducible exact Ext.refl _ | with_reducible refine Ext.alloc ?_ _)
theorem refvalid_p4 (m x : Int) (hn : ¬ m < 0) (z0 : (m == 0) = false) (_z2 : ¬ m = 0) (a2 : ¬ m ≥ 16777216) (a3 : ¬ x < -150) (a4 : x > 150) (w : World) : Calls Tryz.prog 16 #[.agg #[.int .i64 m, .int .i64 x]] w fun e w' => e = .returned (.bool (false)) ∧ Ext w w' := by
  go_enter Tryz.func16, Tryz.ntmps16
  go_wp2
  refine bodyPost_ret (v := .bool (false)) ?_ rfl ⟨rfl, ?_⟩
  · simp [results, Tryz.results16, go_sem]
  · repeat (first | with_reducible exact Ext.refl _ | with_reducible refine Ext.alloc ?_ _)
theorem refvalid_p5 (m x : Int) (hn : ¬ m < 0) (z0 : (m == 0) = false) (_z2 : ¬ m = 0) (a2 : ¬ m ≥ 16777216) (a3 : ¬ x < -150) (a4 : ¬ x > 150) (a5 : m ≥ 8388608) (w : World) : Calls Tryz.prog 16 #[.agg #[.int .i64 m, .int .i64 x]] w fun e w' => e = .returned (.bool (true)) ∧ Ext w w' := by
  go_enter Tryz.func16, Tryz.ntmps16
  go_wp2
  refine bodyPost_ret (v := .bool (true)) ?_ rfl ⟨rfl, ?_⟩
  · simp [results, Tryz.results16, go_sem]
  · repeat (first | with_reducible exact Ext.refl _ | with_reducible refine Ext.alloc ?_ _)
theorem refvalid_p6 (m x : Int) (hn : ¬ m < 0) (z0 : (m == 0) = false) (_z2 : ¬ m = 0) (a2 : ¬ m ≥ 16777216) (a3 : ¬ x < -150) (a4 : ¬ x > 150) (a5 : ¬ m ≥ 8388608) (w : World) : Calls Tryz.prog 16 #[.agg #[.int .i64 m, .int .i64 x]] w fun e w' => e = .returned (.bool (x == -150)) ∧ Ext w w' := by
  go_enter Tryz.func16, Tryz.ntmps16
  go_wp2
  refine bodyPost_ret (v := .bool (x == -150)) ?_ rfl ⟨rfl, ?_⟩
  · simp [results, Tryz.results16, go_sem]
  · repeat (first | with_reducible exact Ext.refl _ | with_reducible refine Ext.alloc ?_ _)
theorem refvalid_any (m x : Int) (h1 : -9223372036854775808 ≤ m) (h2 : m ≤ 9223372036854775807) : Ret 16 #[.agg #[.int .i64 m, .int .i64 x]] (.bool (validV m x)) := fun w => by
  have hv : ∀ b : Bool, (b = true ↔ Vd m x) → validV m x = b := fun b hb => by
    cases b
    · cases e : validV m x
      · rfl
      · exact absurd (hb.2 (vd_iff.1 e)) (by simp)
    · exact vd_iff.2 (hb.1 rfl)
  unfold Vd at hv
  by_cases h0 : m = 0
  · rw [hv (x == 0) (by simp; omega), h0]; exact refvalid_z x w
  have z0 : (m == 0) = false := by simpa using h0
  by_cases hn : m < 0
  · obtain ⟨M, hM⟩ : ∃ M, wrap64 (-m) = M := ⟨_, rfl⟩
    have w4 : wrap64 (0 - m) = M := by rw [← hM, Int.zero_sub]
    have hM2 : m = -9223372036854775808 ∧ M = -9223372036854775808 ∨ m ≠ -9223372036854775808 ∧ M = -m := by unfold wrap64 at hM; omega
    have w1 : IntKind.i64.wrap (-m) = M := by
      rcases hM2 with ⟨e, f⟩ | ⟨e, f⟩
      · rw [e, f]; decide
      · rw [f]; exact IntWalk.i64_in _ ⟨by omega, by omega⟩
    have w3 : IntKind.i64.wrap (0 - m) = M := by rw [Int.zero_sub]; exact w1
    have z1 : (M == 0) = false := by simp; omega
    have z2 : ¬ M = 0 := by omega
    by_cases a1 : M < 0
    · rw [hv false (by simp; omega)]; exact refvalid_n1 m x M hn w1 hM w3 w4 z0 z1 z2 h0 a1 w
    by_cases a2 : M ≥ 16777216
    · rw [hv false (by simp; omega)]; exact refvalid_n2 m x M hn w1 hM w3 w4 z0 z1 z2 h0 a1 a2 w
    by_cases a3 : x < -150
    · rw [hv false (by simp; omega)]; exact refvalid_n3 m x M hn w1 hM w3 w4 z0 z1 z2 h0 a1 a2 a3 w
    by_cases a4 : x > 150
    · rw [hv false (by simp; omega)]; exact refvalid_n4 m x M hn w1 hM w3 w4 z0 z1 z2 h0 a1 a2 a3 a4 w
    by_cases a5 : M ≥ 8388608
    · rw [hv true (by simp; omega)]; exact refvalid_n5 m x M hn w1 hM w3 w4 z0 z1 z2 h0 a1 a2 a3 a4 a5 w
    · rw [hv (x == -150) (by simp; omega)]; exact refvalid_n6 m x M hn w1 hM w3 w4 z0 z1 z2 h0 a1 a2 a3 a4 a5 w
  · by_cases a2 : m ≥ 16777216
    · rw [hv false (by simp; omega)]; exact refvalid_p2 m x hn z0 h0 a2 w
    by_cases a3 : x < -150
    · rw [hv false (by simp; omega)]; exact refvalid_p3 m x hn z0 h0 a2 a3 w
    by_cases a4 : x > 150
    · rw [hv false (by simp; omega)]; exact refvalid_p4 m x hn z0 h0 a2 a3 a4 w
    by_cases a5 : m ≥ 8388608
    · rw [hv true (by simp; omega)]; exact refvalid_p5 m x hn z0 h0 a2 a3 a4 a5 w
    · rw [hv (x == -150) (by simp; omega)]; exact refvalid_p6 m x hn z0 h0 a2 a3 a4 a5 w
end Go.Proofs.YtogfiekbikechaaGreatDoor
