/- Layer 2: helpers of the law of nearest reals. -/
import Derived.Test.YtehmpffffjcloaaGreatDoorGr
namespace Go.Proofs.YtehmpffffjcloaaGreatDoor
open Go.RowKit

theorem scaled_z (x : Int) (w : World) : Calls Tryz.prog 57 #[.agg #[.int .i64 0, .int .i64 x]] w fun e w' => e = .returned (.tuple #[.int .i64 0, .bool true]) ∧ Ext w w' := by
  go_enter Tryz.func57, Tryz.ntmps57
  go_wp2
  refine bodyPost_ret (v := .tuple #[.int .i64 0, .bool true]) ?_ rfl ⟨rfl, ?_⟩
  · simp [results, Tryz.results57, go_sem]
  · repeat (first | with_reducible exact Ext.refl _ | with_reducible refine Ext.alloc ?_ _)
theorem scaled_lo (m x : Int) (h0 : (m == 0) = false) (h : x < -60) (w : World) : Calls Tryz.prog 57 #[.agg #[.int .i64 m, .int .i64 x]] w fun e w' => e = .returned (.tuple #[.int .i64 0, .bool false]) ∧ Ext w w' := by
  go_enter Tryz.func57, Tryz.ntmps57
  go_wp2
  refine bodyPost_ret (v := .tuple #[.int .i64 0, .bool false]) ?_ rfl ⟨rfl, ?_⟩
  · simp [results, Tryz.results57, go_sem]
  · repeat (first | with_reducible exact Ext.refl _ | with_reducible refine Ext.alloc ?_ _)
theorem scaled_hi (m x : Int) (h0 : (m == 0) = false) (h1 : ¬ x < -60) (h : x > -22) (w : World) : Calls Tryz.prog 57 #[.agg #[.int .i64 m, .int .i64 x]] w fun e w' => e = .returned (.tuple #[.int .i64 0, .bool false]) ∧ Ext w w' := by
  go_enter Tryz.func57, Tryz.ntmps57
  go_wp2
  refine bodyPost_ret (v := .tuple #[.int .i64 0, .bool false]) ?_ rfl ⟨rfl, ?_⟩
  · simp [results, Tryz.results57, go_sem]
  · repeat (first | with_reducible exact Ext.refl _ | with_reducible refine Ext.alloc ?_ _)
theorem scaled_ok (m x K : Int) (h0 : (m == 0) = false) (h1 : ¬ x < -60) (h : ¬ x > -22) (hk : IntKind.i64.wrap (m * 2 ^ (x + 60).toNat) = K) (_hk2 : wrap64 (m * 2 ^ (x + 60).toNat) = K)
    (hu : IntKind.u64.wrap (x + 60) = x + 60) (hi : IntKind.i64.wrap (x + 60) = x + 60) (w : World) :
    Calls Tryz.prog 57 #[.agg #[.int .i64 m, .int .i64 x]] w fun e w' => e = .returned (.tuple #[.int .i64 K, .bool true]) ∧ Ext w w' := by
  go_enter Tryz.func57, Tryz.ntmps57
  go_wp2
  refine bodyPost_ret (v := .tuple #[.int .i64 K, .bool true]) ?_ rfl ⟨rfl, ?_⟩
  · simp [results, Tryz.results57, go_sem]
  · repeat (first | with_reducible exact Ext.refl _ | with_reducible refine Ext.alloc ?_ _)
theorem scaled_any {m x : Int} (h : Vd m x) : Ret 57 #[.agg #[.int .i64 m, .int .i64 x]] (.tuple #[.int .i64 (scaledV m x).1, .bool (scaledV m x).2]) := fun w => by
  unfold scaledV
  by_cases h0 : m = 0
  · rw [if_pos h0, h0]; exact scaled_z x w
  have e0 : (m == 0) = false := by simpa using h0
  rw [if_neg h0]
  by_cases h1 : x < -60
  · rw [if_pos h1]; exact scaled_lo m x e0 h1 w
  rw [if_neg h1]
  by_cases h2 : -22 < x
  · rw [if_pos h2]; exact scaled_hi m x e0 h1 h2 w
  rw [if_neg h2]
  have h3 : 2 ^ (x + 60).toNat ≤ 2 ^ 38 := Nat.pow_le_pow_right (by omega) (by omega)
  have h4 : m.natAbs * 2 ^ (x + 60).toNat ≤ 16777216 * 2 ^ 38 := Nat.mul_le_mul (by have := h.1; omega) h3
  have h5 : (m * 2 ^ (x + 60).toNat).natAbs ≤ 4611686018427387904 := by
    rw [Int.natAbs_mul, Int.natAbs_pow]
    exact Nat.le_trans h4 (by decide +kernel)
  exact scaled_ok m x _ e0 h1 h2 (IntWalk.i64_in _ ⟨by omega, by omega⟩) (by unfold wrap64; omega) (IntWalk.u64_in _ ⟨by omega, by omega⟩) (IntWalk.i64_in _ ⟨by omega, by omega⟩) w
theorem distance_any (a b d : Int) (h1 : (a - b).natAbs ≤ 9223372036854775807) (hd : max (a - b) (b - a) = d) : Ret 58 #[.int .i64 a, .int .i64 b] (.int .i64 d) := fun w => by
  have e1 : IntKind.i64.wrap (a - b) = a - b := IntWalk.i64_in _ ⟨by omega, by omega⟩
  have e2 : IntKind.i64.wrap (b - a) = b - a := IntWalk.i64_in _ ⟨by omega, by omega⟩
  clear h1
  subst hd
  go_enter Tryz.func58, Tryz.ntmps58
  go_wp2
  go_ret
  exact ⟨rfl, Ext.refl _⟩
end Go.Proofs.YtehmpffffjcloaaGreatDoor
