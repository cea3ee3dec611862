/- Layer 2: the reference's square root of a real: the same as the program's. -/
import Derived.Test.YthmndafjogndaaaGreatDoorUv
namespace Go.Proofs.YthmndafjogndaaaGreatDoor
open Go.RowKit

theorem sqrt_ref {m x : Int} (h : Vd m x) (h0 : ¬ m < 0) : Ret 36 #[.agg #[.int .i64 m, .int .i64 x]] (.agg #[.int .i64 (sqrtV m x).1.1, .int .i64 (sqrtV m x).1.2]) ∧ (sqrtV m x).2 = 0 := by
  obtain ⟨r, hr, hrd⟩ := sqrt_char h
  obtain ⟨ht, hle⟩ := root_top h (root_room h) hr
  have e := @resI_at false r hle
  rw [← hrd] at e
  simp only [Bool.false_eq_true, if_false] at e
  have e1 : sqrtV m x = (atV r, 0) := by unfold sqrtV; rw [e]; rfl
  rw [e1]
  refine ⟨fun w => ?_, rfl⟩
  have OA := of_any h
  rw [decide_eq_false h0] at OA
  obtain ⟨K, k1, k2⟩ : ∃ K, 400 ≤ K ∧ K ≤ 400 := ⟨400, by omega, by omega⟩
  have b1 := sc_lt h (K := K) (by omega)
  refine rsqrt_walk m x _ _ (rootQ m x) r _ OA rfl (fits_mul b1 (tw_lt (show 152 < K by omega)) (by omega)).2 (fun r hr => ?_) (fun k => root_cmp h k) ht hr w
  exact (fits_mul (mid_bd (K := K) (by omega) (by omega)) (mid_bd (K := K) (by omega) (by omega)) (by omega)).2
end Go.Proofs.YthmndafjogndaaaGreatDoor
