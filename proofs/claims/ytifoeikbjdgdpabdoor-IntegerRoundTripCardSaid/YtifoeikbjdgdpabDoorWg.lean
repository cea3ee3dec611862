/- Layer 1: the sum of two results. -/
import Derived.Test.YtifoeikbjdgdpabDoorMc
import Derived.Test.YtifoeikbjdgdpabDoorWe
namespace Go.Proofs.YtifoeikbjdgdpabDoor
open Go.RowKit

theorem plus_any (a e b f : Int) (w : World) :
    Calls Tryd.prog 25 #[.int .i64 a, .int .i64 e, .int .i64 b, .int .i64 f] w fun e' w' => e' = .returned (.tuple #[.int .i64 (plusV a e b f), .int .i64 (plusE a e b f)]) ∧ w = w' := by
  rcases Decidable.em (e = 0) with h1 | h1
  · have d1 : (e != 0) = false := by simp [h1]
    rcases Decidable.em (f = 0) with h2 | h2
    · have d2 : (f != 0) = false := by simp [h2]
      have v : plusV a e b f = addV a b := by simp [plusV, h1, h2]
      have u : plusE a e b f = addE a b := by simp [plusE, h1, h2]
      clear h1 h2
      go_enter Tryd.func25, Tryd.ntmps25
      go_wp2_with (first | (go_at_call 41; refine (add_any _ _ _).mono ?_; rintro e w' ⟨rfl, rfl⟩))
      all_goals go_ret2
      all_goals exact ⟨by simp [v, u], rfl⟩
    · have d2 : (f != 0) = true := by simp [h2]
      have v : plusV a e b f = 0 := by simp [plusV, h1, h2]
      have u : plusE a e b f = f := by simp [plusE, h1, h2]
      clear h1
      go_enter Tryd.func25, Tryd.ntmps25
      go_wp2_with (first | (go_at_call 41; refine (add_any _ _ _).mono ?_; rintro e w' ⟨rfl, rfl⟩))
      all_goals go_ret2
      all_goals exact ⟨by simp [v, u], rfl⟩
  · have d1 : (e != 0) = true := by simp [h1]
    have v : plusV a e b f = 0 := by simp [plusV, h1]
    have u : plusE a e b f = e := by simp [plusE, h1]
    go_enter Tryd.func25, Tryd.ntmps25
    go_wp2_with (first | (go_at_call 41; refine (add_any _ _ _).mono ?_; rintro e w' ⟨rfl, rfl⟩))
    all_goals go_ret2
    all_goals exact ⟨by simp [v, u], rfl⟩
end Go.Proofs.YtifoeikbjdgdpabDoor
