/- Layer 1: what each call on plain integers gives, function by function. -/
import Derived.Test.YtifoeikbjdgdpabDoorWa
namespace Go.Proofs.YtifoeikbjdgdpabDoor
open Go.RowKit

theorem bothValid_any (a b : Int) (w : World) :
    Calls Tryd.prog 44 #[.int .i64 a, .int .i64 b] w fun e w' => e = .returned (.bool (okB a && okB b)) ∧ w = w' := by
  rcases Bool.eq_false_or_eq_true (okB a) with ha | ha <;>
  rcases Bool.eq_false_or_eq_true (okB b) with hb | hb <;>
  (skip
   go_enter Tryd.func44, Tryd.ntmps44
   go_wp2_with (first | (go_at_call 23; refine (valid_any _ _).mono ?_; rintro e w' ⟨rfl, rfl⟩))
   all_goals go_ret
   all_goals exact ⟨by simp [ha, hb], rfl⟩)

theorem fit_any (n : Int) (w : World) :
    Calls Tryd.prog 38 #[.int .i64 n] w fun e w' => e = .returned (.tuple #[.int .i64 (fitV n), .int .i64 (fitE n)]) ∧ w = w' := by
  rcases Bool.eq_false_or_eq_true (okB n) with h | h <;>
  (skip
   go_enter Tryd.func38, Tryd.ntmps38
   go_wp2_with (first | (go_at_call 23; refine (valid_any _ _).mono ?_; rintro e w' ⟨rfl, rfl⟩))
   all_goals go_ret2
   all_goals exact ⟨by simp [fitV, fitE, h], rfl⟩)

theorem add_any (a b : Int) (w : World) :
    Calls Tryd.prog 41 #[.int .i64 a, .int .i64 b] w fun e w' => e = .returned (.tuple #[.int .i64 (addV a b), .int .i64 (addE a b)]) ∧ w = w' := by
  rcases Bool.eq_false_or_eq_true (okB a) with ha | ha <;>
  rcases Bool.eq_false_or_eq_true (okB b) with hb | hb <;>
  (try have g := okB_t.1 ha
   try have g' := okB_t.1 hb
   go_enter Tryd.func41, Tryd.ntmps41
   go_wp2_with (first | (go_at_call 44; refine (bothValid_any _ _ _).mono ?_; rintro e w' ⟨rfl, rfl⟩) | (go_at_call 38; refine (fit_any _ _).mono ?_; rintro e w' ⟨rfl, rfl⟩))
   all_goals go_ret2
   all_goals exact ⟨by simp [addV, addE, ha, hb], rfl⟩)

theorem mul_any (a b : Int) (w : World) :
    Calls Tryd.prog 24 #[.int .i64 a, .int .i64 b] w fun e w' => e = .returned (.tuple #[.int .i64 (mulV a b), .int .i64 (mulE a b)]) ∧ w = w' := by
  rcases Bool.eq_false_or_eq_true (okB a) with ha | ha <;>
  rcases Bool.eq_false_or_eq_true (okB b) with hb | hb <;>
  (try have g := okB_t.1 ha
   try have g' := okB_t.1 hb
   try have gm := mul_fits g.1 g.2 g'.1 g'.2
   go_enter Tryd.func24, Tryd.ntmps24
   go_wp2_with (first | (go_at_call 44; refine (bothValid_any _ _ _).mono ?_; rintro e w' ⟨rfl, rfl⟩) | (go_at_call 38; refine (fit_any _ _).mono ?_; rintro e w' ⟨rfl, rfl⟩))
   all_goals go_ret2
   all_goals exact ⟨by simp [mulV, mulE, ha, hb], rfl⟩)

end Go.Proofs.YtifoeikbjdgdpabDoor
