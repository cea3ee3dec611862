/- Layer 1: divisions and powers. -/
import Derived.Test.YtifoeikbjdgdpabDoorWb
import Derived.Lib.Hide
import Derived.Deep.QuietTactic
import Derived.BigQuiet
import Derived.Test.YtifoeikbjdgdpabDoorExt
namespace Go.Proofs.YtifoeikbjdgdpabDoor
open Go.RowKit

theorem division_any (a b : Int) (w : World) :
    Calls Tryd.prog 64 #[.int .i64 a, .int .i64 b] w fun e w' => e = .returned (.int .i64 (divE a b)) ∧ w = w' := by
  rcases Bool.eq_false_or_eq_true (okB a) with ha | ha <;>
  rcases Bool.eq_false_or_eq_true (okB b) with hb | hb <;>
  rcases Decidable.em (b = 0) with hz | hz <;>
  (go_enter Tryd.func64, Tryd.ntmps64
   go_wp2_with (first | (go_at_call 44; refine (bothValid_any _ _ _).mono ?_; rintro e w' ⟨rfl, rfl⟩))
   all_goals go_ret
   all_goals exact ⟨by first | (simp [divE, ha, hb, hz]; done) | (simp_all [divE]), rfl⟩)

theorem quo_any (a b : Int) (w : World) :
    Calls Tryd.prog 42 #[.int .i64 a, .int .i64 b] w fun e w' => e = .returned (.tuple #[.int .i64 (quoV a b), .int .i64 (divE a b)]) ∧ w = w' := by
  rcases divE_3 a b with hd | hd | hd
  · obtain ⟨ha, hb, hz⟩ := divE_0 hd
    obtain ⟨q, r, hq, hr, qb, qb1, q1, q2, r1, r2, r3, r4⟩ := divAt ha hz
    have hv : quoV a b = q := by simp [quoV, hd, hq]
    have g := okB_t.1 ha
    have g' := okB_t.1 hb
    go_enter Tryd.func42, Tryd.ntmps42
    go_wp2_with (first | (go_at_call 64; refine (division_any _ _ _).mono ?_; rintro e w' ⟨rfl, rfl⟩))
    go_ret2
    exact ⟨by simp [hd, hv], rfl⟩
  all_goals
    have hv : quoV a b = 0 := by simp [quoV, hd]
    go_enter Tryd.func42, Tryd.ntmps42
    go_wp2_with (first | (go_at_call 64; refine (division_any _ _ _).mono ?_; rintro e w' ⟨rfl, rfl⟩))
    go_ret2
    exact ⟨by simp [hd, hv], rfl⟩

theorem flo_any (a b : Int) (w : World) (ha : okB a = true) (hb : okB b = true) (hz : b ≠ 0) :
    Calls Tryd.prog 65 #[.int .i64 a, .int .i64 b] w fun e w' => e = .returned (.int .i64 (flo a b)) ∧ Ext w w' := by
  obtain ⟨q, r, hq, hr, qb, qb1, q1, q2, r1, r2, r3, r4⟩ := divAt ha hz
  have g := okB_t.1 ha
  have g' := okB_t.1 hb
  have r5 : -2147483647 ≤ r := by omega
  have r6 : r ≤ 2147483647 := by omega
  have e1 : IntKind.i64.wrap q = q := IntWalk.i64_in _ ⟨by omega, by omega⟩
  have e2 : IntKind.i64.wrap r = r := IntWalk.i64_in _ ⟨by omega, by omega⟩
  have hv : flo a b = if (decide (r ≠ 0) && (decide (r < 0) != decide (b < 0))) then q - 1 else q := by simp only [flo, flB, hq, hr]
  rcases Int.lt_trichotomy r 0 with h | h | h <;> rcases Int.lt_or_gt_of_ne hz with h' | h' <;>
  (first
   | have hw : flo a b = q := by rw [hv, if_neg (by simp; omega)]
   | have hw : flo a b = q - 1 := by rw [hv, if_pos (by simp; omega)]
   rw [hw]
   first | have d1 : (r != 0) = true := by (simp; omega) | have d1 : (r != 0) = false := by (simp; omega)
   first | have d2 : (decide (r < 0)) = true := by (simp; omega) | have d2 : (decide (r < 0)) = false := by (simp; omega)
   first | have d3 : (decide (b < 0)) = true := by (simp; omega) | have d3 : (decide (b < 0)) = false := by (simp; omega)
   clear hv hw
   go_enter Tryd.func65, Tryd.ntmps65
   go_wp2
   go_quiet (fail)
   go_wp2
   all_goals go_ret
   all_goals exact ⟨by first | (simp ; done) | (simp [e1, h, h']; done), (Ext.refl _).drewN _⟩)

theorem floor_any (a b : Int) (w : World) :
    Calls Tryd.prog 43 #[.int .i64 a, .int .i64 b] w fun e w' => e = .returned (.tuple #[.int .i64 (floV a b), .int .i64 (divE a b)]) ∧ Ext w w' := by
  rcases divE_3 a b with hd | hd | hd
  · obtain ⟨ha, hb, hz⟩ := divE_0 hd
    obtain ⟨q, r, hq, hr, qb, qb1, q1, q2, r1, r2, r3, r4⟩ := divAt ha hz
    have g := okB_t.1 ha
    have g' := okB_t.1 hb
    have r5 : -2147483647 ≤ r := by omega
    have r6 : r ≤ 2147483647 := by omega
    have hv : floV a b = flo a b := by simp [floV, hd]
    go_enter Tryd.func43, Tryd.ntmps43
    go_wp2_with (first | (go_at_call 64; refine (division_any _ _ _).mono ?_; rintro e w' ⟨rfl, rfl⟩) | (go_at_call 65; refine (flo_any _ _ _ ha hb hz).mono ?_; rintro e w' ⟨rfl, hx⟩))
    all_goals go_ret2
    all_goals exact ⟨by simp [hd, hv], by first | exact Ext.refl _ | assumption⟩
  all_goals
    have hv : floV a b = 0 := by simp [floV, hd]
    go_enter Tryd.func43, Tryd.ntmps43
    go_wp2_with (first | (go_at_call 64; refine (division_any _ _ _).mono ?_; rintro e w' ⟨rfl, rfl⟩) | (go_at_call 65; refine (flo_any _ _ _ ha hb hz).mono ?_; rintro e w' ⟨rfl, hx⟩))
    go_ret2
    exact ⟨by simp [hd, hv], by first | exact Ext.refl _ | assumption⟩

end Go.Proofs.YtifoeikbjdgdpabDoor
