/- Layer 1: divisions and powers. -/
import Derived.Test.YtmcajdfbkhaplaaWb
import Derived.Lib.Hide
import Derived.Deep.QuietTactic
import Derived.BigQuiet
import Derived.Test.YtmcajdfbkhaplaaExt
namespace Go.Proofs.Ytmcajdfbkhaplaa
open Go.RowKit

theorem division_any (a b : Int) (w : World) :
    Calls Try.prog 79 #[.int .i64 a, .int .i64 b] w fun e w' => e = .returned (.int .i64 (divE a b)) ∧ w = w' := by
  rcases Bool.eq_false_or_eq_true (okB a) with ha | ha <;>
  rcases Bool.eq_false_or_eq_true (okB b) with hb | hb <;>
  rcases Decidable.em (b = 0) with hz | hz <;>
  (go_enter Try.func79, Try.ntmps79
   go_wp2_with (first | (go_at_call 76; refine (bothValid_any _ _ _).mono ?_; rintro e w' ⟨rfl, rfl⟩))
   all_goals go_ret
   all_goals exact ⟨by first | (simp [divE, ha, hb, hz]; done) | (simp_all [divE]), rfl⟩)

theorem quo_any (a b : Int) (w : World) :
    Calls Try.prog 35 #[.int .i64 a, .int .i64 b] w fun e w' => e = .returned (.tuple #[.int .i64 (quoV a b), .int .i64 (divE a b)]) ∧ w = w' := by
  rcases divE_3 a b with hd | hd | hd
  · obtain ⟨ha, hb, hz⟩ := divE_0 hd
    obtain ⟨q, r, hq, hr, qb, qb1, q1, q2, r1, r2, r3, r4⟩ := divAt ha hz
    have hv : quoV a b = q := by simp [quoV, hd, hq]
    have g := okB_t.1 ha
    have g' := okB_t.1 hb
    go_enter Try.func35, Try.ntmps35
    go_wp2_with (first | (go_at_call 79; refine (division_any _ _ _).mono ?_; rintro e w' ⟨rfl, rfl⟩))
    go_ret2
    exact ⟨by simp [hd, hv], rfl⟩
  all_goals
    have hv : quoV a b = 0 := by simp [quoV, hd]
    go_enter Try.func35, Try.ntmps35
    go_wp2_with (first | (go_at_call 79; refine (division_any _ _ _).mono ?_; rintro e w' ⟨rfl, rfl⟩))
    go_ret2
    exact ⟨by simp [hd, hv], rfl⟩

theorem rem_any (a b : Int) (w : World) :
    Calls Try.prog 37 #[.int .i64 a, .int .i64 b] w fun e w' => e = .returned (.tuple #[.int .i64 (remV a b), .int .i64 (divE a b)]) ∧ w = w' := by
  rcases divE_3 a b with hd | hd | hd
  · obtain ⟨ha, hb, hz⟩ := divE_0 hd
    obtain ⟨q, r, hq, hr, qb, qb1, q1, q2, r1, r2, r3, r4⟩ := divAt ha hz
    have hv : remV a b = r := by simp [remV, hd, hr]
    have g := okB_t.1 ha
    have g' := okB_t.1 hb
    have r5 : -2147483647 ≤ r := by omega
    have r6 : r ≤ 2147483647 := by omega
    go_enter Try.func37, Try.ntmps37
    go_wp2_with (first | (go_at_call 79; refine (division_any _ _ _).mono ?_; rintro e w' ⟨rfl, rfl⟩))
    go_ret2
    exact ⟨by simp [hd, hv], rfl⟩
  all_goals
    have hv : remV a b = 0 := by simp [remV, hd]
    go_enter Try.func37, Try.ntmps37
    go_wp2_with (first | (go_at_call 79; refine (division_any _ _ _).mono ?_; rintro e w' ⟨rfl, rfl⟩))
    go_ret2
    exact ⟨by simp [hd, hv], rfl⟩

theorem flo_any (a b : Int) (w : World) (ha : okB a = true) (hb : okB b = true) (hz : b ≠ 0) :
    Calls Try.prog 80 #[.int .i64 a, .int .i64 b] w fun e w' => e = .returned (.int .i64 (flo a b)) ∧ Ext w w' := by
  obtain ⟨q, r, hq, hr, qb, qb1, q1, q2, r1, r2, r3, r4⟩ := divAt ha hz
  have g := okB_t.1 ha
  have g' := okB_t.1 hb
  have r5 : -2147483647 ≤ r := by omega
  have r6 : r ≤ 2147483647 := by omega
  have e1 : IntKind.i64.wrap q = q := IntWalk.i64_in _ ⟨by omega, by omega⟩
  have e2 : IntKind.i64.wrap r = r := IntWalk.i64_in _ ⟨by omega, by omega⟩
  have hv : flo a b = if (decide (r ≠ 0) && (decide (r < 0) != decide (b < 0))) then q - 1 else q := by simp only [flo, flB, hq, hr]
  rcases Int.lt_trichotomy r 0 with h | h | h <;> rcases Int.lt_or_gt_of_ne hz with h' | h' <;>
  (first
   | have hw : flo a b = q := by rw [hv, if_neg (by simp; omega)]
   | have hw : flo a b = q - 1 := by rw [hv, if_pos (by simp; omega)]
   rw [hw]
   first | have d1 : (r != 0) = true := by (simp; omega) | have d1 : (r != 0) = false := by (simp; omega)
   first | have d2 : (decide (r < 0)) = true := by (simp; omega) | have d2 : (decide (r < 0)) = false := by (simp; omega)
   first | have d3 : (decide (b < 0)) = true := by (simp; omega) | have d3 : (decide (b < 0)) = false := by (simp; omega)
   clear hv hw
   go_enter Try.func80, Try.ntmps80
   go_wp2
   go_quiet (fail)
   go_wp2
   all_goals go_ret
   all_goals exact ⟨by first | (simp ; done) | (simp [e1, h, h']; done), (Ext.refl _).drewN _⟩)

theorem floor_any (a b : Int) (w : World) :
    Calls Try.prog 39 #[.int .i64 a, .int .i64 b] w fun e w' => e = .returned (.tuple #[.int .i64 (floV a b), .int .i64 (divE a b)]) ∧ Ext w w' := by
  rcases divE_3 a b with hd | hd | hd
  · obtain ⟨ha, hb, hz⟩ := divE_0 hd
    obtain ⟨q, r, hq, hr, qb, qb1, q1, q2, r1, r2, r3, r4⟩ := divAt ha hz
    have g := okB_t.1 ha
    have g' := okB_t.1 hb
    have r5 : -2147483647 ≤ r := by omega
    have r6 : r ≤ 2147483647 := by omega
    have hv : floV a b = flo a b := by simp [floV, hd]
    go_enter Try.func39, Try.ntmps39
    go_wp2_with (first | (go_at_call 79; refine (division_any _ _ _).mono ?_; rintro e w' ⟨rfl, rfl⟩) | (go_at_call 80; refine (flo_any _ _ _ ha hb hz).mono ?_; rintro e w' ⟨rfl, hx⟩))
    all_goals go_ret2
    all_goals exact ⟨by simp [hd, hv], by first | exact Ext.refl _ | assumption⟩
  all_goals
    have hv : floV a b = 0 := by simp [floV, hd]
    go_enter Try.func39, Try.ntmps39
    go_wp2_with (first | (go_at_call 79; refine (division_any _ _ _).mono ?_; rintro e w' ⟨rfl, rfl⟩) | (go_at_call 80; refine (flo_any _ _ _ ha hb hz).mono ?_; rintro e w' ⟨rfl, hx⟩))
    go_ret2
    exact ⟨by simp [hd, hv], by first | exact Ext.refl _ | assumption⟩

theorem mod_any (a b : Int) (w : World) :
    Calls Try.prog 41 #[.int .i64 a, .int .i64 b] w fun e w' => e = .returned (.tuple #[.int .i64 (modV a b), .int .i64 (divE a b)]) ∧ Ext w w' := by
  rcases divE_3 a b with hd | hd | hd
  · obtain ⟨ha, hb, hz⟩ := divE_0 hd
    obtain ⟨q, r, hq, hr, qb, qb1, q1, q2, r1, r2, r3, r4⟩ := divAt ha hz
    have g := okB_t.1 ha
    have g' := okB_t.1 hb
    have r5 : -2147483647 ≤ r := by omega
    have r6 : r ≤ 2147483647 := by omega
    have e1 : flo a b * b = a - modV a b := by
      simp only [modV, hd, if_true, flm, flo]; split <;> simp only [hq, hr, qb, qb1] <;> omega
    have m1 : -2147483647 ≤ modV a b ∧ modV a b ≤ 2147483647 := by
      simp only [modV, hd, if_true, flm, hr]; split
      · rename_i hf; simp only [flB, hr] at hf; simp at hf; omega
      · omega
    have m2 : -4294967294 ≤ a - modV a b ∧ a - modV a b ≤ 4294967294 := by omega
    go_enter Try.func41, Try.ntmps41
    go_wp2_with (first | (go_at_call 79; refine (division_any _ _ _).mono ?_; rintro e w' ⟨rfl, rfl⟩) | (go_at_call 80; refine (flo_any _ _ _ ha hb hz).mono ?_; rintro e w' ⟨rfl, hx⟩))
    all_goals go_ret2
    all_goals exact ⟨by simp [hd]; omega, by assumption⟩
  all_goals
    have hv : modV a b = 0 := by simp [modV, hd]
    go_enter Try.func41, Try.ntmps41
    go_wp2_with (first | (go_at_call 79; refine (division_any _ _ _).mono ?_; rintro e w' ⟨rfl, rfl⟩) | (go_at_call 80; refine (flo_any _ _ _ ha hb hz).mono ?_; rintro e w' ⟨rfl, hx⟩))
    go_ret2
    exact ⟨by simp [hd, hv], by first | exact Ext.refl _ | assumption⟩

theorem rquo_any (a b : Int) (w : World) :
    Calls Try.prog 36 #[.int .i64 a, .int .i64 b] w fun e w' => e = .returned (.tuple #[.int .i64 (quoV a b), .int .i64 (divE a b)]) ∧ w = w' := by
  rcases divE_3 a b with hd | hd | hd
  · obtain ⟨ha, hb, hz⟩ := divE_0 hd
    obtain ⟨q, r, hq, hr, qb, qb1, q1, q2, r1, r2, r3, r4⟩ := divAt ha hz
    have g := okB_t.1 ha
    have g' := okB_t.1 hb
    have hv : quoV a b = q := by simp [quoV, hd, hq]
    go_enter Try.func36, Try.ntmps36
    go_wp2_with (first | (go_at_call 21; refine (rvalid_any _ _).mono ?_; rintro e w' ⟨rfl, rfl⟩))
    go_ret2
    exact ⟨by simp [hd, hv], rfl⟩
  · have hv : quoV a b = 0 := by simp [quoV, hd]
    rcases divE_1 hd with ha | ⟨ha, hb⟩ <;>
    (go_enter Try.func36, Try.ntmps36
     go_wp2_with (first | (go_at_call 21; refine (rvalid_any _ _).mono ?_; rintro e w' ⟨rfl, rfl⟩))
     go_ret2
     exact ⟨by simp [hd, hv], rfl⟩)
  · have hv : quoV a b = 0 := by simp [quoV, hd]
    obtain ⟨ha, hb, hz⟩ := divE_5 hd
    go_enter Try.func36, Try.ntmps36
    go_wp2_with (first | (go_at_call 21; refine (rvalid_any _ _).mono ?_; rintro e w' ⟨rfl, rfl⟩))
    go_ret2
    exact ⟨by simp [hd, hv], rfl⟩

theorem rrem_any (a b : Int) (w : World) :
    Calls Try.prog 38 #[.int .i64 a, .int .i64 b] w fun e w' => e = .returned (.tuple #[.int .i64 (remV a b), .int .i64 (divE a b)]) ∧ w = w' := by
  rcases divE_3 a b with hd | hd | hd
  · obtain ⟨ha, hb, hz⟩ := divE_0 hd
    obtain ⟨q, r, hq, hr, qb, qb1, q1, q2, r1, r2, r3, r4⟩ := divAt ha hz
    have g := okB_t.1 ha
    have g' := okB_t.1 hb
    have r5 : -2147483647 ≤ r := by omega
    have r6 : r ≤ 2147483647 := by omega
    have hQ : quoV a b = q := by simp [quoV, hd, hq]
    have hv : remV a b = r := by simp [remV, hd, hr]
    have e3 : a - (a - r) = r := by omega
    go_enter Try.func38, Try.ntmps38
    go_wp2_with (first | (go_at_call 36; refine (rquo_any _ _ _).mono ?_; rintro e w' ⟨rfl, rfl⟩))
    all_goals go_ret2
    all_goals exact ⟨by simp [hd, hv], rfl⟩
  all_goals
    have hv : remV a b = 0 := by simp [remV, hd]
    go_enter Try.func38, Try.ntmps38
    go_wp2_with (first | (go_at_call 36; refine (rquo_any _ _ _).mono ?_; rintro e w' ⟨rfl, rfl⟩))
    go_ret2
    exact ⟨by simp [hd, hv], rfl⟩

theorem rfloor_any (a b : Int) (w : World) :
    Calls Try.prog 40 #[.int .i64 a, .int .i64 b] w fun e w' => e = .returned (.tuple #[.int .i64 (floV a b), .int .i64 (divE a b)]) ∧ w = w' := by
  rcases divE_3 a b with hd | hd | hd
  · obtain ⟨ha, hb, hz⟩ := divE_0 hd
    obtain ⟨q, r, hq, hr, qb, qb1, q1, q2, r1, r2, r3, r4⟩ := divAt ha hz
    have g := okB_t.1 ha
    have g' := okB_t.1 hb
    have r5 : -2147483647 ≤ r := by omega
    have r6 : r ≤ 2147483647 := by omega
    have hQ : quoV a b = q := by simp [quoV, hd, hq]
    have e3 : a - (a - r) = r := by omega
    have hv : floV a b = if (decide (r ≠ 0) && (decide (r < 0) != decide (b < 0))) then q - 1 else q := by simp only [floV, hd, if_true, flo, flB, hq, hr]
    rcases Int.lt_trichotomy r 0 with h | h | h <;> rcases Int.lt_or_gt_of_ne hz with h' | h' <;> rcases Int.lt_or_le a 0 with h'' | h'' <;> try omega
    all_goals
      first
      | have hw : floV a b = q := by rw [hv, if_neg (by simp; omega)]
      | have hw : floV a b = q - 1 := by rw [hv, if_pos (by simp; omega)]
      first | have d1 : (r != 0) = true := by (simp; omega) | have d1 : (r != 0) = false := by (simp; omega)
      first | have d2 : (decide (a < 0)) = true := by (simp; omega) | have d2 : (decide (a < 0)) = false := by (simp; omega)
      first | have d3 : (decide (b < 0)) = true := by (simp; omega) | have d3 : (decide (b < 0)) = false := by (simp; omega)
      clear hv
      go_enter Try.func40, Try.ntmps40
      go_wp2_with (first | (go_at_call 36; refine (rquo_any _ _ _).mono ?_; rintro e w' ⟨rfl, rfl⟩))
      all_goals go_ret2
      all_goals exact ⟨by simp [hd, hw], rfl⟩
  all_goals
    have hv : floV a b = 0 := by simp [floV, hd]
    go_enter Try.func40, Try.ntmps40
    go_wp2_with (first | (go_at_call 36; refine (rquo_any _ _ _).mono ?_; rintro e w' ⟨rfl, rfl⟩))
    go_ret2
    exact ⟨by simp [hd, hv], rfl⟩

theorem rmod_any (a b : Int) (w : World) :
    Calls Try.prog 42 #[.int .i64 a, .int .i64 b] w fun e w' => e = .returned (.tuple #[.int .i64 (modV a b), .int .i64 (divE a b)]) ∧ w = w' := by
  rcases divE_3 a b with hd | hd | hd
  · obtain ⟨ha, hb, hz⟩ := divE_0 hd
    obtain ⟨q, r, hq, hr, qb, qb1, q1, q2, r1, r2, r3, r4⟩ := divAt ha hz
    have g := okB_t.1 ha
    have g' := okB_t.1 hb
    have r5 : -2147483647 ≤ r := by omega
    have r6 : r ≤ 2147483647 := by omega
    have hF : floV a b = flo a b := by simp [floV, hd]
    have e1 : flo a b * b = a - modV a b := by
      simp only [modV, hd, if_true, flm, flo]; split <;> simp only [hq, hr, qb, qb1] <;> omega
    have m1 : -2147483647 ≤ modV a b ∧ modV a b ≤ 2147483647 := by
      simp only [modV, hd, if_true, flm, hr]; split
      · rename_i hf; simp only [flB, hr] at hf; simp at hf; omega
      · omega
    have m2 : -4294967294 ≤ a - modV a b ∧ a - modV a b ≤ 4294967294 := by omega
    go_enter Try.func42, Try.ntmps42
    go_wp2_with (first | (go_at_call 40; refine (rfloor_any _ _ _).mono ?_; rintro e w' ⟨rfl, rfl⟩))
    all_goals go_ret2
    all_goals exact ⟨by simp [hd]; omega, rfl⟩
  all_goals
    have hv : modV a b = 0 := by simp [modV, hd]
    go_enter Try.func42, Try.ntmps42
    go_wp2_with (first | (go_at_call 40; refine (rfloor_any _ _ _).mono ?_; rintro e w' ⟨rfl, rfl⟩))
    go_ret2
    exact ⟨by simp [hd, hv], rfl⟩

end Go.Proofs.Ytmcajdfbkhaplaa
