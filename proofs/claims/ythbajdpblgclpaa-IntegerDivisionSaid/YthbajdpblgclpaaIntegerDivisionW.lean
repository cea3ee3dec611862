/- The walk of IntegerDivision. -/
import Derived.Test.YthbajdpblgclpaaWg
namespace Go.Proofs.Ythbajdpblgclpaa.integerDivision
open Go.RowKit
set_option maxRecDepth 100000 in
set_option maxHeartbeats 8000000 in
theorem walk (a0 : Int) (w0 : (Lit.int .i64 a0).wf = true) (a1 : Int) (w1 : (Lit.int .i64 a1).wf = true) (w : World) :
    Calls Try.prog 9 #[.int .i64 a0, .int .i64 a1] w fun e w' => e = .returned (.bool true) ∧ Ext w w' := by
  clear w0 w1
  rcases divE_3 a0 a1 with hd | hd | hd
  · obtain ⟨ha, hb, hz⟩ := divE_0 hd
    obtain ⟨q, r, hq, hr, qb, qb1, q1, q2, r1, r2, r3, r4⟩ := divAt ha hz
    have g := okB_t.1 ha
    have g' := okB_t.1 hb
    have dz : (a1 == 0) = false := by simp [hz]
    have k1 : quoV a0 a1 = q := by simp [quoV, hd, hq]
    have k2 : remV a0 a1 = r := by simp [remV, hd, hr]
    have k3 : mulV q a1 = a0 - r ∧ mulE q a1 = 0 := by
      rw [(mulV_ok (okB_in q1 q2) hb).1, (mulV_ok (okB_in q1 q2) hb).2, qb]; exact fit_ok (okB_in (by omega) (by omega))
    obtain ⟨k3, k4⟩ := k3
    have k5 : plusV (a0 - r) 0 r 0 = a0 := by
      simp only [plusV]; simp
      rw [(addV_ok (okB_in (by omega) (by omega)) (okB_in (by omega) (by omega))).1, show a0 - r + r = a0 by omega, (fit_ok ha).1]
    have k6 : plusE (a0 - r) 0 r 0 = 0 := by
      simp only [plusE]; simp
      rw [(addV_ok (okB_in (by omega) (by omega)) (okB_in (by omega) (by omega))).2, show a0 - r + r = a0 by omega, (fit_ok ha).2]
    have k7 : floV a0 a1 = if (decide (r ≠ 0) && (decide (r < 0) != decide (a1 < 0))) then q - 1 else q := by simp only [floV, hd, if_true, flo, flB, hq, hr]
    have k8 : modV a0 a1 = if (decide (r ≠ 0) && (decide (r < 0) != decide (a1 < 0))) then r + a1 else r := by simp only [modV, hd, if_true, flm, flB, hq, hr]
    have K7 := Lib.hid k7
    have K8 := Lib.hid k8
    clear k7 k8 hq hr qb qb1
    rcases Int.lt_trichotomy r 0 with h | h | h <;> rcases Int.lt_or_gt_of_ne hz with h' | h' <;> rcases Int.lt_or_le a0 0 with h'' | h'' <;> try omega
    all_goals
      first
      | (have y1 : floV a0 a1 = q := by rw [K7.out, if_neg (by simp; omega)]
         have y2 : modV a0 a1 = r := by rw [K8.out, if_neg (by simp; omega)])
      | (have y1 : floV a0 a1 = q - 1 := by rw [K7.out, if_pos (by simp; omega)]
         have y2 : modV a0 a1 = r + a1 := by rw [K8.out, if_pos (by simp; omega)])
      first | have d1 : (r != 0) = true := by (simp; omega) | have d1 : (r != 0) = false := by (simp; omega)
      first | have d2 : decide (r < 0) = true := by (simp; omega) | have d2 : decide (r < 0) = false := by (simp; omega)
      first | have d3 : decide (a0 < 0) = true := by (simp; omega) | have d3 : decide (a0 < 0) = false := by (simp; omega)
      first | have d4 : decide (a1 < 0) = true := by (simp; omega) | have d4 : decide (a1 < 0) = false := by (simp; omega)
      have r5 : -2147483647 ≤ r := by omega
      have r6 : r ≤ 2147483647 := by omega
      first | have r7 := r3 h' | have r7 := r4 h'
      clear K7 K8
      try (subst h; simp only [Int.sub_zero] at k3 k5 k6; simp at d1 d2)
      clear r1 r2 r3 r4
      go_enter Try.func9, Try.ntmps9
      go_wp2_with (first | (go_at_call 35; refine (quo_any _ _ _).mono ?_; rintro e w' ⟨rfl, rfl⟩) | (go_at_call 37; refine (rem_any _ _ _).mono ?_; rintro e w' ⟨rfl, rfl⟩) | (go_at_call 39; refine (floor_any _ _ _).mono ?_; rintro e w' ⟨rfl, hx⟩) | (go_at_call 41; refine (mod_any _ _ _).mono ?_; rintro e w' ⟨rfl, hx⟩) | (go_at_call 20; refine (valid_any _ _).mono ?_; rintro e w' ⟨rfl, rfl⟩) | (go_at_call 30; refine (mul_any _ _ _).mono ?_; rintro e w' ⟨rfl, rfl⟩) | (go_at_call 68; refine (plus_any _ _ _ _ _).mono ?_; rintro e w' ⟨rfl, rfl⟩) | (go_at_call 34; refine (awake_any _).mono ?_; rintro e w' ⟨rfl, hx⟩))
      all_goals go_ret
      all_goals exact ⟨rfl, by repeat (first | exact Ext.refl _ | assumption | refine Ext.trans ?_ (by assumption))⟩
  · rcases divE_1 hd with h1 | ⟨h1, h2⟩ <;>
    (go_enter Try.func9, Try.ntmps9
     go_wp2_with (first | (go_at_call 35; refine (quo_any _ _ _).mono ?_; rintro e w' ⟨rfl, rfl⟩) | (go_at_call 37; refine (rem_any _ _ _).mono ?_; rintro e w' ⟨rfl, rfl⟩) | (go_at_call 39; refine (floor_any _ _ _).mono ?_; rintro e w' ⟨rfl, hx⟩) | (go_at_call 41; refine (mod_any _ _ _).mono ?_; rintro e w' ⟨rfl, hx⟩) | (go_at_call 20; refine (valid_any _ _).mono ?_; rintro e w' ⟨rfl, rfl⟩) | (go_at_call 30; refine (mul_any _ _ _).mono ?_; rintro e w' ⟨rfl, rfl⟩) | (go_at_call 68; refine (plus_any _ _ _ _ _).mono ?_; rintro e w' ⟨rfl, rfl⟩) | (go_at_call 34; refine (awake_any _).mono ?_; rintro e w' ⟨rfl, hx⟩))
     all_goals go_ret
     all_goals exact ⟨rfl, by repeat (first | exact Ext.refl _ | assumption | refine Ext.trans ?_ (by assumption))⟩)
  · obtain ⟨h1, h2, h3⟩ := divE_5 hd
    have h3' : (a1 == 0) = true := by simp [h3]
    clear h3
    go_enter Try.func9, Try.ntmps9
    go_wp2_with (first | (go_at_call 35; refine (quo_any _ _ _).mono ?_; rintro e w' ⟨rfl, rfl⟩) | (go_at_call 37; refine (rem_any _ _ _).mono ?_; rintro e w' ⟨rfl, rfl⟩) | (go_at_call 39; refine (floor_any _ _ _).mono ?_; rintro e w' ⟨rfl, hx⟩) | (go_at_call 41; refine (mod_any _ _ _).mono ?_; rintro e w' ⟨rfl, hx⟩) | (go_at_call 20; refine (valid_any _ _).mono ?_; rintro e w' ⟨rfl, rfl⟩) | (go_at_call 30; refine (mul_any _ _ _).mono ?_; rintro e w' ⟨rfl, rfl⟩) | (go_at_call 68; refine (plus_any _ _ _ _ _).mono ?_; rintro e w' ⟨rfl, rfl⟩) | (go_at_call 34; refine (awake_any _).mono ?_; rintro e w' ⟨rfl, hx⟩))
    all_goals go_ret
    all_goals exact ⟨rfl, by repeat (first | exact Ext.refl _ | assumption | refine Ext.trans ?_ (by assumption))⟩
end Go.Proofs.Ythbajdpblgclpaa.integerDivision
