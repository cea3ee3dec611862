/- Layer 1: loops. -/
import Derived.Test.YthbajdpblgclpaaMd
import Derived.Test.YthbajdpblgclpaaWe
namespace Go.Proofs.Ythbajdpblgclpaa
open Go.RowKit

theorem trips_any (f s l : Int) (w : World) :
    Calls Try.prog 47 #[.int .i64 f, .int .i64 s, .int .i64 l] w fun e w' => e = .returned (.tuple #[.int .i64 (trN f s l), .bool (trO f s l), .int .i64 (trE f s l)]) ∧ Ext w w' := by
  rcases trE_3 f s l with hd | hd | hd
  · obtain ⟨hf, hs, hl, hz⟩ := trE_0 hd
    have g1 := okB_t.1 hf
    have g2 := okB_t.1 hs
    have g3 := okB_t.1 hl
    have dz : (s == 0) = false := by simp [hz]
    rcases Bool.eq_false_or_eq_true (trZ f s l) with zz | zz
    · have n0 : trN f s l = 0 := by simp [trN, hd, zz]
      have o0 : trO f s l = false := by simp [trO, hd, n0, hf]
      have zz' : (0 < s ∧ l < f) ∨ (s < 0 ∧ f < l) := by unfold trZ at zz; simpa using zz
      clear zz
      rcases zz' with ⟨x, y⟩ | ⟨x, y⟩
      · have d1 : decide (0 < s) = true := by simp; omega
        have d2 : decide (l < f) = true := by simp; omega
        have d3 : decide (s < 0) = false := by simp; omega
        go_enter Try.func47, Try.ntmps47
        go_wp2_with (first | (go_at_call 76; refine (bothValid_any _ _ _).mono ?_; rintro e w' ⟨rfl, rfl⟩) | (go_at_call 20; refine (valid_any _ _).mono ?_; rintro e w' ⟨rfl, rfl⟩))
        go_ret3
        exact ⟨by simp [hd, n0, o0], Ext.refl _⟩
      · have d1 : decide (0 < s) = false := by simp; omega
        have d2 : decide (f < l) = true := by simp; omega
        have d3 : decide (s < 0) = true := by simp; omega
        go_enter Try.func47, Try.ntmps47
        go_wp2_with (first | (go_at_call 76; refine (bothValid_any _ _ _).mono ?_; rintro e w' ⟨rfl, rfl⟩) | (go_at_call 20; refine (valid_any _ _).mono ?_; rintro e w' ⟨rfl, rfl⟩))
        go_ret3
        exact ⟨by simp [hd, n0, o0], Ext.refl _⟩
    · obtain ⟨q, r, hq, hr, qb, qb1, q1, q2, r3, r4, z, p⟩ := tripAt hf hl hz zz
      have n0 : trN f s l = q + 1 := by simp only [trN, hd, zz, hq]; simp
      have o0 : trO f s l = !okB (f + (q + 1) * s) := by simp only [trO, hd, n0]; simp
      rw [qb1, show f + (l - f - r + s) = l - r + s by omega] at o0
      have e5 : f + (l - f - r + s) = l - r + s := by omega
      have zz' : ¬ (0 < s ∧ l < f) ∧ ¬ (s < 0 ∧ f < l) := by unfold trZ at zz; simp at zz; omega
      clear zz hr qb z p
      rcases Int.lt_or_gt_of_ne hz with x | x
      · have d1 : decide (0 < s) = false := by simp; omega
        have d2 : decide (f < l) = false := by simp; omega
        have d3 : decide (s < 0) = true := by simp; omega
        go_enter Try.func47, Try.ntmps47
        go_wp2_with (first | (go_at_call 76; refine (bothValid_any _ _ _).mono ?_; rintro e w' ⟨rfl, rfl⟩) | (go_at_call 20; refine (valid_any _ _).mono ?_; rintro e w' ⟨rfl, rfl⟩))
        all_goals go_ret3
        all_goals exact ⟨by simp [hd, n0, o0], Ext.refl _⟩
      · have d1 : decide (0 < s) = true := by simp; omega
        have d2 : decide (l < f) = false := by simp; omega
        have d3 : decide (s < 0) = false := by simp; omega
        have hq' : (l - f) / s = q := by rw [← hq, Int.tdiv_eq_ediv_of_nonneg (by omega)]
        go_enter Try.func47, Try.ntmps47
        go_wp2_with (first | (go_at_call 76; refine (bothValid_any _ _ _).mono ?_; rintro e w' ⟨rfl, rfl⟩) | (go_at_call 20; refine (valid_any _ _).mono ?_; rintro e w' ⟨rfl, rfl⟩))
        all_goals go_ret3
        all_goals exact ⟨by simp [hd, n0, o0], Ext.refl _⟩
  · have n0 : trN f s l = 0 := by simp [trN, hd]
    have o0 : trO f s l = false := by simp [trO, hd]
    rcases trE_1 hd with h1 | ⟨h1, h2⟩ | ⟨h1, h2, h3⟩ <;>
    (go_enter Try.func47, Try.ntmps47
     go_wp2_with (first | (go_at_call 76; refine (bothValid_any _ _ _).mono ?_; rintro e w' ⟨rfl, rfl⟩) | (go_at_call 20; refine (valid_any _ _).mono ?_; rintro e w' ⟨rfl, rfl⟩))
     all_goals go_ret3
     all_goals exact ⟨by simp [hd, n0, o0], Ext.refl _⟩)
  · have n0 : trN f s l = 0 := by simp [trN, hd]
    have o0 : trO f s l = false := by simp [trO, hd]
    obtain ⟨h1, h2, h3, h4⟩ := trE_5 hd
    go_enter Try.func47, Try.ntmps47
    go_wp2_with (first | (go_at_call 76; refine (bothValid_any _ _ _).mono ?_; rintro e w' ⟨rfl, rfl⟩) | (go_at_call 20; refine (valid_any _ _).mono ?_; rintro e w' ⟨rfl, rfl⟩))
    all_goals go_ret3
    all_goals exact ⟨by simp [hd, n0, o0], Ext.refl _⟩
theorem rtrips_any (f s l : Int) (w : World) :
    Calls Try.prog 48 #[.int .i64 f, .int .i64 s, .int .i64 l] w fun e w' => e = .returned (.tuple #[.int .i64 (trN f s l), .bool (trO f s l), .int .i64 (trE f s l)]) ∧ Ext w w' := by
  rcases trE_3 f s l with hd | hd | hd
  · obtain ⟨hf, hs, hl, hz⟩ := trE_0 hd
    have g1 := okB_t.1 hf
    have g2 := okB_t.1 hs
    have g3 := okB_t.1 hl
    have dz : (s == 0) = false := by simp [hz]
    rcases Bool.eq_false_or_eq_true (trZ f s l) with zz | zz
    · have n0 : trN f s l = 0 := by simp [trN, hd, zz]
      have o0 : trO f s l = false := by simp [trO, hd, n0, hf]
      have zz' : (0 < s ∧ l < f) ∨ (s < 0 ∧ f < l) := by unfold trZ at zz; simpa using zz
      clear zz
      rcases zz' with ⟨x, y⟩ | ⟨x, y⟩
      · have d1 : decide (0 < s) = true := by simp; omega
        have d2 : decide (f ≤ l) = false := by simp; omega
        have d3 : decide (s < 0) = false := by simp; omega
        go_enter Try.func48, Try.ntmps48
        go_wp2_with (first | (go_at_call 21; refine (rvalid_any _ _).mono ?_; rintro e w' ⟨rfl, rfl⟩))
        all_goals go_ret3
        all_goals exact ⟨by simp [hd, n0, o0], Ext.refl _⟩
      · have d1 : decide (0 < s) = false := by simp; omega
        have d2 : decide (l ≤ f) = false := by simp; omega
        have d3 : decide (s < 0) = true := by simp; omega
        go_enter Try.func48, Try.ntmps48
        go_wp2_with (first | (go_at_call 21; refine (rvalid_any _ _).mono ?_; rintro e w' ⟨rfl, rfl⟩))
        all_goals go_ret3
        all_goals exact ⟨by simp [hd, n0, o0], Ext.refl _⟩
    · obtain ⟨q, r, hq, hr, qb, qb1, q1, q2, r3, r4, z, p⟩ := tripAt hf hl hz zz
      have n0 : trN f s l = q + 1 := by simp only [trN, hd, zz, hq]; simp
      have o0 : trO f s l = !okB (f + (q + 1) * s) := by simp only [trO, hd, n0]; simp
      rw [qb1, show f + (l - f - r + s) = l - r + s by omega] at o0
      have e5 : f + (l - f - r + s) = l - r + s := by omega
      have zz' : ¬ (0 < s ∧ l < f) ∧ ¬ (s < 0 ∧ f < l) := by unfold trZ at zz; simp at zz; omega
      clear zz hr qb z p
      rcases Int.lt_or_gt_of_ne hz with x | x
      · have d1 : decide (0 < s) = false := by simp; omega
        have d2 : decide (l ≤ f) = true := by simp; omega
        have d3 : decide (s < 0) = true := by simp; omega
        have hq' : (f - l).tdiv s = -q := by rw [← hq, ← Int.neg_tdiv, show -(l - f) = f - l by omega]
        go_enter Try.func48, Try.ntmps48
        go_wp2_with (first | (go_at_call 21; refine (rvalid_any _ _).mono ?_; rintro e w' ⟨rfl, rfl⟩))
        all_goals go_ret3
        all_goals exact ⟨by simp [hd, n0, o0], Ext.refl _⟩
      · have d1 : decide (0 < s) = true := by simp; omega
        have d2 : decide (f ≤ l) = true := by simp; omega
        have d3 : decide (s < 0) = false := by simp; omega
        have hq' : (l - f) / s = q := by rw [← hq, Int.tdiv_eq_ediv_of_nonneg (by omega)]
        go_enter Try.func48, Try.ntmps48
        go_wp2_with (first | (go_at_call 21; refine (rvalid_any _ _).mono ?_; rintro e w' ⟨rfl, rfl⟩))
        all_goals go_ret3
        all_goals exact ⟨by simp [hd, n0, o0], Ext.refl _⟩
  · have n0 : trN f s l = 0 := by simp [trN, hd]
    have o0 : trO f s l = false := by simp [trO, hd]
    rcases trE_1 hd with h1 | ⟨h1, h2⟩ | ⟨h1, h2, h3⟩ <;>
    (go_enter Try.func48, Try.ntmps48
     go_wp2_with (first | (go_at_call 21; refine (rvalid_any _ _).mono ?_; rintro e w' ⟨rfl, rfl⟩))
     all_goals go_ret3
     all_goals exact ⟨by simp [hd, n0, o0], Ext.refl _⟩)
  · have n0 : trN f s l = 0 := by simp [trN, hd]
    have o0 : trO f s l = false := by simp [trO, hd]
    obtain ⟨h1, h2, h3, h4⟩ := trE_5 hd
    go_enter Try.func48, Try.ntmps48
    go_wp2_with (first | (go_at_call 21; refine (rvalid_any _ _).mono ?_; rintro e w' ⟨rfl, rfl⟩))
    all_goals go_ret3
    all_goals exact ⟨by simp [hd, n0, o0], Ext.refl _⟩
end Go.Proofs.Ythbajdpblgclpaa
