/- The walk of IntegerTrips. -/
import Derived.Test.YthbajdpblgclpaaWf
namespace Go.Proofs.Ythbajdpblgclpaa.integerTrips
open Go.RowKit
set_option maxRecDepth 100000 in
set_option maxHeartbeats 8000000 in
theorem walk (a0 : Int) (w0 : (Lit.int .i64 a0).wf = true) (a1 : Int) (w1 : (Lit.int .i64 a1).wf = true) (a2 : Int) (w2 : (Lit.int .i64 a2).wf = true) (w : World) :
    Calls Try.prog 17 #[.int .i64 a0, .int .i64 a1, .int .i64 a2] w fun e w' => e = .returned (.bool true) ∧ Ext w w' := by
  clear w0 w1 w2
  rcases trE_3 a0 a1 a2 with hd | hd | hd
  · obtain ⟨hf, hs, hl, hz⟩ := trE_0 hd
    have dz : (a1 == 0) = false := by simp [hz]
    have t1 : twoE a0 a2 = 0 := by simp [twoE, hf, hl]
    have t2 : oneE a1 = 0 := by simp [oneE, hs]
    have tn := trN_nonneg a0 a1 a2
    have tn' : decide (trN a0 a1 a2 < 0) = false := by simp; omega
    have tc := trips_cmp hd
    rcases Bool.eq_false_or_eq_true (trZ a0 a1 a2) with zz | zz
    · have n0 : trN a0 a1 a2 = 0 := (trZ_0 hd).1 zz
      have o0 : trO a0 a1 a2 = false := by simp [trO, hd, n0, hf]
      have c0 : (cmpV a0 a2 == sgnV a1) = true := by simp; exact tc.2 n0
      clear tc tn tn' zz
      go_enter Try.func17, Try.ntmps17
      go_wp2_with (first | (go_at_call 47; refine (trips_any _ _ _ _).mono ?_; rintro e w' ⟨rfl, hx⟩) | (go_at_call 20; refine (valid_any _ _).mono ?_; rintro e w' ⟨rfl, rfl⟩) | (go_at_call 32; refine (cmp_any _ _ _).mono ?_; rintro e w' ⟨rfl, rfl⟩) | (go_at_call 24; refine (sign_any _ _).mono ?_; rintro e w' ⟨rfl, rfl⟩) | (go_at_call 26; refine (add_any _ _ _).mono ?_; rintro e w' ⟨rfl, rfl⟩) | (go_at_call 34; refine (awake_any _).mono ?_; rintro e w' ⟨rfl, hx⟩))
      all_goals go_ret
      all_goals exact ⟨rfl, by repeat (first | exact Ext.refl _ | assumption | refine Ext.trans ?_ (by assumption))⟩
    · have nz : trN a0 a1 a2 ≠ 0 := fun x => by rw [(trZ_0 hd).2 x] at zz; exact absurd zz (by simp)
      have n0 : (trN a0 a1 a2 == 0) = false := by simp [nz]
      have c0 : (cmpV a0 a2 == sgnV a1) = false := by simp; exact fun x => nz (tc.1 x)
      by_cases ha : addE a0 a1 = 0
      · obtain ⟨x1, x2, x3⟩ := trips_next hd zz ha
        obtain ⟨q, r, hq, hr, qb, qb1, q1, q2, r3, r4, z, p⟩ := tripAt hf hl hz zz
        have n9 : trN a0 a1 a2 ≤ 4294967295 := by simp only [trN, hd, zz, hq]; simp; omega
        clear tc zz nz hq hr qb qb1 q1 q2 r3 r4 z p
        go_enter Try.func17, Try.ntmps17
        go_wp2_with (first | (go_at_call 47; refine (trips_any _ _ _ _).mono ?_; rintro e w' ⟨rfl, hx⟩) | (go_at_call 20; refine (valid_any _ _).mono ?_; rintro e w' ⟨rfl, rfl⟩) | (go_at_call 32; refine (cmp_any _ _ _).mono ?_; rintro e w' ⟨rfl, rfl⟩) | (go_at_call 24; refine (sign_any _ _).mono ?_; rintro e w' ⟨rfl, rfl⟩) | (go_at_call 26; refine (add_any _ _ _).mono ?_; rintro e w' ⟨rfl, rfl⟩) | (go_at_call 34; refine (awake_any _).mono ?_; rintro e w' ⟨rfl, hx⟩))
        all_goals go_ret
        all_goals exact ⟨rfl, by repeat (first | exact Ext.refl _ | assumption | refine Ext.trans ?_ (by assumption))⟩
      · obtain ⟨x1, x2⟩ := trips_last hd zz ha
        have ha' : (addE a0 a1 == 0) = false := by simp [ha]
        have ha'' : (addE a0 a1 != 0) = true := by simp [ha]
        clear tc zz nz tn tn' n0
        go_enter Try.func17, Try.ntmps17
        go_wp2_with (first | (go_at_call 47; refine (trips_any _ _ _ _).mono ?_; rintro e w' ⟨rfl, hx⟩) | (go_at_call 20; refine (valid_any _ _).mono ?_; rintro e w' ⟨rfl, rfl⟩) | (go_at_call 32; refine (cmp_any _ _ _).mono ?_; rintro e w' ⟨rfl, rfl⟩) | (go_at_call 24; refine (sign_any _ _).mono ?_; rintro e w' ⟨rfl, rfl⟩) | (go_at_call 26; refine (add_any _ _ _).mono ?_; rintro e w' ⟨rfl, rfl⟩) | (go_at_call 34; refine (awake_any _).mono ?_; rintro e w' ⟨rfl, hx⟩))
        all_goals go_ret
        all_goals exact ⟨rfl, by repeat (first | exact Ext.refl _ | assumption | refine Ext.trans ?_ (by assumption))⟩
  · rcases trE_1 hd with h1 | ⟨h1, h2⟩ | ⟨h1, h2, h3⟩ <;>
    (go_enter Try.func17, Try.ntmps17
     go_wp2_with (first | (go_at_call 47; refine (trips_any _ _ _ _).mono ?_; rintro e w' ⟨rfl, hx⟩) | (go_at_call 20; refine (valid_any _ _).mono ?_; rintro e w' ⟨rfl, rfl⟩) | (go_at_call 32; refine (cmp_any _ _ _).mono ?_; rintro e w' ⟨rfl, rfl⟩) | (go_at_call 24; refine (sign_any _ _).mono ?_; rintro e w' ⟨rfl, rfl⟩) | (go_at_call 26; refine (add_any _ _ _).mono ?_; rintro e w' ⟨rfl, rfl⟩) | (go_at_call 34; refine (awake_any _).mono ?_; rintro e w' ⟨rfl, hx⟩))
     all_goals go_ret
     all_goals exact ⟨rfl, by repeat (first | exact Ext.refl _ | assumption | refine Ext.trans ?_ (by assumption))⟩)
  · obtain ⟨h1, h2, h3, h4⟩ := trE_5 hd
    have h4' : (a1 == 0) = true := by simp [h4]
    clear h4
    go_enter Try.func17, Try.ntmps17
    go_wp2_with (first | (go_at_call 47; refine (trips_any _ _ _ _).mono ?_; rintro e w' ⟨rfl, hx⟩) | (go_at_call 20; refine (valid_any _ _).mono ?_; rintro e w' ⟨rfl, rfl⟩) | (go_at_call 32; refine (cmp_any _ _ _).mono ?_; rintro e w' ⟨rfl, rfl⟩) | (go_at_call 24; refine (sign_any _ _).mono ?_; rintro e w' ⟨rfl, rfl⟩) | (go_at_call 26; refine (add_any _ _ _).mono ?_; rintro e w' ⟨rfl, rfl⟩) | (go_at_call 34; refine (awake_any _).mono ?_; rintro e w' ⟨rfl, hx⟩))
    all_goals go_ret
    all_goals exact ⟨rfl, by repeat (first | exact Ext.refl _ | assumption | refine Ext.trans ?_ (by assumption))⟩
end Go.Proofs.Ythbajdpblgclpaa.integerTrips
