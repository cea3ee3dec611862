/- The walk of IntegerPowers. -/
import Derived.Test.YthbajdpblgclpaaWe
import Derived.Test.YthbajdpblgclpaaMc
namespace Go.Proofs.Ythbajdpblgclpaa.integerPowers
open Go.RowKit
set_option maxRecDepth 100000 in
set_option maxHeartbeats 8000000 in
theorem walk (a0 : Int) (w0 : (Lit.int .i64 a0).wf = true) (a1 : Int) (w1 : (Lit.int .i64 a1).wf = true) (a2 : Int) (w2 : (Lit.int .i64 a2).wf = true) (w : World) :
    Calls Try.prog 10 #[.int .i64 a0, .int .i64 a1, .int .i64 a2] w fun e w' => e = .returned (.bool true) ∧ Ext w w' := by
  clear w0
  have g1 := bounds_i64 w1
  clear w1 w2
  rcases Bool.eq_false_or_eq_true (okB a0) with ha | ha
  rotate_left
  · have p0 := pow_arg ha a1
    have p1 := pow_arg ha a2
    have p2 := pow_arg ha 1
    go_enter Try.func10, Try.ntmps10
    go_wp2_with (first | (go_at_call 43; refine (pow_any _ _ _).mono ?_; rintro e w' ⟨rfl, rfl⟩) | (go_at_call 26; refine (add_any _ _ _).mono ?_; rintro e w' ⟨rfl, rfl⟩) | (go_at_call 30; refine (mul_any _ _ _).mono ?_; rintro e w' ⟨rfl, rfl⟩) | (go_at_call 20; refine (valid_any _ _).mono ?_; rintro e w' ⟨rfl, rfl⟩) | (go_at_call 34; refine (awake_any _).mono ?_; rintro e w' ⟨rfl, hx⟩))
    all_goals go_ret
    all_goals exact ⟨rfl, by repeat (first | exact Ext.refl _ | assumption | refine Ext.trans ?_ (by assumption))⟩
  obtain ⟨o1, o2⟩ := pow_one ha
  rcases Decidable.em (powE a0 a1 = 0) with e | e
  rotate_left
  · have e' : (powE a0 a1 == 0) = false := by simp [e]
    go_enter Try.func10, Try.ntmps10
    go_wp2_with (first | (go_at_call 43; refine (pow_any _ _ _).mono ?_; rintro e w' ⟨rfl, rfl⟩) | (go_at_call 26; refine (add_any _ _ _).mono ?_; rintro e w' ⟨rfl, rfl⟩) | (go_at_call 30; refine (mul_any _ _ _).mono ?_; rintro e w' ⟨rfl, rfl⟩) | (go_at_call 20; refine (valid_any _ _).mono ?_; rintro e w' ⟨rfl, rfl⟩) | (go_at_call 34; refine (awake_any _).mono ?_; rintro e w' ⟨rfl, hx⟩))
    all_goals go_ret
    all_goals exact ⟨rfl, by repeat (first | exact Ext.refl _ | assumption | refine Ext.trans ?_ (by assumption))⟩
  have m2 := okB_t.1 (powE_0 e).2.1
  have H : ((decide (0 < a1) = false) ∨ (decide (0 < a1) = true ∧ (a0 != 0) = true ∧ powE a0 (a1 - 1) = 0) ∨ (decide (0 < a1) = true ∧ (a0 != 0) = false ∧ decide (1 < a1) = true ∧ powE a0 (a1 - 1) = 0) ∨ (decide (0 < a1) = true ∧ (a0 != 0) = false ∧ decide (1 < a1) = false)) := by
    by_cases k1 : 0 < a1
    · by_cases k2 : a0 = 0
      · by_cases k3 : 1 < a1
        · exact Or.inr (Or.inr (Or.inl ⟨by simp; omega, by simp [k2], by simp; omega, pow_less e k1 (Or.inr k3)⟩))
        · exact Or.inr (Or.inr (Or.inr ⟨by simp; omega, by simp [k2], by simp; omega⟩))
      · exact Or.inr (Or.inl ⟨by simp; omega, by simp [k2], pow_less e k1 (Or.inl k2)⟩)
    · exact Or.inl (by simp; omega)
  rcases H with d1 | ⟨d1, d2, l⟩ | ⟨d1, d2, d3, l⟩ | ⟨d1, d2, d3⟩ <;>
  rcases Decidable.em (powE a0 a2 = 0) with f | f <;>
  rcases Decidable.em (addE a1 a2 = 0) with g | g <;>
  (try (have s := pow_add e f g; obtain ⟨s1, s2⟩ := s)
   try have f' : (powE a0 a2 == 0) = false := by simp [f]
   try have g' : (addE a1 a2 == 0) = false := by simp [g]
   go_enter Try.func10, Try.ntmps10
   go_wp2_with (first | (go_at_call 43; refine (pow_any _ _ _).mono ?_; rintro e w' ⟨rfl, rfl⟩) | (go_at_call 26; refine (add_any _ _ _).mono ?_; rintro e w' ⟨rfl, rfl⟩) | (go_at_call 30; refine (mul_any _ _ _).mono ?_; rintro e w' ⟨rfl, rfl⟩) | (go_at_call 20; refine (valid_any _ _).mono ?_; rintro e w' ⟨rfl, rfl⟩) | (go_at_call 34; refine (awake_any _).mono ?_; rintro e w' ⟨rfl, hx⟩))
   all_goals go_ret
   all_goals exact ⟨rfl, by repeat (first | exact Ext.refl _ | assumption | refine Ext.trans ?_ (by assumption))⟩)
end Go.Proofs.Ythbajdpblgclpaa.integerPowers
