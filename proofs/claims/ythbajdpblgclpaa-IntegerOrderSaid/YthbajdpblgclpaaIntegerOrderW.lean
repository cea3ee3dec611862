/- The walk of IntegerOrder. -/
import Derived.Test.YthbajdpblgclpaaWe
import Derived.Test.YthbajdpblgclpaaMf
import Derived.Deep.DeepCutAuto
namespace Go.Proofs.Ythbajdpblgclpaa.integerOrder
open Go.RowKit
set_option maxRecDepth 100000 in
set_option maxHeartbeats 8000000 in
theorem walk (a0 : Int) (w0 : (Lit.int .i64 a0).wf = true) (a1 : Int) (w1 : (Lit.int .i64 a1).wf = true) (a2 : Int) (w2 : (Lit.int .i64 a2).wf = true) (w : World) :
    Calls Try.prog 11 #[.int .i64 a0, .int .i64 a1, .int .i64 a2] w fun e w' => e = .returned (.bool true) ∧ Ext w w' := by
  clear w0 w1
  have w2 := bounds_i64 w2
  rcases Bool.eq_false_or_eq_true (okB a0) with ha | ha
  rotate_left
  · have e : twoE a0 a1 = 1 := by simp [twoE, ha]
    have f : twoE a1 a0 = 1 := by simp [twoE, ha]
    clear w2
    go_enter Try.func11, Try.ntmps11
    as_aux_lemma =>
      go_wp2_with (first | (go_at_call 32; refine (cmp_any _ _ _).mono ?_; rintro e w' ⟨rfl, rfl⟩) | (go_at_call 20; refine (valid_any _ _).mono ?_; rintro e w' ⟨rfl, rfl⟩) | (go_at_call 28; refine (sub_any _ _ _).mono ?_; rintro e w' ⟨rfl, rfl⟩) | (go_at_call 24; refine (sign_any _ _).mono ?_; rintro e w' ⟨rfl, rfl⟩) | (go_at_call 26; refine (add_any _ _ _).mono ?_; rintro e w' ⟨rfl, rfl⟩) | (go_at_call 30; refine (mul_any _ _ _).mono ?_; rintro e w' ⟨rfl, rfl⟩) | (go_at_call 34; refine (awake_any _).mono ?_; rintro e w' ⟨rfl, hx⟩))
      all_goals go_ret
      all_goals exact ⟨rfl, by repeat (first | exact Ext.refl _ | assumption | refine Ext.trans ?_ (by assumption))⟩
  rcases Bool.eq_false_or_eq_true (okB a1) with hb | hb
  rotate_left
  · have e : twoE a0 a1 = 1 := by simp [twoE, hb]
    have f : twoE a1 a0 = 1 := by simp [twoE, hb]
    clear w2
    go_enter Try.func11, Try.ntmps11
    as_aux_lemma =>
      go_wp2_with (first | (go_at_call 32; refine (cmp_any _ _ _).mono ?_; rintro e w' ⟨rfl, rfl⟩) | (go_at_call 20; refine (valid_any _ _).mono ?_; rintro e w' ⟨rfl, rfl⟩) | (go_at_call 28; refine (sub_any _ _ _).mono ?_; rintro e w' ⟨rfl, rfl⟩) | (go_at_call 24; refine (sign_any _ _).mono ?_; rintro e w' ⟨rfl, rfl⟩) | (go_at_call 26; refine (add_any _ _ _).mono ?_; rintro e w' ⟨rfl, rfl⟩) | (go_at_call 30; refine (mul_any _ _ _).mono ?_; rintro e w' ⟨rfl, rfl⟩) | (go_at_call 34; refine (awake_any _).mono ?_; rintro e w' ⟨rfl, hx⟩))
      all_goals go_ret
      all_goals exact ⟨rfl, by repeat (first | exact Ext.refl _ | assumption | refine Ext.trans ?_ (by assumption))⟩
  have e : twoE a0 a1 = 0 := (cmpV_ok ha hb).2
  have f : twoE a1 a0 = 0 := (cmpV_ok hb ha).2
  have n1 : cmpV a1 a0 = -cmpV a0 a1 := by rw [(cmpV_ok ha hb).1, (cmpV_ok hb ha).1, cmpI_neg]
  have n2 : (cmpV a0 a1 == 0) = (a0 == a1) := by
    rw [(cmpV_ok ha hb).1, Bool.eq_iff_iff]; simp; exact cmpI_0 a0 a1
  have n3 : -1 ≤ cmpV a0 a1 ∧ cmpV a0 a1 ≤ 1 := by rw [(cmpV_ok ha hb).1]; exact cmpI_bd _ _
  rcases Bool.eq_false_or_eq_true (okB a2) with hc | hc
  · have f2 : twoE a1 a2 = 0 := (cmpV_ok hb hc).2
    go_enter Try.func11, Try.ntmps11
    go_upto_if 92 with (first | (go_at_call 32; refine (cmp_any _ _ _).mono ?_; rintro e w' ⟨rfl, rfl⟩) | (go_at_call 20; refine (valid_any _ _).mono ?_; rintro e w' ⟨rfl, rfl⟩) | (go_at_call 28; refine (sub_any _ _ _).mono ?_; rintro e w' ⟨rfl, rfl⟩) | (go_at_call 24; refine (sign_any _ _).mono ?_; rintro e w' ⟨rfl, rfl⟩) | (go_at_call 26; refine (add_any _ _ _).mono ?_; rintro e w' ⟨rfl, rfl⟩) | (go_at_call 30; refine (mul_any _ _ _).mono ?_; rintro e w' ⟨rfl, rfl⟩) | (go_at_call 34; refine (awake_any _).mono ?_; rintro e w' ⟨rfl, hx⟩))
    go_cut [] (fun wx => Ext w wx)
    case first =>
      clear n1 n2
      rcases Bool.eq_false_or_eq_true (cmpV a0 a1 == cmpV a1 a2) with h | h
      · obtain ⟨y1, y2⟩ := cmp_trans ha hb hc (by simpa using h)
        as_aux_lemma =>
          go_wp2_with (first | (go_at_call 32; refine (cmp_any _ _ _).mono ?_; rintro e w' ⟨rfl, rfl⟩) | (go_at_call 20; refine (valid_any _ _).mono ?_; rintro e w' ⟨rfl, rfl⟩) | (go_at_call 28; refine (sub_any _ _ _).mono ?_; rintro e w' ⟨rfl, rfl⟩) | (go_at_call 24; refine (sign_any _ _).mono ?_; rintro e w' ⟨rfl, rfl⟩) | (go_at_call 26; refine (add_any _ _ _).mono ?_; rintro e w' ⟨rfl, rfl⟩) | (go_at_call 30; refine (mul_any _ _ _).mono ?_; rintro e w' ⟨rfl, rfl⟩) | (go_at_call 34; refine (awake_any _).mono ?_; rintro e w' ⟨rfl, hx⟩))
          all_goals go_meet
          all_goals repeat (first | exact Ext.refl _ | assumption | refine Ext.trans ?_ (by assumption))
      · go_wp2_with (first | (go_at_call 32; refine (cmp_any _ _ _).mono ?_; rintro e w' ⟨rfl, rfl⟩) | (go_at_call 20; refine (valid_any _ _).mono ?_; rintro e w' ⟨rfl, rfl⟩) | (go_at_call 28; refine (sub_any _ _ _).mono ?_; rintro e w' ⟨rfl, rfl⟩) | (go_at_call 24; refine (sign_any _ _).mono ?_; rintro e w' ⟨rfl, rfl⟩) | (go_at_call 26; refine (add_any _ _ _).mono ?_; rintro e w' ⟨rfl, rfl⟩) | (go_at_call 30; refine (mul_any _ _ _).mono ?_; rintro e w' ⟨rfl, rfl⟩) | (go_at_call 34; refine (awake_any _).mono ?_; rintro e w' ⟨rfl, hx⟩))
        all_goals go_meet
        all_goals repeat (first | exact Ext.refl _ | assumption | refine Ext.trans ?_ (by assumption))
    case rest =>
      have hx1 : Ext w wc := hcut
      clear hcut n1 n2 f2
      go_upto_if 113 with (first | (go_at_call 32; refine (cmp_any _ _ _).mono ?_; rintro e w' ⟨rfl, rfl⟩) | (go_at_call 20; refine (valid_any _ _).mono ?_; rintro e w' ⟨rfl, rfl⟩) | (go_at_call 28; refine (sub_any _ _ _).mono ?_; rintro e w' ⟨rfl, rfl⟩) | (go_at_call 24; refine (sign_any _ _).mono ?_; rintro e w' ⟨rfl, rfl⟩) | (go_at_call 26; refine (add_any _ _ _).mono ?_; rintro e w' ⟨rfl, rfl⟩) | (go_at_call 30; refine (mul_any _ _ _).mono ?_; rintro e w' ⟨rfl, rfl⟩) | (go_at_call 34; refine (awake_any _).mono ?_; rintro e w' ⟨rfl, hx⟩))
      go_cut [15] (fun _ wx => Ext w wx)
      case first =>
        rcases Decidable.em (subE a0 a1 = 0) with y | y
        · obtain ⟨y1, y2⟩ := cmp_sub y
          as_aux_lemma =>
            go_wp2_with (first | (go_at_call 32; refine (cmp_any _ _ _).mono ?_; rintro e w' ⟨rfl, rfl⟩) | (go_at_call 20; refine (valid_any _ _).mono ?_; rintro e w' ⟨rfl, rfl⟩) | (go_at_call 28; refine (sub_any _ _ _).mono ?_; rintro e w' ⟨rfl, rfl⟩) | (go_at_call 24; refine (sign_any _ _).mono ?_; rintro e w' ⟨rfl, rfl⟩) | (go_at_call 26; refine (add_any _ _ _).mono ?_; rintro e w' ⟨rfl, rfl⟩) | (go_at_call 30; refine (mul_any _ _ _).mono ?_; rintro e w' ⟨rfl, rfl⟩) | (go_at_call 34; refine (awake_any _).mono ?_; rintro e w' ⟨rfl, hx⟩))
            all_goals go_meet
            all_goals repeat (first | exact Ext.refl _ | assumption | refine Ext.trans ?_ (by assumption))
        · have y' : (subE a0 a1 == 0) = false := by simp [y]
          as_aux_lemma =>
            go_wp2_with (first | (go_at_call 32; refine (cmp_any _ _ _).mono ?_; rintro e w' ⟨rfl, rfl⟩) | (go_at_call 20; refine (valid_any _ _).mono ?_; rintro e w' ⟨rfl, rfl⟩) | (go_at_call 28; refine (sub_any _ _ _).mono ?_; rintro e w' ⟨rfl, rfl⟩) | (go_at_call 24; refine (sign_any _ _).mono ?_; rintro e w' ⟨rfl, rfl⟩) | (go_at_call 26; refine (add_any _ _ _).mono ?_; rintro e w' ⟨rfl, rfl⟩) | (go_at_call 30; refine (mul_any _ _ _).mono ?_; rintro e w' ⟨rfl, rfl⟩) | (go_at_call 34; refine (awake_any _).mono ?_; rintro e w' ⟨rfl, hx⟩))
            all_goals go_meet
            all_goals repeat (first | exact Ext.refl _ | assumption | refine Ext.trans ?_ (by assumption))
      case rest =>
        have hx2 : Ext w wc := hcut
        clear hcut
        rcases Decidable.em (addE a0 a2 = 0) with y | y
        · go_upto_if 143 with (first | (go_at_call 32; refine (cmp_any _ _ _).mono ?_; rintro e w' ⟨rfl, rfl⟩) | (go_at_call 20; refine (valid_any _ _).mono ?_; rintro e w' ⟨rfl, rfl⟩) | (go_at_call 28; refine (sub_any _ _ _).mono ?_; rintro e w' ⟨rfl, rfl⟩) | (go_at_call 24; refine (sign_any _ _).mono ?_; rintro e w' ⟨rfl, rfl⟩) | (go_at_call 26; refine (add_any _ _ _).mono ?_; rintro e w' ⟨rfl, rfl⟩) | (go_at_call 30; refine (mul_any _ _ _).mono ?_; rintro e w' ⟨rfl, rfl⟩) | (go_at_call 34; refine (awake_any _).mono ?_; rintro e w' ⟨rfl, hx⟩))
          go_cut [20] (fun _ wx => Ext w wx)
          case first =>
            rcases Decidable.em (addE a1 a2 = 0) with z | z
            · obtain ⟨y1, y2⟩ := cmp_add y z
              as_aux_lemma =>
                go_wp2_with (first | (go_at_call 32; refine (cmp_any _ _ _).mono ?_; rintro e w' ⟨rfl, rfl⟩) | (go_at_call 20; refine (valid_any _ _).mono ?_; rintro e w' ⟨rfl, rfl⟩) | (go_at_call 28; refine (sub_any _ _ _).mono ?_; rintro e w' ⟨rfl, rfl⟩) | (go_at_call 24; refine (sign_any _ _).mono ?_; rintro e w' ⟨rfl, rfl⟩) | (go_at_call 26; refine (add_any _ _ _).mono ?_; rintro e w' ⟨rfl, rfl⟩) | (go_at_call 30; refine (mul_any _ _ _).mono ?_; rintro e w' ⟨rfl, rfl⟩) | (go_at_call 34; refine (awake_any _).mono ?_; rintro e w' ⟨rfl, hx⟩))
                all_goals go_meet
                all_goals repeat (first | exact Ext.refl _ | assumption | refine Ext.trans ?_ (by assumption))
            · have z' : (addE a1 a2 == 0) = false := by simp [z]
              as_aux_lemma =>
                go_wp2_with (first | (go_at_call 32; refine (cmp_any _ _ _).mono ?_; rintro e w' ⟨rfl, rfl⟩) | (go_at_call 20; refine (valid_any _ _).mono ?_; rintro e w' ⟨rfl, rfl⟩) | (go_at_call 28; refine (sub_any _ _ _).mono ?_; rintro e w' ⟨rfl, rfl⟩) | (go_at_call 24; refine (sign_any _ _).mono ?_; rintro e w' ⟨rfl, rfl⟩) | (go_at_call 26; refine (add_any _ _ _).mono ?_; rintro e w' ⟨rfl, rfl⟩) | (go_at_call 30; refine (mul_any _ _ _).mono ?_; rintro e w' ⟨rfl, rfl⟩) | (go_at_call 34; refine (awake_any _).mono ?_; rintro e w' ⟨rfl, hx⟩))
                all_goals go_meet
                all_goals repeat (first | exact Ext.refl _ | assumption | refine Ext.trans ?_ (by assumption))
          case rest =>
            have hx3 : Ext w wc := hcut
            clear hcut y
            rcases Int.lt_or_le 0 a2 with c | c
            · have c' : decide (0 < a2) = true := by simp; omega
              rcases Decidable.em (mulE a0 a2 = 0) with u | u
              · rcases Decidable.em (mulE a1 a2 = 0) with z | z
                · obtain ⟨y1, y2⟩ := cmp_mul c u z
                  as_aux_lemma =>
                    go_wp2_with (first | (go_at_call 32; refine (cmp_any _ _ _).mono ?_; rintro e w' ⟨rfl, rfl⟩) | (go_at_call 20; refine (valid_any _ _).mono ?_; rintro e w' ⟨rfl, rfl⟩) | (go_at_call 28; refine (sub_any _ _ _).mono ?_; rintro e w' ⟨rfl, rfl⟩) | (go_at_call 24; refine (sign_any _ _).mono ?_; rintro e w' ⟨rfl, rfl⟩) | (go_at_call 26; refine (add_any _ _ _).mono ?_; rintro e w' ⟨rfl, rfl⟩) | (go_at_call 30; refine (mul_any _ _ _).mono ?_; rintro e w' ⟨rfl, rfl⟩) | (go_at_call 34; refine (awake_any _).mono ?_; rintro e w' ⟨rfl, hx⟩))
                    all_goals go_ret
                    all_goals exact ⟨rfl, by repeat (first | exact Ext.refl _ | assumption | refine Ext.trans ?_ (by assumption))⟩
                · have z' : (mulE a1 a2 == 0) = false := by simp [z]
                  as_aux_lemma =>
                    go_wp2_with (first | (go_at_call 32; refine (cmp_any _ _ _).mono ?_; rintro e w' ⟨rfl, rfl⟩) | (go_at_call 20; refine (valid_any _ _).mono ?_; rintro e w' ⟨rfl, rfl⟩) | (go_at_call 28; refine (sub_any _ _ _).mono ?_; rintro e w' ⟨rfl, rfl⟩) | (go_at_call 24; refine (sign_any _ _).mono ?_; rintro e w' ⟨rfl, rfl⟩) | (go_at_call 26; refine (add_any _ _ _).mono ?_; rintro e w' ⟨rfl, rfl⟩) | (go_at_call 30; refine (mul_any _ _ _).mono ?_; rintro e w' ⟨rfl, rfl⟩) | (go_at_call 34; refine (awake_any _).mono ?_; rintro e w' ⟨rfl, hx⟩))
                    all_goals go_ret
                    all_goals exact ⟨rfl, by repeat (first | exact Ext.refl _ | assumption | refine Ext.trans ?_ (by assumption))⟩
              · have u' : (mulE a0 a2 == 0) = false := by simp [u]
                as_aux_lemma =>
                  go_wp2_with (first | (go_at_call 32; refine (cmp_any _ _ _).mono ?_; rintro e w' ⟨rfl, rfl⟩) | (go_at_call 20; refine (valid_any _ _).mono ?_; rintro e w' ⟨rfl, rfl⟩) | (go_at_call 28; refine (sub_any _ _ _).mono ?_; rintro e w' ⟨rfl, rfl⟩) | (go_at_call 24; refine (sign_any _ _).mono ?_; rintro e w' ⟨rfl, rfl⟩) | (go_at_call 26; refine (add_any _ _ _).mono ?_; rintro e w' ⟨rfl, rfl⟩) | (go_at_call 30; refine (mul_any _ _ _).mono ?_; rintro e w' ⟨rfl, rfl⟩) | (go_at_call 34; refine (awake_any _).mono ?_; rintro e w' ⟨rfl, hx⟩))
                  all_goals go_ret
                  all_goals exact ⟨rfl, by repeat (first | exact Ext.refl _ | assumption | refine Ext.trans ?_ (by assumption))⟩
            · have c' : decide (0 < a2) = false := by simp; omega
              as_aux_lemma =>
                go_wp2_with (first | (go_at_call 32; refine (cmp_any _ _ _).mono ?_; rintro e w' ⟨rfl, rfl⟩) | (go_at_call 20; refine (valid_any _ _).mono ?_; rintro e w' ⟨rfl, rfl⟩) | (go_at_call 28; refine (sub_any _ _ _).mono ?_; rintro e w' ⟨rfl, rfl⟩) | (go_at_call 24; refine (sign_any _ _).mono ?_; rintro e w' ⟨rfl, rfl⟩) | (go_at_call 26; refine (add_any _ _ _).mono ?_; rintro e w' ⟨rfl, rfl⟩) | (go_at_call 30; refine (mul_any _ _ _).mono ?_; rintro e w' ⟨rfl, rfl⟩) | (go_at_call 34; refine (awake_any _).mono ?_; rintro e w' ⟨rfl, hx⟩))
                all_goals go_ret
                all_goals exact ⟨rfl, by repeat (first | exact Ext.refl _ | assumption | refine Ext.trans ?_ (by assumption))⟩
        · have y' : (addE a0 a2 == 0) = false := by simp [y]
          rcases Int.lt_or_le 0 a2 with c | c
          · have c' : decide (0 < a2) = true := by simp; omega
            rcases Decidable.em (mulE a0 a2 = 0) with u | u
            · rcases Decidable.em (mulE a1 a2 = 0) with z | z
              · obtain ⟨y1, y2⟩ := cmp_mul c u z
                as_aux_lemma =>
                  go_wp2_with (first | (go_at_call 32; refine (cmp_any _ _ _).mono ?_; rintro e w' ⟨rfl, rfl⟩) | (go_at_call 20; refine (valid_any _ _).mono ?_; rintro e w' ⟨rfl, rfl⟩) | (go_at_call 28; refine (sub_any _ _ _).mono ?_; rintro e w' ⟨rfl, rfl⟩) | (go_at_call 24; refine (sign_any _ _).mono ?_; rintro e w' ⟨rfl, rfl⟩) | (go_at_call 26; refine (add_any _ _ _).mono ?_; rintro e w' ⟨rfl, rfl⟩) | (go_at_call 30; refine (mul_any _ _ _).mono ?_; rintro e w' ⟨rfl, rfl⟩) | (go_at_call 34; refine (awake_any _).mono ?_; rintro e w' ⟨rfl, hx⟩))
                  all_goals go_ret
                  all_goals exact ⟨rfl, by repeat (first | exact Ext.refl _ | assumption | refine Ext.trans ?_ (by assumption))⟩
              · have z' : (mulE a1 a2 == 0) = false := by simp [z]
                as_aux_lemma =>
                  go_wp2_with (first | (go_at_call 32; refine (cmp_any _ _ _).mono ?_; rintro e w' ⟨rfl, rfl⟩) | (go_at_call 20; refine (valid_any _ _).mono ?_; rintro e w' ⟨rfl, rfl⟩) | (go_at_call 28; refine (sub_any _ _ _).mono ?_; rintro e w' ⟨rfl, rfl⟩) | (go_at_call 24; refine (sign_any _ _).mono ?_; rintro e w' ⟨rfl, rfl⟩) | (go_at_call 26; refine (add_any _ _ _).mono ?_; rintro e w' ⟨rfl, rfl⟩) | (go_at_call 30; refine (mul_any _ _ _).mono ?_; rintro e w' ⟨rfl, rfl⟩) | (go_at_call 34; refine (awake_any _).mono ?_; rintro e w' ⟨rfl, hx⟩))
                  all_goals go_ret
                  all_goals exact ⟨rfl, by repeat (first | exact Ext.refl _ | assumption | refine Ext.trans ?_ (by assumption))⟩
            · have u' : (mulE a0 a2 == 0) = false := by simp [u]
              as_aux_lemma =>
                go_wp2_with (first | (go_at_call 32; refine (cmp_any _ _ _).mono ?_; rintro e w' ⟨rfl, rfl⟩) | (go_at_call 20; refine (valid_any _ _).mono ?_; rintro e w' ⟨rfl, rfl⟩) | (go_at_call 28; refine (sub_any _ _ _).mono ?_; rintro e w' ⟨rfl, rfl⟩) | (go_at_call 24; refine (sign_any _ _).mono ?_; rintro e w' ⟨rfl, rfl⟩) | (go_at_call 26; refine (add_any _ _ _).mono ?_; rintro e w' ⟨rfl, rfl⟩) | (go_at_call 30; refine (mul_any _ _ _).mono ?_; rintro e w' ⟨rfl, rfl⟩) | (go_at_call 34; refine (awake_any _).mono ?_; rintro e w' ⟨rfl, hx⟩))
                all_goals go_ret
                all_goals exact ⟨rfl, by repeat (first | exact Ext.refl _ | assumption | refine Ext.trans ?_ (by assumption))⟩
          · have c' : decide (0 < a2) = false := by simp; omega
            as_aux_lemma =>
              go_wp2_with (first | (go_at_call 32; refine (cmp_any _ _ _).mono ?_; rintro e w' ⟨rfl, rfl⟩) | (go_at_call 20; refine (valid_any _ _).mono ?_; rintro e w' ⟨rfl, rfl⟩) | (go_at_call 28; refine (sub_any _ _ _).mono ?_; rintro e w' ⟨rfl, rfl⟩) | (go_at_call 24; refine (sign_any _ _).mono ?_; rintro e w' ⟨rfl, rfl⟩) | (go_at_call 26; refine (add_any _ _ _).mono ?_; rintro e w' ⟨rfl, rfl⟩) | (go_at_call 30; refine (mul_any _ _ _).mono ?_; rintro e w' ⟨rfl, rfl⟩) | (go_at_call 34; refine (awake_any _).mono ?_; rintro e w' ⟨rfl, hx⟩))
              all_goals go_ret
              all_goals exact ⟨rfl, by repeat (first | exact Ext.refl _ | assumption | refine Ext.trans ?_ (by assumption))⟩
  · have f2 : (twoE a1 a2 == 0) = false := by simp [twoE, hc]
    go_enter Try.func11, Try.ntmps11
    go_upto_if 92 with (first | (go_at_call 32; refine (cmp_any _ _ _).mono ?_; rintro e w' ⟨rfl, rfl⟩) | (go_at_call 20; refine (valid_any _ _).mono ?_; rintro e w' ⟨rfl, rfl⟩) | (go_at_call 28; refine (sub_any _ _ _).mono ?_; rintro e w' ⟨rfl, rfl⟩) | (go_at_call 24; refine (sign_any _ _).mono ?_; rintro e w' ⟨rfl, rfl⟩) | (go_at_call 26; refine (add_any _ _ _).mono ?_; rintro e w' ⟨rfl, rfl⟩) | (go_at_call 30; refine (mul_any _ _ _).mono ?_; rintro e w' ⟨rfl, rfl⟩) | (go_at_call 34; refine (awake_any _).mono ?_; rintro e w' ⟨rfl, hx⟩))
    go_cut [] (fun wx => Ext w wx)
    case first =>
      as_aux_lemma =>
        go_wp2_with (first | (go_at_call 32; refine (cmp_any _ _ _).mono ?_; rintro e w' ⟨rfl, rfl⟩) | (go_at_call 20; refine (valid_any _ _).mono ?_; rintro e w' ⟨rfl, rfl⟩) | (go_at_call 28; refine (sub_any _ _ _).mono ?_; rintro e w' ⟨rfl, rfl⟩) | (go_at_call 24; refine (sign_any _ _).mono ?_; rintro e w' ⟨rfl, rfl⟩) | (go_at_call 26; refine (add_any _ _ _).mono ?_; rintro e w' ⟨rfl, rfl⟩) | (go_at_call 30; refine (mul_any _ _ _).mono ?_; rintro e w' ⟨rfl, rfl⟩) | (go_at_call 34; refine (awake_any _).mono ?_; rintro e w' ⟨rfl, hx⟩))
        all_goals go_meet
        all_goals repeat (first | exact Ext.refl _ | assumption | refine Ext.trans ?_ (by assumption))
    case rest =>
      have hx1 : Ext w wc := hcut
      clear hcut n1 n2 f2
      go_upto_if 113 with (first | (go_at_call 32; refine (cmp_any _ _ _).mono ?_; rintro e w' ⟨rfl, rfl⟩) | (go_at_call 20; refine (valid_any _ _).mono ?_; rintro e w' ⟨rfl, rfl⟩) | (go_at_call 28; refine (sub_any _ _ _).mono ?_; rintro e w' ⟨rfl, rfl⟩) | (go_at_call 24; refine (sign_any _ _).mono ?_; rintro e w' ⟨rfl, rfl⟩) | (go_at_call 26; refine (add_any _ _ _).mono ?_; rintro e w' ⟨rfl, rfl⟩) | (go_at_call 30; refine (mul_any _ _ _).mono ?_; rintro e w' ⟨rfl, rfl⟩) | (go_at_call 34; refine (awake_any _).mono ?_; rintro e w' ⟨rfl, hx⟩))
      go_cut [15] (fun _ wx => Ext w wx)
      case first =>
        rcases Decidable.em (subE a0 a1 = 0) with y | y
        · obtain ⟨y1, y2⟩ := cmp_sub y
          as_aux_lemma =>
            go_wp2_with (first | (go_at_call 32; refine (cmp_any _ _ _).mono ?_; rintro e w' ⟨rfl, rfl⟩) | (go_at_call 20; refine (valid_any _ _).mono ?_; rintro e w' ⟨rfl, rfl⟩) | (go_at_call 28; refine (sub_any _ _ _).mono ?_; rintro e w' ⟨rfl, rfl⟩) | (go_at_call 24; refine (sign_any _ _).mono ?_; rintro e w' ⟨rfl, rfl⟩) | (go_at_call 26; refine (add_any _ _ _).mono ?_; rintro e w' ⟨rfl, rfl⟩) | (go_at_call 30; refine (mul_any _ _ _).mono ?_; rintro e w' ⟨rfl, rfl⟩) | (go_at_call 34; refine (awake_any _).mono ?_; rintro e w' ⟨rfl, hx⟩))
            all_goals go_meet
            all_goals repeat (first | exact Ext.refl _ | assumption | refine Ext.trans ?_ (by assumption))
        · have y' : (subE a0 a1 == 0) = false := by simp [y]
          as_aux_lemma =>
            go_wp2_with (first | (go_at_call 32; refine (cmp_any _ _ _).mono ?_; rintro e w' ⟨rfl, rfl⟩) | (go_at_call 20; refine (valid_any _ _).mono ?_; rintro e w' ⟨rfl, rfl⟩) | (go_at_call 28; refine (sub_any _ _ _).mono ?_; rintro e w' ⟨rfl, rfl⟩) | (go_at_call 24; refine (sign_any _ _).mono ?_; rintro e w' ⟨rfl, rfl⟩) | (go_at_call 26; refine (add_any _ _ _).mono ?_; rintro e w' ⟨rfl, rfl⟩) | (go_at_call 30; refine (mul_any _ _ _).mono ?_; rintro e w' ⟨rfl, rfl⟩) | (go_at_call 34; refine (awake_any _).mono ?_; rintro e w' ⟨rfl, hx⟩))
            all_goals go_meet
            all_goals repeat (first | exact Ext.refl _ | assumption | refine Ext.trans ?_ (by assumption))
      case rest =>
        have hx2 : Ext w wc := hcut
        clear hcut
        rcases Decidable.em (addE a0 a2 = 0) with y | y
        · go_upto_if 143 with (first | (go_at_call 32; refine (cmp_any _ _ _).mono ?_; rintro e w' ⟨rfl, rfl⟩) | (go_at_call 20; refine (valid_any _ _).mono ?_; rintro e w' ⟨rfl, rfl⟩) | (go_at_call 28; refine (sub_any _ _ _).mono ?_; rintro e w' ⟨rfl, rfl⟩) | (go_at_call 24; refine (sign_any _ _).mono ?_; rintro e w' ⟨rfl, rfl⟩) | (go_at_call 26; refine (add_any _ _ _).mono ?_; rintro e w' ⟨rfl, rfl⟩) | (go_at_call 30; refine (mul_any _ _ _).mono ?_; rintro e w' ⟨rfl, rfl⟩) | (go_at_call 34; refine (awake_any _).mono ?_; rintro e w' ⟨rfl, hx⟩))
          go_cut [20] (fun _ wx => Ext w wx)
          case first =>
            rcases Decidable.em (addE a1 a2 = 0) with z | z
            · obtain ⟨y1, y2⟩ := cmp_add y z
              as_aux_lemma =>
                go_wp2_with (first | (go_at_call 32; refine (cmp_any _ _ _).mono ?_; rintro e w' ⟨rfl, rfl⟩) | (go_at_call 20; refine (valid_any _ _).mono ?_; rintro e w' ⟨rfl, rfl⟩) | (go_at_call 28; refine (sub_any _ _ _).mono ?_; rintro e w' ⟨rfl, rfl⟩) | (go_at_call 24; refine (sign_any _ _).mono ?_; rintro e w' ⟨rfl, rfl⟩) | (go_at_call 26; refine (add_any _ _ _).mono ?_; rintro e w' ⟨rfl, rfl⟩) | (go_at_call 30; refine (mul_any _ _ _).mono ?_; rintro e w' ⟨rfl, rfl⟩) | (go_at_call 34; refine (awake_any _).mono ?_; rintro e w' ⟨rfl, hx⟩))
                all_goals go_meet
                all_goals repeat (first | exact Ext.refl _ | assumption | refine Ext.trans ?_ (by assumption))
            · have z' : (addE a1 a2 == 0) = false := by simp [z]
              as_aux_lemma =>
                go_wp2_with (first | (go_at_call 32; refine (cmp_any _ _ _).mono ?_; rintro e w' ⟨rfl, rfl⟩) | (go_at_call 20; refine (valid_any _ _).mono ?_; rintro e w' ⟨rfl, rfl⟩) | (go_at_call 28; refine (sub_any _ _ _).mono ?_; rintro e w' ⟨rfl, rfl⟩) | (go_at_call 24; refine (sign_any _ _).mono ?_; rintro e w' ⟨rfl, rfl⟩) | (go_at_call 26; refine (add_any _ _ _).mono ?_; rintro e w' ⟨rfl, rfl⟩) | (go_at_call 30; refine (mul_any _ _ _).mono ?_; rintro e w' ⟨rfl, rfl⟩) | (go_at_call 34; refine (awake_any _).mono ?_; rintro e w' ⟨rfl, hx⟩))
                all_goals go_meet
                all_goals repeat (first | exact Ext.refl _ | assumption | refine Ext.trans ?_ (by assumption))
          case rest =>
            have hx3 : Ext w wc := hcut
            clear hcut y
            rcases Int.lt_or_le 0 a2 with c | c
            · have c' : decide (0 < a2) = true := by simp; omega
              rcases Decidable.em (mulE a0 a2 = 0) with u | u
              · rcases Decidable.em (mulE a1 a2 = 0) with z | z
                · obtain ⟨y1, y2⟩ := cmp_mul c u z
                  as_aux_lemma =>
                    go_wp2_with (first | (go_at_call 32; refine (cmp_any _ _ _).mono ?_; rintro e w' ⟨rfl, rfl⟩) | (go_at_call 20; refine (valid_any _ _).mono ?_; rintro e w' ⟨rfl, rfl⟩) | (go_at_call 28; refine (sub_any _ _ _).mono ?_; rintro e w' ⟨rfl, rfl⟩) | (go_at_call 24; refine (sign_any _ _).mono ?_; rintro e w' ⟨rfl, rfl⟩) | (go_at_call 26; refine (add_any _ _ _).mono ?_; rintro e w' ⟨rfl, rfl⟩) | (go_at_call 30; refine (mul_any _ _ _).mono ?_; rintro e w' ⟨rfl, rfl⟩) | (go_at_call 34; refine (awake_any _).mono ?_; rintro e w' ⟨rfl, hx⟩))
                    all_goals go_ret
                    all_goals exact ⟨rfl, by repeat (first | exact Ext.refl _ | assumption | refine Ext.trans ?_ (by assumption))⟩
                · have z' : (mulE a1 a2 == 0) = false := by simp [z]
                  as_aux_lemma =>
                    go_wp2_with (first | (go_at_call 32; refine (cmp_any _ _ _).mono ?_; rintro e w' ⟨rfl, rfl⟩) | (go_at_call 20; refine (valid_any _ _).mono ?_; rintro e w' ⟨rfl, rfl⟩) | (go_at_call 28; refine (sub_any _ _ _).mono ?_; rintro e w' ⟨rfl, rfl⟩) | (go_at_call 24; refine (sign_any _ _).mono ?_; rintro e w' ⟨rfl, rfl⟩) | (go_at_call 26; refine (add_any _ _ _).mono ?_; rintro e w' ⟨rfl, rfl⟩) | (go_at_call 30; refine (mul_any _ _ _).mono ?_; rintro e w' ⟨rfl, rfl⟩) | (go_at_call 34; refine (awake_any _).mono ?_; rintro e w' ⟨rfl, hx⟩))
                    all_goals go_ret
                    all_goals exact ⟨rfl, by repeat (first | exact Ext.refl _ | assumption | refine Ext.trans ?_ (by assumption))⟩
              · have u' : (mulE a0 a2 == 0) = false := by simp [u]
                as_aux_lemma =>
                  go_wp2_with (first | (go_at_call 32; refine (cmp_any _ _ _).mono ?_; rintro e w' ⟨rfl, rfl⟩) | (go_at_call 20; refine (valid_any _ _).mono ?_; rintro e w' ⟨rfl, rfl⟩) | (go_at_call 28; refine (sub_any _ _ _).mono ?_; rintro e w' ⟨rfl, rfl⟩) | (go_at_call 24; refine (sign_any _ _).mono ?_; rintro e w' ⟨rfl, rfl⟩) | (go_at_call 26; refine (add_any _ _ _).mono ?_; rintro e w' ⟨rfl, rfl⟩) | (go_at_call 30; refine (mul_any _ _ _).mono ?_; rintro e w' ⟨rfl, rfl⟩) | (go_at_call 34; refine (awake_any _).mono ?_; rintro e w' ⟨rfl, hx⟩))
                  all_goals go_ret
                  all_goals exact ⟨rfl, by repeat (first | exact Ext.refl _ | assumption | refine Ext.trans ?_ (by assumption))⟩
            · have c' : decide (0 < a2) = false := by simp; omega
              as_aux_lemma =>
                go_wp2_with (first | (go_at_call 32; refine (cmp_any _ _ _).mono ?_; rintro e w' ⟨rfl, rfl⟩) | (go_at_call 20; refine (valid_any _ _).mono ?_; rintro e w' ⟨rfl, rfl⟩) | (go_at_call 28; refine (sub_any _ _ _).mono ?_; rintro e w' ⟨rfl, rfl⟩) | (go_at_call 24; refine (sign_any _ _).mono ?_; rintro e w' ⟨rfl, rfl⟩) | (go_at_call 26; refine (add_any _ _ _).mono ?_; rintro e w' ⟨rfl, rfl⟩) | (go_at_call 30; refine (mul_any _ _ _).mono ?_; rintro e w' ⟨rfl, rfl⟩) | (go_at_call 34; refine (awake_any _).mono ?_; rintro e w' ⟨rfl, hx⟩))
                all_goals go_ret
                all_goals exact ⟨rfl, by repeat (first | exact Ext.refl _ | assumption | refine Ext.trans ?_ (by assumption))⟩
        · have y' : (addE a0 a2 == 0) = false := by simp [y]
          rcases Int.lt_or_le 0 a2 with c | c
          · have c' : decide (0 < a2) = true := by simp; omega
            rcases Decidable.em (mulE a0 a2 = 0) with u | u
            · rcases Decidable.em (mulE a1 a2 = 0) with z | z
              · obtain ⟨y1, y2⟩ := cmp_mul c u z
                as_aux_lemma =>
                  go_wp2_with (first | (go_at_call 32; refine (cmp_any _ _ _).mono ?_; rintro e w' ⟨rfl, rfl⟩) | (go_at_call 20; refine (valid_any _ _).mono ?_; rintro e w' ⟨rfl, rfl⟩) | (go_at_call 28; refine (sub_any _ _ _).mono ?_; rintro e w' ⟨rfl, rfl⟩) | (go_at_call 24; refine (sign_any _ _).mono ?_; rintro e w' ⟨rfl, rfl⟩) | (go_at_call 26; refine (add_any _ _ _).mono ?_; rintro e w' ⟨rfl, rfl⟩) | (go_at_call 30; refine (mul_any _ _ _).mono ?_; rintro e w' ⟨rfl, rfl⟩) | (go_at_call 34; refine (awake_any _).mono ?_; rintro e w' ⟨rfl, hx⟩))
                  all_goals go_ret
                  all_goals exact ⟨rfl, by repeat (first | exact Ext.refl _ | assumption | refine Ext.trans ?_ (by assumption))⟩
              · have z' : (mulE a1 a2 == 0) = false := by simp [z]
                as_aux_lemma =>
                  go_wp2_with (first | (go_at_call 32; refine (cmp_any _ _ _).mono ?_; rintro e w' ⟨rfl, rfl⟩) | (go_at_call 20; refine (valid_any _ _).mono ?_; rintro e w' ⟨rfl, rfl⟩) | (go_at_call 28; refine (sub_any _ _ _).mono ?_; rintro e w' ⟨rfl, rfl⟩) | (go_at_call 24; refine (sign_any _ _).mono ?_; rintro e w' ⟨rfl, rfl⟩) | (go_at_call 26; refine (add_any _ _ _).mono ?_; rintro e w' ⟨rfl, rfl⟩) | (go_at_call 30; refine (mul_any _ _ _).mono ?_; rintro e w' ⟨rfl, rfl⟩) | (go_at_call 34; refine (awake_any _).mono ?_; rintro e w' ⟨rfl, hx⟩))
                  all_goals go_ret
                  all_goals exact ⟨rfl, by repeat (first | exact Ext.refl _ | assumption | refine Ext.trans ?_ (by assumption))⟩
            · have u' : (mulE a0 a2 == 0) = false := by simp [u]
              as_aux_lemma =>
                go_wp2_with (first | (go_at_call 32; refine (cmp_any _ _ _).mono ?_; rintro e w' ⟨rfl, rfl⟩) | (go_at_call 20; refine (valid_any _ _).mono ?_; rintro e w' ⟨rfl, rfl⟩) | (go_at_call 28; refine (sub_any _ _ _).mono ?_; rintro e w' ⟨rfl, rfl⟩) | (go_at_call 24; refine (sign_any _ _).mono ?_; rintro e w' ⟨rfl, rfl⟩) | (go_at_call 26; refine (add_any _ _ _).mono ?_; rintro e w' ⟨rfl, rfl⟩) | (go_at_call 30; refine (mul_any _ _ _).mono ?_; rintro e w' ⟨rfl, rfl⟩) | (go_at_call 34; refine (awake_any _).mono ?_; rintro e w' ⟨rfl, hx⟩))
                all_goals go_ret
                all_goals exact ⟨rfl, by repeat (first | exact Ext.refl _ | assumption | refine Ext.trans ?_ (by assumption))⟩
          · have c' : decide (0 < a2) = false := by simp; omega
            as_aux_lemma =>
              go_wp2_with (first | (go_at_call 32; refine (cmp_any _ _ _).mono ?_; rintro e w' ⟨rfl, rfl⟩) | (go_at_call 20; refine (valid_any _ _).mono ?_; rintro e w' ⟨rfl, rfl⟩) | (go_at_call 28; refine (sub_any _ _ _).mono ?_; rintro e w' ⟨rfl, rfl⟩) | (go_at_call 24; refine (sign_any _ _).mono ?_; rintro e w' ⟨rfl, rfl⟩) | (go_at_call 26; refine (add_any _ _ _).mono ?_; rintro e w' ⟨rfl, rfl⟩) | (go_at_call 30; refine (mul_any _ _ _).mono ?_; rintro e w' ⟨rfl, rfl⟩) | (go_at_call 34; refine (awake_any _).mono ?_; rintro e w' ⟨rfl, hx⟩))
              all_goals go_ret
              all_goals exact ⟨rfl, by repeat (first | exact Ext.refl _ | assumption | refine Ext.trans ?_ (by assumption))⟩
end Go.Proofs.Ythbajdpblgclpaa.integerOrder
