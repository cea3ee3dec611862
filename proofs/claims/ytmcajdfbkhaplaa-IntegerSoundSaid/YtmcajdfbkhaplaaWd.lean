/- Layer 1: powers. -/
import Derived.Test.YtmcajdfbkhaplaaMb
import Derived.Test.YtmcajdfbkhaplaaWc
import Derived.Handy
namespace Go.Proofs.Ytmcajdfbkhaplaa
open Go.RowKit

/-- Rounds of the loop: N of them, where either no power leaves the range, or the base is large. -/
theorem pow_any (a n : Int) (w : World) :
    Calls Try.prog 43 #[.int .i64 a, .int .i64 n] w fun e w' => e = .returned (.tuple #[.int .i64 (powV a n), .int .i64 (powE a n)]) ∧ w = w' := by
  rcases Bool.eq_false_or_eq_true (okB a) with ha | ha
  rotate_left
  · have he : powE a n = 1 := by simp [powE, ha]
    have hv : powV a n = 0 := by simp [powV, he]
    go_enter Try.func43, Try.ntmps43
    go_wp2_with (first | (go_at_call 76; refine (bothValid_any _ _ _).mono ?_; rintro e w' ⟨rfl, rfl⟩))
    go_ret2
    exact ⟨by simp [he, hv], rfl⟩
  rcases Bool.eq_false_or_eq_true (okB n) with hn | hn
  rotate_left
  · have he : powE a n = 1 := by simp [powE, hn]
    have hv : powV a n = 0 := by simp [powV, he]
    go_enter Try.func43, Try.ntmps43
    go_wp2_with (first | (go_at_call 76; refine (bothValid_any _ _ _).mono ?_; rintro e w' ⟨rfl, rfl⟩))
    go_ret2
    exact ⟨by simp [he, hv], rfl⟩
  rcases Int.lt_or_le n 0 with h0 | h0
  · have he : powE a n = 1 := by simp [powE, ha, hn]; omega
    have hv : powV a n = 0 := by simp [powV, he]
    have d0 : decide (n < 0) = true := by simp; omega
    go_enter Try.func43, Try.ntmps43
    go_wp2_with (first | (go_at_call 76; refine (bothValid_any _ _ _).mono ?_; rintro e w' ⟨rfl, rfl⟩))
    go_ret2
    exact ⟨by simp [he, hv], rfl⟩
  have d0 : decide (n < 0) = false := by simp; omega
  rcases Decidable.em (a = 0 ∧ n = 0) with hz | hz
  · have o0 : okB 0 = true := by decide
    have he : powE a n = 5 := by simp only [powE, hz]; simp [o0]
    have hv : powV a n = 0 := by simp [powV, he]
    obtain ⟨rfl, rfl⟩ := hz
    go_enter Try.func43, Try.ntmps43
    go_wp2_with (first | (go_at_call 76; refine (bothValid_any _ _ _).mono ?_; rintro e w' ⟨rfl, rfl⟩))
    go_ret2
    exact ⟨by simp [he, hv], rfl⟩
  have g := okB_t.1 ha
  have gn := okB_t.1 hn
  have he : powE a n = if okB (pw a n.toNat) then 0 else 3 := by simp only [powE, ha, hn, h0, hz]; simp
  by_cases h1 : -1 ≤ a ∧ a ≤ 1
  · obtain ⟨s1, s2, s3⟩ := pw_small h1.1 h1.2 h0 hz
    have sm := pw_small_ok h1.1 h1.2
    have hE : powE a n = 0 := by rw [he, okB_in (by omega) (by omega)]; rfl
    have hv : powV a n = pw a n.toNat := by simp [powV, hE]
    have S1 : Hid (pw a (2 - n % 2).toNat = pw a n.toNat) := s1
    have SM : Hid (∀ k, -1 ≤ pw a k ∧ pw a k ≤ 1) := sm
    clear s1 s2 s3 sm he
    have d2 : decide (-1 ≤ a) = true := by simp; omega
    have d3 : decide (a ≤ 1) = true := by simp; omega
    have hz' : ((a == 0) = true ∧ (n == 0) = false) ∨ (a == 0) = false := by
      rcases Decidable.em (a = 0) with e | e
      · left; exact ⟨by simp [e], by simp; omega⟩
      · right; simp [e]
    rcases hz' with ⟨d1, d4⟩ | d1 <;>
    (go_enter Try.func43, Try.ntmps43
     go_wp2_with (first | (go_at_call 76; refine (bothValid_any _ _ _).mono ?_; rintro e w' ⟨rfl, rfl⟩))
     go_loop [6, 31] (fun v6 v31 => ∃ k : Nat, (k : Int) ≤ 2 - n % 2 ∧ v6 = .int .i64 (pw a k) ∧ v31 = .int .i64 k) (fun _ i => (2 - intOf i).toNat)
     case atStart => exact ⟨0, by omega, by rw [pw_zero], rfl⟩
     case round =>
       obtain ⟨k, hk, rfl, rfl⟩ := hrel
       have b1 := SM.out k
       have b2 := SM.out (k + 1)
       have b3 := okB_in (n := pw a (k + 1)) (by omega) (by omega)
       have b4 : pw a k * a = pw a (k + 1) := (pw_succ a k).symm
       by_cases hlt : (k : Int) < 2 - n % 2
       · go_wp2_with (first | (go_at_call 20; refine (valid_any _ _).mono ?_; rintro e w' ⟨rfl, rfl⟩))
         go_round
         case rel => exact ⟨k + 1, by omega, rfl, by go_num⟩
         case measure => simp [intOf]; omega
       · go_wp2
         go_ret2
         have e := S1.out
         rw [show (2 - n % 2).toNat = k from by omega] at e
         exact ⟨by simp [e], rfl⟩)
  · have ha2 : 2 ≤ a.natAbs := by omega
    have hne : a ≠ 0 := by omega
    have d1 : (a == 0) = false := by simp [hne]
    have HE := Lib.hid he
    clear he
    rcases (show a < -1 ∨ 1 < a by omega) with h2 | h2
    · have d2 : decide (-1 ≤ a) = false := by simp; omega
      (go_enter Try.func43, Try.ntmps43
       go_wp2_with (first | (go_at_call 76; refine (bothValid_any _ _ _).mono ?_; rintro e w' ⟨rfl, rfl⟩))
       go_loop [6, 31] (fun v6 v31 => ∃ k : Nat, (k : Int) ≤ n ∧ v6 = .int .i64 (pw a k) ∧ v31 = .int .i64 k ∧ okB (pw a k) = true) (fun _ i => (n - intOf i).toNat)
       case atStart => exact ⟨0, by omega, by rw [pw_zero], rfl, by rw [pw_zero]; decide⟩
       case round =>
         obtain ⟨k, hk, rfl, rfl, ho⟩ := hrel
         have b4 : pw a k * a = pw a (k + 1) := (pw_succ a k).symm
         have b1 := okB_t.1 ho
         have b5 := mul_fits b1.1 b1.2 g.1 g.2
         rw [b4] at b5
         by_cases hlt : (k : Int) < n
         · rcases Bool.eq_false_or_eq_true (okB (pw a (k + 1))) with b3 | b3
           · go_wp2_with (first | (go_at_call 20; refine (valid_any _ _).mono ?_; rintro e w' ⟨rfl, rfl⟩))
             go_round
             case rel => exact ⟨k + 1, by omega, rfl, by go_num, b3⟩
             case measure => simp [intOf]; omega
           · have hO : okB (pw a n.toNat) = false := by
               rcases Bool.eq_false_or_eq_true (okB (pw a n.toNat)) with x | x
               · rw [pw_ok_mono hne (show k + 1 ≤ n.toNat by omega) x] at b3; exact absurd b3 (by simp)
               · exact x
             have hE : powE a n = 3 := by rw [HE.out, hO]; rfl
             have hv : powV a n = 0 := by simp [powV, hE]
             clear hO
             go_wp2_with (first | (go_at_call 20; refine (valid_any _ _).mono ?_; rintro e w' ⟨rfl, rfl⟩))
             go_ret2
             exact ⟨by simp [hE, hv], rfl⟩
         · have hkn : n.toNat = k := by omega
           have hE : powE a n = 0 := by rw [HE.out, hkn, ho]; rfl
           have hv : powV a n = pw a k := by simp only [powV, hE, hkn]; simp
           clear hkn
           go_wp2
           go_ret2
           exact ⟨by simp , rfl⟩)
    · have d2 : decide (-1 ≤ a) = true := by simp; omega
      have d3 : decide (a ≤ 1) = false := by simp; omega
      (go_enter Try.func43, Try.ntmps43
       go_wp2_with (first | (go_at_call 76; refine (bothValid_any _ _ _).mono ?_; rintro e w' ⟨rfl, rfl⟩))
       go_loop [6, 31] (fun v6 v31 => ∃ k : Nat, (k : Int) ≤ n ∧ v6 = .int .i64 (pw a k) ∧ v31 = .int .i64 k ∧ okB (pw a k) = true) (fun _ i => (n - intOf i).toNat)
       case atStart => exact ⟨0, by omega, by rw [pw_zero], rfl, by rw [pw_zero]; decide⟩
       case round =>
         obtain ⟨k, hk, rfl, rfl, ho⟩ := hrel
         have b4 : pw a k * a = pw a (k + 1) := (pw_succ a k).symm
         have b1 := okB_t.1 ho
         have b5 := mul_fits b1.1 b1.2 g.1 g.2
         rw [b4] at b5
         by_cases hlt : (k : Int) < n
         · rcases Bool.eq_false_or_eq_true (okB (pw a (k + 1))) with b3 | b3
           · go_wp2_with (first | (go_at_call 20; refine (valid_any _ _).mono ?_; rintro e w' ⟨rfl, rfl⟩))
             go_round
             case rel => exact ⟨k + 1, by omega, rfl, by go_num, b3⟩
             case measure => simp [intOf]; omega
           · have hO : okB (pw a n.toNat) = false := by
               rcases Bool.eq_false_or_eq_true (okB (pw a n.toNat)) with x | x
               · rw [pw_ok_mono hne (show k + 1 ≤ n.toNat by omega) x] at b3; exact absurd b3 (by simp)
               · exact x
             have hE : powE a n = 3 := by rw [HE.out, hO]; rfl
             have hv : powV a n = 0 := by simp [powV, hE]
             clear hO
             go_wp2_with (first | (go_at_call 20; refine (valid_any _ _).mono ?_; rintro e w' ⟨rfl, rfl⟩))
             go_ret2
             exact ⟨by simp [hE, hv], rfl⟩
         · have hkn : n.toNat = k := by omega
           have hE : powE a n = 0 := by rw [HE.out, hkn, ho]; rfl
           have hv : powV a n = pw a k := by simp only [powV, hE, hkn]; simp
           clear hkn
           go_wp2
           go_ret2
           exact ⟨by simp , rfl⟩)


theorem rpow_any (a n : Int) (w : World) :
    Calls Try.prog 44 #[.int .i64 a, .int .i64 n] w fun e w' => e = .returned (.tuple #[.int .i64 (powV a n), .int .i64 (powE a n)]) ∧ w = w' := by
  rcases Bool.eq_false_or_eq_true (okB a) with ha | ha
  rotate_left
  · have he : powE a n = 1 := by simp [powE, ha]
    have hv : powV a n = 0 := by simp [powV, he]
    go_enter Try.func44, Try.ntmps44
    go_wp2_with (first | (go_at_call 21; refine (rvalid_any _ _).mono ?_; rintro e w' ⟨rfl, rfl⟩))
    go_ret2
    exact ⟨by simp [he, hv], rfl⟩
  rcases Bool.eq_false_or_eq_true (okB n) with hn | hn
  rotate_left
  · have he : powE a n = 1 := by simp [powE, hn]
    have hv : powV a n = 0 := by simp [powV, he]
    go_enter Try.func44, Try.ntmps44
    go_wp2_with (first | (go_at_call 21; refine (rvalid_any _ _).mono ?_; rintro e w' ⟨rfl, rfl⟩))
    go_ret2
    exact ⟨by simp [he, hv], rfl⟩
  rcases Int.lt_or_le n 0 with h0 | h0
  · have he : powE a n = 1 := by simp [powE, ha, hn]; omega
    have hv : powV a n = 0 := by simp [powV, he]
    have d0 : decide (n < 0) = true := by simp; omega
    go_enter Try.func44, Try.ntmps44
    go_wp2_with (first | (go_at_call 21; refine (rvalid_any _ _).mono ?_; rintro e w' ⟨rfl, rfl⟩))
    go_ret2
    exact ⟨by simp [he, hv], rfl⟩
  have d0 : decide (n < 0) = false := by simp; omega
  rcases Decidable.em (a = 0 ∧ n = 0) with hz | hz
  · have o0 : okB 0 = true := by decide
    have he : powE a n = 5 := by simp only [powE, hz]; simp [o0]
    have hv : powV a n = 0 := by simp [powV, he]
    obtain ⟨rfl, rfl⟩ := hz
    go_enter Try.func44, Try.ntmps44
    go_wp2_with (first | (go_at_call 21; refine (rvalid_any _ _).mono ?_; rintro e w' ⟨rfl, rfl⟩))
    go_ret2
    exact ⟨by simp [he, hv], rfl⟩
  have g := okB_t.1 ha
  have gn := okB_t.1 hn
  have he : powE a n = if okB (pw a n.toNat) then 0 else 3 := by simp only [powE, ha, hn, h0, hz]; simp
  by_cases a0 : a = 0
  · subst a0
    have dn : (n == 0) = false := by simp; omega
    have e0 := pw_zero_base (k := n.toNat) (by omega)
    have o0 : okB 0 = true := by decide
    rw [e0, o0] at he
    have hE : powE 0 n = 0 := by rw [he]; rfl
    have hv : powV 0 n = 0 := by simp [powV, hE, e0]
    clear he e0
    go_enter Try.func44, Try.ntmps44
    go_wp2_with (first | (go_at_call 21; refine (rvalid_any _ _).mono ?_; rintro e w' ⟨rfl, rfl⟩))
    go_ret2
    exact ⟨by simp [hE, hv], rfl⟩
  by_cases a1 : a = 1
  · subst a1
    have e0 := pw_one_base n.toNat
    have o0 : okB 1 = true := by decide
    rw [e0, o0] at he
    have hE : powE 1 n = 0 := by rw [he]; rfl
    have hv : powV 1 n = 1 := by simp [powV, hE, e0]
    clear he e0
    go_enter Try.func44, Try.ntmps44
    go_wp2_with (first | (go_at_call 21; refine (rvalid_any _ _).mono ?_; rintro e w' ⟨rfl, rfl⟩))
    go_ret2
    exact ⟨by simp [hE, hv], rfl⟩
  by_cases a2 : a = -1
  · subst a2
    rcases (show n % 2 = 0 ∨ n % 2 = 1 by omega) with hp | hp
    · have e0 := pw_even h0 hp
      have o0 : okB 1 = true := by decide
      rw [e0, o0] at he
      have hE : powE (-1) n = 0 := by rw [he]; rfl
      have hv : powV (-1) n = 1 := by simp [powV, hE, e0]
      clear he e0
      go_enter Try.func44, Try.ntmps44
      go_wp2_with (first | (go_at_call 21; refine (rvalid_any _ _).mono ?_; rintro e w' ⟨rfl, rfl⟩))
      go_ret2
      exact ⟨by simp [hE, hv], rfl⟩
    · have e0 := pw_odd h0 hp
      have o0 : okB (-1) = true := by decide
      rw [e0, o0] at he
      have hE : powE (-1) n = 0 := by rw [he]; rfl
      have hv : powV (-1) n = -1 := by simp [powV, hE, e0]
      clear he e0
      go_enter Try.func44, Try.ntmps44
      go_wp2_with (first | (go_at_call 21; refine (rvalid_any _ _).mono ?_; rintro e w' ⟨rfl, rfl⟩))
      go_ret2
      exact ⟨by simp [hE, hv], rfl⟩
  have ha2 : 2 ≤ a.natAbs := by omega
  have hne : a ≠ 0 := by omega
  have d1 : (a == 0) = false := by simp [a0]
  have d2 : (a == 1) = false := by simp [a1]
  have d3 : (a == -1) = false := by simp [a2]
  have HE := Lib.hid he
  clear he
  go_enter Try.func44, Try.ntmps44
  go_wp2_with (first | (go_at_call 21; refine (rvalid_any _ _).mono ?_; rintro e w' ⟨rfl, rfl⟩))
  go_loop [6, 7] (fun v6 v7 => ∃ k : Nat, (k : Int) ≤ n ∧ v6 = .int .i64 (pw a k) ∧ v7 = .int .i64 k ∧ okB (pw a k) = true) (fun _ i => (n - intOf i).toNat)
  case atStart => exact ⟨0, by omega, by rw [pw_zero], rfl, by rw [pw_zero]; decide⟩
  case round =>
    obtain ⟨k, hk, rfl, rfl, ho⟩ := hrel
    have b4 : pw a k * a = pw a (k + 1) := (pw_succ a k).symm
    have b1 := okB_t.1 ho
    have b5 := mul_fits b1.1 b1.2 g.1 g.2
    rw [b4] at b5
    by_cases hlt : (k : Int) < n
    · rcases Bool.eq_false_or_eq_true (okB (pw a (k + 1))) with b3 | b3
      · go_wp2_with (first | (go_at_call 21; refine (rvalid_any _ _).mono ?_; rintro e w' ⟨rfl, rfl⟩))
        go_round
        case rel => exact ⟨k + 1, by omega, rfl, by go_num, b3⟩
        case measure => simp [intOf]; omega
      · have hO : okB (pw a n.toNat) = false := by
          rcases Bool.eq_false_or_eq_true (okB (pw a n.toNat)) with x | x
          · rw [pw_ok_mono hne (show k + 1 ≤ n.toNat by omega) x] at b3; exact absurd b3 (by simp)
          · exact x
        have hE : powE a n = 3 := by rw [HE.out, hO]; rfl
        have hv : powV a n = 0 := by simp [powV, hE]
        clear hO
        go_wp2_with (first | (go_at_call 21; refine (rvalid_any _ _).mono ?_; rintro e w' ⟨rfl, rfl⟩))
        go_ret2
        exact ⟨by simp [hE, hv], rfl⟩
    · have hkn : n.toNat = k := by omega
      have hE : powE a n = 0 := by rw [HE.out, hkn, ho]; rfl
      have hv : powV a n = pw a k := by simp only [powV, hE, hkn]; simp
      clear hkn
      go_wp2
      go_ret2
      exact ⟨by simp , rfl⟩

end Go.Proofs.Ytmcajdfbkhaplaa
