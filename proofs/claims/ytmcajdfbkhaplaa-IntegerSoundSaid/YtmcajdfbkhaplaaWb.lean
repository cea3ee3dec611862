/- Layer 1: what each call on plain integers gives, function by function. -/
import Derived.Test.YtmcajdfbkhaplaaWa
namespace Go.Proofs.Ytmcajdfbkhaplaa
open Go.RowKit

theorem bothValid_any (a b : Int) (w : World) :
    Calls Try.prog 76 #[.int .i64 a, .int .i64 b] w fun e w' => e = .returned (.bool (okB a && okB b)) ∧ w = w' := by
  rcases Bool.eq_false_or_eq_true (okB a) with ha | ha <;>
  rcases Bool.eq_false_or_eq_true (okB b) with hb | hb <;>
  (skip
   go_enter Try.func76, Try.ntmps76
   go_wp2_with (first | (go_at_call 20; refine (valid_any _ _).mono ?_; rintro e w' ⟨rfl, rfl⟩))
   all_goals go_ret
   all_goals exact ⟨by simp [ha, hb], rfl⟩)

theorem fit_any (n : Int) (w : World) :
    Calls Try.prog 77 #[.int .i64 n] w fun e w' => e = .returned (.tuple #[.int .i64 (fitV n), .int .i64 (fitE n)]) ∧ w = w' := by
  rcases Bool.eq_false_or_eq_true (okB n) with h | h <;>
  (skip
   go_enter Try.func77, Try.ntmps77
   go_wp2_with (first | (go_at_call 20; refine (valid_any _ _).mono ?_; rintro e w' ⟨rfl, rfl⟩))
   all_goals go_ret2
   all_goals exact ⟨by simp [fitV, fitE, h], rfl⟩)

theorem exact_any (n : Int) (w : World) :
    Calls Try.prog 78 #[.int .i64 n] w fun e w' => e = .returned (.tuple #[.int .i64 (fitV n), .int .i64 (fitE n)]) ∧ w = w' := by
  rcases Bool.eq_false_or_eq_true (okB n) with h | h <;>
  (skip
   go_enter Try.func78, Try.ntmps78
   go_wp2_with (first | (go_at_call 21; refine (rvalid_any _ _).mono ?_; rintro e w' ⟨rfl, rfl⟩))
   all_goals go_ret2
   all_goals exact ⟨by simp [fitV, fitE, h], rfl⟩)

theorem neg_any (a : Int) (w : World) :
    Calls Try.prog 18 #[.int .i64 a] w fun e w' => e = .returned (.tuple #[.int .i64 (negV a), .int .i64 (oneE a)]) ∧ w = w' := by
  rcases Bool.eq_false_or_eq_true (okB a) with ha | ha <;>
  (try have g := okB_t.1 ha
   go_enter Try.func18, Try.ntmps18
   go_wp2_with (first | (go_at_call 20; refine (valid_any _ _).mono ?_; rintro e w' ⟨rfl, rfl⟩))
   all_goals go_ret2
   all_goals exact ⟨by simp [negV, oneE, ha], rfl⟩)

theorem rneg_any (a : Int) (w : World) :
    Calls Try.prog 19 #[.int .i64 a] w fun e w' => e = .returned (.tuple #[.int .i64 (negV a), .int .i64 (oneE a)]) ∧ w = w' := by
  rcases Bool.eq_false_or_eq_true (okB a) with ha | ha <;>
  (try have g := okB_t.1 ha
   go_enter Try.func19, Try.ntmps19
   go_wp2_with (first | (go_at_call 21; refine (rvalid_any _ _).mono ?_; rintro e w' ⟨rfl, rfl⟩))
   all_goals go_ret2
   all_goals exact ⟨by simp [negV, oneE, ha], rfl⟩)

theorem abs_any (a : Int) (w : World) :
    Calls Try.prog 22 #[.int .i64 a] w fun e w' => e = .returned (.tuple #[.int .i64 (absV a), .int .i64 (oneE a)]) ∧ w = w' := by
  rcases Bool.eq_false_or_eq_true (okB a) with ha | ha <;>
  (try have g := okB_t.1 ha
   go_enter Try.func22, Try.ntmps22
   go_wp2_with (first | (go_at_call 20; refine (valid_any _ _).mono ?_; rintro e w' ⟨rfl, rfl⟩))
   all_goals go_ret2
   all_goals exact ⟨by first | (simp [absV, oneE, ha]; done) | (simp [absV, oneE, ha]; omega) | (simp [absV, oneE, ha]; split <;> omega), rfl⟩)

theorem rabs_any (a : Int) (w : World) :
    Calls Try.prog 23 #[.int .i64 a] w fun e w' => e = .returned (.tuple #[.int .i64 (absV a), .int .i64 (oneE a)]) ∧ w = w' := by
  rcases Bool.eq_false_or_eq_true (okB a) with ha | ha <;>
  (try have g := okB_t.1 ha
   go_enter Try.func23, Try.ntmps23
   go_wp2_with (first | (go_at_call 21; refine (rvalid_any _ _).mono ?_; rintro e w' ⟨rfl, rfl⟩))
   all_goals go_ret2
   all_goals exact ⟨by first | (simp [absV, oneE, ha]; done) | (simp [absV, oneE, ha]; omega) | (simp [absV, oneE, ha]; split <;> omega), rfl⟩)

theorem compare_any (a b : Int) (w : World) :
    Calls Try.prog 75 #[.int .i64 a, .int .i64 b] w fun e w' => e = .returned (.int .i64 (cmpI a b)) ∧ w = w' := by
  rcases Decidable.em (a < b) with h1 | h1 <;>
  rcases Decidable.em (b < a) with h2 | h2 <;>
  (skip
   go_enter Try.func75, Try.ntmps75
   go_wp2
   all_goals go_ret
   all_goals exact ⟨by first | (simp [cmpI, h1, h2]; done) | (simp [cmpI] <;> (repeat' split) <;> omega), rfl⟩)

theorem sign_any (a : Int) (w : World) :
    Calls Try.prog 24 #[.int .i64 a] w fun e w' => e = .returned (.tuple #[.int .i64 (sgnV a), .int .i64 (oneE a)]) ∧ w = w' := by
  rcases Bool.eq_false_or_eq_true (okB a) with ha | ha <;>
  (skip
   go_enter Try.func24, Try.ntmps24
   go_wp2_with (first | (go_at_call 20; refine (valid_any _ _).mono ?_; rintro e w' ⟨rfl, rfl⟩) | (go_at_call 75; refine (compare_any _ _ _).mono ?_; rintro e w' ⟨rfl, rfl⟩))
   all_goals go_ret2
   all_goals exact ⟨by simp [sgnV, oneE, ha], rfl⟩)

theorem add_any (a b : Int) (w : World) :
    Calls Try.prog 26 #[.int .i64 a, .int .i64 b] w fun e w' => e = .returned (.tuple #[.int .i64 (addV a b), .int .i64 (addE a b)]) ∧ w = w' := by
  rcases Bool.eq_false_or_eq_true (okB a) with ha | ha <;>
  rcases Bool.eq_false_or_eq_true (okB b) with hb | hb <;>
  (try have g := okB_t.1 ha
   try have g' := okB_t.1 hb
   go_enter Try.func26, Try.ntmps26
   go_wp2_with (first | (go_at_call 76; refine (bothValid_any _ _ _).mono ?_; rintro e w' ⟨rfl, rfl⟩) | (go_at_call 77; refine (fit_any _ _).mono ?_; rintro e w' ⟨rfl, rfl⟩))
   all_goals go_ret2
   all_goals exact ⟨by simp [addV, addE, ha, hb], rfl⟩)

theorem radd_any (a b : Int) (w : World) :
    Calls Try.prog 27 #[.int .i64 a, .int .i64 b] w fun e w' => e = .returned (.tuple #[.int .i64 (addV a b), .int .i64 (addE a b)]) ∧ w = w' := by
  rcases Bool.eq_false_or_eq_true (okB a) with ha | ha <;>
  rcases Bool.eq_false_or_eq_true (okB b) with hb | hb <;>
  (try have g := okB_t.1 ha
   try have g' := okB_t.1 hb
   go_enter Try.func27, Try.ntmps27
   go_wp2_with (first | (go_at_call 21; refine (rvalid_any _ _).mono ?_; rintro e w' ⟨rfl, rfl⟩) | (go_at_call 78; refine (exact_any _ _).mono ?_; rintro e w' ⟨rfl, rfl⟩))
   all_goals go_ret2
   all_goals exact ⟨by simp [addV, addE, ha, hb], rfl⟩)

theorem sub_any (a b : Int) (w : World) :
    Calls Try.prog 28 #[.int .i64 a, .int .i64 b] w fun e w' => e = .returned (.tuple #[.int .i64 (subV a b), .int .i64 (subE a b)]) ∧ w = w' := by
  rcases Bool.eq_false_or_eq_true (okB a) with ha | ha <;>
  rcases Bool.eq_false_or_eq_true (okB b) with hb | hb <;>
  (try have g := okB_t.1 ha
   try have g' := okB_t.1 hb
   go_enter Try.func28, Try.ntmps28
   go_wp2_with (first | (go_at_call 76; refine (bothValid_any _ _ _).mono ?_; rintro e w' ⟨rfl, rfl⟩) | (go_at_call 77; refine (fit_any _ _).mono ?_; rintro e w' ⟨rfl, rfl⟩))
   all_goals go_ret2
   all_goals exact ⟨by simp [subV, subE, ha, hb], rfl⟩)

theorem rsub_any (a b : Int) (w : World) :
    Calls Try.prog 29 #[.int .i64 a, .int .i64 b] w fun e w' => e = .returned (.tuple #[.int .i64 (subV a b), .int .i64 (subE a b)]) ∧ w = w' := by
  rcases Bool.eq_false_or_eq_true (okB a) with ha | ha <;>
  rcases Bool.eq_false_or_eq_true (okB b) with hb | hb <;>
  (try have g := okB_t.1 ha
   try have g' := okB_t.1 hb
   go_enter Try.func29, Try.ntmps29
   go_wp2_with (first | (go_at_call 21; refine (rvalid_any _ _).mono ?_; rintro e w' ⟨rfl, rfl⟩) | (go_at_call 78; refine (exact_any _ _).mono ?_; rintro e w' ⟨rfl, rfl⟩))
   all_goals go_ret2
   all_goals exact ⟨by simp [subV, subE, ha, hb], rfl⟩)

theorem mul_any (a b : Int) (w : World) :
    Calls Try.prog 30 #[.int .i64 a, .int .i64 b] w fun e w' => e = .returned (.tuple #[.int .i64 (mulV a b), .int .i64 (mulE a b)]) ∧ w = w' := by
  rcases Bool.eq_false_or_eq_true (okB a) with ha | ha <;>
  rcases Bool.eq_false_or_eq_true (okB b) with hb | hb <;>
  (try have g := okB_t.1 ha
   try have g' := okB_t.1 hb
   try have gm := mul_fits g.1 g.2 g'.1 g'.2
   go_enter Try.func30, Try.ntmps30
   go_wp2_with (first | (go_at_call 76; refine (bothValid_any _ _ _).mono ?_; rintro e w' ⟨rfl, rfl⟩) | (go_at_call 77; refine (fit_any _ _).mono ?_; rintro e w' ⟨rfl, rfl⟩))
   all_goals go_ret2
   all_goals exact ⟨by simp [mulV, mulE, ha, hb], rfl⟩)

theorem rmul_any (a b : Int) (w : World) :
    Calls Try.prog 31 #[.int .i64 a, .int .i64 b] w fun e w' => e = .returned (.tuple #[.int .i64 (mulV a b), .int .i64 (mulE a b)]) ∧ w = w' := by
  rcases Bool.eq_false_or_eq_true (okB a) with ha | ha <;>
  rcases Bool.eq_false_or_eq_true (okB b) with hb | hb <;>
  (try have g := okB_t.1 ha
   try have g' := okB_t.1 hb
   try have gm := mul_fits g.1 g.2 g'.1 g'.2
   go_enter Try.func31, Try.ntmps31
   go_wp2_with (first | (go_at_call 21; refine (rvalid_any _ _).mono ?_; rintro e w' ⟨rfl, rfl⟩) | (go_at_call 78; refine (exact_any _ _).mono ?_; rintro e w' ⟨rfl, rfl⟩))
   all_goals go_ret2
   all_goals exact ⟨by simp [mulV, mulE, ha, hb], rfl⟩)

theorem cmp_any (a b : Int) (w : World) :
    Calls Try.prog 32 #[.int .i64 a, .int .i64 b] w fun e w' => e = .returned (.tuple #[.int .i64 (cmpV a b), .int .i64 (twoE a b)]) ∧ w = w' := by
  rcases Bool.eq_false_or_eq_true (okB a) with ha | ha <;>
  rcases Bool.eq_false_or_eq_true (okB b) with hb | hb <;>
  (skip
   go_enter Try.func32, Try.ntmps32
   go_wp2_with (first | (go_at_call 76; refine (bothValid_any _ _ _).mono ?_; rintro e w' ⟨rfl, rfl⟩) | (go_at_call 75; refine (compare_any _ _ _).mono ?_; rintro e w' ⟨rfl, rfl⟩))
   all_goals go_ret2
   all_goals exact ⟨by simp [cmpV, twoE, ha, hb], rfl⟩)

theorem rcmp_any (a b : Int) (w : World) :
    Calls Try.prog 33 #[.int .i64 a, .int .i64 b] w fun e w' => e = .returned (.tuple #[.int .i64 (cmpV a b), .int .i64 (twoE a b)]) ∧ w = w' := by
  rcases Bool.eq_false_or_eq_true (okB a) with ha | ha <;>
  rcases Bool.eq_false_or_eq_true (okB b) with hb | hb <;>
  rcases Decidable.em (a < b) with h1 | h1 <;>
  rcases Decidable.em (b < a) with h2 | h2 <;>
  (skip
   go_enter Try.func33, Try.ntmps33
   go_wp2_with (first | (go_at_call 21; refine (rvalid_any _ _).mono ?_; rintro e w' ⟨rfl, rfl⟩))
   all_goals go_ret2
   all_goals exact ⟨by first | (simp [cmpV, twoE, ha, hb]; done) | (simp [cmpV, twoE, ha, hb, cmpI, h1, h2]; done) | (simp [cmpV, twoE, ha, hb]; unfold cmpI; repeat' split <;> omega), rfl⟩)

theorem rsign_any (a : Int) (w : World) :
    Calls Try.prog 25 #[.int .i64 a] w fun e w' => e = .returned (.tuple #[.int .i64 (sgnV a), .int .i64 (oneE a)]) ∧ w = w' := by
  rcases Bool.eq_false_or_eq_true (okB a) with ha | ha <;>
  (have h0 : okB 0 = true := by decide
   go_enter Try.func25, Try.ntmps25
   go_wp2_with (first | (go_at_call 33; refine (rcmp_any _ _ _).mono ?_; rintro e w' ⟨rfl, rfl⟩))
   all_goals go_ret2
   all_goals exact ⟨by simp [sgnV, oneE, cmpV, twoE, ha, h0], rfl⟩)

end Go.Proofs.Ytmcajdfbkhaplaa
