/- Layer 1: spans: validity, the operations on their ends, and what is cut off. -/
import Derived.Test.YtmcajdfbkhaplaaRc
import Derived.Test.YtmcajdfbkhaplaaMs
import Derived.Lib.Hide
namespace Go.Proofs.Ytmcajdfbkhaplaa
open Go.RowKit

theorem validSpan_any (a b : Int) (w : World) :
    Calls Try.prog 51 #[.agg #[.int .i64 a, .int .i64 b]] w fun e w' => e = .returned (.bool (spB a b)) ∧ Ext w w' := by
  rcases Bool.eq_false_or_eq_true (okB a) with ha | ha <;> rcases Bool.eq_false_or_eq_true (okB b) with hb | hb <;> rcases Int.lt_or_le b a with h | h <;>
  (first | have d : decide (a ≤ b) = true := by (simp; omega) | have d : decide (a ≤ b) = false := by (simp; omega)
   go_enter Try.func51, Try.ntmps51
   go_wp2_with (first | (go_at_call 76; refine (bothValid_any _ _ _).mono ?_; rintro e w' ⟨rfl, rfl⟩))
   all_goals go_ret
   all_goals exact ⟨by first | (simp [spB, ha, hb, d]; done) | (simp [spB, ha, hb]; omega) | (simp [spB, ha, hb, d]; omega), by repeat (first | exact Ext.refl _ | assumption | refine Ext.drewN ?_ _ | refine Ext.drew ?_ | refine Ext.alloc ?_ _ | refine Ext.trans ?_ (by assumption))⟩)

theorem rvalidSpan_any (a b : Int) (w : World) :
    Calls Try.prog 52 #[.agg #[.int .i64 a, .int .i64 b]] w fun e w' => e = .returned (.bool (spB a b)) ∧ Ext w w' := by
  rcases Bool.eq_false_or_eq_true (okB a) with ha | ha <;> rcases Bool.eq_false_or_eq_true (okB b) with hb | hb <;> rcases Int.lt_or_le b a with h | h <;>
  (first | have d : decide (a ≤ b) = true := by (simp; omega) | have d : decide (a ≤ b) = false := by (simp; omega)
   go_enter Try.func52, Try.ntmps52
   go_wp2_with (first | (go_at_call 21; refine (rvalid_any _ _).mono ?_; rintro e w' ⟨rfl, rfl⟩))
   all_goals go_ret
   all_goals exact ⟨by first | (simp [spB, ha, hb, d]; done) | (simp [spB, ha, hb]; omega) | (simp [spB, ha, hb, d]; omega), by repeat (first | exact Ext.refl _ | assumption | refine Ext.drewN ?_ _ | refine Ext.drew ?_ | refine Ext.alloc ?_ _ | refine Ext.trans ?_ (by assumption))⟩)

theorem bothValidSpans_any (a b c d : Int) (w : World) :
    Calls Try.prog 86 #[.agg #[.int .i64 a, .int .i64 b], .agg #[.int .i64 c, .int .i64 d]] w fun e w' => e = .returned (.bool (spB a b && spB c d)) ∧ Ext w w' := by
  rcases Bool.eq_false_or_eq_true (spB a b) with h | h <;> rcases Bool.eq_false_or_eq_true (spB c d) with k | k <;>
  (go_enter Try.func86, Try.ntmps86
   go_wp2_with (first | (go_at_call 51; refine (validSpan_any _ _ _).mono ?_; rintro e w' ⟨rfl, hx⟩; obtain ⟨hc, hf⟩ := hx.cells; have hz := hx.size; (try simp at hz)))
   all_goals go_outline
   all_goals go_ret
   all_goals exact ⟨by simp [h, k], by repeat (first | exact Ext.refl _ | assumption | refine Ext.drewN ?_ _ | refine Ext.drew ?_ | refine Ext.alloc ?_ _ | refine Ext.setCell ?_ (by simp) _ | refine Ext.trans ?_ (by assumption))⟩)

theorem opAdd_any (x y : Int) (w : World) (h : okB x = true ∧ okB y = true) : Calls Try.prog 82 #[.int .i64 x, .int .i64 y] w fun e w' => e = .returned (.int .i64 (x + y)) ∧ w = w' := by
  have g := okB_t.1 h.1
  have g' := okB_t.1 h.2
  clear h
  go_enter Try.func82, Try.ntmps82
  go_wp2
  go_ret
  exact ⟨rfl, rfl⟩

theorem opSub_any (x y : Int) (w : World) (h : okB x = true ∧ okB y = true) : Calls Try.prog 84 #[.int .i64 x, .int .i64 y] w fun e w' => e = .returned (.int .i64 (x - y)) ∧ w = w' := by
  have g := okB_t.1 h.1
  have g' := okB_t.1 h.2
  clear h
  go_enter Try.func84, Try.ntmps84
  go_wp2
  go_ret
  exact ⟨rfl, rfl⟩

theorem opMul_any (x y : Int) (w : World) (h : okB x = true ∧ okB y = true) : Calls Try.prog 85 #[.int .i64 x, .int .i64 y] w fun e w' => e = .returned (.int .i64 (x * y)) ∧ w = w' := by
  have g := okB_t.1 h.1
  have g' := okB_t.1 h.2
  have gm := mul_fits g.1 g.2 g'.1 g'.2
  clear h
  go_enter Try.func85, Try.ntmps85
  go_wp2
  go_ret
  exact ⟨rfl, rfl⟩

theorem opQuo_any (x y : Int) (w : World) (h : okB x = true ∧ y ≠ 0) : Calls Try.prog 87 #[.int .i64 x, .int .i64 y] w fun e w' => e = .returned (.int .i64 (x.tdiv y)) ∧ w = w' := by
  have g := okB_t.1 h.1
  have hz := h.2
  obtain ⟨q, r, hq, hr, qb, qb1, q1, q2, r1, r2, r3, r4⟩ := divAt h.1 h.2
  rw [hq]
  clear h hr qb qb1
  have e1 : IntKind.i64.wrap q = q := IntWalk.i64_in _ ⟨by omega, by omega⟩
  go_enter Try.func87, Try.ntmps87
  go_wp2
  all_goals go_ret
  all_goals exact ⟨by simp, rfl⟩

end Go.Proofs.Ytmcajdfbkhaplaa
