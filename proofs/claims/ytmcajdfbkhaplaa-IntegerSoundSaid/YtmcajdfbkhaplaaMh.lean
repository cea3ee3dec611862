/- Layer 1: results of members are members of the span of the operation, or announced: plain facts. -/
import Derived.Test.YtmcajdfbkhaplaaMq
namespace Go.Proofs.Ytmcajdfbkhaplaa
open Go.RowKit

def heldP (n e lo hi : Int) (may : Bool) (f : Int) : Prop := (e = 0 ∧ f = 0 ∧ inB n lo hi = true) ∨ (e ≠ 0 ∧ ((f = 0 ∧ may = true) ∨ f = e))
theorem inB_t {n a b : Int} : inB n a b = true ↔ a ≤ n ∧ n ≤ b := by simp [inB]
theorem mem_ok {x a b : Int} (v : spB a b = true) (h : inB x a b = true) : okB x = true := by
  obtain ⟨h1, h2, _⟩ := spB_t v
  have g1 := okB_t.1 h1
  have g2 := okB_t.1 h2
  have g3 := inB_t.1 h
  exact okB_t.2 ⟨by omega, by omega⟩
theorem held_fit {z lo hi : Int} (h1 : lo ≤ z) (h2 : z ≤ hi) : heldP (fitV z) (fitE z) (sL true lo hi) (sH true lo hi) (sM true lo hi) (sE true lo hi) := by
  unfold heldP
  simp only [sL, sH, sM, sE, if_true, Bool.true_and]
  by_cases hz : okB z = true
  · have g := okB_t.1 hz
    have hc : cutE lo hi = 0 := by unfold cutE; rw [if_neg (by omega)]
    refine Or.inl ⟨by simp [fitE, hz], hc, inB_t.2 ?_⟩
    simp only [fitV, hz, if_true, cutL, cutH, hc]
    exact ⟨by omega, by omega⟩
  · have hf : fitE z = 3 := by simp [fitE, hz]
    refine Or.inr ⟨by rw [hf]; omega, ?_⟩
    rw [hf]
    have g : ¬ (-2147483647 ≤ z ∧ z ≤ 2147483647) := fun h => hz (okB_t.2 h)
    by_cases hc : 2147483647 < lo ∨ hi < -2147483647
    · exact Or.inr (by unfold cutE; rw [if_pos hc])
    · have hc0 : cutE lo hi = 0 := by unfold cutE; rw [if_neg hc]
      refine Or.inl ⟨hc0, ?_⟩
      have : lo < -2147483647 ∨ 2147483647 < hi := by omega
      simp [cutM, hc0, this]
section
variable {a b c d x y : Int} (v1 : spB a b = true) (v2 : spB c d = true) (m1 : inB x a b = true) (m2 : inB y c d = true)
include v1 v2 m1 m2
theorem held_add : heldP (addV x y) (addE x y) (sL (spB a b && spB c d) (a + c) (b + d)) (sH (spB a b && spB c d) (a + c) (b + d)) (sM (spB a b && spB c d) (a + c) (b + d)) (sE (spB a b && spB c d) (a + c) (b + d)) := by
  have o1 := mem_ok v1 m1
  have o2 := mem_ok v2 m2
  have g1 := inB_t.1 m1
  have g2 := inB_t.1 m2
  simp only [addV, addE, o1, o2, v1, v2, Bool.and_self, if_true]
  exact held_fit (by omega) (by omega)
theorem held_sub : heldP (subV x y) (subE x y) (sL (spB a b && spB c d) (a - d) (b - c)) (sH (spB a b && spB c d) (a - d) (b - c)) (sM (spB a b && spB c d) (a - d) (b - c)) (sE (spB a b && spB c d) (a - d) (b - c)) := by
  have o1 := mem_ok v1 m1
  have o2 := mem_ok v2 m2
  have g1 := inB_t.1 m1
  have g2 := inB_t.1 m2
  simp only [subV, subE, o1, o2, v1, v2, Bool.and_self, if_true]
  exact held_fit (by omega) (by omega)
end
theorem mulr {k p y q : Int} (h1 : p ≤ y) (h2 : y ≤ q) : min (k * p) (k * q) ≤ k * y ∧ k * y ≤ max (k * p) (k * q) := by
  rcases Int.le_total 0 k with h | h
  · have e1 := Int.mul_le_mul_of_nonneg_left h1 h
    have e2 := Int.mul_le_mul_of_nonneg_left h2 h
    omega
  · have e1 := Int.mul_le_mul_of_nonpos_left h h1
    have e2 := Int.mul_le_mul_of_nonpos_left h h2
    omega
theorem mull {k p y q : Int} (h1 : p ≤ y) (h2 : y ≤ q) : min (p * k) (q * k) ≤ y * k ∧ y * k ≤ max (p * k) (q * k) := by
  rw [Int.mul_comm p k, Int.mul_comm q k, Int.mul_comm y k]; exact mulr h1 h2
theorem mul_in {a b c d x y : Int} (h1 : a ≤ x) (h2 : x ≤ b) (h3 : c ≤ y) (h4 : y ≤ d) : mn4 (· * ·) a b c d ≤ x * y ∧ x * y ≤ mx4 (· * ·) a b c d := by
  have e1 := mull (k := y) h1 h2
  have e2 := mulr (k := a) h3 h4
  have e3 := mulr (k := b) h3 h4
  unfold mn4 mx4
  simp only []
  generalize x * y = z at *
  generalize a * y = z1 at *
  generalize b * y = z2 at *
  generalize a * c = w1 at *
  generalize a * d = w2 at *
  generalize b * c = w3 at *
  generalize b * d = w4 at *
  clear h1 h2 h3 h4
  omega
theorem held_mul {a b c d x y : Int} (v1 : spB a b = true) (v2 : spB c d = true) (m1 : inB x a b = true) (m2 : inB y c d = true) : heldP (mulV x y) (mulE x y) (sL (spB a b && spB c d) (mn4 (· * ·) a b c d) (mx4 (· * ·) a b c d)) (sH (spB a b && spB c d) (mn4 (· * ·) a b c d) (mx4 (· * ·) a b c d)) (sM (spB a b && spB c d) (mn4 (· * ·) a b c d) (mx4 (· * ·) a b c d)) (sE (spB a b && spB c d) (mn4 (· * ·) a b c d) (mx4 (· * ·) a b c d)) := by
  have o1 := mem_ok v1 m1
  have o2 := mem_ok v2 m2
  have g1 := inB_t.1 m1
  have g2 := inB_t.1 m2
  obtain ⟨k1, k2⟩ := mul_in g1.1 g1.2 g2.1 g2.2
  simp only [mulV, mulE, o1, o2, v1, v2, Bool.and_self, if_true]
  exact held_fit k1 k2

theorem tdiv_anti {a p y : Int} (ha : 0 ≤ a) (hp : 0 < p) (h : p ≤ y) : a.tdiv y ≤ a.tdiv p := by
  rw [Int.tdiv_eq_ediv_of_nonneg ha, Int.tdiv_eq_ediv_of_nonneg ha]
  obtain ⟨m, rfl⟩ := Int.eq_ofNat_of_zero_le ha
  obtain ⟨k, rfl⟩ := Int.eq_ofNat_of_zero_le (Int.le_of_lt hp)
  obtain ⟨l, rfl⟩ := Int.eq_ofNat_of_zero_le (show 0 ≤ y by omega)
  have : m / l ≤ m / k := Nat.div_le_div_left (by omega) (by omega)
  exact_mod_cast this
theorem tdiv_side {a p y q : Int} (hp : 0 < p) (h1 : p ≤ y) (h2 : y ≤ q) : min (a.tdiv p) (a.tdiv q) ≤ a.tdiv y ∧ a.tdiv y ≤ max (a.tdiv p) (a.tdiv q) := by
  rcases Int.le_total 0 a with h | h
  · have e1 := tdiv_anti h hp h1
    have e2 := tdiv_anti h (show 0 < y by omega) h2
    omega
  · have e1 := tdiv_anti (show 0 ≤ -a by omega) hp h1
    have e2 := tdiv_anti (show 0 ≤ -a by omega) (show 0 < y by omega) h2
    rw [Int.neg_tdiv, Int.neg_tdiv] at e1 e2
    omega
theorem quo_pos {a b p q x y : Int} (h1 : a ≤ x) (h2 : x ≤ b) (hp : 0 < p) (h3 : p ≤ y) (h4 : y ≤ q) : mn4 Int.tdiv a b p q ≤ x.tdiv y ∧ x.tdiv y ≤ mx4 Int.tdiv a b p q := by
  have hy : 0 < y := by omega
  have e1 := Int.tdiv_le_tdiv hy h1
  have e2 := Int.tdiv_le_tdiv hy h2
  have e3 := tdiv_side (a := a) hp h3 h4
  have e4 := tdiv_side (a := b) hp h3 h4
  unfold mn4 mx4
  generalize x.tdiv y = z at *
  generalize a.tdiv y = z1 at *
  generalize b.tdiv y = z2 at *
  generalize a.tdiv p = w1 at *
  generalize a.tdiv q = w2 at *
  generalize b.tdiv p = w3 at *
  generalize b.tdiv q = w4 at *
  clear h1 h2 h3 h4 hy hp
  omega
theorem quo_neg {a b p q x y : Int} (h1 : a ≤ x) (h2 : x ≤ b) (hq : q < 0) (h3 : p ≤ y) (h4 : y ≤ q) : mn4 Int.tdiv a b p q ≤ x.tdiv y ∧ x.tdiv y ≤ mx4 Int.tdiv a b p q := by
  have e := quo_pos (a := a) (b := b) (p := -q) (q := -p) (x := x) (y := -y) h1 h2 (by omega) (by omega) (by omega)
  unfold mn4 mx4 at *
  simp only [Int.tdiv_neg] at e
  generalize x.tdiv y = z at *
  generalize a.tdiv p = w1 at *
  generalize a.tdiv q = w2 at *
  generalize b.tdiv p = w3 at *
  generalize b.tdiv q = w4 at *
  clear h1 h2 h3 h4 hq
  omega
theorem held_quo {a b c d x y : Int} (v1 : spB a b = true) (v2 : spB c d = true) (m1 : inB x a b = true) (m2 : inB y c d = true) : heldP (quoV x y) (divE x y) (sqL a b c d) (sqH a b c d) (sqM a b c d) (sqE a b c d) := by
  have o1 := mem_ok v1 m1
  have o2 := mem_ok v2 m2
  have g1 := inB_t.1 m1
  have g2 := inB_t.1 m2
  by_cases hy : y = 0
  · have e : divE x y = 5 := by simp [divE, hy, o1, show okB 0 = true from by decide]
    refine Or.inr ⟨by rw [e]; omega, ?_⟩
    by_cases h : c = 0 ∧ d = 0
    · obtain ⟨rfl, rfl⟩ := h
      exact Or.inr (by rw [e]; simp [sqE, v1, v2])
    · have hE : sqE a b c d = 0 := by simp [sqE, v1, v2, h]
      refine Or.inl ⟨hE, ?_⟩
      have : c ≤ 0 := by omega
      have : 0 ≤ d := by omega
      simp [sqM, hE, *]
  · have e : divE x y = 0 := by simp [divE, hy, o1, o2]
    have hE : sqE a b c d = 0 := by
      have : ¬ (c = 0 ∧ d = 0) := by omega
      simp [sqE, v1, v2, this]
    refine Or.inl ⟨e, hE, inB_t.2 ?_⟩
    rw [sqL, if_pos hE, sqH, if_pos hE, quoV, if_pos e]
    by_cases h1 : 0 < c
    · rw [if_pos h1, if_pos h1]; exact quo_pos g1.1 g1.2 h1 g2.1 g2.2
    rw [if_neg h1, if_neg h1]
    by_cases h2 : c = 0
    · rw [if_pos h2, if_pos h2]; exact quo_pos g1.1 g1.2 (by omega) (by omega) g2.2
    rw [if_neg h2, if_neg h2]
    by_cases h3 : d < 0
    · rw [if_pos h3, if_pos h3]; exact quo_neg g1.1 g1.2 h3 g2.1 g2.2
    rw [if_neg h3, if_neg h3]
    by_cases h4 : d = 0
    · rw [if_pos h4, if_pos h4]; exact quo_neg g1.1 g1.2 (by omega) g2.1 (by omega)
    rw [if_neg h4, if_neg h4]
    rcases Int.lt_or_gt_of_ne hy with h | h
    · have k := quo_neg (p := c) (q := -1) (y := y) g1.1 g1.2 (by omega) g2.1 (by omega)
      exact ⟨Int.le_trans (Int.min_le_left _ _) k.1, Int.le_trans k.2 (Int.le_max_left _ _)⟩
    · have k := quo_pos (p := 1) (q := d) (y := y) g1.1 g1.2 (by omega) (by omega) g2.2
      exact ⟨Int.le_trans (Int.min_le_right _ _) k.1, Int.le_trans k.2 (Int.le_max_right _ _)⟩
theorem cmp_in {a b c d x y : Int} (m1 : inB x a b = true) (m2 : inB y c d = true) : inB (cmpI x y) (cmpI a d) (cmpI b c) = true := by
  have g1 := inB_t.1 m1
  have g2 := inB_t.1 m2
  refine inB_t.2 ?_
  unfold cmpI
  constructor <;> repeat (first | omega | split)
theorem neg_in {a b x : Int} (m1 : inB x a b = true) : inB (-x) (-b) (-a) = true := by
  have g1 := inB_t.1 m1
  exact inB_t.2 ⟨by omega, by omega⟩
end Go.Proofs.Ytmcajdfbkhaplaa
