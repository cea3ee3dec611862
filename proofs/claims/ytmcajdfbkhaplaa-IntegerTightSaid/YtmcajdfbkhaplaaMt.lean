/- Layer 1: IntegerTighter: quotients of ends by four divisors, as the law's Found collects them. -/
import Derived.Test.YtmcajdfbkhaplaaSl
import Derived.Test.YtmcajdfbkhaplaaMh
namespace Go.Proofs.Ytmcajdfbkhaplaa
open Go.RowKit

def dvt (c d : Int) (k : Nat) : Int := if k = 0 then c else if k = 1 then d else if k = 2 then -1 else 1
def tN (c d : Int) : Nat → Int
  | 0 => 0
  | k + 1 => if cnt c d (dvt c d k) = true then tN c d k + 1 + 1 else tN c d k
def tL (a b c d : Int) : Nat → Int
  | 0 => 0
  | k + 1 => if cnt c d (dvt c d k) = true then fl (tN c d k + 1) (fl (tN c d k) (tL a b c d k) (a.tdiv (dvt c d k))) (b.tdiv (dvt c d k)) else tL a b c d k
def tH (a b c d : Int) : Nat → Int
  | 0 => 0
  | k + 1 => if cnt c d (dvt c d k) = true then fh (tN c d k + 1) (fh (tN c d k) (tH a b c d k) (a.tdiv (dvt c d k))) (b.tdiv (dvt c d k)) else tH a b c d k
theorem tN_bd (c d : Int) : ∀ k, 0 ≤ tN c d k ∧ tN c d k ≤ 2 * k
  | 0 => ⟨by simp [tN], by simp [tN]⟩
  | k + 1 => by
    have := tN_bd c d k
    rw [tN]; split <;> omega
theorem fl_0 (lo n : Int) : fl 0 lo n = n := rfl
theorem fh_0 (lo n : Int) : fh 0 lo n = n := rfl
theorem fl_p {k : Int} (h : k ≠ 0) (lo n : Int) : fl k lo n = min lo n := if_neg h
theorem fh_p {k : Int} (h : k ≠ 0) (lo n : Int) : fh k lo n = max lo n := if_neg h
theorem t0 {c d : Int} (h : c = 0 ∧ d = 0) : tN c d 4 = 0 := by
  obtain ⟨rfl, rfl⟩ := h
  decide
set_option maxHeartbeats 4000000 in
theorem t4 {a b c d : Int} (v2 : spB c d = true) (hE : sqE a b c d = 0) (h : ¬ (c = 0 ∧ d = 0)) : 0 < tN c d 4 ∧ tL a b c d 4 = sqL a b c d ∧ tH a b c d 4 = sqH a b c d := by
  have hcd := (spB_t v2).2.2
  have d0 : dvt c d 0 = c := rfl
  have d1 : dvt c d 1 = d := rfl
  have d2 : dvt c d 2 = -1 := rfl
  have d3 : dvt c d 3 = 1 := rfl
  have hs : (0 < c ∧ c = 1) ∨ (0 < c ∧ c ≠ 1) ∨ (c = 0 ∧ 0 < d) ∨ (c < 0 ∧ d = -1) ∨ (c < 0 ∧ d < -1) ∨ (c < 0 ∧ d = 0) ∨ (c < 0 ∧ 0 < d) := by omega
  rcases hs with ⟨s1, s2⟩ | ⟨s1, s2⟩ | ⟨s1, s2⟩ | ⟨s1, s2⟩ | ⟨s1, s2⟩ | ⟨s1, s2⟩ | ⟨s1, s2⟩
  · have n0 : cnt c d c = true := cntT (by omega)
    have n1 : cnt c d d = true := cntT (by omega)
    have n2 : cnt c d 1 = true := cntT (by omega)
    have n3 : cnt c d (-1) = false := cntF (by omega)
    have g1 : a.tdiv 1 = a.tdiv c ∧ b.tdiv 1 = b.tdiv c := by rw [s2]; exact ⟨rfl, rfl⟩
    obtain ⟨g1, g2⟩ := g1
    have k0 : tN c d 0 = 0 := rfl
    have k1 : tN c d 1 = 2 := by rw [tN, d0, k0, n0]; rfl
    have k2 : tN c d 2 = 4 := by rw [tN, d1, k1, n1]; rfl
    have k3 : tN c d 3 = 4 := by rw [tN, d2, k2, n3]; rfl
    have k4 : tN c d 4 = 6 := by rw [tN, d3, k3, n2]; rfl
    have rtL : tL a b c d 4 = sqL a b c d := by
      rw [sqL, if_pos hE, if_pos (by omega)]
      have y0 : ∀ x y, fl (0 + 1) x y = min x y := fl_p (by omega)
      have z1 : ∀ x y, fl 2 x y = min x y := fl_p (by omega)
      have y1 : ∀ x y, fl (2 + 1) x y = min x y := fl_p (by omega)
      have z3 : ∀ x y, fl 4 x y = min x y := fl_p (by omega)
      have y3 : ∀ x y, fl (4 + 1) x y = min x y := fl_p (by omega)
      simp only [tL, k0, k1, k2, k3, d0, d1, d2, d3, n0, n1, n2, n3, if_true, Bool.false_eq_true, if_false, mn4, mx4, fl_0, y0, z1, y1, z3, y3, g1, g2]
      ac_rfl
    have rtH : tH a b c d 4 = sqH a b c d := by
      rw [sqH, if_pos hE, if_pos (by omega)]
      have y0 : ∀ x y, fh (0 + 1) x y = max x y := fh_p (by omega)
      have z1 : ∀ x y, fh 2 x y = max x y := fh_p (by omega)
      have y1 : ∀ x y, fh (2 + 1) x y = max x y := fh_p (by omega)
      have z3 : ∀ x y, fh 4 x y = max x y := fh_p (by omega)
      have y3 : ∀ x y, fh (4 + 1) x y = max x y := fh_p (by omega)
      simp only [tH, k0, k1, k2, k3, d0, d1, d2, d3, n0, n1, n2, n3, if_true, Bool.false_eq_true, if_false, mn4, mx4, fh_0, y0, z1, y1, z3, y3, g1, g2]
      ac_rfl
    exact ⟨by rw [k4]; omega, rtL, rtH⟩
  · have n0 : cnt c d c = true := cntT (by omega)
    have n1 : cnt c d d = true := cntT (by omega)
    have n2 : cnt c d 1 = false := cntF (by omega)
    have n3 : cnt c d (-1) = false := cntF (by omega)
    have k0 : tN c d 0 = 0 := rfl
    have k1 : tN c d 1 = 2 := by rw [tN, d0, k0, n0]; rfl
    have k2 : tN c d 2 = 4 := by rw [tN, d1, k1, n1]; rfl
    have k3 : tN c d 3 = 4 := by rw [tN, d2, k2, n3]; rfl
    have k4 : tN c d 4 = 4 := by rw [tN, d3, k3, n2]; rfl
    have rtL : tL a b c d 4 = sqL a b c d := by
      rw [sqL, if_pos hE, if_pos (by omega)]
      have y0 : ∀ x y, fl (0 + 1) x y = min x y := fl_p (by omega)
      have z1 : ∀ x y, fl 2 x y = min x y := fl_p (by omega)
      have y1 : ∀ x y, fl (2 + 1) x y = min x y := fl_p (by omega)
      simp only [tL, k0, k1, k2, k3, d0, d1, d2, d3, n0, n1, n2, n3, if_true, Bool.false_eq_true, if_false, mn4, mx4, fl_0, y0, z1, y1]
      ac_rfl
    have rtH : tH a b c d 4 = sqH a b c d := by
      rw [sqH, if_pos hE, if_pos (by omega)]
      have y0 : ∀ x y, fh (0 + 1) x y = max x y := fh_p (by omega)
      have z1 : ∀ x y, fh 2 x y = max x y := fh_p (by omega)
      have y1 : ∀ x y, fh (2 + 1) x y = max x y := fh_p (by omega)
      simp only [tH, k0, k1, k2, k3, d0, d1, d2, d3, n0, n1, n2, n3, if_true, Bool.false_eq_true, if_false, mn4, mx4, fh_0, y0, z1, y1]
      ac_rfl
    exact ⟨by rw [k4]; omega, rtL, rtH⟩
  · have n0 : cnt c d c = false := cntF (by omega)
    have n1 : cnt c d d = true := cntT (by omega)
    have n2 : cnt c d 1 = true := cntT (by omega)
    have n3 : cnt c d (-1) = false := cntF (by omega)
    have k0 : tN c d 0 = 0 := rfl
    have k1 : tN c d 1 = 0 := by rw [tN, d0, k0, n0]; rfl
    have k2 : tN c d 2 = 2 := by rw [tN, d1, k1, n1]; rfl
    have k3 : tN c d 3 = 2 := by rw [tN, d2, k2, n3]; rfl
    have k4 : tN c d 4 = 4 := by rw [tN, d3, k3, n2]; rfl
    have rtL : tL a b c d 4 = sqL a b c d := by
      rw [sqL, if_pos hE, if_neg (by omega), if_pos (by omega)]
      have y1 : ∀ x y, fl (0 + 1) x y = min x y := fl_p (by omega)
      have z3 : ∀ x y, fl 2 x y = min x y := fl_p (by omega)
      have y3 : ∀ x y, fl (2 + 1) x y = min x y := fl_p (by omega)
      simp only [tL, k0, k1, k2, k3, d0, d1, d2, d3, n0, n1, n2, n3, if_true, Bool.false_eq_true, if_false, mn4, mx4, fl_0, y1, z3, y3]
      ac_rfl
    have rtH : tH a b c d 4 = sqH a b c d := by
      rw [sqH, if_pos hE, if_neg (by omega), if_pos (by omega)]
      have y1 : ∀ x y, fh (0 + 1) x y = max x y := fh_p (by omega)
      have z3 : ∀ x y, fh 2 x y = max x y := fh_p (by omega)
      have y3 : ∀ x y, fh (2 + 1) x y = max x y := fh_p (by omega)
      simp only [tH, k0, k1, k2, k3, d0, d1, d2, d3, n0, n1, n2, n3, if_true, Bool.false_eq_true, if_false, mn4, mx4, fh_0, y1, z3, y3]
      ac_rfl
    exact ⟨by rw [k4]; omega, rtL, rtH⟩
  · have n0 : cnt c d c = true := cntT (by omega)
    have n1 : cnt c d d = true := cntT (by omega)
    have n2 : cnt c d 1 = false := cntF (by omega)
    have n3 : cnt c d (-1) = true := cntT (by omega)
    have g1 : a.tdiv (-1) = a.tdiv d ∧ b.tdiv (-1) = b.tdiv d := by rw [s2]; exact ⟨rfl, rfl⟩
    obtain ⟨g1, g2⟩ := g1
    have k0 : tN c d 0 = 0 := rfl
    have k1 : tN c d 1 = 2 := by rw [tN, d0, k0, n0]; rfl
    have k2 : tN c d 2 = 4 := by rw [tN, d1, k1, n1]; rfl
    have k3 : tN c d 3 = 6 := by rw [tN, d2, k2, n3]; rfl
    have k4 : tN c d 4 = 6 := by rw [tN, d3, k3, n2]; rfl
    have rtL : tL a b c d 4 = sqL a b c d := by
      rw [sqL, if_pos hE, if_neg (by omega), if_neg (by omega), if_pos (by omega)]
      have y0 : ∀ x y, fl (0 + 1) x y = min x y := fl_p (by omega)
      have z1 : ∀ x y, fl 2 x y = min x y := fl_p (by omega)
      have y1 : ∀ x y, fl (2 + 1) x y = min x y := fl_p (by omega)
      have z2 : ∀ x y, fl 4 x y = min x y := fl_p (by omega)
      have y2 : ∀ x y, fl (4 + 1) x y = min x y := fl_p (by omega)
      simp only [tL, k0, k1, k2, k3, d0, d1, d2, d3, n0, n1, n2, n3, if_true, Bool.false_eq_true, if_false, mn4, mx4, fl_0, y0, z1, y1, z2, y2, g1, g2]
      ac_rfl
    have rtH : tH a b c d 4 = sqH a b c d := by
      rw [sqH, if_pos hE, if_neg (by omega), if_neg (by omega), if_pos (by omega)]
      have y0 : ∀ x y, fh (0 + 1) x y = max x y := fh_p (by omega)
      have z1 : ∀ x y, fh 2 x y = max x y := fh_p (by omega)
      have y1 : ∀ x y, fh (2 + 1) x y = max x y := fh_p (by omega)
      have z2 : ∀ x y, fh 4 x y = max x y := fh_p (by omega)
      have y2 : ∀ x y, fh (4 + 1) x y = max x y := fh_p (by omega)
      simp only [tH, k0, k1, k2, k3, d0, d1, d2, d3, n0, n1, n2, n3, if_true, Bool.false_eq_true, if_false, mn4, mx4, fh_0, y0, z1, y1, z2, y2, g1, g2]
      ac_rfl
    exact ⟨by rw [k4]; omega, rtL, rtH⟩
  · have n0 : cnt c d c = true := cntT (by omega)
    have n1 : cnt c d d = true := cntT (by omega)
    have n2 : cnt c d 1 = false := cntF (by omega)
    have n3 : cnt c d (-1) = false := cntF (by omega)
    have k0 : tN c d 0 = 0 := rfl
    have k1 : tN c d 1 = 2 := by rw [tN, d0, k0, n0]; rfl
    have k2 : tN c d 2 = 4 := by rw [tN, d1, k1, n1]; rfl
    have k3 : tN c d 3 = 4 := by rw [tN, d2, k2, n3]; rfl
    have k4 : tN c d 4 = 4 := by rw [tN, d3, k3, n2]; rfl
    have rtL : tL a b c d 4 = sqL a b c d := by
      rw [sqL, if_pos hE, if_neg (by omega), if_neg (by omega), if_pos (by omega)]
      have y0 : ∀ x y, fl (0 + 1) x y = min x y := fl_p (by omega)
      have z1 : ∀ x y, fl 2 x y = min x y := fl_p (by omega)
      have y1 : ∀ x y, fl (2 + 1) x y = min x y := fl_p (by omega)
      simp only [tL, k0, k1, k2, k3, d0, d1, d2, d3, n0, n1, n2, n3, if_true, Bool.false_eq_true, if_false, mn4, mx4, fl_0, y0, z1, y1]
      ac_rfl
    have rtH : tH a b c d 4 = sqH a b c d := by
      rw [sqH, if_pos hE, if_neg (by omega), if_neg (by omega), if_pos (by omega)]
      have y0 : ∀ x y, fh (0 + 1) x y = max x y := fh_p (by omega)
      have z1 : ∀ x y, fh 2 x y = max x y := fh_p (by omega)
      have y1 : ∀ x y, fh (2 + 1) x y = max x y := fh_p (by omega)
      simp only [tH, k0, k1, k2, k3, d0, d1, d2, d3, n0, n1, n2, n3, if_true, Bool.false_eq_true, if_false, mn4, mx4, fh_0, y0, z1, y1]
      ac_rfl
    exact ⟨by rw [k4]; omega, rtL, rtH⟩
  · have n0 : cnt c d c = true := cntT (by omega)
    have n1 : cnt c d d = false := cntF (by omega)
    have n2 : cnt c d 1 = false := cntF (by omega)
    have n3 : cnt c d (-1) = true := cntT (by omega)
    have k0 : tN c d 0 = 0 := rfl
    have k1 : tN c d 1 = 2 := by rw [tN, d0, k0, n0]; rfl
    have k2 : tN c d 2 = 2 := by rw [tN, d1, k1, n1]; rfl
    have k3 : tN c d 3 = 4 := by rw [tN, d2, k2, n3]; rfl
    have k4 : tN c d 4 = 4 := by rw [tN, d3, k3, n2]; rfl
    have rtL : tL a b c d 4 = sqL a b c d := by
      rw [sqL, if_pos hE, if_neg (by omega), if_neg (by omega), if_neg (by omega), if_pos (by omega)]
      have y0 : ∀ x y, fl (0 + 1) x y = min x y := fl_p (by omega)
      have z2 : ∀ x y, fl 2 x y = min x y := fl_p (by omega)
      have y2 : ∀ x y, fl (2 + 1) x y = min x y := fl_p (by omega)
      simp only [tL, k0, k1, k2, k3, d0, d1, d2, d3, n0, n1, n2, n3, if_true, Bool.false_eq_true, if_false, mn4, mx4, fl_0, y0, z2, y2]
      ac_rfl
    have rtH : tH a b c d 4 = sqH a b c d := by
      rw [sqH, if_pos hE, if_neg (by omega), if_neg (by omega), if_neg (by omega), if_pos (by omega)]
      have y0 : ∀ x y, fh (0 + 1) x y = max x y := fh_p (by omega)
      have z2 : ∀ x y, fh 2 x y = max x y := fh_p (by omega)
      have y2 : ∀ x y, fh (2 + 1) x y = max x y := fh_p (by omega)
      simp only [tH, k0, k1, k2, k3, d0, d1, d2, d3, n0, n1, n2, n3, if_true, Bool.false_eq_true, if_false, mn4, mx4, fh_0, y0, z2, y2]
      ac_rfl
    exact ⟨by rw [k4]; omega, rtL, rtH⟩
  · have n0 : cnt c d c = true := cntT (by omega)
    have n1 : cnt c d d = true := cntT (by omega)
    have n2 : cnt c d 1 = true := cntT (by omega)
    have n3 : cnt c d (-1) = true := cntT (by omega)
    have k0 : tN c d 0 = 0 := rfl
    have k1 : tN c d 1 = 2 := by rw [tN, d0, k0, n0]; rfl
    have k2 : tN c d 2 = 4 := by rw [tN, d1, k1, n1]; rfl
    have k3 : tN c d 3 = 6 := by rw [tN, d2, k2, n3]; rfl
    have k4 : tN c d 4 = 8 := by rw [tN, d3, k3, n2]; rfl
    have rtL : tL a b c d 4 = sqL a b c d := by
      rw [sqL, if_pos hE, if_neg (by omega), if_neg (by omega), if_neg (by omega), if_neg (by omega)]
      have y0 : ∀ x y, fl (0 + 1) x y = min x y := fl_p (by omega)
      have z1 : ∀ x y, fl 2 x y = min x y := fl_p (by omega)
      have y1 : ∀ x y, fl (2 + 1) x y = min x y := fl_p (by omega)
      have z2 : ∀ x y, fl 4 x y = min x y := fl_p (by omega)
      have y2 : ∀ x y, fl (4 + 1) x y = min x y := fl_p (by omega)
      have z3 : ∀ x y, fl 6 x y = min x y := fl_p (by omega)
      have y3 : ∀ x y, fl (6 + 1) x y = min x y := fl_p (by omega)
      simp only [tL, k0, k1, k2, k3, d0, d1, d2, d3, n0, n1, n2, n3, if_true, Bool.false_eq_true, if_false, mn4, mx4, fl_0, y0, z1, y1, z2, y2, z3, y3]
      ac_rfl
    have rtH : tH a b c d 4 = sqH a b c d := by
      rw [sqH, if_pos hE, if_neg (by omega), if_neg (by omega), if_neg (by omega), if_neg (by omega)]
      have y0 : ∀ x y, fh (0 + 1) x y = max x y := fh_p (by omega)
      have z1 : ∀ x y, fh 2 x y = max x y := fh_p (by omega)
      have y1 : ∀ x y, fh (2 + 1) x y = max x y := fh_p (by omega)
      have z2 : ∀ x y, fh 4 x y = max x y := fh_p (by omega)
      have y2 : ∀ x y, fh (4 + 1) x y = max x y := fh_p (by omega)
      have z3 : ∀ x y, fh 6 x y = max x y := fh_p (by omega)
      have y3 : ∀ x y, fh (6 + 1) x y = max x y := fh_p (by omega)
      simp only [tH, k0, k1, k2, k3, d0, d1, d2, d3, n0, n1, n2, n3, if_true, Bool.false_eq_true, if_false, mn4, mx4, fh_0, y0, z1, y1, z2, y2, z3, y3]
      ac_rfl
    exact ⟨by rw [k4]; omega, rtL, rtH⟩

/-- The cells that the loop only reads. -/
structure TA (a b c d : Int) (A B Y : Nat) (u : World) : Prop where
  a0 : u.cell? ⟨A, 0, none⟩ = some (.int .i64 a)
  a1 : u.cell? ⟨A, 1, none⟩ = some (.int .i64 b)
  b0 : u.cell? ⟨B, 0, none⟩ = some (.int .i64 c)
  b1 : u.cell? ⟨B, 1, none⟩ = some (.int .i64 d)
  y0 : u.cell? ⟨Y, 0, none⟩ = some (.int .i64 c)
  y1 : u.cell? ⟨Y, 1, none⟩ = some (.int .i64 d)
  y2 : u.cell? ⟨Y, 2, none⟩ = some (.int .i64 (-1))
  y3 : u.cell? ⟨Y, 3, none⟩ = some (.int .i64 1)
theorem TA.y {a b c d : Int} {A B Y k : Nat} {u : World} (h : TA a b c d A B Y u) (hk : k < 4) : u.cell? ⟨Y, k, none⟩ = some (.int .i64 (dvt c d k)) := by
  have : k = 0 ∨ k = 1 ∨ k = 2 ∨ k = 3 := by omega
  rcases this with rfl | rfl | rfl | rfl
  · exact h.y0
  · exact h.y1
  · exact h.y2
  · exact h.y3
theorem TA.later {a b c d : Int} {A B Y : Nat} {u v : World} (h : TA a b c d A B Y u) (hx : Ext u v) : TA a b c d A B Y v := by
  have L := @World.block_lt_of_cell?
  exact { a0 := (hx.cell 0 (L u _ h.a0)).trans h.a0, a1 := (hx.cell 1 (L u _ h.a1)).trans h.a1, b0 := (hx.cell 0 (L u _ h.b0)).trans h.b0, b1 := (hx.cell 1 (L u _ h.b1)).trans h.b1, y0 := (hx.cell 0 (L u _ h.y0)).trans h.y0, y1 := (hx.cell 1 (L u _ h.y1)).trans h.y1, y2 := (hx.cell 2 (L u _ h.y2)).trans h.y2, y3 := (hx.cell 3 (L u _ h.y3)).trans h.y3 }
theorem TA.meet {a b c d : Int} {A B Y F : Nat} {w0 u v : World} {lo hi ok bad : Int} (h : TA a b c d A B Y u) (f : FD w0 u F lo hi ok bad v) (hA : A ≠ F) (hB : B ≠ F) (hY : Y ≠ F) : TA a b c d A B Y v :=
  { a0 := (f.oc A 0 hA).trans h.a0, a1 := (f.oc A 1 hA).trans h.a1, b0 := (f.oc B 0 hB).trans h.b0, b1 := (f.oc B 1 hB).trans h.b1, y0 := (f.oc Y 0 hY).trans h.y0, y1 := (f.oc Y 1 hY).trans h.y1, y2 := (f.oc Y 2 hY).trans h.y2, y3 := (f.oc Y 3 hY).trans h.y3 }
theorem FD.later {w0 w u v : World} {F : Nat} {lo hi ok bad : Int} (h : FD w0 w F lo hi ok bad u) (hx : Ext u v) : FD w0 v F lo hi ok bad v := by
  have L := World.block_lt_of_cell? u _ h.c0
  exact { c0 := (hx.cell 0 L).trans h.c0, c1 := (hx.cell 1 L).trans h.c1, c2 := (hx.cell 2 L).trans h.c2, c3 := (hx.cell 3 L).trans h.c3, f0 := (hx.froz 0 L).trans h.f0, f1 := (hx.froz 1 L).trans h.f1, f2 := (hx.froz 2 L).trans h.f2, f3 := (hx.froz 3 L).trans h.f3, oc := fun _ _ _ => rfl, of := fun _ _ => rfl, sz := rfl, ext := h.ext.trans hx }
structure TQ (a b c d : Int) (w : World) (A B F Y : Nat) (k : Nat) (u : World) : Prop where
  t : TA a b c d A B Y u
  f : FD w u F (tL a b c d k) (tH a b c d k) (tN c d k) 0 u
theorem TQ.later {a b c d : Int} {w u v : World} {A B F Y k : Nat} (h : TQ a b c d w A B F Y k u) (hx : Ext u v) : TQ a b c d w A B F Y k v := ⟨h.t.later hx, h.f.later hx⟩
theorem TQ.skip {a b c d : Int} {w u : World} {A B F Y k : Nat} (h : TQ a b c d w A B F Y k u) (hc : cnt c d (dvt c d k) = false) : TQ a b c d w A B F Y (k + 1) u := by
  refine ⟨h.t, ?_⟩
  have e0 : tL a b c d (k + 1) = tL a b c d k := by rw [tL, if_neg (by rw [hc]; simp)]
  have e1 : tH a b c d (k + 1) = tH a b c d k := by rw [tH, if_neg (by rw [hc]; simp)]
  have e2 : tN c d (k + 1) = tN c d k := by rw [tN, if_neg (by rw [hc]; simp)]
  rw [e0, e1, e2]; exact h.f
theorem TQ.step {a b c d : Int} {w u : World} {A B F Y k : Nat} {v p q : Int} (t : TA a b c d A B Y u) (hv : dvt c d k = v) (hc : cnt c d v = true) (hp : a.tdiv v = p) (hq : b.tdiv v = q)
    (f : FD w u F (fl (tN c d k + 1) (fl (tN c d k) (tL a b c d k) p) q) (fh (tN c d k + 1) (fh (tN c d k) (tH a b c d k) p) q) (tN c d k + 1 + 1) 0 u) : TQ a b c d w A B F Y (k + 1) u := by
  subst hv; subst hp; subst hq
  refine ⟨t, ?_⟩
  rw [tL, tH, tN, if_pos hc, if_pos hc, if_pos hc]; exact f
theorem FD.here {w0 w u : World} {F : Nat} {lo hi ok bad : Int} (h : FD w0 w F lo hi ok bad u) : FD w0 u F lo hi ok bad u := h.later (Ext.refl u)
theorem quo_q {a v p : Int} (ha : okB a = true) (hv : okB v = true) (hz : v ≠ 0) (hp : a.tdiv v = p) (w : World) : Calls Try.prog 35 #[.int .i64 a, .int .i64 v] w fun e w' => e = .returned (.tuple #[.int .i64 p, .int .i64 0]) ∧ w' = w := by
  refine (quo_any a v w).mono ?_
  rintro e w' ⟨rfl, rfl⟩
  have hE : divE a v = 0 := by simp [divE, ha, hv, hz]
  exact ⟨by rw [hE, quoV, if_pos hE, hp], rfl⟩
end Go.Proofs.Ytmcajdfbkhaplaa
