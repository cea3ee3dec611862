/- Layer 1: quotients of ends by four divisors, one after the other. -/
import Derived.Test.YtmcajdfbkhaplaaSh
namespace Go.Proofs.Ytmcajdfbkhaplaa
open Go.RowKit

def dvs (c d : Int) (k : Nat) : Int := if k = 0 then c else if k = 1 then d else if k = 2 then 1 else -1
def cnt (c d x : Int) : Bool := !(x == 0) && inB x c d
def qL (a b c d : Int) : Nat → Int
  | 0 => 2147483647
  | k + 1 => if cnt c d (dvs c d k) = true then min (min (qL a b c d k) (a.tdiv (dvs c d k))) (b.tdiv (dvs c d k)) else qL a b c d k
def qH (a b c d : Int) : Nat → Int
  | 0 => -2147483647
  | k + 1 => if cnt c d (dvs c d k) = true then max (max (qH a b c d k) (a.tdiv (dvs c d k))) (b.tdiv (dvs c d k)) else qH a b c d k
theorem qL_0 (a b c d : Int) : qL a b c d 0 = 2147483647 := rfl
theorem qH_0 (a b c d : Int) : qH a b c d 0 = -2147483647 := rfl
theorem tdiv_bd {a : Int} (x : Int) (h : okB a = true) : -2147483647 ≤ a.tdiv x ∧ a.tdiv x ≤ 2147483647 := by
  have g := okB_t.1 h
  have e : (a.tdiv x).natAbs ≤ a.natAbs := by rw [Int.natAbs_tdiv]; exact Nat.div_le_self _ _
  omega

theorem cntT {c d x : Int} (h : x ≠ 0 ∧ c ≤ x ∧ x ≤ d) : cnt c d x = true := by simp [cnt, inB, h.1, h.2.1, h.2.2]
theorem cntF {c d x : Int} (h : x = 0 ∨ x < c ∨ d < x) : cnt c d x = false := by
  rcases h with h | h | h
  · simp [cnt, h]
  · have : decide (c ≤ x) = false := by (simp; omega)
    simp [cnt, inB, this]
  · have : decide (x ≤ d) = false := by (simp; omega)
    simp [cnt, inB, this]
theorem q4 {a b c d : Int} (v1 : spB a b = true) (v2 : spB c d = true) (h : ¬ (c = 0 ∧ d = 0)) : sqE a b c d = 0 ∧ qL a b c d 4 = sqL a b c d ∧ qH a b c d 4 = sqH a b c d ∧ inB 0 c d = sqM a b c d := by
  have hE : sqE a b c d = 0 := by simp [sqE, v1, v2, h]
  have oa := (spB_t v1).1
  have ob := (spB_t v1).2.1
  have hcd := (spB_t v2).2.2
  have e1 := tdiv_bd c oa
  have e2 := tdiv_bd d oa
  have e3 := tdiv_bd 1 oa
  have e4 := tdiv_bd (-1) oa
  have f1 := tdiv_bd c ob
  have f2 := tdiv_bd d ob
  have f3 := tdiv_bd 1 ob
  have f4 := tdiv_bd (-1) ob
  have d0 : dvs c d 0 = c := rfl
  have d1 : dvs c d 1 = d := rfl
  have d2 : dvs c d 2 = 1 := rfl
  have d3 : dvs c d 3 = -1 := rfl
  have hM : inB 0 c d = sqM a b c d := by simp [sqM, hE, inB]
  have hs : (0 < c ∧ c = 1) ∨ (0 < c ∧ c ≠ 1) ∨ (c = 0 ∧ 0 < d) ∨ (c < 0 ∧ d = -1) ∨ (c < 0 ∧ d < -1) ∨ (c < 0 ∧ d = 0) ∨ (c < 0 ∧ 0 < d) := by omega
  rcases hs with ⟨s1, s2⟩ | ⟨s1, s2⟩ | ⟨s1, s2⟩ | ⟨s1, s2⟩ | ⟨s1, s2⟩ | ⟨s1, s2⟩ | ⟨s1, s2⟩
  · have n0 : cnt c d c = true := cntT (by omega)
    have n1 : cnt c d d = true := cntT (by omega)
    have n2 : cnt c d 1 = true := cntT (by omega)
    have n3 : cnt c d (-1) = false := cntF (by omega)
    have g1 : a.tdiv 1 = a.tdiv c ∧ b.tdiv 1 = b.tdiv c := by rw [s2]; exact ⟨rfl, rfl⟩
    obtain ⟨g1, g2⟩ := g1
    have rqL : qL a b c d 4 = sqL a b c d := by
      rw [sqL, if_pos hE, if_pos (by omega)]
      simp only [qL, d0, d1, d2, d3, n0, n1, n2, n3, if_true, Bool.false_eq_true, if_false, mn4, mx4, g1, g2]
      rw [Int.min_eq_right e1.2]
      ac_rfl
    have rqH : qH a b c d 4 = sqH a b c d := by
      rw [sqH, if_pos hE, if_pos (by omega)]
      simp only [qH, d0, d1, d2, d3, n0, n1, n2, n3, if_true, Bool.false_eq_true, if_false, mn4, mx4, g1, g2]
      rw [Int.max_eq_right e1.1]
      ac_rfl
    exact ⟨hE, rqL, rqH, hM⟩
  · have n0 : cnt c d c = true := cntT (by omega)
    have n1 : cnt c d d = true := cntT (by omega)
    have n2 : cnt c d 1 = false := cntF (by omega)
    have n3 : cnt c d (-1) = false := cntF (by omega)
    have rqL : qL a b c d 4 = sqL a b c d := by
      rw [sqL, if_pos hE, if_pos (by omega)]
      simp only [qL, d0, d1, d2, d3, n0, n1, n2, n3, if_true, Bool.false_eq_true, if_false, mn4, mx4]
      rw [Int.min_eq_right e1.2]
      ac_rfl
    have rqH : qH a b c d 4 = sqH a b c d := by
      rw [sqH, if_pos hE, if_pos (by omega)]
      simp only [qH, d0, d1, d2, d3, n0, n1, n2, n3, if_true, Bool.false_eq_true, if_false, mn4, mx4]
      rw [Int.max_eq_right e1.1]
      ac_rfl
    exact ⟨hE, rqL, rqH, hM⟩
  · have n0 : cnt c d c = false := cntF (by omega)
    have n1 : cnt c d d = true := cntT (by omega)
    have n2 : cnt c d 1 = true := cntT (by omega)
    have n3 : cnt c d (-1) = false := cntF (by omega)
    have rqL : qL a b c d 4 = sqL a b c d := by
      rw [sqL, if_pos hE, if_neg (by omega), if_pos (by omega)]
      simp only [qL, d0, d1, d2, d3, n0, n1, n2, n3, if_true, Bool.false_eq_true, if_false, mn4, mx4]
      rw [Int.min_eq_right e2.2]
      ac_rfl
    have rqH : qH a b c d 4 = sqH a b c d := by
      rw [sqH, if_pos hE, if_neg (by omega), if_pos (by omega)]
      simp only [qH, d0, d1, d2, d3, n0, n1, n2, n3, if_true, Bool.false_eq_true, if_false, mn4, mx4]
      rw [Int.max_eq_right e2.1]
      ac_rfl
    exact ⟨hE, rqL, rqH, hM⟩
  · have n0 : cnt c d c = true := cntT (by omega)
    have n1 : cnt c d d = true := cntT (by omega)
    have n2 : cnt c d 1 = false := cntF (by omega)
    have n3 : cnt c d (-1) = true := cntT (by omega)
    have g1 : a.tdiv (-1) = a.tdiv d ∧ b.tdiv (-1) = b.tdiv d := by rw [s2]; exact ⟨rfl, rfl⟩
    obtain ⟨g1, g2⟩ := g1
    have rqL : qL a b c d 4 = sqL a b c d := by
      rw [sqL, if_pos hE, if_neg (by omega), if_neg (by omega), if_pos (by omega)]
      simp only [qL, d0, d1, d2, d3, n0, n1, n2, n3, if_true, Bool.false_eq_true, if_false, mn4, mx4, g1, g2]
      rw [Int.min_eq_right e1.2]
      ac_rfl
    have rqH : qH a b c d 4 = sqH a b c d := by
      rw [sqH, if_pos hE, if_neg (by omega), if_neg (by omega), if_pos (by omega)]
      simp only [qH, d0, d1, d2, d3, n0, n1, n2, n3, if_true, Bool.false_eq_true, if_false, mn4, mx4, g1, g2]
      rw [Int.max_eq_right e1.1]
      ac_rfl
    exact ⟨hE, rqL, rqH, hM⟩
  · have n0 : cnt c d c = true := cntT (by omega)
    have n1 : cnt c d d = true := cntT (by omega)
    have n2 : cnt c d 1 = false := cntF (by omega)
    have n3 : cnt c d (-1) = false := cntF (by omega)
    have rqL : qL a b c d 4 = sqL a b c d := by
      rw [sqL, if_pos hE, if_neg (by omega), if_neg (by omega), if_pos (by omega)]
      simp only [qL, d0, d1, d2, d3, n0, n1, n2, n3, if_true, Bool.false_eq_true, if_false, mn4, mx4]
      rw [Int.min_eq_right e1.2]
      ac_rfl
    have rqH : qH a b c d 4 = sqH a b c d := by
      rw [sqH, if_pos hE, if_neg (by omega), if_neg (by omega), if_pos (by omega)]
      simp only [qH, d0, d1, d2, d3, n0, n1, n2, n3, if_true, Bool.false_eq_true, if_false, mn4, mx4]
      rw [Int.max_eq_right e1.1]
      ac_rfl
    exact ⟨hE, rqL, rqH, hM⟩
  · have n0 : cnt c d c = true := cntT (by omega)
    have n1 : cnt c d d = false := cntF (by omega)
    have n2 : cnt c d 1 = false := cntF (by omega)
    have n3 : cnt c d (-1) = true := cntT (by omega)
    have rqL : qL a b c d 4 = sqL a b c d := by
      rw [sqL, if_pos hE, if_neg (by omega), if_neg (by omega), if_neg (by omega), if_pos (by omega)]
      simp only [qL, d0, d1, d2, d3, n0, n1, n2, n3, if_true, Bool.false_eq_true, if_false, mn4, mx4]
      rw [Int.min_eq_right e1.2]
      ac_rfl
    have rqH : qH a b c d 4 = sqH a b c d := by
      rw [sqH, if_pos hE, if_neg (by omega), if_neg (by omega), if_neg (by omega), if_pos (by omega)]
      simp only [qH, d0, d1, d2, d3, n0, n1, n2, n3, if_true, Bool.false_eq_true, if_false, mn4, mx4]
      rw [Int.max_eq_right e1.1]
      ac_rfl
    exact ⟨hE, rqL, rqH, hM⟩
  · have n0 : cnt c d c = true := cntT (by omega)
    have n1 : cnt c d d = true := cntT (by omega)
    have n2 : cnt c d 1 = true := cntT (by omega)
    have n3 : cnt c d (-1) = true := cntT (by omega)
    have rqL : qL a b c d 4 = sqL a b c d := by
      rw [sqL, if_pos hE, if_neg (by omega), if_neg (by omega), if_neg (by omega), if_neg (by omega)]
      simp only [qL, d0, d1, d2, d3, n0, n1, n2, n3, if_true, Bool.false_eq_true, if_false, mn4, mx4]
      rw [Int.min_eq_right e1.2]
      ac_rfl
    have rqH : qH a b c d 4 = sqH a b c d := by
      rw [sqH, if_pos hE, if_neg (by omega), if_neg (by omega), if_neg (by omega), if_neg (by omega)]
      simp only [qH, d0, d1, d2, d3, n0, n1, n2, n3, if_true, Bool.false_eq_true, if_false, mn4, mx4]
      rw [Int.max_eq_right e1.1]
      ac_rfl
    exact ⟨hE, rqL, rqH, hM⟩

structure RQ (a b c d : Int) (w : World) (A B S O Y : Nat) (k : Nat) (u : World) : Prop where
  a0 : u.cell? ⟨A, 0, none⟩ = some (.int .i64 a)
  a1 : u.cell? ⟨A, 1, none⟩ = some (.int .i64 b)
  b0 : u.cell? ⟨B, 0, none⟩ = some (.int .i64 c)
  b1 : u.cell? ⟨B, 1, none⟩ = some (.int .i64 d)
  s0 : u.cell? ⟨S, 0, none⟩ = some (.int .i64 0)
  s1 : u.cell? ⟨S, 1, none⟩ = some (.int .i64 0)
  f0 : u.frozen? ⟨S, 0, none⟩ = false
  f1 : u.frozen? ⟨S, 1, none⟩ = false
  o0 : u.cell? ⟨O, 0, none⟩ = some (.int .i64 (qL a b c d k))
  o1 : u.cell? ⟨O, 1, none⟩ = some (.int .i64 (qH a b c d k))
  g0 : u.frozen? ⟨O, 0, none⟩ = false
  g1 : u.frozen? ⟨O, 1, none⟩ = false
  y0 : u.cell? ⟨Y, 0, none⟩ = some (.int .i64 c)
  y1 : u.cell? ⟨Y, 1, none⟩ = some (.int .i64 d)
  y2 : u.cell? ⟨Y, 2, none⟩ = some (.int .i64 1)
  y3 : u.cell? ⟨Y, 3, none⟩ = some (.int .i64 (-1))
  ext : Ext w u

theorem RQ.y {a b c d : Int} {w u : World} {A B S O Y k : Nat} (h : RQ a b c d w A B S O Y k u) (hk : k < 4) : u.cell? ⟨Y, k, none⟩ = some (.int .i64 (dvs c d k)) := by
  have : k = 0 ∨ k = 1 ∨ k = 2 ∨ k = 3 := by omega
  rcases this with rfl | rfl | rfl | rfl
  · exact h.y0
  · exact h.y1
  · exact h.y2
  · exact h.y3
theorem RQ.later {a b c d : Int} {w u v : World} {A B S O Y k : Nat} (h : RQ a b c d w A B S O Y k u) (hx : Ext u v) : RQ a b c d w A B S O Y k v := by
  have L := @World.block_lt_of_cell?
  exact { a0 := (hx.cell 0 (L u _ h.a0)).trans h.a0, a1 := (hx.cell 1 (L u _ h.a1)).trans h.a1, b0 := (hx.cell 0 (L u _ h.b0)).trans h.b0, b1 := (hx.cell 1 (L u _ h.b1)).trans h.b1,
          s0 := (hx.cell 0 (L u _ h.s0)).trans h.s0, s1 := (hx.cell 1 (L u _ h.s1)).trans h.s1, f0 := (hx.froz 0 (L u _ h.s0)).trans h.f0, f1 := (hx.froz 1 (L u _ h.s1)).trans h.f1,
          o0 := (hx.cell 0 (L u _ h.o0)).trans h.o0, o1 := (hx.cell 1 (L u _ h.o1)).trans h.o1, g0 := (hx.froz 0 (L u _ h.o0)).trans h.g0, g1 := (hx.froz 1 (L u _ h.o1)).trans h.g1,
          y0 := (hx.cell 0 (L u _ h.y0)).trans h.y0, y1 := (hx.cell 1 (L u _ h.y1)).trans h.y1, y2 := (hx.cell 2 (L u _ h.y2)).trans h.y2, y3 := (hx.cell 3 (L u _ h.y3)).trans h.y3,
          ext := h.ext.trans hx }
theorem RQ.skip {a b c d : Int} {w u : World} {A B S O Y k : Nat} (h : RQ a b c d w A B S O Y k u) (hc : cnt c d (dvs c d k) = false) : RQ a b c d w A B S O Y (k + 1) u := by
  have e0 : qL a b c d (k + 1) = qL a b c d k := by rw [qL, if_neg (by rw [hc]; simp)]
  have e1 : qH a b c d (k + 1) = qH a b c d k := by rw [qH, if_neg (by rw [hc]; simp)]
  exact { h with o0 := by rw [e0]; exact h.o0, o1 := by rw [e1]; exact h.o1 }
theorem RQ.store {a b c d : Int} {w u : World} {A B S O Y k : Nat} (h : RQ a b c d w A B S O Y k u) (hc : cnt c d (dvs c d k) = true) (hA : A ≠ O) (hB : B ≠ O) (hS : S ≠ O) (hY : Y ≠ O) (hw : w.heap.size ≤ O) :
    RQ a b c d w A B S O Y (k + 1) ((u.setCell ⟨O, 0, none⟩ (.int .i64 (min (min (qL a b c d k) (a.tdiv (dvs c d k))) (b.tdiv (dvs c d k))))).setCell ⟨O, 1, none⟩ (.int .i64 (max (max (qH a b c d k) (a.tdiv (dvs c d k))) (b.tdiv (dvs c d k))))) := by
  have e0 : qL a b c d (k + 1) = min (min (qL a b c d k) (a.tdiv (dvs c d k))) (b.tdiv (dvs c d k)) := by rw [qL, if_pos hc]
  have e1 : qH a b c d (k + 1) = max (max (qH a b c d k) (a.tdiv (dvs c d k))) (b.tdiv (dvs c d k)) := by rw [qH, if_pos hc]
  obtain ⟨r0, r1⟩ := set_two (x := .int .i64 (min (min (qL a b c d k) (a.tdiv (dvs c d k))) (b.tdiv (dvs c d k)))) (y := .int .i64 (max (max (qH a b c d k) (a.tdiv (dvs c d k))) (b.tdiv (dvs c d k)))) h.o0 h.o1
  have oth : ∀ (X o : Nat) (x y v : Value), X ≠ O → u.cell? ⟨X, o, none⟩ = some v → ((u.setCell ⟨O, 0, none⟩ x).setCell ⟨O, 1, none⟩ y).cell? ⟨X, o, none⟩ = some v := fun X o x y v hX hc => by
    rw [World.cell?_setCell_other _ _ _ _ (by first | (simp; done) | (simp; omega)), World.cell?_setCell_other _ _ _ _ (by first | (simp; done) | (simp; omega))]; exact hc
  have frz : ∀ (X o : Nat) (x y : Value), u.frozen? ⟨X, o, none⟩ = false → ((u.setCell ⟨O, 0, none⟩ x).setCell ⟨O, 1, none⟩ y).frozen? ⟨X, o, none⟩ = false := fun X o x y hf => by
    rw [World.frozen?_setCell, World.frozen?_setCell]; exact hf
  exact { a0 := oth _ _ _ _ _ hA h.a0, a1 := oth _ _ _ _ _ hA h.a1, b0 := oth _ _ _ _ _ hB h.b0, b1 := oth _ _ _ _ _ hB h.b1, s0 := oth _ _ _ _ _ hS h.s0, s1 := oth _ _ _ _ _ hS h.s1,
          f0 := frz _ _ _ _ h.f0, f1 := frz _ _ _ _ h.f1, o0 := by rw [e0]; exact r0, o1 := by rw [e1]; exact r1, g0 := frz _ _ _ _ h.g0, g1 := frz _ _ _ _ h.g1,
          y0 := oth _ _ _ _ _ hY h.y0, y1 := oth _ _ _ _ _ hY h.y1, y2 := oth _ _ _ _ _ hY h.y2, y3 := oth _ _ _ _ _ hY h.y3, ext := (h.ext.setCell hw _).setCell hw _ }
theorem RQ.store' {a b c d : Int} {w u : World} {A B S O Y k : Nat} {p q v : Int} (h : RQ a b c d w A B S O Y k u) (hv : dvs c d k = v) (hp : a.tdiv v = p) (hq : b.tdiv v = q) (hc : cnt c d v = true) (hA : A ≠ O) (hB : B ≠ O) (hS : S ≠ O) (hY : Y ≠ O) (hw : w.heap.size ≤ O) :
    RQ a b c d w A B S O Y (k + 1) ((u.setCell ⟨O, 0, none⟩ (.int .i64 (min (qL a b c d k) (min p q)))).setCell ⟨O, 1, none⟩ (.int .i64 (max (qH a b c d k) (max p q)))) := by
  subst hv
  subst hp
  subst hq
  rw [← Int.min_assoc, ← Int.max_assoc]
  exact h.store hc hA hB hS hY hw
end Go.Proofs.Ytmcajdfbkhaplaa
