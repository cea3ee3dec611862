/- Layer 1: plain facts on spans. -/
import Derived.Test.YtmcajdfbkhaplaaMf
namespace Go.Proofs.Ytmcajdfbkhaplaa

/-- The span from a to b is valid. -/
def spB (a b : Int) : Bool := (okB a && okB b) && decide (a ≤ b)
theorem spB_t {a b : Int} (h : spB a b = true) : okB a = true ∧ okB b = true ∧ a ≤ b := by
  unfold spB at h; simp at h; exact ⟨h.1.1, h.1.2, h.2⟩
theorem spB_mk {a b : Int} (h1 : okB a = true) (h2 : okB b = true) (h3 : a ≤ b) : spB a b = true := by simp [spB, h1, h2, h3]
def cutE (lo hi : Int) : Int := if 2147483647 < lo ∨ hi < -2147483647 then 3 else 0
def cutL (lo hi : Int) : Int := if cutE lo hi = 0 then max lo (-2147483647) else 0
def cutH (lo hi : Int) : Int := if cutE lo hi = 0 then min hi 2147483647 else 0
def cutM (lo hi : Int) : Bool := decide (cutE lo hi = 0) && (decide (lo < -2147483647) || decide (2147483647 < hi))
theorem cutCases (x y : Int) :
    (2147483647 < x ∧ cutL x y = 0 ∧ cutH x y = 0 ∧ cutM x y = false ∧ cutE x y = 3) ∨
    (x ≤ 2147483647 ∧ y < -2147483647 ∧ cutL x y = 0 ∧ cutH x y = 0 ∧ cutM x y = false ∧ cutE x y = 3) ∨
    (x < -2147483647 ∧ (-2147483647 ≤ y ∧ y ≤ 2147483647) ∧ cutL x y = -2147483647 ∧ cutH x y = y ∧ cutM x y = true ∧ cutE x y = 0) ∨
    (x < -2147483647 ∧ 2147483647 < y ∧ cutL x y = -2147483647 ∧ cutH x y = 2147483647 ∧ cutM x y = true ∧ cutE x y = 0) ∨
    ((-2147483647 ≤ x ∧ x ≤ 2147483647) ∧ 2147483647 < y ∧ cutL x y = x ∧ cutH x y = 2147483647 ∧ cutM x y = true ∧ cutE x y = 0) ∨
    ((-2147483647 ≤ x ∧ x ≤ 2147483647) ∧ (-2147483647 ≤ y ∧ y ≤ 2147483647) ∧ cutL x y = x ∧ cutH x y = y ∧ cutM x y = false ∧ cutE x y = 0) := by
  by_cases h1 : 2147483647 < x
  · have e : cutE x y = 3 := by unfold cutE; rw [if_pos (Or.inl h1)]
    exact Or.inl ⟨h1, by simp [cutL, e], by simp [cutH, e], by simp [cutM, e], e⟩
  by_cases h2 : y < -2147483647
  · have e : cutE x y = 3 := by unfold cutE; rw [if_pos (Or.inr h2)]
    exact Or.inr (Or.inl ⟨by omega, h2, by simp [cutL, e], by simp [cutH, e], by simp [cutM, e], e⟩)
  have e : cutE x y = 0 := by unfold cutE; rw [if_neg (by omega)]
  have eL : cutL x y = max x (-2147483647) := by simp [cutL, e]
  have eH : cutH x y = min y 2147483647 := by simp [cutH, e]
  have eM : cutM x y = (decide (x < -2147483647) || decide (2147483647 < y)) := by simp [cutM, e]
  by_cases h3 : x < -2147483647
  · by_cases h4 : 2147483647 < y
    · exact Or.inr (Or.inr (Or.inr (Or.inl ⟨h3, h4, by omega, by omega, by rw [eM]; simp; omega, e⟩)))
    · exact Or.inr (Or.inr (Or.inl ⟨h3, by omega, by omega, by omega, by rw [eM]; simp; omega, e⟩))
  · by_cases h4 : 2147483647 < y
    · exact Or.inr (Or.inr (Or.inr (Or.inr (Or.inl ⟨by omega, h4, by omega, by omega, by rw [eM]; simp; omega, e⟩))))
    · exact Or.inr (Or.inr (Or.inr (Or.inr (Or.inr ⟨by omega, by omega, by omega, by omega, by rw [eM]; simp; omega, e⟩))))
def sE (v : Bool) (lo hi : Int) : Int := if v then cutE lo hi else 1
def sL (v : Bool) (lo hi : Int) : Int := if v then cutL lo hi else 0
def sH (v : Bool) (lo hi : Int) : Int := if v then cutH lo hi else 0
def sM (v : Bool) (lo hi : Int) : Bool := v && cutM lo hi
def mn4 (op : Int → Int → Int) (a b c d : Int) : Int := min (min (min (op a c) (op a d)) (op b c)) (op b d)
def mx4 (op : Int → Int → Int) (a b c d : Int) : Int := max (max (max (op a c) (op a d)) (op b c)) (op b d)
theorem spB_f {a b c d : Int} (h : (spB a b && spB c d) = false) (lo hi : Int) : sE (spB a b && spB c d) lo hi = 1 ∧ sL (spB a b && spB c d) lo hi = 0 ∧ sH (spB a b && spB c d) lo hi = 0 ∧ sM (spB a b && spB c d) lo hi = false := by simp [sE, sL, sH, sM, h]
theorem spB_2 {a b c d : Int} (h : (spB a b && spB c d) = true) (lo hi : Int) : sE (spB a b && spB c d) lo hi = cutE lo hi ∧ sL (spB a b && spB c d) lo hi = cutL lo hi ∧ sH (spB a b && spB c d) lo hi = cutH lo hi ∧ sM (spB a b && spB c d) lo hi = cutM lo hi := by simp [sE, sL, sH, sM, h]
theorem spB_and {a b c d : Int} (h : (spB a b && spB c d) = true) : spB a b = true ∧ spB c d = true := by simpa using h
theorem add4 {a b c d : Int} (h : a ≤ b) (k : c ≤ d) : mn4 (· + ·) a b c d = a + c ∧ mx4 (· + ·) a b c d = b + d := by unfold mn4 mx4; (try simp only []); omega
theorem sub4 {a b c d : Int} (h : a ≤ b) (k : c ≤ d) : mn4 (· - ·) a b c d = a - d ∧ mx4 (· - ·) a b c d = b - c := by unfold mn4 mx4; (try simp only []); omega
theorem mn4_def (op : Int → Int → Int) (a b c d : Int) : min (min (min (op a c) (op a d)) (op b c)) (op b d) = mn4 op a b c d := rfl
theorem mx4_def (op : Int → Int → Int) (a b c d : Int) : max (max (max (op a c) (op a d)) (op b c)) (op b d) = mx4 op a b c d := rfl
def negE (a b : Int) : Int := if spB a b then 0 else 1
def negL (a b : Int) : Int := if spB a b then -b else 0
def negH (a b : Int) : Int := if spB a b then -a else 0
def twoS (v : Bool) (x : Int) : Int := if v then x else 0
def oneS (v : Bool) : Int := if v then 0 else 1
theorem cmp4 {a b c d : Int} (h : a ≤ b) (k : c ≤ d) : mn4 cmpI a b c d = cmpI a d ∧ mx4 cmpI a b c d = cmpI b c := by
  have h1 := cmpI_bd a c; have h2 := cmpI_bd a d; have h3 := cmpI_bd b c; have h4 := cmpI_bd b d
  have k1 : cmpI a d ≤ cmpI a c := by unfold cmpI; repeat' split <;> omega
  have k2 : cmpI a d ≤ cmpI b d := by unfold cmpI; repeat' split <;> omega
  have k3 : cmpI a c ≤ cmpI b c := by unfold cmpI; repeat' split <;> omega
  have k4 : cmpI b d ≤ cmpI b c := by unfold cmpI; repeat' split <;> omega
  unfold mn4 mx4; (try simp only []); omega
def mtE (a b c d : Int) : Int := if spB a b && spB c d then (if b < c ∨ d < a then 5 else 0) else 1
def mtL (a b c d : Int) : Int := if mtE a b c d = 0 then max a c else 0
def mtH (a b c d : Int) : Int := if mtE a b c d = 0 then min b d else 0
def inB (n a b : Int) : Bool := decide (a ≤ n) && decide (n ≤ b)
end Go.Proofs.Ytmcajdfbkhaplaa
