/- Layer 1: plain facts on comparisons. -/
import Derived.Test.YtmcajdfbkhaplaaMc
namespace Go.Proofs.Ytmcajdfbkhaplaa

theorem cmpI_bd (a b : Int) : -1 ≤ cmpI a b ∧ cmpI a b ≤ 1 := by unfold cmpI; repeat' split <;> omega
theorem cmpI_neg (a b : Int) : cmpI b a = -cmpI a b := by unfold cmpI; repeat' split <;> omega
theorem cmpI_0 (a b : Int) : cmpI a b = 0 ↔ a = b := by unfold cmpI; repeat' split <;> omega
theorem cmpV_ok {a b : Int} (h1 : okB a = true) (h2 : okB b = true) : cmpV a b = cmpI a b ∧ twoE a b = 0 := by simp [cmpV, twoE, h1, h2]
theorem cmpI_eq {a b c d : Int} (h1 : a < b ↔ c < d) (h2 : b < a ↔ d < c) : cmpI a b = cmpI c d := by unfold cmpI; repeat' split <;> omega
theorem cmp_trans {a b c : Int} (h1 : okB a = true) (h2 : okB b = true) (h3 : okB c = true) (h : cmpV a b = cmpV b c) : cmpV a c = cmpV a b ∧ twoE a c = 0 := by
  rw [(cmpV_ok h1 h2).1, (cmpV_ok h2 h3).1] at h
  rw [(cmpV_ok h1 h3).1, (cmpV_ok h1 h2).1, (cmpV_ok h1 h3).2]
  refine ⟨?_, rfl⟩
  unfold cmpI at h ⊢
  split at h <;> split at h <;> (repeat' split at h) <;> (repeat' split) <;> omega
theorem cmp_sub {a b : Int} (h : subE a b = 0) : sgnV (subV a b) = cmpV a b ∧ oneE (subV a b) = 0 := by
  obtain ⟨h1, h2, h3⟩ := subE_0 h
  rw [subV_0 h, (cmpV_ok h1 h2).1]
  refine ⟨?_, by simp [oneE, h3]⟩
  simp only [sgnV, h3, if_true]
  exact cmpI_eq (by omega) (by omega)
theorem cmp_add {a b c : Int} (h : addE a c = 0) (k : addE b c = 0) : cmpV (addV a c) (addV b c) = cmpV a b ∧ twoE (addV a c) (addV b c) = 0 := by
  obtain ⟨h1, h2, h3⟩ := addE_0 h
  obtain ⟨k1, k2, k3⟩ := addE_0 k
  rw [addV_0 h, addV_0 k, (cmpV_ok h1 k1).1, (cmpV_ok h3 k3).1, (cmpV_ok h3 k3).2]
  exact ⟨cmpI_eq (by omega) (by omega), rfl⟩
theorem cmp_mul {a b c : Int} (hc : 0 < c) (h : mulE a c = 0) (k : mulE b c = 0) : cmpV (mulV a c) (mulV b c) = cmpV a b ∧ twoE (mulV a c) (mulV b c) = 0 := by
  obtain ⟨h1, h2, h3⟩ := mulE_0 h
  obtain ⟨k1, k2, k3⟩ := mulE_0 k
  rw [mulV_0 h, mulV_0 k, (cmpV_ok h1 k1).1, (cmpV_ok h3 k3).1, (cmpV_ok h3 k3).2]
  exact ⟨cmpI_eq (Int.mul_lt_mul_right hc) (Int.mul_lt_mul_right hc), rfl⟩
end Go.Proofs.Ytmcajdfbkhaplaa
