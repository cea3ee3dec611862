/- Layer 1: plain facts for the theorems on integers. -/
import Derived.Test.YtifoeikbjdgdpabDoorMb
namespace Go.Proofs.YtifoeikbjdgdpabDoor

theorem addE_0 {a b : Int} (h : addE a b = 0) : okB a = true ∧ okB b = true ∧ okB (a + b) = true := by
  unfold addE fitE at h
  cases h1 : okB a <;> cases h2 : okB b <;> cases h3 : okB (a + b) <;> simp [h1, h2, h3] at h
  exact ⟨rfl, rfl, rfl⟩
theorem subE_0 {a b : Int} (h : subE a b = 0) : okB a = true ∧ okB b = true ∧ okB (a - b) = true := by
  unfold subE fitE at h
  cases h1 : okB a <;> cases h2 : okB b <;> cases h3 : okB (a - b) <;> simp [h1, h2, h3] at h
  exact ⟨rfl, rfl, rfl⟩
theorem mulE_0 {a b : Int} (h : mulE a b = 0) : okB a = true ∧ okB b = true ∧ okB (a * b) = true := by
  unfold mulE fitE at h
  cases h1 : okB a <;> cases h2 : okB b <;> cases h3 : okB (a * b) <;> simp [h1, h2, h3] at h
  exact ⟨rfl, rfl, rfl⟩
theorem addV_ok {a b : Int} (h1 : okB a = true) (h2 : okB b = true) : addV a b = fitV (a + b) ∧ addE a b = fitE (a + b) := by simp [addV, addE, h1, h2]
theorem subV_ok {a b : Int} (h1 : okB a = true) (h2 : okB b = true) : subV a b = fitV (a - b) ∧ subE a b = fitE (a - b) := by simp [subV, subE, h1, h2]
theorem mulV_ok {a b : Int} (h1 : okB a = true) (h2 : okB b = true) : mulV a b = fitV (a * b) ∧ mulE a b = fitE (a * b) := by simp [mulV, mulE, h1, h2]
theorem fit_ok {n : Int} (h : okB n = true) : fitV n = n ∧ fitE n = 0 := by simp [fitV, fitE, h]
theorem addV_0 {a b : Int} (h : addE a b = 0) : addV a b = a + b := by
  obtain ⟨h1, h2, h3⟩ := addE_0 h; rw [(addV_ok h1 h2).1, (fit_ok h3).1]
theorem subV_0 {a b : Int} (h : subE a b = 0) : subV a b = a - b := by
  obtain ⟨h1, h2, h3⟩ := subE_0 h; rw [(subV_ok h1 h2).1, (fit_ok h3).1]
theorem mulV_0 {a b : Int} (h : mulE a b = 0) : mulV a b = a * b := by
  obtain ⟨h1, h2, h3⟩ := mulE_0 h; rw [(mulV_ok h1 h2).1, (fit_ok h3).1]
theorem addV_comm (a b : Int) : addV b a = addV a b := by unfold addV; rw [Int.add_comm b a, Bool.and_comm]
theorem addE_comm (a b : Int) : addE b a = addE a b := by unfold addE; rw [Int.add_comm b a, Bool.and_comm]
theorem mulV_comm (a b : Int) : mulV b a = mulV a b := by unfold mulV; rw [Int.mul_comm b a, Bool.and_comm]
theorem mulE_comm (a b : Int) : mulE b a = mulE a b := by unfold mulE; rw [Int.mul_comm b a, Bool.and_comm]
theorem sub_add {a b : Int} (h : addE a b = 0) : subV (addV a b) b = a ∧ subE (addV a b) b = 0 := by
  obtain ⟨h1, h2, h3⟩ := addE_0 h
  rw [addV_0 h, (subV_ok h3 h2).1, (subV_ok h3 h2).2, show a + b - b = a by omega]
  exact fit_ok h1
theorem add_assoc {a b c : Int} (h : addE a b = 0) (k : addE b c = 0) : addV (addV a b) c = addV a (addV b c) ∧ addE (addV a b) c = addE a (addV b c) := by
  obtain ⟨h1, h2, h3⟩ := addE_0 h
  obtain ⟨k1, k2, k3⟩ := addE_0 k
  rw [addV_0 h, addV_0 k, (addV_ok h3 k2).1, (addV_ok h3 k2).2, (addV_ok h1 k3).1, (addV_ok h1 k3).2, Int.add_assoc]
  exact ⟨rfl, rfl⟩
theorem mul_dist {a b c : Int} (h : addE b c = 0) (k : mulE a b = 0) (l : mulE a c = 0) : mulV a (addV b c) = addV (mulV a b) (mulV a c) ∧ mulE a (addV b c) = addE (mulV a b) (mulV a c) := by
  obtain ⟨h1, h2, h3⟩ := addE_0 h
  obtain ⟨k1, k2, k3⟩ := mulE_0 k
  obtain ⟨l1, l2, l3⟩ := mulE_0 l
  rw [addV_0 h, mulV_0 k, mulV_0 l, (mulV_ok k1 h3).1, (mulV_ok k1 h3).2, (addV_ok k3 l3).1, (addV_ok k3 l3).2, Int.mul_add]
  exact ⟨rfl, rfl⟩

def plusV (a e b f : Int) : Int := if e = 0 then (if f = 0 then addV a b else 0) else 0
def plusE (a e b f : Int) : Int := if e = 0 then (if f = 0 then addE a b else f) else e

/-- A power one exponent lower is valid, too. -/
theorem powE_0 {a n : Int} (h : powE a n = 0) : okB a = true ∧ okB n = true ∧ 0 ≤ n ∧ ¬ (a = 0 ∧ n = 0) ∧ okB (pw a n.toNat) = true := by
  unfold powE at h
  cases h1 : okB a <;> cases h2 : okB n <;> simp [h1, h2] at h
  by_cases h0 : 0 ≤ n
  · simp [h0] at h
    by_cases hz : a = 0 ∧ n = 0
    · simp [hz] at h
    · simp [hz] at h
      exact ⟨rfl, rfl, h0, hz, h⟩
  · simp [h0] at h
theorem powE_mk {a n : Int} (h1 : okB a = true) (h2 : okB n = true) (h3 : 0 ≤ n) (h4 : ¬ (a = 0 ∧ n = 0)) : powE a n = fitE (pw a n.toNat) ∧ powV a n = fitV (pw a n.toNat) := by
  have e : powE a n = fitE (pw a n.toNat) := by unfold powE fitE; simp only [h1, h2, h3, h4]; simp
  refine ⟨e, ?_⟩
  unfold powV; rw [e]; unfold fitE fitV; split <;> simp_all
theorem powV_0 {a n : Int} (h : powE a n = 0) : powV a n = pw a n.toNat := by simp [powV, h]
theorem pow_add {a m n : Int} (h : powE a m = 0) (k : powE a n = 0) (l : addE m n = 0) :
    powV a (addV m n) = mulV (powV a m) (powV a n) ∧ powE a (addV m n) = mulE (powV a m) (powV a n) := by
  obtain ⟨h1, h2, h3, h4, h5⟩ := powE_0 h
  obtain ⟨k1, k2, k3, k4, k5⟩ := powE_0 k
  obtain ⟨l1, l2, l3⟩ := addE_0 l
  rw [addV_0 l, powV_0 h, powV_0 k, (mulV_ok h5 k5).1, (mulV_ok h5 k5).2]
  have e : pw a (m + n).toNat = pw a m.toNat * pw a n.toNat := by rw [show (m + n).toNat = m.toNat + n.toNat by omega, pw_add]
  rw [← e]
  have := powE_mk h1 l3 (by omega) (show ¬ (a = 0 ∧ m + n = 0) by omega)
  exact ⟨this.2, this.1⟩
theorem pow_less {a m : Int} (h : powE a m = 0) (h0 : 0 < m) (hz : a ≠ 0 ∨ 1 < m) : powE a (m - 1) = 0 := by
  obtain ⟨h1, h2, h3, h4, h5⟩ := powE_0 h
  have hm := okB_t.1 h2
  rw [(powE_mk h1 (okB_in (by omega) (by omega)) (by omega) (by omega)).1]
  refine (fit_ok ?_).2
  by_cases ha : a = 0
  · subst ha; rw [pw_zero_base (by omega)]; decide
  · exact pw_ok_mono ha (by omega) h5
theorem pow_one {a : Int} (h : okB a = true) : powE a 1 = 0 ∧ powV a 1 = a := by
  have := powE_mk h (show okB 1 = true by decide) (by decide) (show ¬ (a = 0 ∧ (1 : Int) = 0) by omega)
  rw [this.1, this.2, show (1 : Int).toNat = 1 from rfl, pw_one_exp]
  exact ⟨(fit_ok h).2, (fit_ok h).1⟩
theorem pow_arg {a : Int} (h : okB a = false) (n : Int) : powE a n = 1 := by simp [powE, h]
end Go.Proofs.YtifoeikbjdgdpabDoor
