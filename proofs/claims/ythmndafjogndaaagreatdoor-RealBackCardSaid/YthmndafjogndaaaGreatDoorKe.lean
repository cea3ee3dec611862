/- Layer 2: Print's decimal fraction of a real (no program here). -/
import Derived.Test.YthmndafjogndaaaGreatDoorKd
namespace Go.Proofs.YthmndafjogndaaaGreatDoor

theorem tw_succ4 (k : Nat) : tw (k + 4) = 16 * tw k := by unfold tw; rw [Nat.pow_add, Nat.mul_comm]
theorem tw_le_M {k : Nat} (h : k ≤ 384) : tw k ≤ M384 := pow_le_M h
/-- The loops, for any fraction that is small enough. -/
theorem dec_loops {n b a s : Nat} (hn0 : 0 < n) (hn : n < tw 176) (hs0 : 0 < s) (hs : s ≤ tw 152) (hb : b ≤ n) (ha : a ≤ n) :
    ∃ u v : Nat, u ≤ 60 ∧ v ≤ 60 ∧ decUp 60 ⟨n, b, a, s, 0⟩ = ⟨n, b, a, s * 10 ^ u, u⟩ ∧ decDown 60 ⟨n, b, a, s * 10 ^ u, u⟩ = ⟨n * 10 ^ v, b * 10 ^ v, a * 10 ^ v, s * 10 ^ u, (u : Int) - v⟩ ∧
      upDone 60 ⟨n, b, a, s, 0⟩ = true ∧ downDone 60 ⟨n, b, a, s * 10 ^ u, u⟩ = true ∧ n * 10 ^ v < s * 10 ^ u ∧ s * 10 ^ u ≤ n * 10 ^ v * 10 ∧ s * 10 ^ u < tw 180 := by
  have t53 : n < 10 ^ 53 := Nat.lt_of_lt_of_le hn ten_53
  have p1 : n < s * 10 ^ 60 := by
    refine Nat.lt_of_lt_of_le t53 (Nat.le_trans (Nat.pow_le_pow_right (by omega) (show 53 ≤ 60 by omega)) ?_)
    exact Nat.le_mul_of_pos_left _ hs0
  have p2 : s * 10 ^ 60 < M384 := by
    obtain ⟨K, k1, k2⟩ : ∃ K, 363 ≤ K ∧ K ≤ 384 := ⟨363, by omega, by omega⟩
    have ht := ten_two 60
    generalize hJ : 10 * (60 / 3 + 1) = J at ht
    have hJ2 : J = 210 := hJ.symm
    have h1 : s * 10 ^ 60 ≤ tw 152 * tw J := Nat.mul_le_mul hs ht
    rw [tw_sum] at h1
    have h2 : tw (152 + J) < tw K := Nat.pow_lt_pow_right (by omega) (by omega)
    exact Nat.lt_of_le_of_lt h1 (Nat.lt_of_lt_of_le h2 (tw_le_M k2))
  obtain ⟨u, u1, u2, u3, u4, u5⟩ := up_spec 60 ⟨n, b, a, s, 0⟩ p1 p2 hs0
  simp only [Int.zero_add] at u2 u3 u4 u5
  have hS : s * 10 ^ u < tw 180 := by
    have e : tw 180 = 16 * tw 176 := tw_succ4 176
    rcases u5 with rfl | u5
    · rw [Nat.pow_zero, Nat.mul_one]
      exact Nat.lt_of_le_of_lt hs (Nat.pow_lt_pow_right (by omega) (by omega))
    · rcases u with _ | u
      · rw [Nat.pow_zero, Nat.mul_one]
        exact Nat.lt_of_le_of_lt hs (Nat.pow_lt_pow_right (by omega) (by omega))
      · rw [Nat.pow_succ, ← Nat.mul_assoc]
        rw [Nat.add_sub_cancel] at u5
        omega
  have q1 : s * 10 ^ u ≤ n * 10 ^ (60 + 1) := by
    have e : tw 180 = 16 * tw 176 := tw_succ4 176
    have e2 : 16 * 10 ^ 53 ≤ 10 ^ (60 + 1) := by decide
    have e3 : 10 ^ (60 + 1) ≤ n * 10 ^ (60 + 1) := Nat.le_mul_of_pos_left _ hn0
    have e4 := ten_53
    omega
  have q2 : s * 10 ^ u * 10 ≤ M384 := by
    have e : tw 184 = 16 * tw 180 := tw_succ4 180
    have := tw_le_M (k := 184) (by omega)
    omega
  obtain ⟨v, v1, v2, v3, v4, v5⟩ := down_spec 60 ⟨n, b, a, s * 10 ^ u, u⟩ q1 q2 u4 hb ha
  exact ⟨u, v, u1, v1, u2, v2, u3, v3, v4, v5, hS⟩
/-- The number that b is: twice the distance to the mark below, in quarters of the last place. -/
def belowB (M : Nat) (x : Int) : Nat := if M = 8388608 ∧ -150 < x then 1 else 2
theorem belowB_le (M : Nat) (x : Int) : 1 ≤ belowB M x ∧ belowB M x ≤ 2 := by unfold belowB; split <;> omega
/-- What Print begins with: n / s is the real, b / s and a / s the distances to the marks. -/
theorem dec_start {m x : Int} (h : Vd m x) (m0 : m ≠ 0) : ∃ n b a s, decStart m.natAbs x = ⟨n, b, a, s, 0⟩ ∧ 0 < n ∧ n < tw 176 ∧ 0 < s ∧ s ≤ tw 152 ∧ b ≤ n ∧ a ≤ n ∧ 0 < b ∧
    n * tw 150 = s * (m.natAbs * 2 ^ (x + 150).toNat) ∧ b * tw 152 = s * (belowB m.natAbs x * 2 ^ (x + 150).toNat) ∧ a * tw 152 = s * (2 * 2 ^ (x + 150).toNat) := by
  have h1 := h.1
  have h2 := h.2.1
  have h3 := h.2.2.1
  have hb := belowB_le m.natAbs x
  have e0 : decStart m.natAbs x = if 0 ≤ x then ⟨shN (4 * m.natAbs) x.toNat, shN (belowB m.natAbs x) x.toNat, shN 2 x.toNat, 4, 0⟩ else ⟨4 * m.natAbs, belowB m.natAbs x, 2, shN 4 (-x).toNat, 0⟩ := rfl
  rw [e0]
  obtain ⟨M, hM⟩ : ∃ M, m.natAbs = M := ⟨_, rfl⟩
  rw [hM] at h1 hb ⊢
  have hM0 : 0 < M := by omega
  generalize belowB M x = B at *
  clear hM e0
  by_cases hx : 0 ≤ x
  · rw [if_pos hx]
    obtain ⟨E, hE⟩ : ∃ E, x.toNat = E := ⟨_, rfl⟩
    rw [hE, show (x + 150).toNat = E + 150 by omega]
    have s1 : ∀ c, c ≤ 4 * M → c * 2 ^ E < tw 176 := fun c hc => by
      refine Nat.lt_of_lt_of_le (Nat.mul_lt_mul_of_pos_right (show c < 2 ^ 26 by omega) (pow_pos2 E)) ?_
      rw [← Nat.pow_add]
      exact Nat.pow_le_pow_right (by omega) (by omega)
    have s2 : ∀ c, c ≤ 4 * M → shN c E = c * 2 ^ E := fun c hc => Nat.mod_eq_of_lt (Nat.lt_of_lt_of_le (s1 c hc) (tw_le_M (by omega)))
    rw [s2 _ (Nat.le_refl _), s2 B (by omega), s2 2 (by omega)]
    have e1 : (2 : Nat) ^ (E + 150) = 2 ^ E * tw 150 := Nat.pow_add ..
    have e2 : tw 152 = tw 150 * 4 := by unfold tw; rw [show (152 : Nat) = 150 + 2 from rfl, Nat.pow_add]
    refine ⟨_, _, _, _, rfl, Nat.mul_pos (by omega) (pow_pos2 E), s1 _ (Nat.le_refl _), by omega, ?_, Nat.mul_le_mul_right _ (by omega), Nat.mul_le_mul_right _ (by omega), Nat.mul_pos (by omega) (pow_pos2 E), ?_, ?_, ?_⟩
    · have := tw_pos 150; rw [e2]; omega
    · rw [e1]; ac_rfl
    · rw [e1, e2]; ac_rfl
    · rw [e1, e2]; ac_rfl
  · rw [if_neg hx]
    obtain ⟨E, hE⟩ : ∃ E, (-x).toNat = E := ⟨_, rfl⟩
    obtain ⟨X, hX⟩ : ∃ X, (x + 150).toNat = X := ⟨_, rfl⟩
    rw [hE, hX]
    have eX : E + X = 150 := by omega
    have s1 : 4 * 2 ^ E ≤ tw 152 := by
      rw [show (4 : Nat) = 2 ^ 2 from rfl, ← Nat.pow_add]
      exact Nat.pow_le_pow_right (by omega) (by omega)
    have s2 : shN 4 E = 4 * 2 ^ E := Nat.mod_eq_of_lt (Nat.lt_of_le_of_lt s1 (Nat.lt_of_lt_of_le (Nat.pow_lt_pow_right (a := 2) (by omega) (show 152 < 153 by omega)) (pow_le_M (by omega))))
    rw [s2]
    have e1 : tw 150 = 2 ^ E * 2 ^ X := by rw [← Nat.pow_add, eX]; rfl
    have e2 : tw 152 = 4 * (2 ^ E * 2 ^ X) := by rw [← e1]; unfold tw; rw [show (152 : Nat) = 2 + 150 from rfl, Nat.pow_add]
    refine ⟨_, _, _, _, rfl, by omega, ?_, Nat.mul_pos (by omega) (pow_pos2 E), s1, by omega, by omega, by omega, ?_, ?_, ?_⟩
    · exact Nat.lt_of_lt_of_le (show 4 * M < 2 ^ 26 by omega) (Nat.pow_le_pow_right (by omega) (by omega))
    · rw [e1]; ac_rfl
    · rw [e2]; ac_rfl
    · rw [e2]; ac_rfl
end Go.Proofs.YthmndafjogndaaaGreatDoor
