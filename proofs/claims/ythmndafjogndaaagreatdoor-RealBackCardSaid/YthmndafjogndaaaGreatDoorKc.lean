/- Layer 2: a numeric string's parts are rounded to the nearest real, whatever its exponent (no program here). -/
import Derived.Test.YthmndafjogndaaaGreatDoorKb
import Derived.Test.YthmndafjogndaaaGreatDoorUt
namespace Go.Proofs.YthmndafjogndaaaGreatDoor

theorem ten_two (k : Nat) : 10 ^ k ≤ 2 ^ (10 * (k / 3 + 1)) := by
  have h : 10 ^ (3 * (k / 3 + 1)) ≤ 2 ^ (10 * (k / 3 + 1)) := by
    rw [Nat.pow_mul, Nat.pow_mul]
    exact Nat.pow_le_pow_left (by decide) _
  exact Nat.le_trans (Nat.pow_le_pow_right (by omega) (by omega)) h
theorem tw_ten : tw 151 ≤ 10 ^ 46 := by unfold tw; decide
theorem ten_53 : tw 176 ≤ 10 ^ 53 := by unfold tw; decide
theorem tw_mono {a b : Nat} (h : a ≤ b) : tw a ≤ tw b := Nat.pow_le_pow_right (by omega) h
theorem tw_sum (a b : Nat) : tw a * tw b = tw (a + b) := (Nat.pow_add 2 a b).symm
theorem mid_top_lt {K : Nat} (h : K = 325) : midN 2533359615 < tw K := by
  unfold midN tw
  obtain ⟨E, hE⟩ : ∃ E, expoN 2533359615 = E := ⟨_, rfl⟩
  have hE2 : E = 300 := by rw [← hE]; exact expo_top
  rw [mant_top, hE, show K = 25 + E by omega, Nat.pow_add]
  exact Nat.mul_lt_mul_of_pos_right (by decide) (pow_pos2 _)
theorem num_near (n : Num) (hl : n.digits.length ≤ 60) (hd : n.digits.all isDg = true) (h0 : Lead n.digits) :
    ∃ r, Near (valL n.digits * 10 ^ n.scale.toNat * tw 151) (10 ^ (-n.scale).toNat) r ∧ numV n = resI n.neg r := by
  obtain ⟨neg, l, s⟩ := n
  simp only at hl hd h0 ⊢
  unfold numV
  simp only
  by_cases e : l = []
  · subst e
    refine ⟨0, ⟨.inl ?_, .inl rfl⟩, by rw [if_pos (.inl rfl)]; rfl⟩
    have : valL [] = 0 := rfl
    rw [this, Nat.zero_mul, Nat.zero_mul]
    exact Nat.mul_pos (by decide) (ten_pos _)
  obtain ⟨k, hk⟩ : ∃ k, l.length = k + 1 := ⟨l.length - 1, by have := List.length_pos_iff.2 e; omega⟩
  have v1 := valL_lt (k + 1) l hk hd
  have v2 := valL_ge k l hk hd h0
  have hdec := decF_val (k + 1) l hk (by omega) hd
  rw [hdec, hk]
  clear hdec
  generalize valL l = v at *
  by_cases c1 : ((k + 1 : Nat) : Int) + s ≤ -46
  · rw [if_pos (.inr c1)]
    refine ⟨0, ⟨.inl ?_, .inl rfl⟩, rfl⟩
    rw [show s.toNat = 0 by omega, Nat.pow_zero, Nat.mul_one]
    have a1 : v * tw 151 < 10 ^ (k + 1) * 10 ^ 46 := Nat.lt_of_lt_of_le (Nat.mul_lt_mul_of_pos_right v1 (tw_pos _)) (Nat.mul_le_mul_left _ tw_ten)
    rw [← Nat.pow_add] at a1
    have a2 : 10 ^ (k + 1 + 46) ≤ 10 ^ (-s).toNat := Nat.pow_le_pow_right (by omega) (by omega)
    have a3 : midN 0 = 1 := by decide
    rw [a3, Nat.one_mul]
    exact Nat.lt_of_lt_of_le a1 a2
  rw [if_neg (by simp [e]; omega)]
  by_cases c2 : 53 < ((k + 1 : Nat) : Int) + s
  · rw [if_pos c2]
    obtain ⟨r, hr⟩ := near_exists (P := v * 10 ^ s.toNat * tw 151) (ten_pos (-s).toNat)
    refine ⟨r, hr, ?_⟩
    rcases Nat.lt_or_ge 2533359615 r with g | g
    · rw [resI_far g]
    · exfalso
      have b1 : 10 ^ 53 * 10 ^ (-s).toNat ≤ v * 10 ^ s.toNat := by
        have b2 : 10 ^ k * 10 ^ s.toNat ≤ v * 10 ^ s.toNat := Nat.mul_le_mul_right _ v2
        rw [← Nat.pow_add] at b2 ⊢
        exact Nat.le_trans (Nat.pow_le_pow_right (by omega) (by omega)) b2
      have b3 := Nat.mul_le_mul_right (tw 151) b1
      obtain ⟨K, hK⟩ : ∃ K, K = 325 := ⟨_, rfl⟩
      have b4 : tw K * 10 ^ (-s).toNat ≤ 10 ^ 53 * 10 ^ (-s).toNat * tw 151 := by
        rw [Nat.mul_right_comm]
        refine Nat.mul_le_mul_right _ ?_
        refine Nat.le_trans ?_ (Nat.mul_le_mul_right _ ten_53)
        rw [tw_sum]
        exact tw_mono (by omega)
      have b5 : midN r * 10 ^ (-s).toNat < tw K * 10 ^ (-s).toNat := Nat.mul_lt_mul_of_pos_right (Nat.lt_of_le_of_lt (mid_mono_le g) (mid_top_lt hK)) (ten_pos _)
      rcases hr.1 with h | h
      · omega
      · omega
  rw [if_neg c2]
  have a0 : 0 < v := Nat.lt_of_lt_of_le (ten_pos k) v2
  by_cases hs : 0 ≤ s
  · simp only [if_pos hs]
    have m1 : v * 10 ^ s.toNat < 10 ^ 53 := by
      have := Nat.mul_lt_mul_of_pos_right v1 (ten_pos s.toNat)
      rw [← Nat.pow_add] at this
      exact Nat.lt_of_lt_of_le this (Nat.pow_le_pow_right (by omega) (by omega))
    have m2 : v * 10 ^ s.toNat < 2 ^ 180 := Nat.lt_of_lt_of_le m1 (ten_two 53)
    rw [Nat.mod_eq_of_lt (Nat.lt_of_lt_of_le m2 (pow_le_M (by omega)))]
    rw [show (-s).toNat = 0 by omega, Nat.pow_zero]
    exact ratio_near neg (Nat.mul_pos a0 (ten_pos _)) (by omega) (Nat.le_trans (nb_of_lt m2) (by omega)) (Nat.le_trans (nb_of_lt (show 1 < 2 ^ 1 by decide)) (by omega))
  · simp only [if_neg hs]
    obtain ⟨K, k1, k2⟩ : ∃ K, 361 ≤ K ∧ K ≤ 380 := ⟨361, by omega, by omega⟩
    have m2 : 10 ^ (-s).toNat < 2 ^ K := Nat.lt_of_le_of_lt (ten_two _) (Nat.pow_lt_pow_right (by omega) (by omega))
    have m3 : v < 2 ^ 210 := Nat.lt_of_lt_of_le v1 (Nat.le_trans (Nat.pow_le_pow_right (by omega) (show k + 1 ≤ 60 by omega)) (ten_two 60))
    rw [Nat.mod_eq_of_lt (Nat.lt_of_lt_of_le m2 (pow_le_M (by omega)))]
    rw [show s.toNat = 0 by omega, Nat.pow_zero, Nat.mul_one]
    exact ratio_near neg a0 (ten_pos _) (Nat.le_trans (nb_of_lt m3) (by omega)) (Nat.le_trans (nb_of_lt m2) (by omega))
end Go.Proofs.YthmndafjogndaaaGreatDoor
