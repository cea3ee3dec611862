/- Layer 2: the ratio of two naturals, rounded, is the nearest real (no program here). -/
import Derived.Test.YthmndafjogndaaaGreatDoorGm
import Derived.Test.YthmndafjogndaaaGreatDoorGs
namespace Go.Proofs.YthmndafjogndaaaGreatDoor

theorem rsteps_inv {a b : Nat} (hb : 2 * b ≤ M384) (ha : a < 2 * b) : ∀ k, a * 2 ^ k = (rsteps b k (0, a)).1 * (2 * b) + (rsteps b k (0, a)).2 ∧ (rsteps b k (0, a)).2 < 2 * b
  | 0 => by simp [rsteps, ha]
  | k + 1 => by
    obtain ⟨h1, h2⟩ := rsteps_inv hb ha k
    show a * 2 ^ (k + 1) = (rstep b (rsteps b k (0, a))).1 * (2 * b) + (rstep b (rsteps b k (0, a))).2 ∧ (rstep b (rsteps b k (0, a))).2 < 2 * b
    generalize rsteps b k (0, a) = s at *
    obtain ⟨m, r⟩ := s
    simp only at h1 h2
    unfold rstep
    rw [Nat.pow_succ, ← Nat.mul_assoc, h1]
    by_cases c : b ≤ r
    · rw [if_pos c]
      have e : (r - b + (r - b)) % M384 = r - b + (r - b) := Nat.mod_eq_of_lt (by omega)
      simp only [e]
      have e2 : (m * 2 + 1) * (2 * b) = m * (2 * b) * 2 + 2 * b := by rw [Nat.add_mul, Nat.one_mul, Nat.mul_right_comm]
      rw [e2]
      generalize m * (2 * b) = X
      omega
    · rw [if_neg c]
      have e : (r + r) % M384 = r + r := Nat.mod_eq_of_lt (by omega)
      simp only [e]
      have e2 : m * 2 * (2 * b) = m * (2 * b) * 2 := by rw [Nat.mul_right_comm]
      rw [e2]
      generalize m * (2 * b) = X
      omega
theorem pow_le_M {k : Nat} (h : k ≤ 384) : 2 ^ k ≤ M384 := by
  unfold M384
  generalize hK : 384 = K at *
  exact Nat.pow_le_pow_right (by omega) h
/-- What the 32 rounds of the division leave. -/
theorem ratio_parts {a b : Nat} (ha : 0 < a) (hb : 0 < b) (na : nb a ≤ 380) (nbb : nb b ≤ 380) : ∃ A B i j : Nat, A = a * 2 ^ i ∧ B = b * 2 ^ j ∧ ratioE a b = (j : Int) - i ∧ (i = 0 ∨ j = 0) ∧ A * 2 ^ 32 = (ratioS a b).1 * (2 * B) + (ratioS a b).2 ∧ (ratioS a b).2 < 2 * B ∧ B < 2 * A ∧ 0 < B ∧ A < 2 * B := by
  obtain ⟨p1, p2, p3⟩ := nb_bounds (n := a) (by omega)
  obtain ⟨q1, q2, q3⟩ := nb_bounds (n := b) (by omega)
  unfold ratioS
  by_cases c : 0 < ratioE a b
  · simp only [if_pos c]
    unfold ratioE at c ⊢
    obtain ⟨E, hE⟩ : ∃ E, ((nb a : Int) - nb b).toNat = E := ⟨_, rfl⟩
    rw [hE]
    have e1 : nb b + E = nb a := by omega
    have b1 : b * 2 ^ E < 2 ^ nb a := by rw [← e1, Nat.pow_add]; exact Nat.mul_lt_mul_of_pos_right q3 (pow_pos2 _)
    have b2 : 2 ^ (nb a - 1) ≤ b * 2 ^ E := by rw [show nb a - 1 = nb b - 1 + E by omega, Nat.pow_add]; exact Nat.mul_le_mul_right _ q2
    have b3 : 2 ^ nb a = 2 * 2 ^ (nb a - 1) := by rw [Nat.mul_comm, ← Nat.pow_succ]; congr 1; omega
    have b4 : 2 * 2 ^ nb a ≤ M384 := by rw [Nat.mul_comm, ← Nat.pow_succ]; exact pow_le_M (by omega)
    have hs : shN b E = b * 2 ^ E := Nat.mod_eq_of_lt (by omega)
    rw [hs]
    obtain ⟨h1, h2⟩ := rsteps_inv (a := a) (b := b * 2 ^ E) (by omega) (by omega) 32
    exact ⟨a, b * 2 ^ E, 0, E, by rw [Nat.pow_zero, Nat.mul_one], rfl, by omega, .inl rfl, h1, h2, by omega, by have := pow_pos2 (nb a - 1); omega, by omega⟩
  · simp only [if_neg c]
    unfold ratioE at c ⊢
    obtain ⟨E, hE⟩ : ∃ E, (-((nb a : Int) - nb b)).toNat = E := ⟨_, rfl⟩
    rw [hE]
    have e1 : nb a + E = nb b := by omega
    have b1 : a * 2 ^ E < 2 ^ nb b := by rw [← e1, Nat.pow_add]; exact Nat.mul_lt_mul_of_pos_right p3 (pow_pos2 _)
    have b2 : 2 ^ (nb b - 1) ≤ a * 2 ^ E := by rw [show nb b - 1 = nb a - 1 + E by omega, Nat.pow_add]; exact Nat.mul_le_mul_right _ p2
    have b3 : 2 ^ nb b = 2 * 2 ^ (nb b - 1) := by rw [Nat.mul_comm, ← Nat.pow_succ]; congr 1; omega
    have b4 : 2 * 2 ^ nb b ≤ M384 := by rw [Nat.mul_comm, ← Nat.pow_succ]; exact pow_le_M (by omega)
    have hs : shN a E = a * 2 ^ E := Nat.mod_eq_of_lt (by omega)
    rw [hs]
    obtain ⟨h1, h2⟩ := rsteps_inv (a := a * 2 ^ E) (b := b) (by omega) (by omega) 32
    exact ⟨a * 2 ^ E, b, E, 0, rfl, by rw [Nat.pow_zero, Nat.mul_one], by omega, .inr rfl, h1, h2, by omega, hb, by omega⟩
theorem ratio_core {q t B den s K P : Nat} {exp : Int} (neg : Bool) (hden : 0 < den) (hs : 0 ≤ exp + 151 + s) (hG : 2 ^ (exp + 151 + s).toNat * den = 2 * B * K) (hK : 0 < K) (hP : P = q * (2 * B * K) + t * K) (ht : t < 2 * B) (hq1 : q < 18446744073709551616) (hq2 : 33554432 ≤ q) :
    ∃ r, Near P (2 ^ s * den) r ∧ roundV neg q exp (decide (t ≠ 0)) = resI neg r := by
  refine roundV_near neg q exp _ s den P hden hs hq1 ?_ ?_ ?_ ?_ (fun _ => hq2)
  · rw [hG, hP]; omega
  · rw [hG, hP, Nat.add_mul, Nat.one_mul]
    have := Nat.mul_lt_mul_of_pos_right ht hK
    omega
  · intro h
    have t0 : t = 0 := by simpa using h
    rw [hG, hP, t0, Nat.zero_mul, Nat.add_zero]
  · intro h e
    have t0 : t ≠ 0 := by simpa using h
    rw [hG, hP] at e
    have := Nat.mul_pos (show 0 < t by omega) hK
    omega
theorem ratio_near {a b : Nat} (neg : Bool) (ha : 0 < a) (hb : 0 < b) (na : nb a ≤ 380) (nbb : nb b ≤ 380) :
    ∃ r, Near (a * tw 151) b r ∧ roundV neg (ratioS a b).1 (ratioE a b - 31) (decide ((ratioS a b).2 ≠ 0)) = resI neg r := by
  obtain ⟨A, B, i, j, hA, hB, he, hij, h1, h2, h3, h4, h5⟩ := ratio_parts ha hb na nbb
  rw [he]
  generalize (ratioS a b).1 = q at *
  generalize (ratioS a b).2 = t at *
  clear he na nbb
  have hq1 : q < 4294967296 := by
    rcases Nat.lt_or_ge q 4294967296 with g | g
    · exact g
    · have := Nat.mul_le_mul_right (2 * B) g
      omega
  have hq2 : 33554432 ≤ q := by
    rcases Nat.lt_or_ge q 33554432 with g | g
    · have := Nat.mul_le_mul_right (2 * B) (show q + 1 ≤ 33554432 from g)
      rw [Nat.add_mul, Nat.one_mul] at this
      omega
    · exact g
  have e1 : tw 151 = 2 ^ 32 * tw 119 := by unfold tw; rw [← Nat.pow_add]
  have e2 : tw 120 = 2 * tw 119 := by unfold tw; rw [Nat.mul_comm, ← Nat.pow_succ]
  have hK := tw_pos 119
  have hP : A * tw 151 = q * (2 * B * tw 119) + t * tw 119 := by
    rw [e1, ← Nat.mul_assoc, h1, Nat.add_mul, Nat.mul_assoc]
  rcases hij with rfl | rfl
  · rw [Nat.pow_zero, Nat.mul_one] at hA
    subst hA
    have hG : 2 ^ ((j : Int) - (0 : Nat) - 31 + 151 + (0 : Nat)).toNat * b = 2 * B * tw 119 := by
      rw [show ((j : Int) - (0 : Nat) - 31 + 151 + (0 : Nat)).toNat = j + 120 by omega, Nat.pow_add, show (2 : Nat) ^ 120 = tw 120 from rfl, e2, hB]
      ac_rfl
    obtain ⟨r, hr, hv⟩ := ratio_core neg hb (by omega) hG hK hP h2 (by omega) hq2
    exact ⟨r, by rwa [Nat.pow_zero, Nat.one_mul] at hr, hv⟩
  · rw [Nat.pow_zero, Nat.mul_one] at hB
    subst hB
    have hG : 2 ^ (((0 : Nat) : Int) - (i : Nat) - 31 + 151 + (i : Nat)).toNat * B = 2 * B * tw 119 := by
      rw [show (((0 : Nat) : Int) - (i : Nat) - 31 + 151 + (i : Nat)).toNat = 120 by omega, show (2 : Nat) ^ 120 = tw 120 from rfl, e2]
      ac_rfl
    obtain ⟨r, hr, hv⟩ := ratio_core neg hb (by omega) hG hK hP h2 (by omega) hq2
    refine ⟨r, ?_, hv⟩
    rw [hA, Nat.mul_comm (2 ^ i), Nat.mul_right_comm] at hr
    exact (near_scale (pow_pos2 i)).1 hr
end Go.Proofs.YthmndafjogndaaaGreatDoor
