/- Layer 2: the digits of Print denote a number that is rounded to the real; with the last one left out they don't (no program here). -/
import Derived.Test.YthmndafjogndaaaGreatDoorKf
namespace Go.Proofs.YthmndafjogndaaaGreatDoor

theorem idx_pos {m x : Int} (_h : Vd m x) (m0 : m ≠ 0) : 0 < idx m x := by unfold idx; rw [if_neg m0]; omega
theorem mid_self {m x : Int} (h : Vd m x) (m0 : m ≠ 0) : midN (idx m x) = (2 * m.natAbs + 1) * 2 ^ (x + 150).toNat := by
  obtain ⟨h1, h2⟩ := idx_parts h m0
  unfold midN
  rw [h1, show expoN (idx m x) = (x + 150).toNat by omega]
theorem mid_below {m x : Int} (h : Vd m x) (m0 : m ≠ 0) : 2 * midN (idx m x - 1) + belowB m.natAbs x * 2 ^ (x + 150).toNat = 4 * m.natAbs * 2 ^ (x + 150).toNat := by
  obtain ⟨h1, h2⟩ := idx_parts h m0
  have ho := idx_ord h
  have hp := idx_pos h m0
  obtain ⟨r, hr⟩ : ∃ r, idx m x = r + 1 := ⟨idx m x - 1, by omega⟩
  rw [hr] at h1 h2 ho ⊢
  rw [Nat.add_sub_cancel, mid_two, ho]
  have hs := ord_succ r
  rw [ho] at hs
  have hx := h.2.1
  have e4 : 4 * m.natAbs * 2 ^ (x + 150).toNat = 4 * (m.natAbs * 2 ^ (x + 150).toNat) := Nat.mul_assoc ..
  rw [e4]
  rcases succ_cases r with ⟨c1, c2⟩ | ⟨c1, c2, c3⟩
  · have e1 : expoN r = (x + 150).toNat := by omega
    have e2 : belowB m.natAbs x = 2 := by
      unfold belowB
      rw [if_neg]
      intro ⟨d1, d2⟩
      have := @mant_ge r (by omega)
      omega
    rw [e1] at hs
    rw [e2]
    generalize m.natAbs * 2 ^ (x + 150).toNat = Z at *
    generalize 2 ^ (x + 150).toNat = Y at *
    omega
  · have e1 : expoN r + 1 = (x + 150).toNat := by omega
    have e2 : belowB m.natAbs x = 1 := by
      unfold belowB
      rw [if_pos ⟨by omega, by omega⟩]
    have e3 : 2 ^ (x + 150).toNat = 2 ^ expoN r * 2 := by rw [← e1, Nat.pow_succ]
    rw [e2, Nat.one_mul]
    generalize m.natAbs * 2 ^ (x + 150).toNat = Z at *
    generalize 2 ^ (x + 150).toNat = Y at *
    omega
/-- What lies within the marks is rounded to the real. -/
theorem in_near {n b a s M B2 X q w V r : Nat} {even : Bool} (hs : 0 < s) (r1 : 0 < r) (e1 : n * tw 150 = s * (M * 2 ^ X)) (e2 : b * tw 152 = s * (B2 * 2 ^ X)) (e3 : a * tw 152 = s * (2 * 2 ^ X)) (m1 : midN r = (2 * M + 1) * 2 ^ X) (m2 : 2 * midN (r - 1) + B2 * 2 ^ X = 4 * M * 2 ^ X)
    (he : even = true ↔ r % 2 = 0) :
    (InI even (n * q) V (s * w) (b * q) (a * q) → Near (V * w * tw 151) q r) ∧ (OutI even (n * q) V (s * w) (b * q) → ¬ Near (V * w * tw 151) q r) := by
  have t1 : tw 152 = tw 150 * 4 := by unfold tw; rw [show (152 : Nat) = 150 + 2 from rfl, Nat.pow_add]
  have t2 : tw 152 = tw 151 * 2 := by unfold tw; rw [← Nat.pow_succ]
  have tp := tw_pos 152
  -- all in units of s * tw 152
  have en : n * q * tw 152 = s * (4 * M * 2 ^ X * q) := by
    have : n * q * tw 152 = n * tw 150 * 4 * q := by rw [t1]; ac_rfl
    rw [this, e1]; ac_rfl
  have eb : b * q * tw 152 = s * (B2 * 2 ^ X * q) := by
    have : b * q * tw 152 = b * tw 152 * q := by ac_rfl
    rw [this, e2]; ac_rfl
  have ea : a * q * tw 152 = s * (2 * 2 ^ X * q) := by
    have : a * q * tw 152 = a * tw 152 * q := by ac_rfl
    rw [this, e3]; ac_rfl
  have eV : V * (s * w) * tw 152 = s * (V * w * tw 151 * 2) := by rw [t2]; ac_rfl
  have u1 : midN r * q * 2 = 4 * M * 2 ^ X * q + 2 * 2 ^ X * q := by
    rw [m1, ← Nat.add_mul, ← Nat.add_mul, show 4 * M + 2 = (2 * M + 1) * 2 by omega]; ac_rfl
  have u2 : midN (r - 1) * q * 2 + B2 * 2 ^ X * q = 4 * M * 2 ^ X * q := by
    rw [← m2, Nat.add_mul]; congr 1; ac_rfl
  generalize hP : V * w * tw 151 = P at *
  -- the three comparisons
  have cmp1 : (n * q < V * (s * w) + b * q ↔ midN (r - 1) * q < P) ∧ (n * q = V * (s * w) + b * q ↔ midN (r - 1) * q = P) ∧ (V * (s * w) + b * q < n * q ↔ P < midN (r - 1) * q) := by
    have k1 : ∀ p p' : Nat, (p * tw 152 < p' * tw 152 ↔ p < p') := fun p p' => Nat.mul_lt_mul_right tp
    have k2 : ∀ p p' : Nat, (s * p < s * p' ↔ p < p') := fun p p' => Nat.mul_lt_mul_left hs
    have k3 : ∀ p p' : Nat, (p * tw 152 = p' * tw 152 ↔ p = p') := fun p p' => Nat.mul_left_inj (by omega)
    have k4 : ∀ p p' : Nat, (s * p = s * p' ↔ p = p') := fun p p' => Nat.mul_right_inj (by omega)
    refine ⟨?_, ?_, ?_⟩
    · rw [← k1, Nat.add_mul, en, eb, eV, ← Nat.mul_add, k2]; omega
    · rw [← k3, Nat.add_mul, en, eb, eV, ← Nat.mul_add, k4]; omega
    · rw [← k1, Nat.add_mul, en, eb, eV, ← Nat.mul_add, k2]; omega
  have cmp2 : (V * (s * w) < n * q + a * q ↔ P < midN r * q) ∧ (V * (s * w) = n * q + a * q ↔ P = midN r * q) := by
    have k1 : ∀ p p' : Nat, (p * tw 152 < p' * tw 152 ↔ p < p') := fun p p' => Nat.mul_lt_mul_right tp
    have k2 : ∀ p p' : Nat, (s * p < s * p' ↔ p < p') := fun p p' => Nat.mul_lt_mul_left hs
    have k3 : ∀ p p' : Nat, (p * tw 152 = p' * tw 152 ↔ p = p') := fun p p' => Nat.mul_left_inj (by omega)
    have k4 : ∀ p p' : Nat, (s * p = s * p' ↔ p = p') := fun p p' => Nat.mul_right_inj (by omega)
    refine ⟨?_, ?_⟩
    · rw [← k1, Nat.add_mul, en, ea, eV, ← Nat.mul_add, k2]; omega
    · rw [← k3, Nat.add_mul, en, ea, eV, ← Nat.mul_add, k4]; omega
  constructor
  · rintro ⟨h1, h2⟩
    refine ⟨?_, .inr ?_⟩
    · rcases h2 with h2 | ⟨h2, h3⟩
      · exact .inl (cmp2.1.1 h2)
      · exact .inr ⟨cmp2.2.1 h2, he.1 h3⟩
    · rcases h1 with h1 | ⟨h1, h3⟩
      · exact .inl (cmp1.1.1 h1)
      · exact .inr ⟨(cmp1.2.1.1 h1).symm, he.1 h3⟩
  · intro ho hn
    rcases ho with h1 | ⟨h1, h3⟩
    · have := cmp1.2.2.1 h1
      rcases hn.2 with c | c | ⟨c, _⟩ <;> omega
    · have := cmp1.2.1.1 h1.symm
      rcases hn.2 with c | c | ⟨_, c⟩
      · omega
      · omega
      · have := he.2 c; rw [h3] at this; cases this
end Go.Proofs.YthmndafjogndaaaGreatDoor
