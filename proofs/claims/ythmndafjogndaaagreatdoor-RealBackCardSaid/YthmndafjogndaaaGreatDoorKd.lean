/- Layer 2: what Print's decimal fraction is: its loops end, and no number overflows (no program here). -/
import Derived.Test.YthmndafjogndaaaGreatDoorKc
import Derived.Test.YthmndafjogndaaaGreatDoorGq
namespace Go.Proofs.YthmndafjogndaaaGreatDoor

theorem up_spec : ∀ (f : Nat) (d : Dec), d.num < d.size * 10 ^ f → d.size * 10 ^ f < M384 → 0 < d.size →
    ∃ u, u ≤ f ∧ decUp f d = { d with size := d.size * 10 ^ u, point := d.point + u } ∧ upDone f d = true ∧ d.num < d.size * 10 ^ u ∧ (u = 0 ∨ d.size * 10 ^ (u - 1) ≤ d.num)
  | 0, d, h1, _, _ => by
    refine ⟨0, Nat.le_refl _, by simp [decUp], by simpa [upDone] using h1, by simpa using h1, .inl rfl⟩
  | f + 1, d, h1, h2, h3 => by
    by_cases c : d.size ≤ d.num
    · have hm : d.size * 10 % M384 = d.size * 10 := by
        refine Nat.mod_eq_of_lt (Nat.lt_of_le_of_lt ?_ h2)
        rw [Nat.pow_succ, Nat.mul_comm (10 ^ f) 10, ← Nat.mul_assoc]
        exact Nat.le_mul_of_pos_right _ (ten_pos f)
      have e : ∀ k, d.size * 10 * 10 ^ k = d.size * 10 ^ (k + 1) := fun k => by rw [Nat.pow_succ, Nat.mul_comm (10 ^ k) 10, Nat.mul_assoc]
      obtain ⟨u, a1, a2, a3, a4, a5⟩ := up_spec f { d with size := d.size * 10, point := d.point + 1 } (by simp only; rw [e]; exact h1) (by simp only; rw [e]; exact h2) (by simp only; omega)
      simp only at a2 a3 a4 a5
      refine ⟨u + 1, by omega, ?_, ?_, ?_, .inr ?_⟩
      · rw [decUp, if_pos c, hm, a2, e]
        simp only [Dec.mk.injEq, true_and]
        omega
      · rw [upDone, if_pos c]
        unfold upS
        rw [hm]
        exact a3
      · rw [← e]; exact a4
      · rw [Nat.add_sub_cancel]
        rcases a5 with rfl | a5
        · simpa using c
        · rcases u with _ | u
          · simpa using c
          · rw [← e]; simpa using a5
    · refine ⟨0, by omega, ?_, ?_, ?_, .inl rfl⟩
      · rw [decUp, if_neg c]; simp
      · rw [upDone, if_neg c]
      · simp; omega
theorem down_spec : ∀ (f : Nat) (d : Dec), d.size ≤ d.num * 10 ^ (f + 1) → d.size * 10 ≤ M384 → d.num < d.size → d.below ≤ d.num → d.above ≤ d.num →
    ∃ v, v ≤ f ∧ decDown f d = ⟨d.num * 10 ^ v, d.below * 10 ^ v, d.above * 10 ^ v, d.size, d.point - v⟩ ∧ downDone f d = true ∧ d.num * 10 ^ v < d.size ∧ d.size ≤ d.num * 10 ^ v * 10
  | 0, d, h1, h2, h3, _, _ => by
    have hm : d.num * 10 % M384 = d.num * 10 := Nat.mod_eq_of_lt (by omega)
    refine ⟨0, Nat.le_refl _, by simp [decDown], ?_, by simpa using h3, by simpa using h1⟩
    unfold downDone
    rw [hm]
    simpa using h1
  | f + 1, d, h1, h2, h3, h4, h5 => by
    have hm : d.num * 10 % M384 = d.num * 10 := Nat.mod_eq_of_lt (by omega)
    have hb : d.below * 10 % M384 = d.below * 10 := Nat.mod_eq_of_lt (by omega)
    have ha : d.above * 10 % M384 = d.above * 10 := Nat.mod_eq_of_lt (by omega)
    by_cases c : d.num * 10 < d.size
    · have e : ∀ n k, n * 10 * 10 ^ k = n * 10 ^ (k + 1) := fun n k => by rw [Nat.pow_succ, Nat.mul_comm (10 ^ k) 10, Nat.mul_assoc]
      obtain ⟨v, a1, a2, a3, a4, a5⟩ := down_spec f ⟨d.num * 10, d.below * 10, d.above * 10, d.size, d.point - 1⟩ (by simp only; rw [e]; exact h1) h2 c (by simp only; omega) (by simp only; omega)
      simp only at a2 a3 a4 a5
      rw [e] at a4 a5
      refine ⟨v + 1, by omega, ?_, ?_, a4, a5⟩
      · rw [decDown, hm, if_pos c, hb, ha, a2, e, e, e]
        simp only [Dec.mk.injEq, true_and]
        omega
      · rw [downDone, hm, if_pos c]
        unfold downS
        rw [hm, hb, ha]
        exact a3
    · refine ⟨0, by omega, ?_, ?_, by simpa using h3, by simp; omega⟩
      · rw [decDown, hm, if_neg c]; simp
      · rw [downDone, hm, if_neg c]
end Go.Proofs.YthmndafjogndaaaGreatDoor
