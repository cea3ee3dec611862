/- Layer 2: a numeric string's parts are rounded to the nearest real (no program here). -/
import Derived.Test.YthmndafjogndaaaGreatDoorKa
namespace Go.Proofs.YthmndafjogndaaaGreatDoor

theorem least_of (p : Nat → Prop) : ∀ n, p n → ∃ m, m ≤ n ∧ p m ∧ ∀ j, j < m → ¬ p j := by
  intro n
  induction n using Nat.strongRecOn with
  | ind n ih =>
    intro hn
    by_cases h : ∃ j, j < n ∧ p j
    · obtain ⟨j, h1, h2⟩ := h
      obtain ⟨m, a, b, c⟩ := ih j h1 h2
      exact ⟨m, by omega, b, c⟩
    · exact ⟨n, Nat.le_refl _, hn, fun j hj hp => h ⟨j, hj, hp⟩⟩
theorem mid_ge (r : Nat) : r ≤ midN r := by
  induction r with
  | zero => omega
  | succ r ih => have := mid_mono (r := r) (s := r + 1) (by omega); omega
theorem near_exists {P D : Nat} (hD : 0 < D) : ∃ r, Near P D r := by
  obtain ⟨m, _, h1, h2⟩ := least_of (fun r => P ≤ midN r * D) P (Nat.le_trans (mid_ge P) (Nat.le_mul_of_pos_right _ hD))
  by_cases e : P = midN m * D
  · by_cases ev : m % 2 = 0
    · refine ⟨m, .inr ⟨e, ev⟩, ?_⟩
      by_cases m0 : m = 0
      · exact .inl m0
      · exact .inr (.inl (by have := h2 (m - 1) (by omega); omega))
    · refine ⟨m + 1, .inl ?_, .inr (.inr ⟨e, by omega⟩)⟩
      rw [e]
      exact Nat.mul_lt_mul_of_pos_right (mid_mono (by omega)) hD
  · refine ⟨m, .inl (by omega), ?_⟩
    by_cases m0 : m = 0
    · exact .inl m0
    · exact .inr (.inl (by have := h2 (m - 1) (by omega); omega))

/-- The number that decimal digits denote. -/
def valL (l : List UInt8) : Nat := l.foldl (fun n c => n * 10 + (c.toNat - 48)) 0
theorem valL_snoc (l : List UInt8) (c : UInt8) : valL (l ++ [c]) = valL l * 10 + (c.toNat - 48) := by unfold valL; rw [List.foldl_append]; rfl
theorem isDg_le {c : UInt8} (h : isDg c = true) : 48 ≤ c.toNat ∧ c.toNat ≤ 57 := by
  unfold isDg at h; simpa using h
theorem snoc_cases (l : List UInt8) : l = [] ∨ ∃ t c, l = t ++ [c] := by
  rcases List.eq_nil_or_concat l with h | ⟨t, c, h⟩
  · exact .inl h
  · exact .inr ⟨t, c, by rw [h, List.concat_eq_append]⟩
theorem ten_pos (k : Nat) : 0 < 10 ^ k := Nat.pow_pos (by omega)
theorem valL_lt : ∀ (k : Nat) (l : List UInt8), l.length = k → l.all isDg = true → valL l < 10 ^ k
  | 0, l, hk, _ => by
    obtain rfl := List.length_eq_zero_iff.1 hk
    simp [valL]
  | k + 1, l, hk, hd => by
    rcases snoc_cases l with rfl | ⟨t, c, rfl⟩
    · simp at hk
    · rw [List.all_append, Bool.and_eq_true] at hd
      have h1 := valL_lt k t (by simpa using hk) hd.1
      have h2 := isDg_le (c := c) (by simpa using hd.2)
      rw [valL_snoc, Nat.pow_succ]
      omega
theorem decN_small {n : Nat} {c : UInt8} (h : n * 10 + (c.toNat - 48) < M384) : decN n c = n * 10 + (c.toNat - 48) := by
  unfold decN
  rw [Nat.mod_eq_of_lt (a := n * 10) (by omega), Nat.mod_eq_of_lt h]
theorem decF_snoc' (l : List UInt8) (c : UInt8) : decF (l ++ [c]) = decN (decF l) c := by unfold decF; rw [List.foldl_append]; rfl
theorem ten_lt_two (k : Nat) : 10 ^ k ≤ 2 ^ (4 * k) := by
  rw [Nat.pow_mul]
  exact Nat.pow_le_pow_left (by omega) k
theorem ten_lt_M {k : Nat} (h : k ≤ 96) : 10 ^ k ≤ M384 := Nat.le_trans (ten_lt_two k) (pow_le_M (by omega))
theorem decF_val : ∀ (k : Nat) (l : List UInt8), l.length = k → k ≤ 96 → l.all isDg = true → decF l = valL l
  | 0, l, hk, _, _ => by
    obtain rfl := List.length_eq_zero_iff.1 hk
    rfl
  | k + 1, l, hk, hb, hd => by
    have hv := valL_lt (k + 1) l hk hd
    rcases snoc_cases l with rfl | ⟨t, c, rfl⟩
    · simp at hk
    · have hd2 := hd
      rw [List.all_append, Bool.and_eq_true] at hd2
      rw [decF_snoc', decF_val k t (by simpa using hk) (by omega) hd2.1, valL_snoc]
      rw [valL_snoc] at hv
      exact decN_small (Nat.lt_of_lt_of_le hv (ten_lt_M hb))
/-- The first digit is not 0. -/
def Lead (l : List UInt8) : Prop := ∀ c t, l = c :: t → c ≠ 48
theorem valL_ge : ∀ (k : Nat) (l : List UInt8), l.length = k + 1 → l.all isDg = true → Lead l → 10 ^ k ≤ valL l
  | 0, l, hk, hd, hl => by
    match l, hk with
    | [c], _ =>
      have h1 := hl c [] rfl
      have h2 := isDg_le (c := c) (by simpa using hd)
      have h3 : c.toNat ≠ 48 := fun e => h1 (by apply UInt8.toNat_inj.1; rw [e]; rfl)
      simp [valL]; omega
  | k + 1, l, hk, hd, hl => by
    rcases snoc_cases l with rfl | ⟨t, c, rfl⟩
    · simp at hk
    · rw [List.all_append, Bool.and_eq_true] at hd
      have ht : t.length = k + 1 := by simpa using hk
      have h1 := valL_ge k t ht hd.1 (fun d u e => hl d (u ++ [c]) (by rw [e]; rfl))
      rw [valL_snoc, Nat.pow_succ]
      omega
end Go.Proofs.YthmndafjogndaaaGreatDoor
