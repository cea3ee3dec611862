/- Layer 2: laws of powers (no program but the powers' plain functions here). -/
import Derived.Test.YtehmpffffjcloaaGreatDoorTs
namespace Go.Proofs.YtehmpffffjcloaaGreatDoor

/-- A result with the other sign. -/
def ng (o : Option (Int × Int)) : Option (Int × Int) := o.map fun p => (-p.1, p.2)
theorem ng_ng (o : Option (Int × Int)) : ng (ng o) = o := by cases o <;> simp [ng]
theorem resI_ng (V : Int) (r : Nat) (h : V = 0 → r = 0) : resI (decide (-V < 0)) r = ng (resI (decide (V < 0)) r) := by
  by_cases h0 : V = 0
  · rw [h h0]; rfl
  · have e : decide (-V < 0) = !decide (V < 0) := by
      by_cases c : V < 0
      · simp [c]; omega
      · simp [c]; omega
    rw [e, resI_not]; rfl
theorem prod_ng {m x n y : Int} (h : Vd m x) (k : Vd n y) : (prodV (-m) x n y).rd = ng (prodV m x n y).rd := by
  obtain ⟨r, a, b⟩ := prod_near h k
  obtain ⟨s, c, d⟩ := prod_near h.rev k
  have e : sc (-m) x * sc n y = -(sc m x * sc n y) := by rw [sc_rev, Int.neg_mul]
  rw [e, Int.natAbs_neg] at c
  have rs := near_unique (Nat.pow_pos (by omega)) a c
  subst rs
  rw [d, b, Int.neg_mul]
  refine resI_ng (m * n) r (fun h0 => ?_)
  have : sc m x * sc n y = 0 := by
    rcases Int.mul_eq_zero.1 h0 with q | q
    · rw [(sc_zero m x).2 q, Int.zero_mul]
    · rw [(sc_zero n y).2 q, Int.mul_zero]
  rw [this] at a
  exact near_exact (s := 0) (D := 2 ^ 150) (Nat.pow_pos (by omega)) (by simpa [ord_zero] using a)
theorem prod_right (m x n y : Int) : prodV m x (-n) y = prodV (-m) x n y := by
  unfold prodV; rw [Int.mul_neg, Int.neg_mul]
theorem prod_both (m x n y : Int) : prodV (-m) x (-n) y = prodV m x n y := by
  unfold prodV; rw [Int.neg_mul_neg]
theorem powF_ng {m x : Int} (h : Vd m x) : ∀ k n : Nat, n ≤ k → powF (-m) x k n = if n % 2 = 0 then powF m x k n else ng (powF m x k n)
  | 0, n, hk => by
    obtain rfl : n = 0 := by omega
    rfl
  | k + 1, n, hk => by
    rw [powF, powF]
    by_cases n0 : n = 0
    · subst n0; simp
    rw [if_neg n0, if_neg n0]
    by_cases n1 : n % 2 = 1
    · rw [if_pos n1, if_pos n1, if_neg (show ¬ n % 2 = 0 by omega), powF_ng h k (n - 1) (by omega), if_pos (show (n - 1) % 2 = 0 by omega)]
      have V := powF_vd h k (n - 1)
      cases e : powF m x k (n - 1) with
      | none => rfl
      | some q => exact prod_ng h (V q e)
    · rw [if_neg n1, if_neg n1, if_pos (show n % 2 = 0 by omega), powF_ng h k (n / 2) (by omega)]
      by_cases n2 : n / 2 % 2 = 0
      · rw [if_pos n2]
      · rw [if_neg n2]
        cases e : powF m x k (n / 2) with
        | none => rfl
        | some q => show (prodV (-q.1) q.2 (-q.1) q.2).rd = (prodV q.1 q.2 q.1 q.2).rd; rw [prod_both]
theorem quot_ng {m x : Int} (h : Vd m x) (h0 : m ≠ 0) : (quotV 8388608 (-23) (-m) x).rd = ng (quotV 8388608 (-23) m x).rd := by
  obtain ⟨r, a, b⟩ := quot_near vd_one h h0
  obtain ⟨s, c, d⟩ := quot_near vd_one h.rev (by omega : -m ≠ 0)
  rw [sc_rev, Int.natAbs_neg] at c
  have d0 : 0 < (sc m x).natAbs := by
    have : sc m x ≠ 0 := fun e => h0 ((sc_zero m x).1 e)
    omega
  have rs := near_unique d0 a c
  subst rs
  rw [d, b]
  have e : (decide ((8388608 : Int) < 0) != decide (-m < 0)) = !(decide ((8388608 : Int) < 0) != decide (m < 0)) := by
    by_cases c : m < 0
    · simp [c]; omega
    · simp [c]; omega
  rw [e, resI_not]; rfl
theorem powR_ng {m x n : Int} (h : Vd m x) : powR (-m) x n = if n % 2 = 0 then powR m x n else ng (powR m x n) := by
  unfold powR
  by_cases c : 0 ≤ n
  · rw [if_pos c, if_pos c, powF_ng h _ _ (Nat.le_refl _)]
    have : (n.toNat % 2 = 0) ↔ n % 2 = 0 := by omega
    simp only [this]
  · rw [if_neg c, if_neg c, powF_ng h _ _ (Nat.le_refl _)]
    have : ((-n).toNat % 2 = 0) ↔ n % 2 = 0 := by omega
    simp only [this]
    by_cases e : n % 2 = 0
    · rw [if_pos e, if_pos e]
    · rw [if_neg e, if_neg e]
      have V := powF_vd h (-n).toNat (-n).toNat
      cases q : powF m x (-n).toNat (-n).toNat with
      | none => rfl
      | some p =>
        show (if -p.1 = 0 then none else (quotV 8388608 (-23) (-p.1) p.2).rd) = ng (if p.1 = 0 then none else (quotV 8388608 (-23) p.1 p.2).rd)
        by_cases z : p.1 = 0
        · rw [if_pos (show -p.1 = 0 by omega), if_pos z]; rfl
        · rw [if_neg (show ¬ -p.1 = 0 by omega), if_neg z]; exact quot_ng (V p q) z
theorem powR_vd {m x n : Int} (h : Vd m x) : Vd (okV (powR m x n)).1 (okV (powR m x n)).2 := by
  unfold powR
  split
  · have V := powF_vd h n.toNat n.toNat
    cases q : powF m x n.toNat n.toNat with
    | none => exact vd_zero
    | some p => exact V p q
  · have V := powF_vd h (-n).toNat (-n).toNat
    cases q : powF m x (-n).toNat (-n).toNat with
    | none => exact vd_zero
    | some p =>
      show Vd (okV (if p.1 = 0 then none else (quotV 8388608 (-23) p.1 p.2).rd)).1 (okV (if p.1 = 0 then none else (quotV 8388608 (-23) p.1 p.2).rd)).2
      by_cases z : p.1 = 0
      · rw [if_pos z]; exact vd_zero
      · rw [if_neg z]
        obtain ⟨r, _, b⟩ := quot_near vd_one (V p q) z
        rw [b]
        exact resE_vd _ r
theorem ng_ok (o : Option (Int × Int)) : okE (ng o) = okE o ∧ (okV (ng o)).1 = -(okV o).1 ∧ (okV (ng o)).2 = (okV o).2 := by
  cases o <;> simp [ng, okE, okV]
theorem rd_one {m x : Int} (h : Vd m x) : (prodV m x 8388608 (-23)).rd = some (m, x) := by
  have e := mul_one' h
  unfold mulV at e
  rw [comb_valid h vd_one] at e
  cases q : (prodV m x 8388608 (-23)).rd with
  | none => rw [q] at e; cases e
  | some p => rw [q] at e; exact congrArg some (Prod.mk.inj e).1
theorem powF_one {m x : Int} (h : Vd m x) : powF m x 1 1 = some (m, x) := by
  rw [powF, if_neg (by omega), if_pos (by omega)]
  exact rd_one h
theorem powR_one {m x : Int} (h : Vd m x) : powR m x 1 = some (m, x) := powF_one h
theorem powR_sq {m x : Int} (h : Vd m x) : powR m x 2 = (prodV m x m x).rd := by
  show powF m x 2 2 = _
  rw [powF, if_neg (by omega), if_neg (by omega)]
  show (powF m x 1 1).bind _ = _
  rw [powF_one h]; rfl
theorem pow_pos173 : ∀ n : Fin 174, powF 8388608 (-22) n n = some (twoK n) := by decide +kernel
theorem pow_neg126 : ∀ n : Fin 127, (quotV 8388608 (-23) (twoK n).1 (twoK n).2).rd = some (twoK (-(n : Int))) := by decide +kernel
theorem pow_two_all {k : Int} (h1 : -126 ≤ k) (h2 : k ≤ 173) : powR 8388608 (-22) k = some (twoK k) := by
  unfold powR
  by_cases c : 0 ≤ k
  · obtain ⟨n, rfl⟩ : ∃ n : Nat, k = n := ⟨k.toNat, by omega⟩
    rw [if_pos c, show (n : Int).toNat = n by omega]
    exact pow_pos173 ⟨n, by omega⟩
  · obtain ⟨n, rfl⟩ : ∃ n : Nat, k = -(n : Int) := ⟨(-k).toNat, by omega⟩
    rw [if_neg c, show (- -(n : Int)).toNat = n by omega, pow_pos173 ⟨n, by omega⟩]
    show (if (8388608 : Int) = 0 then none else (quotV 8388608 (-23) (twoK n).1 (twoK n).2).rd) = _
    rw [if_neg (by decide)]
    exact pow_neg126 ⟨n, by omega⟩
end Go.Proofs.YtehmpffffjcloaaGreatDoor
