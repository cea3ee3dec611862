/- Layer 2: exact products and quotients (no program but the powers' plain functions here). -/
import Derived.Test.YtehmpffffjcloaaGreatDoorTq
import Derived.Test.YtehmpffffjcloaaGreatDoorGr
namespace Go.Proofs.YtehmpffffjcloaaGreatDoor

theorem exact_prod {m x n y V : Int} {s : Nat} (h : Vd m x) (k : Vd n y) (e : sc m x * sc n y = V * H150) (hs : ordN s = V.natAbs) (hm : s ≤ 2533359615) :
    ∃ a b, mulV m x n y = ((a, b), 0) ∧ Vd a b ∧ sc a b = V := by
  obtain ⟨r, p, q⟩ := mul_char h k
  have e0 : 2 * (sc m x * sc n y).natAbs = 2 * ordN s * 2 ^ 150 := by
    rw [e, Int.natAbs_mul, hs, ← Nat.mul_assoc]; rfl
  rw [e0] at p
  obtain rfl := near_exact (Nat.pow_pos (by omega)) p
  have sg : decide (sc m x * sc n y < 0) = decide (V < 0) := by
    rw [e]; apply decide_eq_decide.2; unfold H150; omega
  rw [sg] at q
  have v := @resE_val (decide (V < 0)) r hm
  have ok := (@resE_ok (decide (V < 0)) r).2 hm
  refine ⟨(resE (decide (V < 0)) r).1.1, (resE (decide (V < 0)) r).1.2, ?_, resE_vd (decide (V < 0)) r, ?_⟩
  · rw [q]
    generalize resE (decide (V < 0)) r = t at *
    obtain ⟨⟨a, b⟩, c⟩ := t
    simp only at ok
    rw [ok]
  · rw [v]
    by_cases c : V < 0
    · simp [c]; omega
    · simp [c]; omega
/-- M times a power of 2, as far as M has 24 bits. -/
theorem rep_of (M : Int) (X : Nat) (h : M.natAbs < 16777216) (hX : X ≤ 300) : ∃ s, ordN s = (M * 2 ^ X).natAbs ∧ s ≤ 2533359615 := by
  obtain ⟨s, e⟩ := rep_index M.natAbs X h
  refine ⟨s, by rw [e, Int.natAbs_mul, Int.natAbs_pow]; rfl, ?_⟩
  rw [← ord_le_iff, ord_max, e]
  have key : ∀ Y, X ≤ Y → M.natAbs * 2 ^ X ≤ 16777215 * 2 ^ Y := fun Y hY => Nat.mul_le_mul (by omega) (Nat.pow_le_pow_right (by omega) hY)
  exact key 300 hX
def twoK (k : Int) : Int × Int := (8388608, k - 23)
theorem twoK_vd {k : Int} (h1 : -127 ≤ k) (h2 : k ≤ 173) : Vd (twoK k).1 (twoK k).2 := ⟨by show Int.natAbs 8388608 < _; decide, by show -150 ≤ k - 23; omega, by show k - 23 ≤ 150; omega, fun h => absurd (show (8388608 : Int) = 0 from h) (by decide), fun _ => Or.inr (by show 8388608 ≤ Int.natAbs 8388608; decide)⟩
theorem twoK_sc {k : Int} (h1 : -127 ≤ k) : sc (twoK k).1 (twoK k).2 = 2 ^ (k + 150).toNat := by
  show (8388608 : Int) * 2 ^ (k - 23 + 150).toNat = _
  rw [show (8388608 : Int) = 2 ^ 23 by decide, ← Int.pow_add]
  exact congrArg (fun j => (2 : Int) ^ j) (by omega)
theorem pow_pos42 : ∀ n : Fin 43, powF 8388608 (-22) n n = some (twoK n) := by decide +kernel
theorem pow_neg42 : ∀ n : Fin 43, (quotV 8388608 (-23) (twoK n).1 (twoK n).2).rd = some (twoK (-(n : Int))) := by decide +kernel
theorem pow_two {k : Int} (h1 : -42 ≤ k) (h2 : k ≤ 42) : powR 8388608 (-22) k = some (twoK k) := by
  unfold powR
  by_cases c : 0 ≤ k
  · obtain ⟨n, rfl⟩ : ∃ n : Nat, k = n := ⟨k.toNat, by omega⟩
    rw [if_pos c, show (n : Int).toNat = n by omega]
    exact pow_pos42 ⟨n, by omega⟩
  · obtain ⟨n, rfl⟩ : ∃ n : Nat, k = -(n : Int) := ⟨(-k).toNat, by omega⟩
    rw [if_neg c, show (- -(n : Int)).toNat = n by omega, pow_pos42 ⟨n, by omega⟩]
    show (if (8388608 : Int) = 0 then none else (quotV 8388608 (-23) (twoK n).1 (twoK n).2).rd) = _
    rw [if_neg (by decide)]
    exact pow_neg42 ⟨n, by omega⟩
/-- A real with 12 bits and a small exponent. -/
structure Sm (M E : Int) (m x : Int) : Prop where
  vd : Vd m x
  v : sc m x = M * 2 ^ (E + 150).toNat
theorem small_ex {M E : Int} (hM : M.natAbs ≤ 4095) (h1 : -20 ≤ E) (h2 : E ≤ 20) {a b : Int} (h : Vd a b) (e : sc a b = M * H150) :
    ∃ m x, mulV a b (twoK E).1 (twoK E).2 = ((m, x), 0) ∧ Sm M E m x := by
  obtain ⟨s, s1, s2⟩ := rep_of M (E + 150).toNat (by omega) (by omega)
  obtain ⟨m, x, p, q, r⟩ := exact_prod h (twoK_vd (k := E) (by omega) (by omega)) (V := M * 2 ^ (E + 150).toNat) (by rw [e, twoK_sc (k := E) (by omega), Int.mul_assoc, Int.mul_comm H150, ← Int.mul_assoc]) s1 s2
  exact ⟨m, x, p, q, r⟩
theorem prod_ex {M E N F : Int} (hM : M.natAbs ≤ 4095) (hN : N.natAbs ≤ 4095) (h1 : -20 ≤ E) (h2 : E ≤ 20) (h3 : -20 ≤ F) (h4 : F ≤ 20) {m x n y a b : Int} (h : Sm M E m x) (k : Sm N F n y)
    (hv : Vd a b) (he : sc a b = M * N * H150) :
    ∃ p z, mulV m x n y = ((p, z), 0) ∧ mulV a b (twoK (E + F)).1 (twoK (E + F)).2 = ((p, z), 0) ∧ Vd p z ∧ sc p z = M * N * 2 ^ (E + F + 150).toNat := by
  have hMN : (M * N).natAbs < 16777216 := by
    rw [Int.natAbs_mul]
    have := Nat.mul_le_mul hM hN
    omega
  obtain ⟨s, s1, s2⟩ := rep_of (M * N) (E + F + 150).toNat hMN (by omega)
  have e1 : sc m x * sc n y = M * N * 2 ^ (E + F + 150).toNat * H150 := by
    rw [h.v, k.v, ← h150]
    have : (2 : Int) ^ (E + 150).toNat * 2 ^ (F + 150).toNat = 2 ^ (E + F + 150).toNat * 2 ^ 150 := by
      rw [← Int.pow_add, ← Int.pow_add]; exact congrArg (fun j => (2 : Int) ^ j) (by omega)
    rw [show M * 2 ^ (E + 150).toNat * (N * 2 ^ (F + 150).toNat) = M * N * (2 ^ (E + 150).toNat * 2 ^ (F + 150).toNat) by simp only [Int.mul_assoc, Int.mul_left_comm], this, ← Int.mul_assoc]
  obtain ⟨p, z, q1, q2, q3⟩ := exact_prod h.vd k.vd e1 s1 s2
  obtain ⟨p', z', r1, r2, r3⟩ := exact_prod hv (twoK_vd (k := E + F) (by omega) (by omega)) (V := M * N * 2 ^ (E + F + 150).toNat) (by rw [he, twoK_sc (k := E + F) (by omega), Int.mul_assoc _ H150, Int.mul_comm H150, ← Int.mul_assoc]) s1 s2
  obtain ⟨rfl, rfl⟩ := sc_inj r2 q2 (by rw [r3, q3])
  exact ⟨p', z', q1, r1, q2, q3⟩
theorem div_ex {M E N F : Int} (h1 : -20 ≤ E) (h2 : E ≤ 20) (h3 : -20 ≤ F) (h4 : F ≤ 20) {m x n y p z : Int} (h : Sm M E m x) (k : Sm N F n y) (hN : N ≠ 0)
    (hv : Vd p z) (he : sc p z = M * N * 2 ^ (E + F + 150).toNat) : divV p z n y = ((m, x), 0) ∧ n ≠ 0 := by
  have pE := ipow_pos (E + 150).toNat
  have pF := ipow_pos (F + 150).toNat
  have pEF := ipow_pos (E + F + 150).toNat
  have n0 : n ≠ 0 := fun e => by
    have := (sc_zero n y).2 e
    rw [k.v] at this
    rcases Int.mul_eq_zero.1 this with q | q
    · exact hN q
    · omega
  obtain ⟨r, a, b⟩ := div_char hv k.vd n0
  have e1 : 2 * (sc p z).natAbs * 2 ^ 150 = 2 * ordN (idx m x) * (sc n y).natAbs := by
    rw [← sc_ord h.vd, h.v, k.v, he]
    simp only [Int.natAbs_mul, Int.natAbs_pow]
    have : (Int.natAbs 2) ^ (E + F + 150).toNat * 2 ^ 150 = (Int.natAbs 2) ^ (E + 150).toNat * (Int.natAbs 2) ^ (F + 150).toNat := by
      show 2 ^ _ * 2 ^ 150 = 2 ^ _ * 2 ^ _
      rw [← Nat.pow_add, ← Nat.pow_add]; exact congrArg (fun j => 2 ^ j) (by omega)
    rw [Nat.mul_assoc, Nat.mul_assoc (M.natAbs * N.natAbs), this]
    simp only [Nat.mul_assoc, Nat.mul_comm, Nat.mul_left_comm]
  rw [e1] at a
  have d0 : 0 < (sc n y).natAbs := by
    have : sc n y ≠ 0 := fun e => n0 ((sc_zero n y).1 e)
    omega
  obtain rfl := near_exact d0 a
  refine ⟨?_, n0⟩
  rw [b]
  refine resE_of_val h.vd (sc_ord h.vd).symm (fun m0 => ?_)
  rw [← sc_neg p z, ← sc_neg n y, ← sc_neg m x, h.v, k.v, he]
  have hM : M ≠ 0 := fun e => by
    have : sc m x = 0 := by rw [h.v, e, Int.zero_mul]
    exact m0 ((sc_zero m x).1 this)
  generalize (2 : Int) ^ (E + 150).toNat = A at *
  generalize (2 : Int) ^ (F + 150).toNat = B at *
  generalize (2 : Int) ^ (E + F + 150).toNat = C at *
  have sgn : ∀ V P : Int, 0 < P → V ≠ 0 → decide (V * P < 0) = decide (V < 0) := fun V P hP _ => by
    apply decide_eq_decide.2
    constructor
    · intro h; rcases Int.lt_or_le V 0 with g | g
      · exact g
      · have := Int.mul_nonneg g (Int.le_of_lt hP); omega
    · intro h; exact Int.mul_neg_of_neg_of_pos h hP
  rw [sgn _ _ pEF (Int.mul_ne_zero hM hN), sgn _ _ pF hN, sgn _ _ pE hM]
  rcases Int.lt_or_gt_of_ne hM with g | g <;> rcases Int.lt_or_gt_of_ne hN with g2 | g2
  · have := Int.mul_pos_of_neg_of_neg g g2
    simp [g, g2, show ¬ M * N < 0 by omega]
  · have := Int.mul_neg_of_neg_of_pos g g2
    simp [g, this, show ¬ N < 0 by omega]
  · have := Int.mul_neg_of_pos_of_neg g g2
    simp [g2, this, show ¬ M < 0 by omega]
  · have := Int.mul_pos g g2
    simp [show ¬ M < 0 by omega, show ¬ N < 0 by omega, show ¬ M * N < 0 by omega]
theorem prod_zero {m x n y p z M E F : Int} (_h : mulV m x n y = ((p, z), 0)) (hv : Vd p z) (he : sc p z = M * 0 * 2 ^ (E + F + 150).toNat) : p = 0 ∧ z = 0 := by
  have : p = 0 := (sc_zero p z).1 (by rw [he]; simp)
  exact ⟨this, hv.2.2.2.1 this⟩
end Go.Proofs.YtehmpffffjcloaaGreatDoor
