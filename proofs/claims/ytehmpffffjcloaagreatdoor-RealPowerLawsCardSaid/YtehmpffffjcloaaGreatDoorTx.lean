/- Layer 2: the root of a rounded square (no program here). -/
import Derived.Test.YtehmpffffjcloaaGreatDoorGr
namespace Go.Proofs.YtehmpffffjcloaaGreatDoor

theorem pow_le_iff {i j : Nat} (h : 2 ^ i ≤ 2 ^ j) : i ≤ j := by
  rcases Nat.lt_or_ge j i with c | c
  · have : 2 ^ (j + 1) ≤ 2 ^ i := Nat.pow_le_pow_right (by omega) c
    rw [Nat.pow_succ] at this
    have := pow_pos2 j
    omega
  · exact c
/-- Of a number N that is M^2 * 4^k, rounded to Q with unit u: four times it lies between the squares of the half way marks. -/
theorem sq_marks {M k J : Nat} {Q : Nat} (h1 : 8388608 ≤ M) (h2 : M < 16777216) (hQ : 8388608 * 2 ^ J ≤ Q)
    (a : 2 * Q ≤ 2 * (M * M * (2 ^ k * 2 ^ k)) + 2 ^ J) (b : 2 * (M * M * (2 ^ k * 2 ^ k)) ≤ 2 * Q + 2 ^ J) :
    4 * Q < (2 * M + 1) * (2 * M + 1) * (2 ^ k * 2 ^ k) ∧ (2 * M - 1) * (2 * M - 1) * (2 ^ k * 2 ^ k) < 4 * Q := by
  rw [← Nat.pow_add] at *
  have m1 : M * M ≤ 16777215 * 16777215 := Nat.mul_le_mul (by omega) (by omega)
  have m2 : 8388608 * 8388608 ≤ M * M := Nat.mul_le_mul h1 h1
  have e1 : (2 * M + 1) * (2 * M + 1) = 4 * (M * M) + 4 * M + 1 := by
    simp only [Nat.mul_add, Nat.add_mul, Nat.mul_one, Nat.one_mul]
    have : 2 * M * (2 * M) = 4 * (M * M) := by rw [Nat.mul_mul_mul_comm]
    omega
  have e2 : (2 * M - 1) * (2 * M - 1) + 4 * M = 4 * (M * M) + 1 := by
    obtain ⟨n, hn⟩ : ∃ n, 2 * M = n + 1 := ⟨2 * M - 1, by omega⟩
    have : 4 * (M * M) = (2 * M) * (2 * M) := by rw [Nat.mul_mul_mul_comm]
    rw [this, hn, Nat.add_sub_cancel, Nat.add_mul, Nat.mul_add]
    omega
  generalize hG : (2 * M + 1) * (2 * M + 1) = G at *
  generalize hH : (2 * M - 1) * (2 * M - 1) = H at *
  have key : ∃ A : Nat, 2 ^ J ≤ A * 2 ^ (k + k) ∧ 2 * A + 1 < 4 * M := by
    rcases Nat.lt_or_ge (k + k + 24) J with c | c
    · exfalso
      have hu : 2 ^ (k + k) * 33554432 ≤ 2 ^ J := by
        have : 2 ^ (k + k + 25) ≤ 2 ^ J := Nat.pow_le_pow_right (by omega) (by omega)
        rw [Nat.pow_add] at this; exact this
      have hn : M * M * 2 ^ (k + k) ≤ 281474943156225 * 2 ^ (k + k) := Nat.mul_le_mul_right _ m1
      have pz := pow_pos2 (k + k)
      generalize 2 ^ (k + k) = P at *
      generalize 2 ^ J = U at *
      generalize M * M * P = N at *
      omega
    · rcases Nat.lt_or_ge J (k + k + 24) with d | d
      · refine ⟨8388608, ?_, by omega⟩
        have : 2 ^ J ≤ 2 ^ (k + k + 23) := Nat.pow_le_pow_right (by omega) (by omega)
        rw [Nat.pow_add] at this
        omega
      · refine ⟨16777216, ?_, ?_⟩
        · have : 2 ^ J ≤ 2 ^ (k + k + 24) := Nat.pow_le_pow_right (by omega) c
          rw [Nat.pow_add] at this
          omega
        · have hu : 2 ^ (k + k) * 16777216 ≤ 2 ^ J := by
            have : 2 ^ (k + k + 24) ≤ 2 ^ J := Nat.pow_le_pow_right (by omega) d
            rw [Nat.pow_add] at this; exact this
          rcases Nat.lt_or_ge M 11000000 with g | g
          · exfalso
            have m3 : M * M ≤ 11000000 * 11000000 := Nat.mul_le_mul (by omega) (by omega)
            have hn : M * M * 2 ^ (k + k) ≤ 121000000000000 * 2 ^ (k + k) := Nat.mul_le_mul_right _ m3
            have pz := pow_pos2 (k + k)
            generalize 2 ^ (k + k) = P at *
            generalize 2 ^ J = U at *
            generalize M * M * P = N at *
            omega
          · omega
  obtain ⟨A, k1, k2⟩ := key
  have pz := pow_pos2 (k + k)
  have l1 : (2 * A + 1 + 1) * 2 ^ (k + k) ≤ 4 * M * 2 ^ (k + k) := Nat.mul_le_mul_right _ k2
  have l2 : G * 2 ^ (k + k) = 4 * (M * M * 2 ^ (k + k)) + 4 * M * 2 ^ (k + k) + 2 ^ (k + k) := by
    rw [e1, Nat.add_mul, Nat.add_mul, Nat.one_mul, Nat.mul_assoc 4]
  have l3 : H * 2 ^ (k + k) + 4 * M * 2 ^ (k + k) = 4 * (M * M * 2 ^ (k + k)) + 2 ^ (k + k) := by
    rw [← Nat.add_mul, e2, Nat.add_mul, Nat.one_mul, Nat.mul_assoc 4]
  have l4 : (2 * A + 1 + 1) * 2 ^ (k + k) = 2 * (A * 2 ^ (k + k)) + 2 * 2 ^ (k + k) := by
    rw [show 2 * A + 1 + 1 = 2 * A + 2 by omega, Nat.add_mul, Nat.mul_assoc]
  rw [l4] at l1
  generalize A * 2 ^ (k + k) = AP at *
  generalize 4 * M * 2 ^ (k + k) = MP at *
  generalize M * M * 2 ^ (k + k) = N at *
  generalize G * 2 ^ (k + k) = GP at *
  generalize H * 2 ^ (k + k) = HP at *
  generalize 2 ^ (k + k) = P at *
  generalize 2 ^ J = U at *
  constructor <;> omega
/-- The root of a number whose fourfold lies between the squares of the half way marks of M * 2^k. -/
theorem root_between {p z : Int} (h : Vd p z) (h0 : 0 < p) {M k : Nat} (h1 : 8388608 ≤ M) (h2 : M < 16777216)
    (hi : (sc p z).natAbs * 2 ^ 152 < (2 * M + 1) * (2 * M + 1) * (2 ^ k * 2 ^ k)) (lo : (2 * M - 1) * (2 * M - 1) * (2 ^ k * 2 ^ k) < (sc p z).natAbs * 2 ^ 152) :
    (2 * M - 1) * 2 ^ k * 2 < rootQ p z ∧ rootQ p z < (2 * M + 1) * 2 ^ k * 2 := by
  have rv := root_val h
  obtain ⟨x1, x2⟩ := rootSq_bd z (show p.natAbs ≠ 0 by omega) h.1
  obtain ⟨s1, s2⟩ := sq_spec x2
  have big : 2147483648 ≤ sqV (rootSq p.natAbs z) := sq_le (n := 4611686018427387904) (by omega) x1 s2
  rw [← rv] at hi lo
  have mx : (rootV p z).man = sqV (rootSq p.natAbs z) := rfl
  have ox : (rootV p z).more = decide (sqV (rootSq p.natAbs z) * sqV (rootSq p.natAbs z) ≠ rootSq p.natAbs z) := rfl
  unfold rootQ
  rw [mx, ox]
  generalize ((rootV p z).exp + 151).toNat = E at *
  generalize rootSq p.natAbs z = W at *
  generalize sqV W = R at *
  -- the unit of the root divides 2^k
  have hE : E ≤ k := by
    rcases Nat.lt_or_ge k E with c | c
    · exfalso
      have g1 : 2 ^ (k + 1) ≤ 2 ^ E := Nat.pow_le_pow_right (by omega) c
      rw [Nat.pow_succ] at g1
      have g2 : (2 ^ k * 2) * (2 ^ k * 2) ≤ 2 ^ E * 2 ^ E := Nat.mul_le_mul g1 g1
      have g3 : 4611686018427387904 * ((2 ^ k * 2) * (2 ^ k * 2)) ≤ W * (2 ^ E * 2 ^ E) := Nat.mul_le_mul x1 g2
      have g4 : (2 * M + 1) * (2 * M + 1) ≤ 33554432 * 33554432 := Nat.mul_le_mul (by omega) (by omega)
      have g5 : (2 * M + 1) * (2 * M + 1) * (2 ^ k * 2 ^ k) ≤ 33554432 * 33554432 * (2 ^ k * 2 ^ k) := Nat.mul_le_mul_right _ g4
      have g6 : (2 ^ k * 2) * (2 ^ k * 2) = 4 * (2 ^ k * 2 ^ k) := by rw [Nat.mul_mul_mul_comm]; omega
      have := Nat.mul_pos (pow_pos2 k) (pow_pos2 k)
      generalize 2 ^ k * 2 ^ k = P at *
      omega
    · exact c
  obtain ⟨B, hB⟩ : ∃ B, 2 ^ k = 2 ^ E * B := ⟨2 ^ (k - E), by rw [← Nat.pow_add]; congr 1; omega⟩
  have pE := pow_pos2 E
  rw [hB] at hi lo ⊢
  generalize 2 ^ E = A at *
  have pAA := Nat.mul_pos pE pE
  have f1 : A * B * (A * B) = B * B * (A * A) := by rw [Nat.mul_mul_mul_comm, Nat.mul_comm (A * A)]
  rw [f1] at hi lo
  have hi2 : W < (2 * M + 1) * (2 * M + 1) * (B * B) := Nat.lt_of_mul_lt_mul_right (a := A * A) (by rw [Nat.mul_assoc _ (B * B)]; exact hi)
  have lo2 : (2 * M - 1) * (2 * M - 1) * (B * B) < W := Nat.lt_of_mul_lt_mul_right (a := A * A) (by rw [Nat.mul_assoc _ (B * B)]; exact lo)
  have f2 : ∀ c : Nat, c * c * (B * B) = (c * B) * (c * B) := fun c => by rw [Nat.mul_mul_mul_comm]
  rw [f2] at hi2 lo2
  have r1 : R < (2 * M + 1) * B := by
    rcases Nat.lt_or_ge R ((2 * M + 1) * B) with g | g
    · exact g
    · have := Nat.mul_le_mul g g; omega
  have r2 : (2 * M - 1) * B ≤ R := by
    rcases Nat.lt_or_ge R ((2 * M - 1) * B) with g | g
    · have := Nat.mul_le_mul (show R + 1 ≤ (2 * M - 1) * B from g) (show R + 1 ≤ (2 * M - 1) * B from g); omega
    · exact g
  constructor
  · rw [← Nat.mul_assoc, Nat.mul_comm ((2 * M - 1)) A, Nat.mul_assoc A, Nat.mul_assoc A, Nat.mul_comm _ A]
    refine Nat.mul_lt_mul_of_pos_left ?_ pE
    by_cases c : R = (2 * M - 1) * B
    · have : R * R ≠ W := by rw [c]; omega
      rw [if_pos (by simpa using this)]; omega
    · omega
  · rw [← Nat.mul_assoc, Nat.mul_comm ((2 * M + 1)) A, Nat.mul_assoc A, Nat.mul_assoc A, Nat.mul_comm _ A]
    refine Nat.mul_lt_mul_of_pos_left ?_ pE
    split <;> omega
/-- The root of a square. -/
theorem root_exact {p z : Int} (h : Vd p z) (h0 : 0 < p) {M k : Nat} (h2 : M < 16777216) (e : (sc p z).natAbs * 2 ^ 152 = (2 * M) * (2 * M) * (2 ^ k * 2 ^ k)) :
    rootQ p z = 2 * (2 * M) * 2 ^ k := by
  have rv := root_val h
  obtain ⟨x1, x2⟩ := rootSq_bd z (show p.natAbs ≠ 0 by omega) h.1
  obtain ⟨s1, s2⟩ := sq_spec x2
  rw [← rv] at e
  have mx : (rootV p z).man = sqV (rootSq p.natAbs z) := rfl
  have ox : (rootV p z).more = decide (sqV (rootSq p.natAbs z) * sqV (rootSq p.natAbs z) ≠ rootSq p.natAbs z) := rfl
  unfold rootQ
  rw [mx, ox]
  generalize ((rootV p z).exp + 151).toNat = E at *
  generalize rootSq p.natAbs z = W at *
  generalize sqV W = R at *
  have hE : E ≤ k := by
    rcases Nat.lt_or_ge k E with c | c
    · exfalso
      have g1 : 2 ^ (k + 1) ≤ 2 ^ E := Nat.pow_le_pow_right (by omega) c
      rw [Nat.pow_succ] at g1
      have g2 : (2 ^ k * 2) * (2 ^ k * 2) ≤ 2 ^ E * 2 ^ E := Nat.mul_le_mul g1 g1
      have g3 : 4611686018427387904 * ((2 ^ k * 2) * (2 ^ k * 2)) ≤ W * (2 ^ E * 2 ^ E) := Nat.mul_le_mul x1 g2
      have g4 : (2 * M) * (2 * M) ≤ 33554432 * 33554432 := Nat.mul_le_mul (by omega) (by omega)
      have g5 : (2 * M) * (2 * M) * (2 ^ k * 2 ^ k) ≤ 33554432 * 33554432 * (2 ^ k * 2 ^ k) := Nat.mul_le_mul_right _ g4
      have g6 : (2 ^ k * 2) * (2 ^ k * 2) = 4 * (2 ^ k * 2 ^ k) := by rw [Nat.mul_mul_mul_comm]; omega
      have := Nat.mul_pos (pow_pos2 k) (pow_pos2 k)
      generalize 2 ^ k * 2 ^ k = P at *
      omega
    · exact c
  obtain ⟨B, hB⟩ : ∃ B, 2 ^ k = 2 ^ E * B := ⟨2 ^ (k - E), by rw [← Nat.pow_add]; congr 1; omega⟩
  have pE := pow_pos2 E
  rw [hB] at e ⊢
  generalize 2 ^ E = A at *
  have pAA := Nat.mul_pos pE pE
  have f1 : (2 * M) * (2 * M) * (A * B * (A * B)) = (2 * M * B) * (2 * M * B) * (A * A) := by
    simp only [Nat.mul_assoc, Nat.mul_comm, Nat.mul_left_comm]
  rw [f1] at e
  have eW : W = (2 * M * B) * (2 * M * B) := Nat.eq_of_mul_eq_mul_right pAA e
  have r1 : R ≤ 2 * M * B := by
    rcases Nat.lt_or_ge (2 * M * B) R with g | g
    · have := Nat.mul_le_mul (show 2 * M * B + 1 ≤ R from g) (show 2 * M * B + 1 ≤ R from g)
      have e3 : (2 * M * B + 1) * (2 * M * B + 1) = 2 * M * B * (2 * M * B) + 2 * (2 * M * B) + 1 := by rw [Nat.add_mul, Nat.mul_add]; omega
      omega
    · exact g
  have r2 : 2 * M * B ≤ R := by
    rcases Nat.lt_or_ge R (2 * M * B) with g | g
    · have := Nat.mul_le_mul (show R + 1 ≤ 2 * M * B from g) (show R + 1 ≤ 2 * M * B from g); omega
    · exact g
  have r3 : R = 2 * M * B := by omega
  rw [if_neg (by simp [r3, eW]), r3, Nat.add_zero]
  simp only [Nat.mul_assoc, Nat.mul_comm, Nat.mul_left_comm]
theorem expo_mono (r : Nat) : 2 ^ expoN (r - 1) ≤ 2 ^ expoN r := Nat.pow_le_pow_right (by omega) (by unfold expoN; omega)
def D150 : Nat := 2 ^ 150
/-- The root of a rounded square that is not very small. -/
theorem sqrt_sq {m e p z : Int} (h : Vd m e) (hp : mulV m e m e = ((p, z), 0)) (big : 1125899906842624 ≤ (sc p z).natAbs) : sqrtV p z = (((m.natAbs : Int), e), 0) := by
  obtain ⟨r, a0, b⟩ := mul_char h h
  have a : Near (2 * (sc m e * sc m e).natAbs) D150 r := a0
  clear a0
  have sq0 : 0 ≤ sc m e * sc m e := by
    rcases Int.le_total 0 (sc m e) with g | g
    · exact Int.mul_nonneg g g
    · exact Int.mul_nonneg_of_nonpos_of_nonpos g g
  have ng : decide (sc m e * sc m e < 0) = false := by simp; omega
  rw [ng, hp] at b
  have rm : r ≤ 2533359615 := (@resE_ok false r).1 (by rw [← b])
  have vp : Vd p z := by have := resE_vd false r; rw [← b] at this; exact this
  have val := @resE_val false r rm
  rw [← b] at val
  simp only [Bool.false_eq_true, if_false] at val
  rw [val] at big
  have big' : 1125899906842624 ≤ ordN r := by omega
  have p0 : 0 < p := by
    have := sc_neg p z
    rw [val] at this
    have h1 : ¬ p < 0 := fun c => by simp [c] at this; omega
    have h2 : p ≠ 0 := fun c => by have := (sc_zero p z).2 c; omega
    omega
  have r0 : r ≠ 0 := fun c => by rw [c, ord_zero] at big'; omega
  have ex0 : 0 < expoN r := by
    rcases Nat.eq_zero_or_pos (expoN r) with c | c
    · have o : ordN r = mantN r := by unfold ordN; rw [c]; omega
      have := mant_lt r
      omega
    · exact c
  have hN : (sc m e * sc m e).natAbs = m.natAbs * m.natAbs * (2 ^ (e + 150).toNat * 2 ^ (e + 150).toNat) := by
    rw [Int.natAbs_mul, sc_abs, Nat.mul_mul_mul_comm]
  rw [hN] at a
  have mr := mid_eq r
  have m1 := mid_two (r - 1)
  have os := ord_succ (r - 1)
  rw [Nat.sub_add_cancel (by omega)] at m1 os
  have em := expo_mono r
  have hq : 8388608 * 2 ^ (expoN r + 150) ≤ ordN r * D150 := by
    have := Nat.mul_le_mul_right (2 ^ expoN r) (mant_ge ex0)
    rw [Nat.pow_add, ← Nat.mul_assoc]
    exact Nat.mul_le_mul_right D150 this
  have eJ : 2 ^ (expoN r + 150) = 2 ^ expoN r * D150 := by unfold D150; exact Nat.pow_add ..
  have e3 : (2 * ordN r + 2 ^ expoN r) * D150 = 2 * (ordN r * D150) + 2 ^ (expoN r + 150) := by rw [Nat.add_mul, Nat.mul_assoc, ← eJ]
  have b1 : 2 * (m.natAbs * m.natAbs * (2 ^ (e + 150).toNat * 2 ^ (e + 150).toNat)) ≤ 2 * (ordN r * D150) + 2 ^ (expoN r + 150) := by
    have : 2 * (m.natAbs * m.natAbs * (2 ^ (e + 150).toNat * 2 ^ (e + 150).toNat)) ≤ midN r * D150 := by rcases a.1 with q | ⟨q, _⟩ <;> omega
    rw [mr, e3] at this
    exact this
  have b2 : 2 * (ordN r * D150) ≤ 2 * (m.natAbs * m.natAbs * (2 ^ (e + 150).toNat * 2 ^ (e + 150).toNat)) + 2 ^ (expoN r + 150) := by
    have g : midN (r - 1) * D150 ≤ 2 * (m.natAbs * m.natAbs * (2 ^ (e + 150).toNat * 2 ^ (e + 150).toNat)) := by
      rcases a.2 with q | q | ⟨q, _⟩
      · exact absurd q r0
      · omega
      · omega
    have g2 : 2 * ordN r ≤ midN (r - 1) + 2 ^ expoN r := by omega
    have g3 := Nat.mul_le_mul_right D150 g2
    rw [Nat.add_mul, ← eJ, Nat.mul_assoc] at g3
    omega
  have bigN : 562949953421312 * D150 ≤ m.natAbs * m.natAbs * (2 ^ (e + 150).toNat * 2 ^ (e + 150).toNat) := by
    have bigQ := Nat.mul_le_mul_right D150 big'
    generalize 2 ^ (expoN r + 150) = U at *
    generalize ordN r * D150 = Q at *
    generalize m.natAbs * m.natAbs * (2 ^ (e + 150).toNat * 2 ^ (e + 150).toNat) = N at *
    generalize D150 = D at *
    omega
  have hM2 := h.1
  have mm : m.natAbs * m.natAbs ≤ 2 ^ 48 := by
    have := Nat.mul_le_mul (show m.natAbs ≤ 16777216 by omega) (show m.natAbs ≤ 16777216 by omega)
    exact this
  have hk : 70 ≤ (e + 150).toNat := by
    rcases Nat.lt_or_ge (e + 150).toNat 70 with c | c
    · exfalso
      have g1 : 2 ^ (e + 150).toNat ≤ 2 ^ 70 := Nat.pow_le_pow_right (by omega) (by omega)
      have g2 := Nat.mul_le_mul mm (Nat.mul_le_mul g1 g1)
      have g3 : (2 : Nat) ^ 48 * (2 ^ 70 * 2 ^ 70) < 562949953421312 * D150 := by unfold D150; decide +kernel
      exact absurd (Nat.le_trans bigN g2) (Nat.not_le_of_gt g3)
    · exact c
  have dp : 0 < D150 := by unfold D150; exact Nat.pow_pos (by omega)
  have m0 : m ≠ 0 := fun c => by rw [c] at bigN; simp at bigN; omega
  have hM1 : 8388608 ≤ m.natAbs := by rcases h.2.2.2.2 m0 with c | c <;> omega
  have vM : Vd (m.natAbs : Int) e := ⟨by simpa using h.1, h.2.1, h.2.2.1, fun c => by omega, fun _ => .inr (by simpa using hM1)⟩
  have ot := idx_ord vM
  obtain ⟨t1, t2⟩ := idx_parts vM (by omega)
  rw [Int.natAbs_natCast] at ot t1
  have t3 : expoN (idx (m.natAbs : Int) e) = (e + 150).toNat := by omega
  have eV : (sc p z).natAbs * 2 ^ 152 = 4 * (ordN r * D150) := by
    rw [val, Int.natAbs_natCast]
    rw [show (2 : Nat) ^ 152 = D150 * 4 by unfold D150; decide +kernel]
    generalize D150 = D
    rw [← Nat.mul_assoc, Nat.mul_comm]
  obtain ⟨s, c1, c2⟩ := sqrt_char vp
  have fin : Near (rootQ p z) 2 (idx (m.natAbs : Int) e) → sqrtV p z = (((m.natAbs : Int), e), 0) := fun n => by
    have rs := near_unique (by omega) c1 n
    have : sqrtV p z = resE false s := by unfold sqrtV resE; rw [c2]
    rw [this, rs]
    have := resE_real vM
    rw [show decide ((m.natAbs : Int) < 0) = false by simp] at this
    exact this
  apply fin
  generalize hkk : (e + 150).toNat = k at *
  generalize hMM : m.natAbs = M at *
  rcases Nat.eq_or_lt_of_le hM1 with c | c
  · -- a power of 2: the square is exact
    subst c
    obtain ⟨s', hs'⟩ := rep_index 8388608 (k + k - 127) (by omega)
    have e1 : 2 * (8388608 * 8388608 * (2 ^ k * 2 ^ k)) = 2 * ordN s' * D150 := by
      rw [hs']
      have : (8388608 : Nat) * (2 ^ k * 2 ^ k) = 2 ^ (k + k - 127) * D150 := by
        unfold D150
        rw [← Nat.pow_add, ← Nat.pow_add, show (8388608 : Nat) = 2 ^ 23 by decide, ← Nat.pow_add]
        exact congrArg (fun j => 2 ^ j) (by omega)
      rw [Nat.mul_assoc 8388608, this]
      simp only [Nat.mul_assoc]
    rw [e1] at a
    have rs := near_exact (D := D150) (by unfold D150; exact Nat.pow_pos (by omega)) a
    subst rs
    have e2 : (sc p z).natAbs * 2 ^ 152 = (2 * 8388608) * (2 * 8388608) * (2 ^ k * 2 ^ k) := by
      rw [eV]
      have : ordN r * D150 = 8388608 * 8388608 * (2 ^ k * 2 ^ k) := by
        rw [Nat.mul_assoc 2] at e1
        generalize ordN r * D150 = Q at *
        generalize 8388608 * 8388608 * (2 ^ k * 2 ^ k) = N at *
        omega
      rw [this]
      generalize 2 ^ k * 2 ^ k = P
      omega
    rw [root_exact vp p0 (by omega) e2]
    have := near_ord (D := 2) (by omega) (idx ((8388608 : Nat) : Int) e)
    rw [ot] at this
    rw [show 2 * (2 * 8388608) * 2 ^ k = 2 * (8388608 * 2 ^ k) * 2 by omega]
    exact this
  · obtain ⟨hi, lo⟩ := sq_marks (Q := ordN r * D150) hM1 hM2 hq b2 b1
    rw [← eV] at hi lo
    obtain ⟨g1, g2⟩ := root_between vp p0 hM1 hM2 hi lo
    have mt : midN (idx (M : Int) e) = (2 * M + 1) * 2 ^ k := by unfold midN; rw [t1, t3]
    have it : idx (M : Int) e = M + k * 8388608 := by
      have := mant_split (idx (M : Int) e)
      rw [t1, t3] at this; exact this
    obtain ⟨u1, u2⟩ := mant_of (m := M - 1) (x := k) (by omega) (.inl (by omega))
    have mt2 : midN (idx (M : Int) e - 1) = (2 * M - 1) * 2 ^ k := by
      rw [it, show M + k * 8388608 - 1 = M - 1 + k * 8388608 by omega]
      unfold midN; rw [u1, u2, show 2 * (M - 1) + 1 = 2 * M - 1 by omega]
    exact ⟨.inl (by rw [mt]; exact g2), .inr (.inl (by rw [mt2]; exact g1))⟩
end Go.Proofs.YtehmpffffjcloaaGreatDoor
