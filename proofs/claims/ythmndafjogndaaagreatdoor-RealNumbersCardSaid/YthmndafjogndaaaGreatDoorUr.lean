/- Layer 2: the reference's sums, products and quotients of two reals: the same as the program's. -/
import Derived.Test.YthmndafjogndaaaGreatDoorUq
import Derived.Test.YthmndafjogndaaaGreatDoorGm
import Derived.Test.YthmndafjogndaaaGreatDoorGr
namespace Go.Proofs.YthmndafjogndaaaGreatDoor
open Go.RowKit

theorem sc_lt {m x : Int} (h : Vd m x) {K : Nat} (hK : 324 ≤ K) : (sc m x).natAbs < 2 ^ K := by
  have h1 := h.1
  have h2 := h.2.2.1
  rw [sc_abs]
  have h3 : m.natAbs * 2 ^ (x + 150).toNat < 2 ^ 24 * 2 ^ (x + 150).toNat := Nat.mul_lt_mul_of_pos_right (by omega) (pow_pos2 _)
  rw [← Nat.pow_add] at h3
  have h4 : 24 + (x + 150).toNat ≤ K := by omega
  exact Nat.lt_of_lt_of_le h3 (Nat.pow_le_pow_right (by omega) h4)
theorem tw_lt {k K : Nat} (h : k < K) : tw k < 2 ^ K := Nat.pow_lt_pow_right (by omega) h
/-- n and d are below some power of 2. -/
theorem rok_of {n d r K : Nat} (hK : 400 ≤ K) (hK2 : K ≤ 30000) (hn : n < 2 ^ K) (hd : d < 2 ^ K) (hp : 0 < d) (hr : Near (n * tw 151) d r) : Rok n d r where
  pos := hp
  fit := (fits_mul (b := 152) hn (tw_lt (by omega)) (by omega)).2
  all := fun r hr => by
    obtain ⟨J, j1, j2⟩ : ∃ J, 327 ≤ J ∧ J ≤ 400 := ⟨400, by omega, by omega⟩
    exact (fits_mul (mid_bd (by omega) j1) hd (by omega)).2
  near := hr
theorem tw_add (a b : Nat) : tw a * tw b = tw (a + b) := (Nat.pow_add 2 a b).symm
theorem near_151 {n d r : Nat} (h : Near (2 * n) d r) : Near (n * tw 151) (d * tw 150) r := by
  have e : n * tw 151 = 2 * n * tw 150 := by
    rw [show (151 : Nat) = 150 + 1 from rfl, ← tw_add, show tw 1 = 2 from rfl, Nat.mul_comm 2 n, Nat.mul_assoc, Nat.mul_comm (tw 150)]
  rw [e]
  exact (near_scale (tw_pos _)).2 h
theorem near_151' {n r : Nat} (h : Near (2 * n) 1 r) : Near (n * tw 151) (tw 150) r := by
  have := near_151 h
  rwa [Nat.one_mul] at this
theorem mul_ref {m x n y : Int} (h : Vd m x) (k : Vd n y) : Ret 37 #[.agg #[.int .i64 m, .int .i64 x], .agg #[.int .i64 n, .int .i64 y]] (rndV (prodV m x n y).rd) := fun w => by
  obtain ⟨r, hr, hrd⟩ := prod_near h k
  rw [hrd]
  have hs : resI (decide (m * n < 0)) r = resI (!(decide (m < 0) == decide (n < 0))) r := by
    by_cases z : m = 0 ∨ n = 0
    · have e : sc m x * sc n y = 0 := by
        rcases z with z | z
        · rw [(sc_zero m x).2 z, Int.zero_mul]
        · rw [(sc_zero n y).2 z, Int.mul_zero]
      rw [e] at hr
      have : r = 0 := near_unique (pow_pos2 150) hr (by have := near_ord (pow_pos2 150) 0; rwa [ord_zero] at this)
      rw [this]; exact resI_zero _ _
    · congr 1
      have m0 : m ≠ 0 := fun e => z (.inl e)
      have n0 : n ≠ 0 := fun e => z (.inr e)
      rcases Int.lt_or_gt_of_ne m0 with a | a <;> rcases Int.lt_or_gt_of_ne n0 with b | b
      · have := Int.mul_pos_of_neg_of_neg a b; rw [decide_eq_true a, decide_eq_true b]; simp; omega
      · have := Int.mul_neg_of_neg_of_pos a b; rw [decide_eq_true a, decide_eq_false (by omega : ¬ n < 0)]; simp; omega
      · have := Int.mul_neg_of_pos_of_neg a b; rw [decide_eq_false (by omega : ¬ m < 0), decide_eq_true b]; simp; omega
      · have := Int.mul_pos a b; rw [decide_eq_false (by omega : ¬ m < 0), decide_eq_false (by omega : ¬ n < 0)]; simp; omega
  rw [hs]
  obtain ⟨rm, rx, ok, hV⟩ := rnd_shape (resI (!(decide (m < 0) == decide (n < 0))) r)
  rw [hV]
  have hP := near_151 hr
  rw [Int.natAbs_mul, show (2 : Nat) ^ 150 = tw 150 from rfl] at hP
  obtain ⟨K, k1, k2⟩ : ∃ K, 324 ≤ K ∧ K ≤ 400 := ⟨400, by omega, by omega⟩
  obtain ⟨b1, f1⟩ := fits_mul (sc_lt h k1) (sc_lt k k1) (show K + K ≤ 100000 by omega)
  obtain ⟨b2, f2⟩ := fits_mul (tw_lt (show 150 < K by omega)) (tw_lt (show 150 < K by omega)) (show K + K ≤ 100000 by omega)
  exact rmul_walk m x n y rm rx ok _ _ _ _ _ _ (of_any h) (of_any k) f1 f2 r (rok_of (by omega) (by omega) b1 b2 (Nat.mul_pos (tw_pos _) (tw_pos _)) hP) hV w
theorem div_ref {m x n y : Int} (h : Vd m x) (k : Vd n y) (n0 : n ≠ 0) : Ret 38 #[.agg #[.int .i64 m, .int .i64 x], .agg #[.int .i64 n, .int .i64 y]] (rndV (quotV m x n y).rd) := fun w => by
  obtain ⟨r, hr, hrd⟩ := quot_near h k n0
  rw [hrd]
  obtain ⟨rm, rx, ok, hV⟩ := rnd_shape (resI (decide (m < 0) != decide (n < 0)) r)
  rw [hV]
  have e : 2 * (sc m x).natAbs * 2 ^ 150 = (sc m x).natAbs * tw 151 := by
    rw [show (151 : Nat) = 150 + 1 from rfl, ← tw_add, show tw 1 = 2 from rfl, Nat.mul_comm 2, Nat.mul_assoc, Nat.mul_comm 2, show (2 : Nat) ^ 150 = tw 150 from rfl]
  rw [e] at hr
  obtain ⟨K, k1, k2⟩ : ∃ K, 400 ≤ K ∧ K ≤ 400 := ⟨400, by omega, by omega⟩
  have hp : 0 < (sc n y).natAbs := by
    have : sc n y ≠ 0 := fun e => n0 ((sc_zero n y).1 e)
    omega
  exact rdiv_walk m x n y rm rx ok _ _ _ _ _ _ (of_any h) (of_any k) r (rok_of k1 (by omega) (sc_lt h (by omega)) (sc_lt k (by omega)) hp hr) hV w
theorem cmpI_val {a b : Nat} : cmpI a b = if a < b then -1 else if b < a then 1 else 0 := by
  unfold cmpI; simp only [Int.ofNat_lt]
theorem add_ref {m x n y : Int} (h : Vd m x) (k : Vd n y) : Ret 31 #[.agg #[.int .i64 m, .int .i64 x], .agg #[.int .i64 n, .int .i64 y]] (rndV (sumV m x n y).rd) := fun w => by
  obtain ⟨r, hr, hrd⟩ := sum_near h k
  rw [hrd]
  have sm := sc_neg m x
  have sn := sc_neg n y
  have HA := of_any h
  have HB := of_any k
  rw [← sm] at HA
  rw [← sn] at HB
  obtain ⟨K, k1, k2⟩ : ∃ K, 400 ≤ K ∧ K ≤ 400 := ⟨400, by omega, by omega⟩
  have bA := sc_lt h (K := K) (by omega)
  have bB := sc_lt k (K := K) (by omega)
  have bD := tw_lt (show 150 < K + 1 by omega)
  have f1 : Fits ((sc m x).natAbs) := fits_of bA (by omega)
  have f2 : Fits ((sc n y).natAbs) := fits_of bB (by omega)
  clear hrd sm sn h k
  have hP := near_151' hr
  generalize sc m x = S at *
  generalize sc n y = T at *
  have hz : S + T = 0 → ∀ b b' : Bool, resI b r = resI b' r := fun e b b' => by
    rw [e] at hr
    rw [near_zero hr]; exact resI_zero _ _
  have two : ∀ {a b : Nat}, a < 2 ^ K → b < 2 ^ K → a + b < 2 ^ (K + 1) := fun h1 h2 => by rw [Nat.pow_succ]; omega
  by_cases hs : decide (S < 0) = decide (T < 0)
  · have e : (S + T).natAbs = S.natAbs + T.natAbs := by
      have := congrArg (· = true) hs; simp at this; omega
    have e2 : resI (decide (S + T < 0)) r = resI (decide (S < 0)) r := by
      by_cases z : S + T = 0
      · exact hz z _ _
      · congr 1
        have := congrArg (· = true) hs; simp at this
        rw [decide_eq_decide]; omega
    rw [e2]
    rw [e] at hP
    obtain ⟨rm, rx, ok, hV⟩ := rnd_shape (resI (decide (S < 0)) r)
    rw [hV]
    rw [← hs] at HB
    exact radd_same m x n y rm rx ok _ _ _ _ _ HA HB (fits_of (two bA bB) (by omega)) r (rok_of (K := K + 1) (by omega) (by omega) (two bA bB) bD (tw_pos _) hP) hV w
  · by_cases hS : S < 0
    · have hT : ¬ T < 0 := fun hT => hs (by rw [decide_eq_true hS, decide_eq_true hT])
      rw [decide_eq_true hS] at HA
      rw [decide_eq_false hT] at HB
      by_cases hc : T.natAbs ≤ S.natAbs
      · have e : (S + T).natAbs = S.natAbs - T.natAbs := by omega
        rw [e] at hP
        have e2 : resI (decide (S + T < 0)) r = resI true r := by
          by_cases z : S + T = 0
          · exact hz z _ _
          · rw [decide_eq_true (by omega)]
        rw [e2]
        obtain ⟨rm, rx, ok, hV⟩ := rnd_shape (resI true r)
        rw [hV]
        exact radd_true_ge m x n y rm rx ok _ _ _ _ HA HB _ rfl (by rw [cmpI_ge]; exact hc) hc f1 r (rok_of (K := K + 1) (by omega) (by omega) (Nat.lt_of_le_of_lt (Nat.sub_le _ _) (Nat.lt_of_lt_of_le bA (Nat.pow_le_pow_right (by omega) (by omega)))) bD (tw_pos _) hP) hV w
      · have e : (S + T).natAbs = T.natAbs - S.natAbs := by omega
        rw [e] at hP
        rw [decide_eq_false (show ¬ S + T < 0 by omega)]
        obtain ⟨rm, rx, ok, hV⟩ := rnd_shape (resI false r)
        rw [hV]
        exact radd_true_lt m x n y rm rx ok _ _ _ _ HA HB _ rfl (by rw [cmpI_ge]; exact hc) (by omega) f2 r (rok_of (K := K + 1) (by omega) (by omega) (Nat.lt_of_le_of_lt (Nat.sub_le _ _) (Nat.lt_of_lt_of_le bB (Nat.pow_le_pow_right (by omega) (by omega)))) bD (tw_pos _) hP) hV w
    · have hT : T < 0 := by
        rcases Int.lt_or_le T 0 with g | g
        · exact g
        · exact absurd (by rw [decide_eq_false hS, decide_eq_false (by omega)]) hs
      rw [decide_eq_false hS] at HA
      rw [decide_eq_true hT] at HB
      by_cases hc : T.natAbs ≤ S.natAbs
      · have e : (S + T).natAbs = S.natAbs - T.natAbs := by omega
        rw [e] at hP
        have e2 : resI (decide (S + T < 0)) r = resI false r := by rw [decide_eq_false (by omega)]
        rw [e2]
        obtain ⟨rm, rx, ok, hV⟩ := rnd_shape (resI false r)
        rw [hV]
        exact radd_false_ge m x n y rm rx ok _ _ _ _ HA HB _ rfl (by rw [cmpI_ge]; exact hc) hc f1 r (rok_of (K := K + 1) (by omega) (by omega) (Nat.lt_of_le_of_lt (Nat.sub_le _ _) (Nat.lt_of_lt_of_le bA (Nat.pow_le_pow_right (by omega) (by omega)))) bD (tw_pos _) hP) hV w
      · have e : (S + T).natAbs = T.natAbs - S.natAbs := by omega
        rw [e] at hP
        rw [decide_eq_true (show S + T < 0 by omega)]
        obtain ⟨rm, rx, ok, hV⟩ := rnd_shape (resI true r)
        rw [hV]
        exact radd_false_lt m x n y rm rx ok _ _ _ _ HA HB _ rfl (by rw [cmpI_ge]; exact hc) (by omega) f2 r (rok_of (K := K + 1) (by omega) (by omega) (Nat.lt_of_le_of_lt (Nat.sub_le _ _) (Nat.lt_of_lt_of_le bB (Nat.pow_le_pow_right (by omega) (by omega)))) bD (tw_pos _) hP) hV w
end Go.Proofs.YthmndafjogndaaaGreatDoor
