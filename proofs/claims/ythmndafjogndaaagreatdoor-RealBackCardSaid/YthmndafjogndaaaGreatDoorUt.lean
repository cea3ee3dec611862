/- Layer 2: the marks below a root, by squares (no program here). -/
import Derived.Test.YthmndafjogndaaaGreatDoorGr
import Derived.Test.YthmndafjogndaaaGreatDoorGs
namespace Go.Proofs.YthmndafjogndaaaGreatDoor

theorem sq_lt_sq {a b : Nat} (h : a < b) : a * a < b * b := Nat.mul_lt_mul'' h h
theorem sq_le_sq {a b : Nat} (h : a ≤ b) : a * a ≤ b * b := Nat.mul_le_mul h h
/-- f is the root of n, b whether there is more; t is compared. -/
theorem root_whole {n f t b : Nat} (h1 : f * f ≤ n) (h2 : n < (f + 1) * (f + 1)) (hb : b = if f * f ≠ n then 1 else 0) : (n ≤ t * t ↔ 2 * f + b ≤ t * 2) ∧ (n = t * t ↔ 2 * f + b = t * 2) := by
  by_cases e : f * f = n
  · rw [if_neg (by simpa using e)] at hb
    subst hb
    rcases Nat.lt_trichotomy f t with g | g | g
    · have := sq_lt_sq g; constructor <;> constructor <;> intro <;> omega
    · subst g; constructor <;> constructor <;> intro <;> omega
    · have := sq_lt_sq g; constructor <;> constructor <;> intro <;> omega
  · rw [if_pos e] at hb
    subst hb
    rcases Nat.lt_or_ge f t with g | g
    · have := sq_le_sq (show f + 1 ≤ t from g); constructor <;> constructor <;> intro <;> omega
    · have := sq_le_sq g; constructor <;> constructor <;> intro <;> omega
theorem root_scale {n f b t F q : Nat} (hF : 0 < F) (hq : q = t * F) (h : (n ≤ t * t ↔ 2 * f + b ≤ t * 2) ∧ (n = t * t ↔ 2 * f + b = t * 2)) :
    (n * (F * F) ≤ q * q ↔ (2 * f + b) * F ≤ q * 2) ∧ (n * (F * F) = q * q ↔ (2 * f + b) * F = q * 2) := by
  have e1 : q * q = t * t * (F * F) := by rw [hq]; ac_rfl
  have e2 : q * 2 = t * 2 * F := by rw [hq]; ac_rfl
  have hFF : 0 < F * F := Nat.mul_pos hF hF
  rw [e1, e2]
  constructor
  · rw [Nat.mul_le_mul_right_iff hFF, Nat.mul_le_mul_right_iff hF]; exact h.1
  · rw [Nat.mul_left_inj (by omega), Nat.mul_left_inj (by omega)]; exact h.2
theorem root_far {n f b F q : Nat} (hF : 0 < F) (hf : 2147483648 ≤ f) (h1 : f * f ≤ n) (hq : q < 33554432 * F) :
    (n * (F * F) ≤ q * q ↔ (2 * f + b) * F ≤ q * 2) ∧ (n * (F * F) = q * q ↔ (2 * f + b) * F = q * 2) := by
  have a1 : q * q < (33554432 * F) * (33554432 * F) := sq_lt_sq hq
  have a2 : (2147483648 * 2147483648) * (F * F) ≤ n * (F * F) := Nat.mul_le_mul_right _ (Nat.le_trans (Nat.mul_le_mul hf hf) h1)
  have a3 : (33554432 * F) * (33554432 * F) = (33554432 * 33554432) * (F * F) := by ac_rfl
  have a4 : 4294967296 * F ≤ (2 * f + b) * F := Nat.mul_le_mul_right _ (by omega)
  have hFF : 0 < F * F := Nat.mul_pos hF hF
  rw [a3] at a1
  generalize F * F = FF at *
  generalize (2 * f + b) * F = R at *
  generalize n * FF = N at *
  generalize q * q = Q at *
  constructor <;> constructor <;> intro <;> omega
theorem root_cmp {m x : Int} (h : Vd m x) (r : Nat) : ((sc m x).natAbs * 2 ^ 152 ≤ midN r * midN r ↔ rootQ m x ≤ midN r * 2) ∧ ((sc m x).natAbs * 2 ^ 152 = midN r * midN r ↔ rootQ m x = midN r * 2) := by
  have hv := root_val h
  rw [← hv]
  unfold rootQ
  have hman : (rootV m x).man = sqV (rootSq m.natAbs x) := rfl
  have hmore : (rootV m x).more = decide (sqV (rootSq m.natAbs x) * sqV (rootSq m.natAbs x) ≠ rootSq m.natAbs x) := rfl
  have hb : (if (rootV m x).more = true then 1 else 0) = (if sqV (rootSq m.natAbs x) * sqV (rootSq m.natAbs x) ≠ rootSq m.natAbs x then 1 else 0 : Nat) := by
    rw [hmore]; simp only [decide_eq_true_eq]
  rw [hman, hb]
  clear hv hmore hman hb
  have hn : rootSq m.natAbs x < 18446744073709551616 := by
    by_cases m0 : m.natAbs = 0
    · rw [m0, rootSq_zero]; omega
    · exact (rootSq_bd x m0 h.1).2
  have hs := sq_spec hn
  have hbig : m.natAbs ≠ 0 → 4611686018427387904 ≤ rootSq m.natAbs x := fun m0 => (rootSq_bd x m0 h.1).1
  have hzero : m.natAbs = 0 → rootSq m.natAbs x = 0 := fun m0 => by rw [m0, rootSq_zero]
  generalize ((rootV m x).exp + 151).toNat = E
  generalize rootSq m.natAbs x = n at *
  generalize sqV n = f at *
  obtain ⟨h1, h2⟩ := hs
  have hF := pow_pos2 E
  have hmid : midN r = (2 * mantN r + 1) * 2 ^ expoN r := rfl
  have hml := mant_lt r
  by_cases hE : E ≤ expoN r
  · refine root_scale hF (t := (2 * mantN r + 1) * 2 ^ (expoN r - E)) ?_ (root_whole h1 h2 rfl)
    rw [hmid, Nat.mul_assoc, ← Nat.pow_add]
    congr 2; omega
  · by_cases m0 : m.natAbs = 0
    · have n0 := hzero m0
      subst n0
      have f0 : f = 0 := by
        rcases Nat.eq_zero_or_pos f with g | g
        · exact g
        · have := Nat.mul_pos g g; omega
      subst f0
      have hq : 0 < midN r := by rw [hmid]; exact Nat.mul_pos (by omega) (pow_pos2 _)
      have := Nat.mul_pos hq hq
      simp only [Nat.mul_zero, Nat.zero_mul, ne_eq, not_true_eq_false, if_false, Nat.zero_add]
      constructor <;> constructor <;> intro <;> omega
    · have hf : 2147483648 ≤ f := by
        rcases Nat.lt_or_ge f 2147483648 with g | g
        · have := sq_le_sq (show f + 1 ≤ 2147483648 from g)
          have := hbig m0
          omega
        · exact g
      refine root_far hF hf h1 ?_
      have e1 : 2 ^ (expoN r + 1) ≤ 2 ^ E := Nat.pow_le_pow_right (by omega) (by omega)
      rw [Nat.pow_succ] at e1
      have e2 : midN r ≤ 33554431 * 2 ^ expoN r := by rw [hmid]; exact Nat.mul_le_mul_right _ (by omega)
      have e3 := pow_pos2 (expoN r)
      omega
theorem root_top {m x : Int} (h : Vd m x) (hb : (sc m x).natAbs * 2 ^ 152 < midN 2533359615 * midN 2533359615) {r : Nat} (hn : Near (rootQ m x) 2 r) : rootQ m x ≤ midN 2533359615 * 2 ∧ r ≤ 2533359615 := by
  have c := root_cmp h 2533359615
  have c1 := c.1.1 (Nat.le_of_lt hb)
  have c2 : rootQ m x ≠ midN 2533359615 * 2 := fun e => by have := c.2.2 e; omega
  refine ⟨c1, ?_⟩
  rcases Nat.lt_or_ge 2533359615 r with g | g
  · exfalso
    have := mid_mono_le (show 2533359615 ≤ r - 1 by omega)
    rcases hn.2 with e | e | e <;> omega
  · exact g
theorem room_aux {a e E k : Nat} (ha : a < 16777216) (hE : 24 + e + k ≤ E + E) : a * 2 ^ e * 2 ^ k < (33554431 * 2 ^ E) * (33554431 * 2 ^ E) := by
  have h1 : a * 2 ^ e * 2 ^ k < 2 ^ (24 + e + k) := by
    rw [Nat.pow_add, Nat.pow_add]
    exact Nat.mul_lt_mul_of_pos_right (Nat.mul_lt_mul_of_pos_right (by omega) (pow_pos2 _)) (pow_pos2 _)
  have h2 : 2 ^ (24 + e + k) ≤ 2 ^ (E + E) := Nat.pow_le_pow_right (by omega) hE
  have h3 : 2 ^ (E + E) ≤ (33554431 * 2 ^ E) * (33554431 * 2 ^ E) := by
    rw [Nat.pow_add]
    exact Nat.mul_le_mul (Nat.le_mul_of_pos_left _ (by omega)) (Nat.le_mul_of_pos_left _ (by omega))
  exact Nat.lt_of_lt_of_le h1 (Nat.le_trans h2 h3)
theorem expo_top : expoN 2533359615 = 300 := by decide
theorem mant_top : mantN 2533359615 = 16777215 := by decide
theorem root_room {m x : Int} (h : Vd m x) : (sc m x).natAbs * 2 ^ 152 < midN 2533359615 * midN 2533359615 := by
  have h1 := h.1
  have h2 := h.2.2.1
  rw [sc_abs]
  unfold midN
  obtain ⟨E, hE⟩ : ∃ E, expoN 2533359615 = E := ⟨_, rfl⟩
  have hE2 : E = 300 := by rw [← hE]; exact expo_top
  rw [mant_top, hE]
  exact room_aux h1 (by omega)
end Go.Proofs.YthmndafjogndaaaGreatDoor
