/- Layer 2: magnitudes of reals by their indices, in units of 2^-150, and what it is to be the nearest one (no program here). -/
/- Layer 2: what a rounding gives is the nearest real (no program here). -/
/- Layer 2: reals and their indices; a rounding gives the real with the nearest index (no program here). -/
/- Layer 2: sums, products and quotients are rounded to the nearest real (no program here). -/
/- Layer 2: indices, order and representable numbers (no program here). -/
import Derived.WalkKit
import Derived.Test.YtoeahfddnjbhbaaGreatDoorGa
import Derived.Test.YtoeahfddnjbhbaaGreatDoorPz
namespace Go.Proofs.YtoeahfddnjbhbaaGreatDoor

/-- The exponent (from 0 on) and the mantissa of the real with an index. -/
def expoN (r : Nat) : Nat := r / 8388608 - 1
def mantN (r : Nat) : Nat := r - expoN r * 8388608
def ordN (r : Nat) : Nat := mantN r * 2 ^ expoN r
/-- Twice the middle between a magnitude and the next one. -/
def midN (r : Nat) : Nat := (2 * mantN r + 1) * 2 ^ expoN r

theorem mant_split (r : Nat) : r = mantN r + expoN r * 8388608 := by
  unfold mantN expoN; omega
theorem mant_lt (r : Nat) : mantN r < 16777216 := by unfold mantN expoN; omega
theorem mant_ge {r : Nat} (h : 0 < expoN r) : 8388608 ≤ mantN r := by unfold mantN expoN at *; omega
theorem mant_par (r : Nat) : mantN r % 2 = r % 2 := by have := mant_split r; omega
theorem mant_of {m x : Nat} (h : m < 16777216) (h2 : 8388608 ≤ m ∨ x = 0) : mantN (m + x * 8388608) = m ∧ expoN (m + x * 8388608) = x := by
  unfold mantN expoN; omega
theorem mant_of_top {x : Nat} : mantN (16777216 + x * 8388608) = 8388608 ∧ expoN (16777216 + x * 8388608) = x + 1 := by
  unfold mantN expoN; omega
theorem succ_cases (r : Nat) : (mantN (r + 1) = mantN r + 1 ∧ expoN (r + 1) = expoN r) ∨ (mantN r = 16777215 ∧ mantN (r + 1) = 8388608 ∧ expoN (r + 1) = expoN r + 1) := by
  unfold mantN expoN; omega
theorem ord_succ (r : Nat) : ordN (r + 1) = ordN r + 2 ^ expoN r := by
  unfold ordN
  rcases succ_cases r with ⟨h1, h2⟩ | ⟨h1, h2, h3⟩
  · rw [h1, h2, Nat.succ_mul]
  · rw [h1, h2, h3, Nat.pow_succ]; omega
theorem mid_eq (r : Nat) : midN r = 2 * ordN r + 2 ^ expoN r := by
  unfold midN ordN; rw [Nat.add_mul, Nat.mul_assoc, Nat.one_mul]
theorem pow_pos2 (k : Nat) : 0 < 2 ^ k := Nat.pow_pos (by omega)
theorem ord_zero : ordN 0 = 0 := by decide
theorem ord_lt_succ (r : Nat) : ordN r < ordN (r + 1) := by rw [ord_succ]; have := pow_pos2 (expoN r); omega
theorem ord_lt {r s : Nat} (h : r < s) : ordN r < ordN s := by
  induction s with
  | zero => omega
  | succ s ih =>
    by_cases e : r = s
    · subst e; exact ord_lt_succ r
    · exact Nat.lt_trans (ih (by omega)) (ord_lt_succ s)
theorem ord_le {r s : Nat} (h : r ≤ s) : ordN r ≤ ordN s := by
  rcases Nat.lt_or_eq_of_le h with h | h
  · exact Nat.le_of_lt (ord_lt h)
  · subst h; exact Nat.le_refl _
theorem ord_inj {r s : Nat} (h : ordN r = ordN s) : r = s := by
  rcases Nat.lt_trichotomy r s with h1 | h1 | h1
  · have := ord_lt h1; omega
  · exact h1
  · have := ord_lt h1; omega
theorem ord_lt_iff {r s : Nat} : ordN r < ordN s ↔ r < s := by
  constructor
  · intro h; rcases Nat.lt_or_ge r s with h1 | h1
    · exact h1
    · have := ord_le h1; omega
  · exact ord_lt
theorem ord_le_iff {r s : Nat} : ordN r ≤ ordN s ↔ r ≤ s := by
  constructor
  · intro h; rcases Nat.lt_or_ge s r with h1 | h1
    · have := ord_lt h1; omega
    · exact h1
  · exact ord_le
theorem mid_two (r : Nat) : midN r = ordN r + ordN (r + 1) := by rw [mid_eq, ord_succ]; omega
theorem mid_gt (r : Nat) : 2 * ordN r < midN r := by rw [mid_eq]; have := pow_pos2 (expoN r); omega
theorem mid_lt (r : Nat) : midN r < 2 * ordN (r + 1) := by rw [mid_two]; have := ord_lt_succ r; omega
theorem mid_mono {r s : Nat} (h : r < s) : midN r < midN s := by
  rw [mid_two, mid_two]
  have := ord_lt h
  have := ord_le (show r + 1 ≤ s + 1 by omega)
  omega
theorem mid_mono_le {r s : Nat} (h : r ≤ s) : midN r ≤ midN s := by
  rcases Nat.lt_or_eq_of_le h with h | h
  · exact Nat.le_of_lt (mid_mono h)
  · subst h; exact Nat.le_refl _

/-- r is the index of the magnitude nearest to P / (2 D) (in units of 2^-150): the even one of two that are equally near. -/
def Near (P D r : Nat) : Prop := (P < midN r * D ∨ P = midN r * D ∧ r % 2 = 0) ∧ (r = 0 ∨ midN (r - 1) * D < P ∨ P = midN (r - 1) * D ∧ r % 2 = 0)

theorem near_mono {P P' D r s : Nat} (hD : 0 < D) (hP : P ≤ P') (hr : Near P D r) (hs : Near P' D s) : r ≤ s := by
  rcases Nat.lt_or_ge s r with h | h
  · exfalso
    have h1 : midN s * D ≤ midN (r - 1) * D := Nat.mul_le_mul_right _ (mid_mono_le (by omega))
    obtain ⟨_, hb⟩ := hr
    obtain ⟨ha, _⟩ := hs
    rcases hb with hb | hb | ⟨hb, hp⟩
    · omega
    · rcases ha with ha | ⟨ha, _⟩ <;> omega
    · rcases ha with ha | ⟨ha, hq⟩
      · omega
      · by_cases h3 : s < r - 1
        · have := Nat.mul_lt_mul_of_pos_right (mid_mono h3) hD
          omega
        · omega
  · exact h
theorem near_unique {P D r s : Nat} (hD : 0 < D) (hr : Near P D r) (hs : Near P D s) : r = s :=
  Nat.le_antisymm (near_mono hD (Nat.le_refl _) hr hs) (near_mono hD (Nat.le_refl _) hs hr)
theorem near_ord {D : Nat} (hD : 0 < D) (r : Nat) : Near (2 * ordN r * D) D r := by
  refine ⟨.inl (Nat.mul_lt_mul_of_pos_right (mid_gt r) hD), ?_⟩
  by_cases h : r = 0
  · exact .inl h
  · refine .inr (.inl (Nat.mul_lt_mul_of_pos_right ?_ hD))
    have := mid_lt (r - 1)
    rwa [Nat.sub_add_cancel (by omega)] at this
/-- What lies strictly between the middles below and above is rounded to the real between them; a middle itself to the even one. -/
theorem near_of {P D r : Nat} (h1 : P < midN r * D ∨ P = midN r * D ∧ r % 2 = 0) (h2 : 2 * ordN r * D ≤ P) (hD : 0 < D) : Near P D r := by
  refine ⟨h1, ?_⟩
  by_cases h : r = 0
  · exact .inl h
  · refine .inr (.inl (Nat.lt_of_lt_of_le (Nat.mul_lt_mul_of_pos_right ?_ hD) h2))
    have := mid_lt (r - 1)
    rwa [Nat.sub_add_cancel (by omega)] at this
theorem near_of_up {P D r : Nat} (h1 : midN r * D < P ∨ P = midN r * D ∧ r % 2 = 1) (h2 : P ≤ 2 * ordN (r + 1) * D) (hD : 0 < D) : Near P D (r + 1) := by
  refine ⟨.inl (Nat.lt_of_le_of_lt h2 (Nat.mul_lt_mul_of_pos_right (mid_gt _) hD)), .inr ?_⟩
  rw [Nat.add_sub_cancel]
  rcases h1 with h | ⟨h, h'⟩
  · exact .inl h
  · exact .inr ⟨h, by omega⟩
theorem near_scale {P D r k : Nat} (hk : 0 < k) : Near (P * k) (D * k) r ↔ Near P D r := by
  unfold Near
  rw [← Nat.mul_assoc, ← Nat.mul_assoc, Nat.mul_lt_mul_right hk, Nat.mul_lt_mul_right hk, Nat.mul_left_inj (by omega), Nat.mul_left_inj (by omega)]
end Go.Proofs.YtoeahfddnjbhbaaGreatDoor

namespace Go.Proofs.YtoeahfddnjbhbaaGreatDoor

theorem nb_bounds {n : Nat} (h : n ≠ 0) : 1 ≤ nb n ∧ 2 ^ (nb n - 1) ≤ n ∧ n < 2 ^ nb n := by
  unfold nb; rw [if_neg h]
  exact ⟨by omega, by simpa using Nat.log2_self_le h, Nat.lt_log2_self⟩
theorem nb_of_lt {n k : Nat} (h : n < 2 ^ k) : nb n ≤ k := by
  by_cases h0 : n = 0
  · subst h0; unfold nb; simp
  · obtain ⟨a, b, c⟩ := nb_bounds h0
    have := (Nat.pow_lt_pow_iff_right (show 1 < 2 by omega)).1 (Nat.lt_of_le_of_lt b h)
    omega
theorem nb_of_ge {n k : Nat} (h : 2 ^ k ≤ n) : k + 1 ≤ nb n := by
  have h0 : n ≠ 0 := by have := pow_pos2 k; omega
  obtain ⟨a, b, c⟩ := nb_bounds h0
  have := (Nat.pow_lt_pow_iff_right (show 1 < 2 by omega)).1 (Nat.lt_of_le_of_lt h c)
  omega
theorem lt_of_nb {n k : Nat} (h : nb n ≤ k) : n < 2 ^ k := by
  by_cases h0 : n = 0
  · subst h0; exact pow_pos2 k
  · exact Nat.lt_of_lt_of_le (nb_bounds h0).2.2 (Nat.pow_le_pow_right (by omega) h)

/-- A mantissa and an exponent as an index. -/
def Is (q : Nat × Int) (r : Nat) : Prop := (q.1 = 0 ∧ r = 0) ∨ (q.1 ≠ 0 ∧ q.1 = mantN r ∧ q.2 = (expoN r : Int) - 150)
theorem is_of {M X : Nat} {x : Int} (hx : x = (X : Int) - 150) (h : M < 16777216) (h2 : 8388608 ≤ M ∨ X = 0) : Is (M, x) (M + X * 8388608) := by
  obtain ⟨a, b⟩ := mant_of h h2
  by_cases h0 : M = 0
  · refine .inl ⟨h0, ?_⟩; omega
  · exact .inr ⟨h0, a.symm, by rw [b]; exact hx⟩

theorem short_near (man : Nat) (exp : Int) (more : Bool) (s den P : Nat) (hden : 0 < den) (hs : 0 ≤ exp + 151 + s) (hm : man < 18446744073709551616)
    (h1 : man * (2 ^ (exp + 151 + s).toNat * den) ≤ P) (h2 : P < (man + 1) * (2 ^ (exp + 151 + s).toNat * den))
    (h3 : more = false → P = man * (2 ^ (exp + 151 + s).toNat * den)) (h3' : more = true → P ≠ man * (2 ^ (exp + 151 + s).toNat * den)) (h4 : more = true → 33554432 ≤ man) :
    ∃ r, Near P (2 ^ s * den) r ∧ Is (shortV man exp more) r := by
  have hD : 0 < 2 ^ s * den := Nat.mul_pos (pow_pos2 s) hden
  have n64 : nb man ≤ 64 := nb_of_lt (k := 64) (by omega)
  generalize hG : 2 ^ (exp + 151 + s).toNat * den = G at *
  unfold shortV
  simp only []
  by_cases c1 : max ((nb man : Int) - 24) (-150 - exp) ≤ 0
  · rw [if_pos c1]
    have hmore : more = false := by
      cases more with
      | false => rfl
      | true =>
        exfalso
        have := nb_of_ge (n := man) (k := 25) (by have := h4 rfl; omega)
        omega
    have hP := h3 hmore
    obtain ⟨k, hk⟩ : ∃ k : Nat, (-max ((nb man : Int) - 24) (-150 - exp)).toNat = k := ⟨_, rfl⟩
    rw [hk]
    have hM : man * 2 ^ k < 16777216 := by
      have a := lt_of_nb (n := man) (k := 24 - k) (by omega)
      have : man * 2 ^ k < 2 ^ (24 - k) * 2 ^ k := Nat.mul_lt_mul_of_pos_right a (pow_pos2 k)
      rw [← Nat.pow_add, show 24 - k + k = 24 by omega] at this
      exact this
    obtain ⟨X, hX⟩ : ∃ X : Nat, exp + max ((nb man : Int) - 24) (-150 - exp) = (X : Int) - 150 := ⟨(exp + max ((nb man : Int) - 24) (-150 - exp) + 150).toNat, by omega⟩
    by_cases h0 : man = 0
    · refine ⟨0, ?_, .inl ⟨by simp [h0], rfl⟩⟩
      have := near_ord hD 0
      rw [ord_zero] at this
      rw [hP, h0]; simpa using this
    have h23 : 8388608 ≤ man * 2 ^ k ∨ X = 0 := by
      by_cases e : X = 0
      · exact .inr e
      · left
        obtain ⟨a, b, _⟩ := nb_bounds h0
        have e2 : nb man - 1 = 23 - k := by omega
        rw [e2] at b
        have : 2 ^ (23 - k) * 2 ^ k ≤ man * 2 ^ k := Nat.mul_le_mul_right _ b
        rw [← Nat.pow_add, show 23 - k + k = 23 by omega] at this
        exact this
    refine ⟨_, ?_, is_of hX hM h23⟩
    have e : P = 2 * ordN (man * 2 ^ k + X * 8388608) * (2 ^ s * den) := by
      obtain ⟨a, b⟩ := mant_of hM h23
      unfold ordN
      rw [a, b, hP, ← hG, show (exp + 151 + s).toNat = 1 + k + X + s by omega, Nat.pow_add, Nat.pow_add, Nat.pow_add]
      simp only [Nat.pow_one, Nat.mul_assoc, Nat.mul_comm, Nat.mul_left_comm]
    rw [e]; exact near_ord hD _
  rw [if_neg c1]
  by_cases c2 : 64 < max ((nb man : Int) - 24) (-150 - exp)
  · rw [if_pos c2]
    refine ⟨0, near_of (.inl ?_) (by rw [ord_zero]; simp) hD, .inl ⟨rfl, rfl⟩⟩
    have hx : exp + 151 + s + 64 ≤ s := by omega
    have : (man + 1) * G ≤ 2 ^ 64 * G := Nat.mul_le_mul_right _ (by omega)
    have e : 2 ^ 64 * G ≤ 2 ^ s * den := by
      rw [← hG, ← Nat.mul_assoc, ← Nat.pow_add]
      exact Nat.mul_le_mul_right _ (Nat.pow_le_pow_right (by omega) (by omega))
    have e2 : midN 0 = 1 := by decide
    rw [e2]; omega
  rw [if_neg c2]
  obtain ⟨d, hd⟩ : ∃ d : Nat, (max ((nb man : Int) - 24) (-150 - exp)).toNat = d := ⟨_, rfl⟩
  have hdi : max ((nb man : Int) - 24) (-150 - exp) = (d : Int) := by omega
  rw [hd]
  simp only [hdi]
  have d1 : 1 ≤ d := by omega
  obtain ⟨X, hX⟩ : ∃ X : Nat, exp + d = (X : Int) - 150 := ⟨(exp + d + 150).toNat, by omega⟩
  have hpow : 2 ^ d = 2 * 2 ^ (d - 1) := by
    conv => lhs; rw [show d = d - 1 + 1 by omega, Nat.pow_succ]
    omega
  have hsplit := Nat.div_add_mod man (2 ^ d)
  have hmodlt := Nat.mod_lt man (pow_pos2 d)
  generalize hk : man / 2 ^ d = kept at *
  generalize hr : man % 2 ^ d = dropped at *
  generalize hh : 2 ^ (d - 1) = half at *
  have hM : kept < 16777216 := by
    have a := lt_of_nb (n := man) (k := 24 + d) (by omega)
    rw [← hk]
    refine Nat.div_lt_of_lt_mul ?_
    rw [Nat.pow_add, Nat.mul_comm] at a
    exact a
  have h23 : 8388608 ≤ kept ∨ X = 0 := by
    by_cases e : X = 0
    · exact .inr e
    · left
      have hn : nb man = 24 + d := by omega
      have h0 : man ≠ 0 := by intro h0; rw [h0] at hn; unfold nb at hn; simp at hn; omega
      obtain ⟨a, b, _⟩ := nb_bounds h0
      rw [hn, show 24 + d - 1 = 23 + d by omega, Nat.pow_add] at b
      rw [← hk]
      exact (Nat.le_div_iff_mul_le (pow_pos2 d)).2 b
  obtain ⟨ma, mb⟩ := mant_of hM h23
  have hG2 : 2 ^ d * G = 2 * (2 ^ X * (2 ^ s * den)) := by
    rw [← hG, ← Nat.mul_assoc, ← Nat.pow_add, show d + (exp + 151 + s).toNat = 1 + X + s by omega, Nat.pow_add, Nat.pow_add]
    simp only [Nat.pow_one, Nat.mul_assoc]
  have E0 : ordN (kept + X * 8388608) * (2 ^ s * den) = kept * (2 ^ X * (2 ^ s * den)) := by
    unfold ordN; rw [ma, mb, Nat.mul_assoc]
  have E2 : 2 * ordN (kept + X * 8388608) * (2 ^ s * den) = kept * (2 ^ d * G) := by
    rw [hG2, Nat.mul_assoc, E0, Nat.mul_left_comm]
  have E3 : 2 * ordN (kept + X * 8388608 + 1) * (2 ^ s * den) = (kept + 1) * (2 ^ d * G) := by
    rw [ord_succ, mb, hG2, Nat.mul_assoc, Nat.add_mul, E0, Nat.succ_mul kept, Nat.mul_add]
    rw [Nat.mul_left_comm]
  have E1 : midN (kept + X * 8388608) * (2 ^ s * den) = kept * (2 ^ d * G) + half * G := by
    rw [mid_eq, mb, Nat.add_mul, E2]
    congr 1
    have : 2 * (half * G) = 2 * (2 ^ X * (2 ^ s * den)) := by rw [← hG2, hpow, Nat.mul_assoc]
    omega
  have hman : man * G = kept * (2 ^ d * G) + dropped * G := by
    rw [← hsplit, Nat.add_mul, Nat.mul_comm (2 ^ d) kept, Nat.mul_assoc]
  have hman1 : (man + 1) * G = kept * (2 ^ d * G) + dropped * G + G := by rw [Nat.succ_mul, hman]
  have par : (kept + X * 8388608) % 2 = kept % 2 := by omega
  have Gpos : 0 < G := by rw [← hG]; exact Nat.mul_pos (pow_pos2 _) hden
  rw [hman] at h1 h3 h3'
  rw [hman1] at h2
  by_cases up : (decide (half < dropped) || (decide (dropped = half) && (more || kept % 2 == 1))) = true
  · rw [if_pos up]
    refine ⟨kept + X * 8388608 + 1, near_of_up ?_ ?_ hD, ?_⟩
    · rw [E1, par]
      simp only [Bool.or_eq_true, Bool.and_eq_true, decide_eq_true_eq, beq_iff_eq] at up
      rcases up with u | ⟨u, u2⟩
      · left
        have : (half + 1) * G ≤ dropped * G := Nat.mul_le_mul_right _ u
        rw [Nat.succ_mul] at this
        omega
      · subst u
        cases more with
        | true =>
          left
          have := h3' rfl
          omega
        | false =>
          right
          exact ⟨h3 rfl, by simpa using u2⟩
    · rw [E3]
      have : (dropped + 1) * G ≤ 2 ^ d * G := Nat.mul_le_mul_right _ hmodlt
      rw [Nat.succ_mul] at this ⊢
      omega
    · by_cases t : kept + 1 = 16777216
      · rw [if_pos t]
        have : kept + X * 8388608 + 1 = 16777216 + X * 8388608 := by omega
        rw [this]
        obtain ⟨a, b⟩ := @mant_of_top X
        exact .inr ⟨by simp, a.symm, by rw [b]; simp only; omega⟩
      · rw [if_neg t]
        have := is_of (M := kept + 1) hX (by omega) (by omega)
        rwa [show kept + 1 + X * 8388608 = kept + X * 8388608 + 1 by omega] at this
  · rw [if_neg up, if_neg (by omega)]
    refine ⟨kept + X * 8388608, near_of ?_ ?_ hD, is_of hX hM h23⟩
    · rw [E1, par]
      simp only [Bool.or_eq_true, Bool.and_eq_true, decide_eq_true_eq, beq_iff_eq, not_or, not_and] at up
      obtain ⟨u1, u2⟩ := up
      by_cases e : dropped = half
      · have := u2 e
        right
        cases more with
        | true => simp at this
        | false => exact ⟨by rw [h3 rfl, e], by simp at this; omega⟩
      · left
        have : (dropped + 1) * G ≤ half * G := Nat.mul_le_mul_right _ (by omega)
        rw [Nat.succ_mul] at this
        omega
    · rw [E2]; omega
end Go.Proofs.YtoeahfddnjbhbaaGreatDoor

namespace Go.Proofs.YtoeahfddnjbhbaaGreatDoor

/-- What a rounding gives for an index and a sign. -/
def resI (neg : Bool) (r : Nat) : Option (Int × Int) :=
  if r = 0 then some (0, 0) else if 2533359615 < r then none else some (if neg then -(mantN r : Int) else mantN r, (expoN r : Int) - 150)
theorem expo_le {r : Nat} : expoN r ≤ 300 ↔ r ≤ 2533359615 := by unfold expoN; omega
theorem roundV_is {man : Nat} {exp : Int} {more : Bool} {r : Nat} (neg : Bool) (h : Is (shortV man exp more) r) : roundV neg man exp more = resI neg r := by
  unfold roundV resI
  simp only []
  generalize shortV man exp more = q at *
  rcases h with ⟨h1, h2⟩ | ⟨h1, h2, h3⟩
  · rw [if_pos h1, if_pos h2]
  · have hr : r ≠ 0 := by
      intro e; subst e; apply h1; rw [h2]; decide
    rw [if_neg h1, if_neg hr]
    have := @expo_le r
    by_cases c : 150 < q.2
    · rw [if_pos c, if_pos (by omega)]
    · rw [if_neg c, if_neg (show ¬ 2533359615 < r by omega), h2, h3]
theorem roundV_near (neg : Bool) (man : Nat) (exp : Int) (more : Bool) (s den P : Nat) (hden : 0 < den) (hs : 0 ≤ exp + 151 + s) (hm : man < 18446744073709551616)
    (h1 : man * (2 ^ (exp + 151 + s).toNat * den) ≤ P) (h2 : P < (man + 1) * (2 ^ (exp + 151 + s).toNat * den))
    (h3 : more = false → P = man * (2 ^ (exp + 151 + s).toNat * den)) (h3' : more = true → P ≠ man * (2 ^ (exp + 151 + s).toNat * den)) (h4 : more = true → 33554432 ≤ man) :
    ∃ r, Near P (2 ^ s * den) r ∧ roundV neg man exp more = resI neg r := by
  obtain ⟨r, hr, hi⟩ := short_near man exp more s den P hden hs hm h1 h2 h3 h3' h4
  exact ⟨r, hr, roundV_is neg hi⟩
/-- Nothing is cut off. -/
theorem roundV_exact (neg : Bool) (man : Nat) (exp : Int) (s P : Nat) (hs : 0 ≤ exp + 151 + s) (hm : man < 18446744073709551616) (h : P = man * 2 ^ (exp + 151 + s).toNat) :
    ∃ r, Near P (2 ^ s) r ∧ roundV neg man exp false = resI neg r := by
  have hp := pow_pos2 (exp + 151 + s).toNat
  have := roundV_near neg man exp false s 1 P (by omega) hs hm (by rw [h, Nat.mul_one]; exact Nat.le_refl _) (by rw [h, Nat.mul_one, Nat.succ_mul]; omega) (fun _ => by rw [h, Nat.mul_one]) (fun e => by cases e) (fun e => by cases e)
  rwa [Nat.mul_one] at this

/-- The index of a valid real's magnitude. -/
def idx (m x : Int) : Nat := if m = 0 then 0 else m.natAbs + (x + 150).toNat * 8388608
/-- Mantissa and exponent are a real's. -/
def Vd (m x : Int) : Prop := m.natAbs < 16777216 ∧ -150 ≤ x ∧ x ≤ 150 ∧ (m = 0 → x = 0) ∧ (m ≠ 0 → x = -150 ∨ 8388608 ≤ m.natAbs)
theorem idx_parts {m x : Int} (h : Vd m x) (h0 : m ≠ 0) : mantN (idx m x) = m.natAbs ∧ (expoN (idx m x) : Int) = x + 150 := by
  obtain ⟨a, b, c, d, e⟩ := h
  unfold idx
  rw [if_neg h0]
  obtain ⟨p, q⟩ := mant_of (m := m.natAbs) (x := (x + 150).toNat) a (by rcases e h0 with e | e <;> omega)
  rw [p, q]
  exact ⟨rfl, by omega⟩
theorem idx_le {m x : Int} (h : Vd m x) : idx m x ≤ 2533359615 := by
  obtain ⟨a, b, c, d, e⟩ := h
  unfold idx; split <;> omega
theorem idx_ord {m x : Int} (h : Vd m x) : ordN (idx m x) = m.natAbs * 2 ^ (x + 150).toNat := by
  by_cases h0 : m = 0
  · subst h0; unfold idx; rw [if_pos rfl]; simp [ord_zero]
  · obtain ⟨p, q⟩ := idx_parts h h0
    unfold ordN
    rw [p]; congr 2; omega
theorem resI_idx {m x : Int} (h : Vd m x) : resI (decide (m < 0)) (idx m x) = some (m, x) := by
  unfold resI
  by_cases h0 : m = 0
  · subst h0; obtain ⟨a, b, c, d, e⟩ := h; rw [d rfl]; unfold idx; simp
  · obtain ⟨p, q⟩ := idx_parts h h0
    have := idx_le h
    rw [if_neg (by unfold idx; rw [if_neg h0]; omega), if_neg (by omega), p, q]
    by_cases c : m < 0 <;> simp [c] <;> omega
theorem resI_idx' {m x : Int} (neg : Bool) (h : Vd m x) (hs : m ≠ 0 → neg = decide (m < 0)) : resI neg (idx m x) = some (m, x) := by
  by_cases h0 : m = 0
  · have := resI_idx h
    subst h0; unfold idx resI at *; simpa using this
  · rw [hs h0]; exact resI_idx h
/-- What a rounding gives is a real. -/
theorem resI_vd {neg : Bool} {r : Nat} {m x : Int} (h : resI neg r = some (m, x)) : Vd m x ∧ idx m x = r ∧ (m ≠ 0 → neg = decide (m < 0)) := by
  unfold resI at h
  by_cases h0 : r = 0
  · rw [if_pos h0] at h; cases h
    refine ⟨⟨by simp, by omega, by omega, fun _ => rfl, fun h => absurd rfl h⟩, ?_, fun h => absurd rfl h⟩
    unfold idx; simp [h0]
  · rw [if_neg h0] at h
    by_cases h1 : 2533359615 < r
    · rw [if_pos h1] at h; cases h
    · rw [if_neg h1] at h
      have e1 := mant_lt r
      have e2 := mant_split r
      have e3 := (@expo_le r).2 (by omega)
      have e4 : 0 < expoN r → 8388608 ≤ mantN r := mant_ge
      have e5 : mantN r ≠ 0 := by
        intro e; rw [e] at e2 e4; by_cases c : 0 < expoN r
        · have := e4 c; omega
        · omega
      cases neg with
      | true =>
        simp only [if_true] at h
        cases h
        refine ⟨⟨by omega, by omega, by omega, fun h => by omega, fun _ => by omega⟩, ?_, fun _ => by simp; omega⟩
        unfold idx; rw [if_neg (by omega)]; omega
      | false =>
        simp only [Bool.false_eq_true, if_false] at h
        cases h
        refine ⟨⟨by omega, by omega, by omega, fun h => by omega, fun _ => by omega⟩, ?_, fun _ => by simp⟩
        unfold idx; rw [if_neg (by omega)]; omega
theorem idx_inj {m x n y : Int} (h : Vd m x) (k : Vd n y) (e : idx m x = idx n y) (hs : m ≠ 0 → n ≠ 0 → (m < 0 ↔ n < 0)) : m = n ∧ x = y := by
  by_cases h0 : m = 0
  · by_cases k0 : n = 0
    · subst h0 k0; exact ⟨rfl, by rw [h.2.2.2.1 rfl, k.2.2.2.1 rfl]⟩
    · exfalso; subst h0; unfold idx at e; rw [if_pos rfl, if_neg k0] at e; omega
  · by_cases k0 : n = 0
    · exfalso; subst k0; unfold idx at e; rw [if_pos rfl, if_neg h0] at e; omega
    · obtain ⟨p, q⟩ := idx_parts h h0
      obtain ⟨p', q'⟩ := idx_parts k k0
      rw [e] at p q
      have := hs h0 k0
      omega
end Go.Proofs.YtoeahfddnjbhbaaGreatDoor

namespace Go.Proofs.YtoeahfddnjbhbaaGreatDoor

theorem vd_iff {m x : Int} : validV m x = true ↔ Vd m x := by
  unfold validV Vd
  constructor
  · intro h
    repeat' split at h
    all_goals (first | (cases h; done) | skip)
    all_goals (try simp at h)
    all_goals omega
  · rintro ⟨a, b, c, d, e⟩
    repeat' split
    all_goals (try simp)
    all_goals omega
/-- A real as a multiple of 2^-150. -/
def sc (m x : Int) : Int := m * 2 ^ (x + 150).toNat
theorem sc_abs (m x : Int) : (sc m x).natAbs = m.natAbs * 2 ^ (x + 150).toNat := by
  unfold sc; rw [Int.natAbs_mul, Int.natAbs_pow]; rfl
theorem ipow_pos (k : Nat) : (0 : Int) < 2 ^ k := Int.pow_pos (by omega)
theorem sc_neg (m x : Int) : decide (sc m x < 0) = decide (m < 0) := by
  have hp := ipow_pos (x + 150).toNat
  unfold sc
  generalize (2 : Int) ^ (x + 150).toNat = p at *
  apply decide_eq_decide.2
  constructor
  · intro h; rcases Int.lt_or_le m 0 with h1 | h1
    · exact h1
    · have := Int.mul_nonneg h1 (Int.le_of_lt hp); omega
  · intro h; exact Int.mul_neg_of_neg_of_pos h hp
theorem sc_zero (m x : Int) : sc m x = 0 ↔ m = 0 := by
  have hp := ipow_pos (x + 150).toNat
  unfold sc
  constructor
  · intro h; rcases Int.mul_eq_zero.1 h with h | h
    · exact h
    · omega
  · intro h; rw [h]; simp
theorem sc_ord {m x : Int} (h : Vd m x) : (sc m x).natAbs = ordN (idx m x) := by rw [sc_abs, idx_ord h]
theorem resI_zero (a b : Bool) : resI a 0 = resI b 0 := rfl

/-- An exact number is rounded. -/
theorem ex_near (M x : Int) (hx : -150 ≤ x) (hM : M.natAbs < 18446744073709551616) :
    ∃ r, Near (2 * (sc M x).natAbs) 1 r ∧ (exV M x).rd = resI (decide (sc M x < 0)) r := by
  obtain ⟨r, h1, h2⟩ := roundV_exact (decide (M < 0)) M.natAbs x 0 (2 * (sc M x).natAbs) (by omega) hM (by
    rw [sc_abs, show (x + 151 + (0 : Nat)).toNat = (x + 150).toNat + 1 by omega, Nat.pow_succ]
    simp only [Nat.mul_comm, Nat.mul_left_comm])
  exact ⟨r, h1, by rw [sc_neg]; exact h2⟩
theorem near_idx {m x : Int} (h : Vd m x) : Near (2 * (sc m x).natAbs) 1 (idx m x) := by
  have := near_ord (show 0 < 1 by omega) (idx m x)
  rw [Nat.mul_one] at this
  rw [sc_ord h]; exact this
/-- A real is rounded to itself. -/
theorem ex_real {m x : Int} (h : Vd m x) : (exV m x).rd = some (m, x) := by
  obtain ⟨r, h1, h2⟩ := ex_near m x h.2.1 (by have := h.1; omega)
  rw [h2, near_unique (by omega) h1 (near_idx h), sc_neg]
  exact resI_idx h
theorem Vd.rev {m x : Int} (h : Vd m x) : Vd (-m) x := by
  obtain ⟨a, b, c, d, e⟩ := h
  exact ⟨by omega, b, c, fun k => d (by omega), fun k => by have := e (by omega); omega⟩
theorem sc_rev (m x : Int) : sc (-m) x = -sc m x := by unfold sc; rw [Int.neg_mul]

/-- What is much less than a real does not matter. -/
theorem near_far {m x T : Int} (h : Vd m x) (h0 : m ≠ 0) (hx : -118 < x) (hT : T.natAbs * 512 ≤ 2 ^ (x + 150).toNat) :
    Near (2 * (sc m x + T).natAbs) 1 (idx m x) ∧ (sc m x + T < 0 ↔ sc m x < 0) := by
  obtain ⟨p, q⟩ := idx_parts h h0
  have hs := sc_abs m x
  obtain ⟨X, hX⟩ : ∃ X : Nat, (x + 150).toNat = X := ⟨_, rfl⟩
  rw [hX] at hs hT
  have qX : expoN (idx m x) = X := by omega
  have h8 := mant_ge (r := idx m x) (by omega)
  rw [p] at h8
  have big : 8388608 * 2 ^ X ≤ m.natAbs * 2 ^ X := Nat.mul_le_mul_right _ h8
  have hp := pow_pos2 X
  have hord : ordN (idx m x) = m.natAbs * 2 ^ X := by rw [← hs, sc_ord h]
  have e1 := mid_eq (idx m x)
  rw [qX, hord] at e1
  have e2 : 2 * m.natAbs * 2 ^ X = 2 * (m.natAbs * 2 ^ X) := Nat.mul_assoc _ _ _
  have hsplit : idx m x ≠ 0 := by intro e; rw [e] at p; have : mantN 0 = 0 := by decide
                                  omega
  have e3 := mid_eq (idx m x - 1)
  have e4 := ord_succ (idx m x - 1)
  rw [Nat.sub_add_cancel (by omega), hord] at e4
  have e5 : X - 1 ≤ expoN (idx m x - 1) := by
    rcases succ_cases (idx m x - 1) with ⟨_, b⟩ | ⟨_, _, b⟩ <;> rw [Nat.sub_add_cancel (by omega)] at b <;> omega
  have e6 : 2 ^ (X - 1) ≤ 2 ^ expoN (idx m x - 1) := Nat.pow_le_pow_right (by omega) e5
  have e7 : 2 ^ X = 2 * 2 ^ (X - 1) := by
    conv => lhs; rw [show X = X - 1 + 1 by omega, Nat.pow_succ]
    omega
  generalize m.natAbs * 2 ^ X = A at *
  generalize 2 ^ (X - 1) = B at *
  generalize 2 ^ X = C at *
  generalize 2 ^ expoN (idx m x - 1) = E at *
  generalize sc m x = s at *
  refine ⟨⟨.inl ?_, .inr (.inl ?_)⟩, ?_⟩
  · rw [Nat.mul_one, e1]; omega
  · rw [Nat.mul_one, e3]; omega
  · omega

theorem sc_shift {n x y : Int} (hx : -150 ≤ x) (h : x ≤ y) : sc n y = sc (n * 2 ^ (y - x).toNat) x := by
  unfold sc
  rw [Int.mul_assoc, ← Int.pow_add, show (y + 150).toNat = (y - x).toNat + (x + 150).toNat by omega]
theorem sc_add (a b x : Int) : sc (a + b) x = sc a x + sc b x := by unfold sc; rw [Int.add_mul]
theorem shl_abs {m : Int} (d : Nat) (h : d ≤ 32) (c : m.natAbs < 16777216) : (m * 2 ^ d).natAbs ≤ 72057594037927936 := by
  rw [Int.natAbs_mul, Int.natAbs_pow]
  have : (2 : Nat) ^ d ≤ 2 ^ 32 := Nat.pow_le_pow_right (by omega) h
  have := Nat.mul_le_mul (show m.natAbs ≤ 16777216 by omega) this
  simpa using this
theorem far_le {n x y : Int} (hn : n.natAbs < 16777216) (h1 : -150 ≤ y) (h : 32 < x - y) : (sc n y).natAbs * 512 ≤ 2 ^ (x + 150).toNat := by
  rw [sc_abs]
  have : 2 ^ (x + 150).toNat = 2 ^ 33 * 2 ^ (y + 150).toNat * 2 ^ (x - y - 33).toNat := by
    rw [← Nat.pow_add, ← Nat.pow_add]; congr 1; omega
  rw [this]
  have hp := pow_pos2 (y + 150).toNat
  have hq := pow_pos2 (x - y - 33).toNat
  calc n.natAbs * 2 ^ (y + 150).toNat * 512 ≤ 16777216 * 2 ^ (y + 150).toNat * 512 := Nat.mul_le_mul_right _ (Nat.mul_le_mul_right _ (by omega))
    _ = 2 ^ 33 * 2 ^ (y + 150).toNat * 1 := by omega
    _ ≤ _ := Nat.mul_le_mul_left _ hq
theorem sum_near {m x n y : Int} (h : Vd m x) (k : Vd n y) :
    ∃ r, Near (2 * (sc m x + sc n y).natAbs) 1 r ∧ (sumV m x n y).rd = resI (decide (sc m x + sc n y < 0)) r := by
  have a1 := h.1
  have a2 := k.1
  have b1 := h.2.1
  have b2 := k.2.1
  unfold sumV
  by_cases h0 : m = 0
  · rw [if_pos h0, (sc_zero m x).2 h0, Int.zero_add]; exact ex_near n y b2 (by omega)
  rw [if_neg h0]
  by_cases k0 : n = 0
  · rw [if_pos k0, (sc_zero n y).2 k0, Int.add_zero]; exact ex_near m x b1 (by omega)
  rw [if_neg k0]
  by_cases c1 : x < y
  · rw [if_pos c1]
    by_cases c2 : 32 < y - x
    · rw [if_pos c2]
      obtain ⟨p, q⟩ := near_far (T := sc m x) k k0 (by omega) (far_le a1 b1 (by omega))
      rw [Int.add_comm]
      exact ⟨_, p, by rw [ex_real k, decide_eq_decide.2 q, sc_neg]; exact (resI_idx k).symm⟩
    · rw [if_neg c2]
      have e : sc m x + sc n y = sc (n * 2 ^ (y - x).toNat + m) x := by rw [sc_add, ← sc_shift b1 (by omega), Int.add_comm]
      rw [e]
      have := shl_abs (m := n) (y - x).toNat (by omega) a2
      exact ex_near _ x b1 (by omega)
  · rw [if_neg c1]
    by_cases c2 : 32 < x - y
    · rw [if_pos c2]
      obtain ⟨p, q⟩ := near_far (T := sc n y) h h0 (by omega) (far_le a2 b2 (by omega))
      exact ⟨_, p, by rw [ex_real h, decide_eq_decide.2 q, sc_neg]; exact (resI_idx h).symm⟩
    · rw [if_neg c2]
      have e : sc m x + sc n y = sc (m * 2 ^ (x - y).toNat + n) y := by rw [sc_add, ← sc_shift b2 (by omega)]
      rw [e]
      have := shl_abs (m := m) (x - y).toNat (by omega) a1
      exact ex_near _ y b2 (by omega)
/-- Products: in units of 2^-300. -/
theorem prod_near {m x n y : Int} (h : Vd m x) (k : Vd n y) :
    ∃ r, Near (2 * (sc m x * sc n y).natAbs) (2 ^ 150) r ∧ (prodV m x n y).rd = resI (decide (m * n < 0)) r := by
  have b1 := h.2.1
  have b2 := k.2.1
  obtain ⟨r, h1, h2⟩ := roundV_exact (decide (m * n < 0)) (m * n).natAbs (x + y) 150 (2 * (sc m x * sc n y).natAbs) (by omega) (by
    rw [Int.natAbs_mul]
    have : m.natAbs * n.natAbs ≤ 16777216 * 16777216 := Nat.mul_le_mul (by have := h.1; omega) (by have := k.1; omega)
    omega) (by
    rw [Int.natAbs_mul, sc_abs, sc_abs, Int.natAbs_mul, show (x + y + 151 + (150 : Nat)).toNat = 1 + (x + 150).toNat + (y + 150).toNat by omega, Nat.pow_add, Nat.pow_add]
    simp only [Nat.pow_one, Nat.mul_assoc, Nat.mul_comm, Nat.mul_left_comm])
  exact ⟨r, h1, h2⟩
theorem lz_bounds {m : Nat} (h0 : m ≠ 0) (h : m < 18446744073709551616) : 9223372036854775808 ≤ m * 2 ^ lzV m ∧ m * 2 ^ lzV m < 18446744073709551616 ∧ lzV m ≤ 63 := by
  obtain ⟨a, b, c⟩ := nb_bounds h0
  have d := nb_of_lt (n := m) (k := 64) (by omega)
  have hp := pow_pos2 (lzV m)
  have e1 : 2 ^ (nb m - 1) * 2 ^ lzV m ≤ m * 2 ^ lzV m := Nat.mul_le_mul_right _ b
  have e2 : m * 2 ^ lzV m < 2 ^ nb m * 2 ^ lzV m := Nat.mul_lt_mul_of_pos_right c hp
  rw [← Nat.pow_add] at e1 e2
  have e3 : nb m - 1 + lzV m = 63 := by unfold lzV; omega
  have e4 : nb m + lzV m = 64 := by unfold lzV; omega
  rw [e3] at e1; rw [e4] at e2
  exact ⟨e1, e2, by unfold lzV; omega⟩
/-- Quotients. -/
theorem quot_near {m x n y : Int} (h : Vd m x) (k : Vd n y) (n0 : n ≠ 0) :
    ∃ r, Near (2 * (sc m x).natAbs * 2 ^ 150) (sc n y).natAbs r ∧ (quotV m x n y).rd = resI (decide (m < 0) != decide (n < 0)) r := by
  have b1 := h.2.1
  have b2 := k.2.1
  have np : 0 < n.natAbs := by omega
  have hlz : lzV m.natAbs ≤ 64 := by unfold lzV; omega
  have hexp : (x - lzV m.natAbs - y + 151 + ((y + 150).toNat : Nat)).toNat = (x + 150).toNat + 151 - lzV m.natAbs := by omega
  have hG : 2 ^ lzV m.natAbs * (2 ^ (x - lzV m.natAbs - y + 151 + ((y + 150).toNat : Nat)).toNat) = 2 * 2 ^ (x + 150).toNat * 2 ^ 150 := by
    rw [hexp, ← Nat.pow_add, show lzV m.natAbs + ((x + 150).toNat + 151 - lzV m.natAbs) = 1 + (x + 150).toNat + 150 by omega, Nat.pow_add, Nat.pow_add, Nat.pow_one]
  have hP : 2 * (sc m x).natAbs * 2 ^ 150 = m.natAbs * 2 ^ lzV m.natAbs * 2 ^ (x - lzV m.natAbs - y + 151 + ((y + 150).toNat : Nat)).toNat := by
    rw [sc_abs, Nat.mul_assoc (m.natAbs), hG]
    simp only [Nat.mul_assoc, Nat.mul_comm, Nat.mul_left_comm]
  have key : ∀ u : Nat, m.natAbs * 2 ^ lzV m.natAbs < 18446744073709551616 → (m ≠ 0 → 9223372036854775808 ≤ m.natAbs * 2 ^ lzV m.natAbs) →
      u = 2 ^ (x - lzV m.natAbs - y + 151 + ((y + 150).toNat : Nat)).toNat → 0 < u →
      ∃ r, Near (2 * (sc m x).natAbs * 2 ^ 150) (2 ^ (y + 150).toNat * n.natAbs) r ∧ (quotV m x n y).rd = resI (decide (m < 0) != decide (n < 0)) r := by
    intro u hu hu2 eu up
    rw [hP, ← eu]
    unfold quotV Ex.rd
    simp only
    have dm := Nat.div_add_mod (m.natAbs * 2 ^ lzV m.natAbs) n.natAbs
    have ml := Nat.mod_lt (m.natAbs * 2 ^ lzV m.natAbs) np
    have dl : m.natAbs * 2 ^ lzV m.natAbs / n.natAbs ≤ m.natAbs * 2 ^ lzV m.natAbs := Nat.div_le_self _ _
    have dg : m ≠ 0 → 33554432 ≤ m.natAbs * 2 ^ lzV m.natAbs / n.natAbs := fun h0 => by
      refine (Nat.le_div_iff_mul_le np).2 ?_
      have := hu2 h0
      have := k.1
      omega
    have mz : m = 0 → m.natAbs * 2 ^ lzV m.natAbs = 0 := fun h => by rw [h]; simp
    refine roundV_near _ _ _ _ (y + 150).toNat n.natAbs _ np (by omega) (by omega) ?_ ?_ ?_ ?_ ?_
    all_goals (try rw [← eu])
    all_goals generalize hA : m.natAbs * 2 ^ lzV m.natAbs = A at *
    all_goals generalize hq : A / n.natAbs = q at *
    all_goals generalize ht : A % n.natAbs = t at *
    · rw [← dm, Nat.add_mul]
      have : q * (u * n.natAbs) = n.natAbs * q * u := by simp only [Nat.mul_assoc, Nat.mul_comm, Nat.mul_left_comm]
      omega
    · rw [← dm, Nat.add_mul]
      have e : (q + 1) * (u * n.natAbs) = n.natAbs * q * u + n.natAbs * u := by
        rw [Nat.succ_mul]; simp only [Nat.mul_assoc, Nat.mul_comm, Nat.mul_left_comm]
      have := Nat.mul_lt_mul_of_pos_right ml up
      omega
    · intro hm
      have t0 : t = 0 := by simpa using hm
      rw [← dm, t0, Nat.add_zero]; simp only [Nat.mul_assoc, Nat.mul_comm, Nat.mul_left_comm]
    · intro hm e
      have t0 : t ≠ 0 := by simpa using hm
      rw [← dm, Nat.add_mul] at e
      have e2 : q * (u * n.natAbs) = n.natAbs * q * u := by simp only [Nat.mul_assoc, Nat.mul_comm, Nat.mul_left_comm]
      have := Nat.mul_pos (show 0 < t by omega) up
      omega
    · intro hm
      have t0 : t ≠ 0 := by simpa using hm
      by_cases h0 : m = 0
      · exfalso
        have := mz h0
        rw [this] at dm; omega
      · exact dg h0
  have hD : (sc n y).natAbs = 2 ^ (y + 150).toNat * n.natAbs := by rw [sc_abs, Nat.mul_comm]
  rw [hD]
  refine key _ ?_ ?_ rfl (pow_pos2 _)
  · by_cases h0 : m = 0
    · rw [h0]; simp
    · exact (lz_bounds (m := m.natAbs) (by omega) (by have := h.1; omega)).2.1
  · exact fun h0 => (lz_bounds (m := m.natAbs) (by omega) (by have := h.1; omega)).1
end Go.Proofs.YtoeahfddnjbhbaaGreatDoor

namespace Go.Proofs.YtoeahfddnjbhbaaGreatDoor

def MAXI : Int := 2533359615
theorem atP_eq {i : Int} (h : 0 ≤ i) : atP i = if i = 0 then (0, 0) else ((mantN i.toNat : Int), (expoN i.toNat : Int) - 150) := by
  unfold atP
  split
  · rfl
  · unfold mantN expoN
    refine Prod.ext ?_ ?_ <;> simp only <;> omega
theorem atV_spec {i : Int} (h1 : -2533359615 ≤ i) (h2 : i ≤ 2533359615) :
    Vd (atV i).1 (atV i).2 ∧ idx (atV i).1 (atV i).2 = i.natAbs ∧ ((atV i).1 < 0 ↔ i < 0) ∧ ((atV i).1 = 0 ↔ i = 0) := by
  have key : ∀ k : Int, 0 ≤ k → k ≤ 2533359615 → Vd (atP k).1 (atP k).2 ∧ idx (atP k).1 (atP k).2 = k.toNat ∧ 0 ≤ (atP k).1 ∧ ((atP k).1 = 0 ↔ k = 0) := by
    intro k h1 h2
    rw [atP_eq h1]
    by_cases h0 : k = 0
    · rw [if_pos h0]; subst h0
      exact ⟨⟨by simp, by simp, by simp, fun _ => rfl, fun h => absurd rfl h⟩, by unfold idx; simp, by simp, by simp⟩
    · rw [if_neg h0]
      have e := resI_vd (neg := false) (r := k.toNat) (m := mantN k.toNat) (x := (expoN k.toNat : Int) - 150) (by
        unfold resI; rw [if_neg (by omega), if_neg (by omega)]; simp)
      refine ⟨e.1, e.2.1, by simp only; omega, ?_⟩
      have := e.2.1
      simp only
      constructor
      · intro h; unfold idx at this; rw [if_pos h] at this; omega
      · intro h; exact absurd h h0
  unfold atV
  by_cases hn : i < 0
  · rw [if_pos hn]
    obtain ⟨a, b, c, d⟩ := key (-i) (by omega) (by omega)
    refine ⟨a.rev, ?_, ?_, ?_⟩
    · simp only
      have : idx (-(atP (-i)).1) (atP (-i)).2 = idx (atP (-i)).1 (atP (-i)).2 := by
        unfold idx; rw [Int.natAbs_neg]
        by_cases z : (atP (-i)).1 = 0
        · rw [if_pos z, if_pos (by omega)]
        · rw [if_neg z, if_neg (by omega)]
      rw [this, b]; omega
    · simp only; omega
    · simp only; omega
  · rw [if_neg hn]
    obtain ⟨a, b, c, d⟩ := key i (by omega) (by omega)
    exact ⟨a, by rw [b]; omega, by omega, d⟩
theorem place_idx {m x : Int} (h : Vd m x) : placeV m x = if m < 0 then -(idx m x : Int) else idx m x := by
  obtain ⟨a, b, c, d, e⟩ := h
  unfold placeV idx
  by_cases h0 : m = 0
  · rw [if_pos h0, if_pos h0, if_neg (by omega)]; rfl
  · rw [if_neg h0, if_neg h0]; split <;> omega
theorem sc_idx {m x : Int} (h : Vd m x) : sc m x = if m < 0 then -(ordN (idx m x) : Int) else ordN (idx m x) := by
  have e := sc_ord h
  have s := sc_neg m x
  have s' : sc m x < 0 ↔ m < 0 := by simpa using s
  split <;> omega
theorem place_at {i : Int} (h1 : -2533359615 ≤ i) (h2 : i ≤ 2533359615) : placeV (atV i).1 (atV i).2 = i := by
  obtain ⟨a, b, c, d⟩ := atV_spec h1 h2
  rw [place_idx a, b]; split <;> omega
theorem valid_at {i : Int} (h1 : -2533359615 ≤ i) (h2 : i ≤ 2533359615) : validV (atV i).1 (atV i).2 = true := vd_iff.2 (atV_spec h1 h2).1
theorem place_bd {m x : Int} (h : Vd m x) : -2533359615 ≤ placeV m x ∧ placeV m x ≤ 2533359615 := by
  have := idx_le h
  rw [place_idx h]; split <;> omega
/-- A real is that with its index. -/
theorem vd_ext {m x n y : Int} (h : Vd m x) (k : Vd n y) (e : placeV m x = placeV n y) : m = n ∧ x = y := by
  rw [place_idx h, place_idx k] at e
  have z : ∀ {m x : Int}, Vd m x → (idx m x = 0 ↔ m = 0) := by
    intro m x h; constructor
    · intro e; unfold idx at e; split at e
      · assumption
      · omega
    · intro e; unfold idx; rw [if_pos e]
  have z1 := z h
  have z2 := z k
  refine idx_inj h k ?_ (fun h0 k0 => ?_)
  · split at e <;> split at e <;> omega
  · split at e <;> split at e <;> omega
theorem at_place {m x : Int} (h : Vd m x) : atV (placeV m x) = (m, x) := by
  obtain ⟨b1, b2⟩ := place_bd h
  obtain ⟨a, _⟩ := atV_spec b1 b2
  obtain ⟨p, q⟩ := vd_ext a h (place_at b1 b2)
  exact Prod.ext p q
theorem place_lt {m x n y : Int} (h : Vd m x) (k : Vd n y) : placeV m x < placeV n y ↔ sc m x < sc n y := by
  rw [place_idx h, place_idx k, sc_idx h, sc_idx k]
  have a := @ord_lt_iff (idx m x) (idx n y)
  have b := @ord_lt_iff (idx n y) (idx m x)
  have z : ∀ {m x : Int}, Vd m x → m < 0 → 0 < idx m x ∧ 0 < ordN (idx m x) := by
    intro m x h e
    have : 0 < idx m x := by unfold idx; rw [if_neg (by omega)]; omega
    exact ⟨this, by have := ord_lt this; rw [ord_zero] at this; exact this⟩
  have z1 := @z m x h
  have z2 := @z n y k
  split <;> split <;> omega
theorem sc_inj {m x n y : Int} (h : Vd m x) (k : Vd n y) (e : sc m x = sc n y) : m = n ∧ x = y := by
  refine vd_ext h k ?_
  have a := place_lt h k
  have b := place_lt k h
  omega
/-- The comparison of reals. -/
def cmpV (m x n y : Int) : Int := if m = n ∧ x = y then 0 else cmpI (placeV m x) (placeV n y)
theorem cmpV_eq {m x n y : Int} (h : Vd m x) (k : Vd n y) : cmpV m x n y = cmpI (sc m x) (sc n y) := by
  unfold cmpV cmpI
  have a := place_lt h k
  have b := place_lt k h
  by_cases e : m = n ∧ x = y
  · rw [if_pos e, e.1, e.2, if_neg (by omega), if_neg (by omega)]
  · rw [if_neg e]
    simp only [a, b]

/-! ### Representable numbers -/
theorem rep_index (M X : Nat) (h : M < 16777216) : ∃ r, ordN r = M * 2 ^ X := by
  induction X generalizing M with
  | zero =>
    refine ⟨M + 0 * 8388608, ?_⟩
    obtain ⟨a, b⟩ := mant_of (m := M) (x := 0) h (.inr rfl)
    unfold ordN; rw [a, b]
  | succ X ih =>
    by_cases c : 8388608 ≤ M
    · refine ⟨M + (X + 1) * 8388608, ?_⟩
      obtain ⟨a, b⟩ := mant_of (m := M) (x := X + 1) h (.inl c)
      unfold ordN; rw [a, b]
    · obtain ⟨r, hr⟩ := ih (2 * M) (by omega)
      exact ⟨r, by rw [hr, Nat.pow_succ]; simp only [Nat.mul_assoc, Nat.mul_comm, Nat.mul_left_comm]⟩
/-- A magnitude that is a real's is rounded to itself. -/
theorem near_exact {r s D : Nat} (hD : 0 < D) (h : Near (2 * ordN s * D) D r) : r = s := near_unique hD h (near_ord hD s)
theorem near_exact1 {r s : Nat} (h : Near (2 * ordN s) 1 r) : r = s := near_exact (D := 1) (by omega) (by rwa [Nat.mul_one])
theorem near_zero {r : Nat} (h : Near 0 1 r) : r = 0 := near_exact1 (s := 0) (by rwa [ord_zero])
theorem near_to_zero {P : Nat} (h : Near (2 * P) 1 0) : P = 0 := by
  have e : midN 0 = 1 := by decide
  obtain ⟨h, _⟩ := h
  rw [e] at h; omega
theorem ord_max : ordN 2533359615 = 16777215 * 2 ^ 300 := by
  unfold ordN
  rw [show mantN 2533359615 = 16777215 by decide, show expoN 2533359615 = 300 by decide]
/-- A result that is not too great: its value is a real. -/
theorem resI_some {neg : Bool} {r : Nat} (h : r ≤ 2533359615) : ∃ m x, resI neg r = some (m, x) ∧ Vd m x ∧ idx m x = r ∧ (m ≠ 0 → neg = decide (m < 0)) := by
  cases e : resI neg r with
  | none =>
    exfalso; unfold resI at e
    split at e
    · cases e
    · rw [if_neg (show ¬ 2533359615 < r by omega)] at e; cases e
  | some p => exact ⟨p.1, p.2, rfl, resI_vd e⟩
/-- The value of a result with its sign. -/
theorem resI_val {neg : Bool} {r : Nat} {m x : Int} (h : resI neg r = some (m, x)) : sc m x = if neg then -(ordN r : Int) else ordN r := by
  obtain ⟨a, b, c⟩ := resI_vd h
  rw [sc_idx a, b]
  by_cases h0 : m = 0
  · have : r = 0 := by rw [← b]; unfold idx; rw [if_pos h0]
    subst this; rw [ord_zero]; split <;> split <;> omega
  · rw [c h0]; by_cases d : m < 0 <;> simp [d]
theorem resI_not (neg : Bool) (r : Nat) : resI (!neg) r = (resI neg r).map fun p => (-p.1, p.2) := by
  unfold resI
  split
  · rfl
  · split
    · rfl
    · cases neg <;> simp
end Go.Proofs.YtoeahfddnjbhbaaGreatDoor
