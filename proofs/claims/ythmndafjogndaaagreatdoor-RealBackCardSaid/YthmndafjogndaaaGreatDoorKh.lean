/- Layer 2: Print's loops end for every real; its digits, at most nine, denote a number that is rounded to it (no program here). -/
import Derived.Test.YthmndafjogndaaaGreatDoorKg
namespace Go.Proofs.YthmndafjogndaaaGreatDoor

theorem itoaD_len12 (d : Nat) : 1 ≤ (itoaD d).length ∧ (itoaD d).length ≤ 2 := by unfold itoaD; split <;> simp
theorem txt_len : ∀ l : List Nat, l.length ≤ (txt l).length ∧ (txt l).length ≤ 2 * l.length
  | [] => by simp [txt]
  | d :: l => by
    have h1 := itoaD_len12 d
    have h2 := txt_len l
    rw [txt, List.length_append, List.length_cons]
    omega
theorem layout_len (d : List UInt8) (k : Int) (h1 : d.length ≤ 80) (h2 : -200 ≤ k) (h3 : k ≤ 200) : (layoutV d k).length ≤ 500 := by
  unfold layoutV
  split
  · have a := point_len (d.take 1) (d.drop 1)
    have b := Lib.itoa_length_le (k - 1) (by omega) (by omega)
    rw [List.length_append, List.length_append, List.length_singleton]
    rw [List.length_take, List.length_drop] at a
    omega
  · split
    · have a := point_len [] (List.replicate (-k).toNat 48 ++ d)
      rw [List.length_append, List.length_replicate] at a
      simp only [List.length_nil] at a
      omega
    · split
      · have a := point_len (d ++ List.replicate (k - d.length).toNat 48) []
        rw [List.length_append, List.length_replicate] at a
        simp only [List.length_nil] at a
        omega
      · have a := point_len (d.take k.toNat) (d.drop k.toNat)
        rw [List.length_take, List.length_drop] at a
        omega
theorem even_idx {m x : Int} (h : Vd m x) (m0 : m ≠ 0) : (m.tmod 2 == 0) = true ↔ idx m x % 2 = 0 := by
  obtain ⟨h1, _⟩ := idx_parts h m0
  rw [← mant_par, h1]
  constructor
  · intro e
    have e : m.tmod 2 = 0 := by simpa using e
    have := Int.mul_tdiv_add_tmod m 2
    omega
  · intro e
    have : m.tmod 2 = 0 := Int.tmod_eq_zero_of_dvd (by omega)
    simpa using this
/-- The whole of what is known of a real's digits. -/
structure Digs (m x : Int) (t : List Nat) (g u v : Nat) : Prop where
  eq : shortL (m.tmod 2 == 0) (prD m x).size 60 (prD m x).num (prD m x).below (prD m x).above = t ++ [g]
  point : (prD m x).point = (u : Int) - v
  ub : u ≤ 60
  vb : v ≤ 60
  nine : ∀ d, d ∈ t → d ≤ 9
  one : 1 ≤ g
  ten : g ≤ 9 ∨ g = 10 ∧ t = []
  len : t.length + 1 ≤ 9
  near : Near (valD (t ++ [g]) * 10 ^ u * tw 151) (10 ^ (v + (t.length + 1))) (idx m x)
  out : ¬ Near (valD t * 10 * 10 ^ u * tw 151) (10 ^ (v + (t.length + 1))) (idx m x)
theorem digs_of {m x : Int} (h : Vd m x) (m0 : m ≠ 0) : (∃ t g u v, Digs m x t g u v) ∧ printOK m x = true := by
  obtain ⟨n, b, a, s, e0, n0, nb1, s0, sb, bn, an, b0, e1, e2, e3⟩ := dec_start h m0
  obtain ⟨u, v, u1, v1, k1, k2, k3, k4, k5, k6, k7⟩ := dec_loops n0 nb1 s0 sb bn an
  have hD : prD m x = ⟨n * 10 ^ v, b * 10 ^ v, a * 10 ^ v, s * 10 ^ u, (u : Int) - v⟩ := by
    show decDown 60 (decUp 60 (decStart m.natAbs x)) = _
    rw [e0, k1, k2]
  have hU : decUp 60 (decStart m.natAbs x) = ⟨n, b, a, s * 10 ^ u, u⟩ := by rw [e0, k1]
  have hB := belowB_le m.natAbs x
  have hM : m.natAbs < 16777216 := h.1
  have hM0 : 0 < m.natAbs := by omega
  have hY := pow_pos2 (x + 150).toNat
  have tp := tw_pos 152
  have t1 : tw 152 = tw 150 * 4 := by unfold tw; rw [show (152 : Nat) = 150 + 2 from rfl, Nat.pow_add]
  have en : n * tw 152 = s * (4 * m.natAbs * 2 ^ (x + 150).toNat) := by
    have : n * tw 152 = n * tw 150 * 4 := by rw [t1]; ac_rfl
    rw [this, e1]; ac_rfl
  -- b < n, a > 0, and what nine digits want
  have hbn : b < n := by
    refine (Nat.mul_lt_mul_right tp).1 ?_
    rw [e2, en]
    refine (Nat.mul_lt_mul_left s0).2 ((Nat.mul_lt_mul_right hY).2 (by omega))
  have ha0 : 0 < a := by
    rcases Nat.eq_zero_or_pos a with g | g
    · exfalso
      rw [g, Nat.zero_mul] at e3
      have := Nat.mul_pos s0 (Nat.mul_pos (show 0 < 2 by omega) hY)
      omega
    · exact g
  have h9 : n * 10 < (b + a) * 10 ^ 9 := by
    refine (Nat.mul_lt_mul_right tp).1 ?_
    have l1 : n * 10 * tw 152 = s * (40 * m.natAbs * 2 ^ (x + 150).toNat) := by
      have : n * 10 * tw 152 = n * tw 152 * 10 := by ac_rfl
      rw [this, en, show 40 * m.natAbs = 4 * m.natAbs * 10 by omega]; ac_rfl
    have l2 : (b + a) * 10 ^ 9 * tw 152 = s * ((belowB m.natAbs x + 2) * 10 ^ 9 * 2 ^ (x + 150).toNat) := by
      have : (b + a) * 10 ^ 9 * tw 152 = (b * tw 152 + a * tw 152) * 10 ^ 9 := by rw [Nat.add_mul, Nat.add_mul, Nat.add_mul]; ac_rfl
      rw [this, e2, e3, ← Nat.mul_add, ← Nat.add_mul]; ac_rfl
    rw [l1, l2]
    refine (Nat.mul_lt_mul_left s0).2 ((Nat.mul_lt_mul_right hY).2 ?_)
    have : (10 : Nat) ^ 9 = 1000000000 := by decide
    rw [this]; omega
  have h16 : 16 * (s * 10 ^ u) ≤ M384 := by
    have := tw_le_M (k := 184) (by omega)
    have e : tw 184 = 16 * tw 180 := tw_succ4 180
    omega
  have tv := ten_pos v
  have hS0 : 0 < s * 10 ^ u := Nat.mul_pos s0 (ten_pos u)
  have pb : b * 10 ^ v < n * 10 ^ v := (Nat.mul_lt_mul_right tv).2 hbn
  have pa : a * 10 ^ v ≤ n * 10 ^ v := Nat.mul_le_mul_right _ an
  have pS : s * 10 ^ u ≤ b * 10 ^ v * 10 ^ (59 + 1) := by
    have q1 : n * 10 ≤ b * 10 ^ (59 + 1) := by
      have q2 : n < 10 ^ 53 := Nat.lt_of_lt_of_le nb1 ten_53
      have q3 : 10 ^ (59 + 1) ≤ b * 10 ^ (59 + 1) := Nat.le_mul_of_pos_left _ b0
      have q4 : 10 ^ 53 * 10 ≤ 10 ^ (59 + 1) := by decide
      omega
    have q5 := Nat.mul_le_mul_right (10 ^ v) q1
    have q6 : n * 10 * 10 ^ v = n * 10 ^ v * 10 := Nat.mul_right_comm ..
    have q7 : b * 10 ^ (59 + 1) * 10 ^ v = b * 10 ^ v * 10 ^ (59 + 1) := Nat.mul_right_comm ..
    omega
  obtain ⟨t, g, sh⟩ := short_spec (even := m.tmod 2 == 0) h16 hS0 59 (n * 10 ^ v) (b * 10 ^ v) (a * 10 ^ v) k5 (by omega) (by omega) (Nat.mul_pos ha0 tv) (.inl pb) pS
  have hl : t.length + 1 ≤ 9 := by
    have := short_len (even := m.tmod 2 == 0) h16 hS0 60 8 (n * 10 ^ v) (b * 10 ^ v) (a * 10 ^ v) k5 (by omega) (by omega) (by
      have q5 := (Nat.mul_lt_mul_right tv).2 h9
      have q6 : n * 10 * 10 ^ v = n * 10 ^ v * 10 := Nat.mul_right_comm ..
      have q7 : (b + a) * 10 ^ 9 * 10 ^ v = (b * 10 ^ v + a * 10 ^ v) * 10 ^ (8 + 1) := by rw [Nat.mul_right_comm, Nat.add_mul b]
      omega)
    rw [sh.eq, List.length_append, List.length_singleton] at this
    exact this
  have nine := sh.nine
  have ten : g ≤ 9 ∨ g = 10 ∧ t = [] := by
    rcases sh.ten with c | ⟨c, c2, _⟩
    · exact .inl c
    · exact .inr ⟨c, c2⟩
  have sc : ∀ c, c * 10 ^ v * 10 ^ (t.length + 1) = c * 10 ^ (v + (t.length + 1)) := fun c => by rw [Nat.mul_assoc, ← Nat.pow_add]
  obtain ⟨i1, i2⟩ := in_near (w := 10 ^ u) (q := 10 ^ (v + (t.length + 1))) (V := valD (t ++ [g])) (even := m.tmod 2 == 0) s0 (idx_pos h m0) e1 e2 e3 (mid_self h m0) (mid_below h m0) (even_idx h m0)
  obtain ⟨_, j2⟩ := in_near (w := 10 ^ u) (q := 10 ^ (v + (t.length + 1))) (V := valD t * 10) (even := m.tmod 2 == 0) s0 (idx_pos h m0) e1 e2 e3 (mid_self h m0) (mid_below h m0) (even_idx h m0)
  have hi := sh.inI
  have ho := sh.out
  rw [sc, sc, sc] at hi
  rw [sc, sc] at ho
  refine ⟨⟨t, g, u, v, ⟨by rw [hD]; exact sh.eq, by rw [hD], u1, v1, nine, sh.one, ten, hl, i1 hi, j2 ho⟩⟩, ?_⟩
  -- the loops end
  have hP : prP m x = if txt (t ++ [g]) = [49, 48] then ([49], (u : Int) - v + 1) else (txt (t ++ [g]), (u : Int) - v) := by
    unfold prP shT
    rw [hD]
    simp only
    rw [sh.eq]
  obtain ⟨l1, l2⟩ := txt_len (t ++ [g])
  rw [List.length_append, List.length_singleton] at l1 l2
  have hP1 : 1 ≤ (prP m x).1.length ∧ (prP m x).1.length ≤ 80 ∧ -200 ≤ (prP m x).2 ∧ (prP m x).2 ≤ 200 := by
    rw [hP]
    split
    · simp; omega
    · simp only; omega
  have hN6 : tw 180 < N6 := by
    unfold tw
    decide +kernel
  unfold printOK
  simp only [Bool.and_eq_true, decide_eq_true_eq]
  rw [hU, e0]
  have hdd : decDown 60 ⟨n, b, a, s * 10 ^ u, u⟩ = ⟨n * 10 ^ v, b * 10 ^ v, a * 10 ^ v, s * 10 ^ u, (u : Int) - v⟩ := k2
  rw [hdd]
  simp only
  refine ⟨⟨⟨⟨⟨⟨⟨⟨⟨⟨⟨⟨⟨⟨⟨⟨k3, k4⟩, by omega⟩, by omega⟩, k5⟩, by omega⟩, by omega⟩, by omega⟩, by omega⟩, sh.done⟩, by omega⟩, by omega⟩, hP1.1⟩, hP1.2.1⟩, hP1.2.2.1⟩, hP1.2.2.2⟩, layout_len _ _ hP1.2.1 hP1.2.2.1 hP1.2.2.2⟩
end Go.Proofs.YthmndafjogndaaaGreatDoor
