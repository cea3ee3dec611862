/- Layer 2: the place at which a search for a shortest decimal ends, and what it takes there (no program here). -/
/- Layer 2: a real's shortest decimal as the reference chooses it, by exact comparisons (no program here). -/
/- Layer 2: the place of a real's first digit, and the places of the search (no program here). -/
/- Layer 2: the reference's decimal text and its layout are the program's (no program here). -/
/- Layer 2: the reference's powers of ten and its decimals. -/
import Derived.Test.YtogfiekbikechaaGreatDoorGt
import Derived.Test.YtogfiekbikechaaGreatDoorGv
import Derived.Test.YtogfiekbikechaaGreatDoorGu
import Derived.Test.YtogfiekbikechaaGreatDoorGs
import Derived.Test.YtogfiekbikechaaGreatDoorGq
namespace Go.Proofs.YtogfiekbikechaaGreatDoor

/-- Whether the places N / S lie within the lower mark, those and one within the upper mark, and which are taken. -/
def loQ (even : Bool) (N S B : Nat) : Bool := dnB even (N % S) B
def upQ (even : Bool) (N S A : Nat) : Bool := hiB even (N % S + A) S
def takeB (lo hi : Bool) (N S : Nat) : Bool := if lo && hi then nrB (N % S + N % S) S (N / S) else hi
def pickV (even : Bool) (N S B A : Nat) : Option Nat :=
  if loQ even N S B || upQ even N S A then some (if takeB (loQ even N S B) (upQ even N S A) N S then N / S + 1 else N / S) else none
theorem even_ten (j : Nat) : ∃ y, 10 ^ (j + 1) = 2 * y := ⟨5 * 10 ^ j, by rw [Nat.pow_succ]; omega⟩
theorem pick_up {even : Bool} {d r S B A j : Nat} (hS : 0 < S) : pickV even ((d * S + r) * 10 ^ (j + 1)) S B A = (pickV even (r * 10 ^ (j + 1)) S B A).map (d * 10 ^ (j + 1) + ·) := by
  obtain ⟨y, hy⟩ := even_ten j
  have e1 : (d * S + r) * 10 ^ (j + 1) = r * 10 ^ (j + 1) + d * 10 ^ (j + 1) * S := by rw [Nat.add_mul, Nat.mul_right_comm, Nat.add_comm]
  have e2 : ((d * S + r) * 10 ^ (j + 1)) % S = (r * 10 ^ (j + 1)) % S := by rw [e1, Nat.add_mul_mod_self_right]
  have e3 : ((d * S + r) * 10 ^ (j + 1)) / S = d * 10 ^ (j + 1) + (r * 10 ^ (j + 1)) / S := by rw [e1, Nat.add_mul_div_right _ _ hS, Nat.add_comm]
  have e4 : (d * 10 ^ (j + 1) + (r * 10 ^ (j + 1)) / S) % 2 = (r * 10 ^ (j + 1)) / S % 2 := by
    rw [hy, Nat.mul_left_comm, Nat.mul_add_mod]
  have e5 : ∀ a b, nrB a b (d * 10 ^ (j + 1) + (r * 10 ^ (j + 1)) / S) = nrB a b ((r * 10 ^ (j + 1)) / S) := fun a b => by unfold nrB; rw [e4]
  unfold pickV takeB loQ upQ
  rw [e2, e3, e5]
  generalize dnB even (r * 10 ^ (j + 1) % S) B = p
  generalize hiB even (r * 10 ^ (j + 1) % S + A) S = q
  generalize nrB _ _ _ = z
  cases p <;> cases q <;> cases z <;> simp [Nat.add_assoc]
theorem pick_digit {even : Bool} {S num below above : Nat} (hS : 16 * S ≤ M384) (hS0 : 0 < S) (h1 : num < S) (h2 : below ≤ S) (h3 : above ≤ S) :
    pickV even (num * 10) S (below * 10) (above * 10) = if stopB even S (num * 10 / S) (num * 10 % S) (below * 10) (above * 10) then some (digB even S (num * 10 / S) (num * 10 % S) (below * 10) (above * 10)) else none := by
  obtain ⟨m1, m2, m3, e, r1, d1, m4⟩ := short_setup hS hS0 h1 h2 h3
  have m5 : (num * 10 % S + num * 10 % S) % M384 = num * 10 % S + num * 10 % S := Nat.mod_eq_of_lt (by omega)
  unfold pickV takeB loQ upQ stopB digB incB
  rw [m4, m5]
  generalize dnB even (num * 10 % S) (below * 10) = p
  generalize hiB even (num * 10 % S + above * 10) S = q
  generalize nrB _ _ _ = z
  cases p <;> cases q <;> cases z <;> rfl
theorem picks {even : Bool} {S : Nat} (hS : 16 * S ≤ M384) (hS0 : 0 < S) : ∀ (f num below above : Nat), num < S → below ≤ S → above ≤ S → shortDone even S f num below above = true →
    ∃ t g, shortL even S f num below above = t ++ [g] ∧ (∀ j, j < t.length → pickV even (num * 10 ^ (j + 1)) S (below * 10 ^ (j + 1)) (above * 10 ^ (j + 1)) = none) ∧
      pickV even (num * 10 ^ (t.length + 1)) S (below * 10 ^ (t.length + 1)) (above * 10 ^ (t.length + 1)) = some (valD (t ++ [g])) := by
  intro f
  induction f with
  | zero => intro num below above _ _ _ h; cases h
  | succ f ih =>
    intro num below above h1 h2 h3 hd
    obtain ⟨m1, m2, m3, e, r1, d1, m4⟩ := short_setup hS hS0 h1 h2 h3
    have hp := pick_digit (even := even) hS hS0 h1 h2 h3
    unfold shortDone at hd
    rw [m1, m2, m3] at hd
    rw [shortL_succ]
    simp only [m1, m2, m3]
    cases hst : stopB even S (num * 10 / S) (num * 10 % S) (below * 10) (above * 10) with
    | true =>
      rw [hst, if_pos rfl] at hp
      refine ⟨[], digB even S (num * 10 / S) (num * 10 % S) (below * 10) (above * 10), by rw [if_pos rfl]; rfl, fun j hj => absurd hj (by simp), ?_⟩
      have e1 : ∀ c : Nat, c * 10 ^ (([] : List Nat).length + 1) = c * 10 := fun c => rfl
      rw [e1, e1, e1, hp]
      congr 1
      simp [valD]
    | false =>
      rw [hst, if_neg (by decide)] at hp
      rw [hst, Bool.false_or] at hd
      obtain ⟨n1, n2⟩ := inc_stop hst m4
      obtain ⟨t, g, g1, g2, g3⟩ := ih (num * 10 % S) (below * 10) (above * 10) r1 (by omega) (by omega) hd
      have hg := digB_go hst
      have up : ∀ j, pickV even (num * 10 ^ (j + 1 + 1)) S (below * 10 ^ (j + 1 + 1)) (above * 10 ^ (j + 1 + 1)) = (pickV even (num * 10 % S * 10 ^ (j + 1)) S (below * 10 * 10 ^ (j + 1)) (above * 10 * 10 ^ (j + 1))).map (num * 10 / S * 10 ^ (j + 1) + ·) := fun j => by
        have s1 : ∀ c, c * 10 ^ (j + 1 + 1) = c * 10 * 10 ^ (j + 1) := fun c => by rw [Nat.pow_succ 10 (j + 1), Nat.mul_comm (10 ^ (j + 1)) 10, Nat.mul_assoc]
        rw [s1, s1, s1, ← pick_up hS0, ← e]
      refine ⟨num * 10 / S :: t, g, by rw [if_neg (by decide), hg, g1]; rfl, fun j hj => ?_, ?_⟩
      · rcases j with _ | j
        · have e1 : ∀ c : Nat, c * 10 ^ (0 + 1) = c * 10 := fun c => rfl
          rw [e1, e1, e1, hp]
        · rw [up, g2 j (by rw [List.length_cons] at hj; omega)]; rfl
      · rw [List.length_cons, up, g3, List.cons_append, valD_cons, List.length_append]; rfl
/-- Above the upper mark. -/
theorem out_hi {n a s M X q w V r : Nat} {even : Bool} (hs : 0 < s) (e1 : n * tw 150 = s * (M * 2 ^ X)) (e3 : a * tw 152 = s * (2 * 2 ^ X)) (m1 : midN r = (2 * M + 1) * 2 ^ X)
    (he : even = true ↔ r % 2 = 0) (h : n * q + a * q < V * (s * w) ∨ n * q + a * q = V * (s * w) ∧ even = false) : ¬ Near (V * w * tw 151) q r := by
  have t1 : tw 152 = tw 150 * 4 := by unfold tw; rw [show (152 : Nat) = 150 + 2 from rfl, Nat.pow_add]
  have t2 : tw 152 = tw 151 * 2 := by unfold tw; rw [← Nat.pow_succ]
  have tp := tw_pos 152
  have en : n * q * tw 152 = s * (4 * M * 2 ^ X * q) := by
    have : n * q * tw 152 = n * tw 150 * 4 * q := by rw [t1]; ac_rfl
    rw [this, e1]; ac_rfl
  have ea : a * q * tw 152 = s * (2 * 2 ^ X * q) := by
    have : a * q * tw 152 = a * tw 152 * q := by ac_rfl
    rw [this, e3]; ac_rfl
  have eV : V * (s * w) * tw 152 = s * (V * w * tw 151 * 2) := by rw [t2]; ac_rfl
  have u1 : midN r * q * 2 = 4 * M * 2 ^ X * q + 2 * 2 ^ X * q := by
    rw [m1, ← Nat.add_mul, ← Nat.add_mul, show 4 * M + 2 = (2 * M + 1) * 2 by omega]; ac_rfl
  generalize hP : V * w * tw 151 = P at *
  have k1 : ∀ p p' : Nat, (p * tw 152 < p' * tw 152 ↔ p < p') := fun p p' => Nat.mul_lt_mul_right tp
  have k2 : ∀ p p' : Nat, (s * p < s * p' ↔ p < p') := fun p p' => Nat.mul_lt_mul_left hs
  have k3 : ∀ p p' : Nat, (p * tw 152 = p' * tw 152 ↔ p = p') := fun p p' => Nat.mul_left_inj (by omega)
  have k4 : ∀ p p' : Nat, (s * p = s * p' ↔ p = p') := fun p p' => Nat.mul_right_inj (by omega)
  rw [← k1, ← k3, Nat.add_mul, en, ea, eV, ← Nat.mul_add, k2, k4] at h
  intro hn
  rcases h with h | ⟨h, h2⟩
  · rcases hn.1 with c | ⟨c, _⟩ <;> omega
  · rcases hn.1 with c | ⟨_, c⟩
    · omega
    · have := he.2 c; rw [h2] at this; cases this
/-- The two tests as roundings. -/
theorem lo_near {n b a s M B2 X q w r : Nat} {even : Bool} (hs : 0 < s) (hw : 0 < s * w) (ha : 0 < a * q) (hb : 0 < b * q) (r1 : 0 < r) (e1 : n * tw 150 = s * (M * 2 ^ X)) (e2 : b * tw 152 = s * (B2 * 2 ^ X)) (e3 : a * tw 152 = s * (2 * 2 ^ X)) (m1 : midN r = (2 * M + 1) * 2 ^ X) (m2 : 2 * midN (r - 1) + B2 * 2 ^ X = 4 * M * 2 ^ X)
    (he : even = true ↔ r % 2 = 0) :
    (loQ even (n * q) (s * w) (b * q) = true ↔ Near (n * q / (s * w) * w * tw 151) q r) ∧ (upQ even (n * q) (s * w) (a * q) = true ↔ Near ((n * q / (s * w) + 1) * w * tw 151) q r) := by
  obtain ⟨i1, i2⟩ := in_near (q := q) (w := w) (V := n * q / (s * w)) hs r1 e1 e2 e3 m1 m2 he
  obtain ⟨j1, _⟩ := in_near (q := q) (w := w) (V := n * q / (s * w) + 1) hs r1 e1 e2 e3 m1 m2 he
  have j2 := out_hi (q := q) (w := w) (V := n * q / (s * w) + 1) hs e1 e3 m1 he
  have dm := Nat.div_add_mod (n * q) (s * w)
  have lt := Nat.mod_lt (n * q) hw
  rw [Nat.mul_comm (s * w)] at dm
  unfold loQ upQ InI OutI at *
  rw [Nat.add_mul, Nat.one_mul] at j1 j2
  generalize Near (n * q / (s * w) * w * tw 151) q r = P1 at *
  generalize Near ((n * q / (s * w) + 1) * w * tw 151) q r = P2 at *
  generalize n * q / (s * w) * (s * w) = V at *
  generalize n * q % (s * w) = R at *
  generalize n * q = N at *
  generalize s * w = S at *
  generalize a * q = A at *
  generalize b * q = B at *
  constructor
  · rw [dnB_iff]
    constructor
    · intro c
      refine i1 ⟨?_, .inl (by omega)⟩
      rcases c with c | ⟨c, c2⟩
      · exact .inl (by omega)
      · exact .inr ⟨by omega, c2⟩
    · intro c
      by_cases c3 : R < B ∨ R = B ∧ even = true
      · exact c3
      · refine absurd c (i2 ?_)
        cases even
        · simp at c3 ⊢; omega
        · simp at c3 ⊢; omega
  · rw [hiB_iff]
    constructor
    · intro c
      refine j1 ⟨.inl (by omega), ?_⟩
      rcases c with c | ⟨c, c2⟩
      · exact .inl (by omega)
      · exact .inr ⟨by omega, c2⟩
    · intro c
      by_cases c3 : S < R + A ∨ R + A = S ∧ even = true
      · exact c3
      · refine absurd c (j2 ?_)
        cases even
        · simp at c3 ⊢; omega
        · simp at c3 ⊢; omega
end Go.Proofs.YtogfiekbikechaaGreatDoor

namespace Go.Proofs.YtogfiekbikechaaGreatDoor

theorem step_eq {Nj Sj N S c z : Nat} (hz : 0 < z) (hc : 0 < c) (h1 : Nj * z = c * N) (h2 : Sj * z = c * S) : Nj / Sj = N / S ∧ ∀ lo hi, takeB lo hi Nj Sj = takeB lo hi N S := by
  have e1 : Nj / Sj = N / S := by rw [← Nat.mul_div_mul_right Nj Sj hz, h1, h2, Nat.mul_div_mul_left _ _ hc]
  have e2 : Nj % Sj * z = c * (N % S) := by rw [← Nat.mul_mod_mul_right, h1, h2, Nat.mul_mod_mul_left]
  refine ⟨e1, fun lo hi => ?_⟩
  have k1 : Sj < Nj % Sj + Nj % Sj ↔ S < N % S + N % S := by
    rw [← Nat.mul_lt_mul_right hz, Nat.add_mul, e2, h2, ← Nat.mul_add, Nat.mul_lt_mul_left hc]
  have k2 : Nj % Sj + Nj % Sj = Sj ↔ N % S + N % S = S := by
    rw [← Nat.mul_left_inj (show z ≠ 0 by omega), Nat.add_mul, e2, h2, ← Nat.mul_add, Nat.mul_right_inj (by omega)]
  unfold takeB nrB
  rw [e1]
  simp only [k1, k2]
/-- The magnitude of a real in units of 2^-150. -/
def magN (m x : Int) : Nat := m.natAbs * 2 ^ (x + 150).toNat
/-- What is known of a real's shortest decimal: the digits t and g, whose first one has the place u - v - 1. -/
structure Choice (m x : Int) (t : List Nat) (g u v : Nat) : Prop where
  digs : ∃ u' v', Digs m x t g u' v' ∧ (u' : Int) - v' = (u : Int) - v
  ub : u ≤ 60
  vb : v ≤ 60
  top1 : 10 ^ u * tw 150 ≤ magN m x * 10 ^ v * 10
  top2 : magN m x * 10 ^ v < 10 ^ u * tw 150
  step : ∀ j p k1 k2, j ≤ t.length → 0 < p → 10 ^ u = k1 * p → 10 ^ (v + (j + 1)) = k2 * p →
    ∃ lo hi : Bool, (lo = true ↔ Near (magN m x * k2 / (k1 * tw 150) * k1 * tw 151) k2 (idx m x)) ∧ (hi = true ↔ Near ((magN m x * k2 / (k1 * tw 150) + 1) * k1 * tw 151) k2 (idx m x)) ∧
      (j < t.length → lo = false ∧ hi = false) ∧
      (j = t.length → (lo || hi) = true ∧ valD (t ++ [g]) = if takeB lo hi (magN m x * k2) (k1 * tw 150) then magN m x * k2 / (k1 * tw 150) + 1 else magN m x * k2 / (k1 * tw 150))
theorem choice {m x : Int} (h : Vd m x) (m0 : m ≠ 0) : ∃ t g u v, Choice m x t g u v := by
  obtain ⟨n, b, a, s, e0, n0, nb1, s0, sb, bn, an, b0, e1, e2, e3⟩ := dec_start h m0
  obtain ⟨u, v, u1, v1, k1, k2, k3, k4, k5, k6, k7⟩ := dec_loops n0 nb1 s0 sb bn an
  have hD : prD m x = ⟨n * 10 ^ v, b * 10 ^ v, a * 10 ^ v, s * 10 ^ u, (u : Int) - v⟩ := by
    show decDown 60 (decUp 60 (decStart m.natAbs x)) = _
    rw [e0, k1, k2]
  obtain ⟨⟨t', g', u', v', D⟩, hok⟩ := digs_of h m0
  have hsd : shortDone (m.tmod 2 == 0) (prD m x).size 60 (prD m x).num (prD m x).below (prD m x).above = true := by
    have hDD : decDown 60 (decUp 60 (decStart m.natAbs x)) = prD m x := rfl
    unfold printOK at hok
    simp only [Bool.and_eq_true, decide_eq_true_eq] at hok
    rw [hDD] at hok
    simp only [hok]
  have hY := pow_pos2 (x + 150).toNat
  have tp := tw_pos 152
  have t150 := tw_pos 150
  have h16 : 16 * (s * 10 ^ u) ≤ M384 := by
    have := tw_le_M (k := 184) (by omega)
    have e : tw 184 = 16 * tw 180 := tw_succ4 180
    omega
  have tv := ten_pos v
  have hS0 : 0 < s * 10 ^ u := Nat.mul_pos s0 (ten_pos u)
  have ha0 : 0 < a := by
    rcases Nat.eq_zero_or_pos a with g | g
    · exfalso
      rw [g, Nat.zero_mul] at e3
      have := Nat.mul_pos s0 (Nat.mul_pos (show 0 < 2 by omega) hY)
      omega
    · exact g
  have pb : b * 10 ^ v ≤ n * 10 ^ v := Nat.mul_le_mul_right _ bn
  have pa : a * 10 ^ v ≤ n * 10 ^ v := Nat.mul_le_mul_right _ an
  have hsd2 := hsd
  rw [hD] at hsd2
  obtain ⟨t, g, g1, g2, g3⟩ := picks (even := m.tmod 2 == 0) h16 hS0 60 (n * 10 ^ v) (b * 10 ^ v) (a * 10 ^ v) k5 (by omega) (by omega) hsd2
  have eD := D.eq
  rw [hD] at eD
  simp only at eD
  rw [g1] at eD
  have et : t = t' := by
    have := congrArg List.dropLast eD
    rwa [List.dropLast_concat, List.dropLast_concat] at this
  have eg : g = g' := by
    rw [et] at eD
    have := List.append_cancel_left eD
    exact (List.cons.inj this).1
  subst et eg
  have hp := D.point
  rw [hD] at hp
  simp only at hp
  have eA : n * tw 150 = s * magN m x := e1
  refine ⟨t, g, u, v, ⟨⟨u', v', D, hp.symm⟩, u1, v1, ?_, ?_, ?_⟩⟩
  · refine (Nat.mul_le_mul_left_iff s0).1 ?_
    have l1 : s * (10 ^ u * tw 150) = s * 10 ^ u * tw 150 := by rw [Nat.mul_assoc]
    have l2 : s * (magN m x * 10 ^ v * 10) = n * 10 ^ v * 10 * tw 150 := by
      rw [← Nat.mul_assoc, ← Nat.mul_assoc, ← eA]; ac_rfl
    rw [l1, l2]
    exact Nat.mul_le_mul_right _ k6
  · refine (Nat.mul_lt_mul_left s0).1 ?_
    have l1 : s * (10 ^ u * tw 150) = s * 10 ^ u * tw 150 := by rw [Nat.mul_assoc]
    have l2 : s * (magN m x * 10 ^ v) = n * 10 ^ v * tw 150 := by
      rw [← Nat.mul_assoc, ← eA]; ac_rfl
    rw [l1, l2]
    exact (Nat.mul_lt_mul_right t150).2 k5
  · intro j p c1 c2 hj hp0 q1 q2
    have sc : ∀ c, c * 10 ^ v * 10 ^ (j + 1) = c * 10 ^ (v + (j + 1)) := fun c => by rw [Nat.mul_assoc, ← Nat.pow_add]
    have hq := ten_pos (v + (j + 1))
    obtain ⟨L1, L2⟩ := lo_near (w := 10 ^ u) (q := 10 ^ (v + (j + 1))) (even := m.tmod 2 == 0) s0 hS0 (Nat.mul_pos ha0 hq) (Nat.mul_pos b0 hq) (idx_pos h m0) e1 e2 e3 (mid_self h m0) (mid_below h m0) (even_idx h m0)
    have f1 : n * 10 ^ (v + (j + 1)) * tw 150 = (s * p) * (magN m x * c2) := by
      rw [q2]
      have : n * (c2 * p) * tw 150 = n * tw 150 * (c2 * p) := by ac_rfl
      rw [this, eA]; ac_rfl
    have f2 : s * 10 ^ u * tw 150 = (s * p) * (c1 * tw 150) := by rw [q1]; ac_rfl
    obtain ⟨d1, d2⟩ := step_eq t150 (Nat.mul_pos s0 hp0) f1 f2
    have nr : ∀ V r, Near (V * 10 ^ u * tw 151) (10 ^ (v + (j + 1))) r ↔ Near (V * c1 * tw 151) c2 r := fun V r => by
      have : V * 10 ^ u * tw 151 = V * c1 * tw 151 * p := by rw [q1]; ac_rfl
      rw [this, q2, near_scale hp0]
    rw [nr, d1] at L1 L2
    refine ⟨_, _, L1, L2, fun hj2 => ?_, fun hj2 => ?_⟩
    · have := g2 j hj2
      rw [sc, sc, sc] at this
      unfold pickV at this
      split at this
      · cases this
      · rename_i c
        rw [Bool.not_eq_true, Bool.or_eq_false_iff] at c
        exact c
    · subst hj2
      have := g3
      rw [sc, sc, sc] at this
      unfold pickV at this
      split at this
      · rename_i c
        refine ⟨c, ?_⟩
        rw [← d2, ← d1]
        exact (Option.some.inj this).symm
      · cases this
end Go.Proofs.YtogfiekbikechaaGreatDoor

namespace Go.Proofs.YtogfiekbikechaaGreatDoor

/-- The two parts of a power of ten. -/
def tenU (k : Int) : Nat := 10 ^ k.toNat
def tenD (k : Int) : Nat := 10 ^ (-k).toNat
theorem tenU_pos (k : Int) : 0 < tenU k := ten_pos _
theorem tenD_pos (k : Int) : 0 < tenD k := ten_pos _
theorem ten_shift {p1 p2 r1 r2 A T : Nat} (h : (p1 : Int) - p2 = (r1 : Int) - r2) : 10 ^ p1 * T ≤ A * 10 ^ p2 ↔ 10 ^ r1 * T ≤ A * 10 ^ r2 := by
  have a1 : 10 ^ p1 * T ≤ A * 10 ^ p2 ↔ 10 ^ p1 * T * 10 ^ r2 ≤ A * 10 ^ p2 * 10 ^ r2 := (Nat.mul_le_mul_right_iff (ten_pos r2)).symm
  have a2 : 10 ^ r1 * T ≤ A * 10 ^ r2 ↔ 10 ^ r1 * T * 10 ^ p2 ≤ A * 10 ^ r2 * 10 ^ p2 := (Nat.mul_le_mul_right_iff (ten_pos p2)).symm
  rw [a1, a2]
  have b1 : 10 ^ p1 * T * 10 ^ r2 = 10 ^ r1 * T * 10 ^ p2 := by
    rw [Nat.mul_right_comm, ← Nat.pow_add, Nat.mul_right_comm _ T, ← Nat.pow_add, show p1 + r2 = r1 + p2 by omega]
  have b2 : A * 10 ^ p2 * 10 ^ r2 = A * 10 ^ r2 * 10 ^ p2 := Nat.mul_right_comm ..
  rw [b1, b2]
theorem Choice.low {m x : Int} {t : List Nat} {g u v : Nat} (h : Choice m x t g u v) (hm : 0 < magN m x) : v < u + 46 := by
  have h2 := h.top2
  have h3 : 10 ^ v ≤ magN m x * 10 ^ v := Nat.le_mul_of_pos_left _ hm
  have h4 : tw 150 ≤ 10 ^ 46 := Nat.le_trans (tw_mono (by omega)) tw_ten
  have h5 : 10 ^ u * tw 150 ≤ 10 ^ (u + 46) := by rw [Nat.pow_add]; exact Nat.mul_le_mul_left _ h4
  exact (Nat.pow_lt_pow_iff_right (by omega)).1 (Nat.lt_of_lt_of_le (Nat.lt_of_le_of_lt h3 h2) h5)
/-- 10 * 10^k is at most the magnitude exactly below the first digit's place. -/
theorem Choice.scale {m x : Int} {t : List Nat} {g u v : Nat} (h : Choice m x t g u v) (k : Int) : 10 * tenU k * tw 150 ≤ magN m x * tenD k ↔ k < (u : Int) - v - 1 := by
  have e1 : 10 * tenU k = 10 ^ (k.toNat + 1) := by unfold tenU; rw [Nat.pow_succ, Nat.mul_comm]
  have e2 : tenD k = 10 ^ (-k).toNat := rfl
  rw [e1, e2]
  constructor
  · intro c
    rcases Int.lt_or_le k ((u : Int) - v - 1) with d | d
    · exact d
    · exfalso
      have c2 := (ten_shift (r1 := (k + 1 + v).toNat) (r2 := v) (by omega)).1 c
      have c3 : 10 ^ u * tw 150 ≤ 10 ^ (k + 1 + v).toNat * tw 150 := Nat.mul_le_mul_right _ (Nat.pow_le_pow_right (by omega) (by omega))
      have := h.top2
      omega
  · intro d
    have t1 := h.top1
    rw [Nat.mul_assoc, ← Nat.pow_succ] at t1
    rcases Int.lt_or_le (k + 1 + v) 0 with d2 | d2
    · refine (ten_shift (r1 := 0) (r2 := (-(k + 1)).toNat) (by omega)).2 ?_
      have t2 := (ten_shift (p1 := u) (p2 := v + 1) (r1 := u) (r2 := v + 1) (A := magN m x) (T := tw 150) rfl).1 t1
      have l1 : 10 ^ 0 * tw 150 ≤ 10 ^ u * tw 150 := Nat.mul_le_mul_right _ (Nat.pow_le_pow_right (by omega) (by omega))
      have l2 : magN m x * 10 ^ (v + 1) ≤ magN m x * 10 ^ (-(k + 1)).toNat := Nat.mul_le_mul_left _ (Nat.pow_le_pow_right (by omega) (by omega))
      omega
    · refine (ten_shift (r1 := (k + 1 + v + 1).toNat) (r2 := v + 1) (by omega)).2 ?_
      refine Nat.le_trans (Nat.mul_le_mul_right _ (Nat.pow_le_pow_right (by omega) ?_)) t1
      omega
/-- The power of ten of the search's round j. -/
theorem parts_at {u v j : Nat} {k : Int} (hk : k = (u : Int) - v - 1 - j) : ∃ p, 0 < p ∧ 10 ^ u = tenU k * p ∧ 10 ^ (v + (j + 1)) = tenD k * p := by
  unfold tenU tenD
  rcases Int.lt_or_le k 0 with d | d
  · refine ⟨10 ^ u, ten_pos _, ?_, ?_⟩
    · rw [show k.toNat = 0 by omega, Nat.pow_zero, Nat.one_mul]
    · rw [← Nat.pow_add]; congr 1; omega
  · refine ⟨10 ^ (v + (j + 1)), ten_pos _, ?_, ?_⟩
    · rw [← Nat.pow_add]; congr 1; omega
    · rw [show (-k).toNat = 0 by omega, Nat.pow_zero, Nat.one_mul]
/-- The places at k. -/
def plD (m x k : Int) : Nat := magN m x * tenD k / (tenU k * tw 150)
theorem pl_iff {m x k : Int} {D : Nat} : D * tenU k * tw 150 ≤ magN m x * tenD k ↔ D ≤ plD m x k := by
  unfold plD
  rw [Nat.le_div_iff_mul_le (Nat.mul_pos (tenU_pos k) (tw_pos 150)), Nat.mul_assoc]
theorem Choice.places {m x : Int} {t : List Nat} {g u v : Nat} (h : Choice m x t g u v) {j : Nat} (hj : j ≤ 8) {k : Int} (hk : k = (u : Int) - v - 1 - j) : plD m x k < 1000000000 := by
  obtain ⟨p, p0, p1, p2⟩ := parts_at hk
  unfold plD
  rw [Nat.div_lt_iff_lt_mul (Nat.mul_pos (tenU_pos k) (tw_pos 150))]
  have t2 := h.top2
  have e : (10 : Nat) ^ (v + (j + 1)) = 10 ^ v * 10 ^ (j + 1) := by rw [Nat.pow_add]
  refine (Nat.mul_lt_mul_right p0).1 ?_
  have l1 : magN m x * tenD k * p = magN m x * 10 ^ v * 10 ^ (j + 1) := by rw [Nat.mul_assoc, ← p2, e, Nat.mul_assoc]
  have l2 : 1000000000 * (tenU k * tw 150) * p = 10 ^ u * tw 150 * 1000000000 := by rw [p1]; ac_rfl
  rw [l1, l2]
  have l3 : (10 : Nat) ^ (j + 1) ≤ 1000000000 := Nat.le_trans (Nat.pow_le_pow_right (by omega) (show j + 1 ≤ 9 by omega)) (by decide)
  have l4 := (Nat.mul_lt_mul_right (ten_pos (j + 1))).2 t2
  have l5 : 10 ^ u * tw 150 * 10 ^ (j + 1) ≤ 10 ^ u * tw 150 * 1000000000 := Nat.mul_le_mul_left _ l3
  omega
/-- By how much the lower decimal is less: in units of the common denominator. -/
def rsD (m x k : Int) : Nat := magN m x * tenD k % (tenU k * tw 150)
/-- What a round of the search finds. -/
structure Round (m x k : Int) (lo hi : Bool) : Prop where
  lo : lo = true ↔ Near (plD m x k * tenU k * tw 151) (tenD k) (idx m x)
  hi : hi = true ↔ Near ((plD m x k + 1) * tenU k * tw 151) (tenD k) (idx m x)
theorem Choice.round {m x : Int} {t : List Nat} {g u v : Nat} (h : Choice m x t g u v) {j : Nat} (hj : j ≤ t.length) {k : Int} (hk : k = (u : Int) - v - 1 - j) :
    ∃ lo hi, Round m x k lo hi ∧ (j < t.length → lo = false ∧ hi = false) ∧ (j = t.length → (lo || hi) = true ∧ valD (t ++ [g]) = if takeB lo hi (magN m x * tenD k) (tenU k * tw 150) then plD m x k + 1 else plD m x k) := by
  obtain ⟨p, p0, p1, p2⟩ := parts_at hk
  obtain ⟨lo, hi, h1, h2, h3, h4⟩ := h.step j p (tenU k) (tenD k) hj p0 p1 p2
  exact ⟨lo, hi, ⟨h1, h2⟩, h3, h4⟩
end Go.Proofs.YtogfiekbikechaaGreatDoor

namespace Go.Proofs.YtogfiekbikechaaGreatDoor

/-- A number in decimals, with so many digits at most. -/
def decL : Nat → Nat → List UInt8
  | 0, _ => []
  | f + 1, n => if n < 10 then [UInt8.ofNat (48 + n)] else decL f (n / 10) ++ [UInt8.ofNat (48 + n % 10)]
theorem snoc_nat (l : List Nat) : l = [] ∨ ∃ t c, l = t ++ [c] := by
  rcases List.eq_nil_or_concat l with h | ⟨t, c, h⟩
  · exact .inl h
  · exact .inr ⟨t, c, by rw [h, List.concat_eq_append]⟩
theorem txt_last (l : List Nat) (g : Nat) : txt (l ++ [g]) = txt l ++ itoaD g := by
  induction l with
  | nil => simp [txt]
  | cons a l ih => rw [List.cons_append, txt, ih, txt, List.append_assoc]
theorem decL_txt : ∀ (f : Nat) (l : List Nat) (d : Nat), (∀ c, c ∈ l → c ≤ 9) → d ≤ 9 → 10 ^ l.length ≤ valD (l ++ [d]) ∨ l = [] → l.length < f → decL f (valD (l ++ [d])) = txt (l ++ [d])
  | 0, _, _, _, _, _, h => absurd h (Nat.not_lt_zero _)
  | f + 1, l, d, h9, hd, hv, hf => by
    have hi : itoaD d = [UInt8.ofNat (48 + d)] := by unfold itoaD; rw [if_pos (by omega)]
    rcases snoc_nat l with rfl | ⟨t, c, rfl⟩
    · have : valD ([] ++ [d]) = d := by simp [valD]
      rw [this, decL, if_pos (by omega), List.nil_append, txt, txt, hi, List.append_nil]
    · have hv : 10 ^ (t ++ [c]).length ≤ valD (t ++ [c] ++ [d]) := by
        rcases hv with hv | hv
        · exact hv
        · simp at hv
      rw [valD_snoc] at hv ⊢
      rw [List.length_append, List.length_singleton] at hv hf
      have hc : c ≤ 9 := h9 c (by simp)
      have hp := ten_pos t.length
      rw [Nat.pow_succ] at hv
      have hb : 10 ^ t.length ≤ valD (t ++ [c]) := by omega
      rw [decL, if_neg (by omega), show (valD (t ++ [c]) * 10 + d) / 10 = valD (t ++ [c]) by omega, show (valD (t ++ [c]) * 10 + d) % 10 = d by omega, txt_last _ d, hi,
        decL_txt f t c (fun e he => h9 e (by simp [he])) hc (.inl hb) (by omega)]
/-- The decimal that the search ends with, without a zero at its end. -/
structure Fin10 (m x : Int) (t : List Nat) (g u v : Nat) (D : Nat) (K : Int) : Prop where
  way : (D = valD (t ++ [g]) ∧ K = (u : Int) - v - 1 - t.length) ∨ (valD (t ++ [g]) = 10 ∧ D = 1 ∧ K = (u : Int) - v - 1 - t.length + 1)
  last : D % 10 ≠ 0
  pos : 1 ≤ D
  le : D ≤ 1000000000
  txt : decL 12 D = (prP m x).1
  point : K + (prP m x).1.length = (prP m x).2
theorem Choice.fin {m x : Int} {t : List Nat} {g u v : Nat} (h : Choice m x t g u v) : t.length ≤ 8 ∧ ∃ D K, Fin10 m x t g u v D K := by
  obtain ⟨u', v', D, hp⟩ := h.digs
  have ln := D.len
  have o1 := D.one
  have e0 : prP m x = if txt (t ++ [g]) = [49, 48] then ([49], (u : Int) - v + 1) else (txt (t ++ [g]), (u : Int) - v) := by
    unfold prP shT
    simp only
    rw [D.eq, D.point, hp]
  refine ⟨by omega, ?_⟩
  rcases D.ten with g9 | ⟨g10, t0⟩
  · have all9 : ∀ d, d ∈ t ++ [g] → d ≤ 9 := fun d hd => by
      rcases List.mem_append.1 hd with hd | hd
      · exact D.nine d hd
      · rw [List.mem_singleton.1 hd]; exact g9
    have hne : ¬ txt (t ++ [g]) = [49, 48] := fun e => by
      have e2 := txt_ne all9 e
      have : g = 0 := by
        have := congrArg (fun l => l.getLast?) e2
        simpa using this
      omega
    rw [if_neg hne] at e0
    obtain ⟨lo, hi, _, _, hr⟩ := h.round (Nat.le_refl t.length) rfl
    have hr := (hr rfl).2
    have hpl := h.places (j := t.length) (by omega) rfl
    have hlow : 10 ^ t.length ≤ plD m x ((u : Int) - v - 1 - t.length) := by
      obtain ⟨p, p0, p1, p2⟩ := parts_at (u := u) (v := v) (j := t.length) rfl
      refine pl_iff.1 ?_
      generalize tenU ((u : Int) - v - 1 - t.length) = U at *
      generalize tenD ((u : Int) - v - 1 - t.length) = E at *
      refine (Nat.mul_le_mul_right_iff p0).1 ?_
      have t1 := h.top1
      rw [p1] at t1
      have l1 : magN m x * E * p = magN m x * 10 ^ v * 10 * 10 ^ t.length := by
        rw [Nat.mul_assoc, ← p2, show v + (t.length + 1) = v + 1 + t.length by omega, Nat.pow_add, Nat.pow_succ]; ac_rfl
      have l2 : 10 ^ t.length * U * tw 150 * p = U * p * tw 150 * 10 ^ t.length := by ac_rfl
      rw [l1, l2]
      exact Nat.mul_le_mul_right _ t1
    have hV : 10 ^ t.length ≤ valD (t ++ [g]) ∧ valD (t ++ [g]) ≤ 1000000000 := by
      rw [hr]; split <;> omega
    have hp1 := ten_pos t.length
    have hm : valD (t ++ [g]) % 10 = g := by rw [valD_snoc]; omega
    refine ⟨_, _, ⟨.inl ⟨rfl, rfl⟩, by omega, by omega, hV.2, ?_, ?_⟩⟩
    · rw [e0]; exact decL_txt 12 t g D.nine g9 (.inl hV.1) (by omega)
    · rw [e0]
      have := (txt_dg _ all9).2.1
      rw [List.length_append, List.length_singleton] at this
      simp only
      rw [this]; omega
  · subst g10 t0
    have e1 : Go.Proofs.YtogfiekbikechaaGreatDoor.txt ([] ++ [10]) = [49, 48] := by decide
    rw [if_pos e1] at e0
    refine ⟨1, _, ⟨.inr ⟨by decide, rfl, rfl⟩, by decide, by decide, by decide, by rw [e0]; show decL 12 1 = [49]; decide, ?_⟩⟩
    rw [e0]
    simp
/-- The reference's layout. -/
def refL (d : List UInt8) (k : Int) : List UInt8 :=
  if k < -3 ∨ k > 9 then d.take 1 ++ [46] ++ (if d.drop 1 = [] then [48] else d.drop 1) ++ [101] ++ ((if k - 1 < 0 then [45] else []) ++ decL 12 (max (k - 1) (1 - k)).toNat)
  else if k < 1 then [48, 46] ++ List.replicate (-k).toNat 48 ++ d
  else if (d.length : Int) ≤ k then d ++ List.replicate (k - d.length).toNat 48 ++ [46, 48]
  else d.take k.toNat ++ [46] ++ d.drop k.toNat
theorem exp_text : ∀ k : Fin 260, (if (k.val : Int) - 130 < 0 then [45] else []) ++ decL 12 (max ((k.val : Int) - 130) (130 - (k.val : Int))).toNat = Lib.itoa ((k.val : Int) - 130) := by decide +kernel
theorem refL_eq {d : List UInt8} {k : Int} (h0 : d ≠ []) (h1 : -100 ≤ k) (h2 : k ≤ 100) : refL d k = layoutV d k := by
  unfold refL layoutV pointV
  have hl := List.length_pos_iff.2 h0
  by_cases c1 : k < -3 ∨ k > 9
  · rw [if_pos c1, if_pos c1]
    have e := exp_text ⟨(k - 1 + 130).toNat, by omega⟩
    simp only at e
    rw [show (((k - 1 + 130).toNat : Nat) : Int) - 130 = k - 1 by omega, show 130 - (((k - 1 + 130).toNat : Nat) : Int) = 1 - k by omega] at e
    rw [e]
    have o1 : or0 (d.take 1) = d.take 1 := by
      unfold or0; rw [if_neg]; intro e; have := congrArg List.length e; simp only [List.length_take, List.length_nil] at this; omega
    rw [o1]; rfl
  · rw [if_neg c1, if_neg c1]
    by_cases c2 : k < 1
    · rw [if_pos c2, if_pos c2]
      have o1 : or0 (List.replicate (-k).toNat 48 ++ d) = List.replicate (-k).toNat 48 ++ d := by
        unfold or0; rw [if_neg]; intro e; exact h0 (List.append_eq_nil_iff.1 e).2
      rw [o1]; simp [or0]
    · rw [if_neg c2, if_neg c2]
      by_cases c3 : (d.length : Int) ≤ k
      · rw [if_pos c3]
        by_cases c4 : (d.length : Int) < k
        · rw [if_pos c4]
          have o1 : or0 (d ++ List.replicate (k - d.length).toNat 48) = d ++ List.replicate (k - d.length).toNat 48 := by
            unfold or0; rw [if_neg]; intro e; exact h0 (List.append_eq_nil_iff.1 e).1
          rw [o1]; simp [or0]
        · rw [if_neg c4, show k.toNat = d.length by omega, show (k - (d.length : Int)).toNat = 0 by omega]
          have o1 : or0 d = d := by unfold or0; rw [if_neg h0]
          simp [or0, h0]
      · rw [if_neg c3, if_neg (by omega)]
        have o1 : or0 (d.take k.toNat) = d.take k.toNat := by
          unfold or0; rw [if_neg]; intro e; have := congrArg List.length e; simp only [List.length_take, List.length_nil] at this; omega
        have o2 : or0 (d.drop k.toNat) = d.drop k.toNat := by
          unfold or0; rw [if_neg]; intro e; have := congrArg List.length e; simp only [List.length_drop, List.length_nil] at this; omega
        rw [o1, o2]
end Go.Proofs.YtogfiekbikechaaGreatDoor

namespace Go.Proofs.YtogfiekbikechaaGreatDoor
open Go.ChangeShapes Go.WideShapes Go.ChangeAt Go.RowKit

/-- A call gives a natural number. -/
abbrev NatTo (f : FuncId) (args : Array Value) (n : Nat) : Prop := ∀ w, Calls Tryz.prog f args w fun e w' => ∃ v, e = .returned v ∧ IsNat w' v n ∧ Ext w w'

set_option maxRecDepth 100000 in
set_option maxHeartbeats 4000000 in
theorem ten_even (n h T : Nat) (g1 : ((n : Int) == 0) = false) (_g2 : ¬ (n : Int) = 0) (g3 : (n : Int).tdiv 2 = (h : Int)) (_g4 : wrap64 (h : Int) = (h : Int)) (g5 : IntKind.i64.wrap (h : Int) = (h : Int)) (g6 : (n : Int).tmod 2 = 0)
    (HT : NatTo 88 #[.int .i64 (h : Int)] T) (hf : Fits (T * T)) (w : World) :
    Calls Tryz.prog 88 #[.int .i64 (n : Int)] w fun e w' => ∃ v, e = .returned v ∧ IsNat w' v (T * T) ∧ Ext w w' := by
  have HF := Lib.hid hf; have HH := Lib.hid HT; clear hf HT
  go_enter Tryz.func88, Tryz.ntmps88
  go_wp2_with fail
  refine (HH.out _).mono ?_
  rintro e w1 ⟨v1, rfl, hv, hx⟩
  have V1 := Lib.hid hv; have X1 := Lib.hid hx; clear hv hx
  go_wp2_with fail
  refine (nmul_any V1.out V1.out HF.out).mono ?_
  rintro e w2 ⟨v2, rfl, hv, hx⟩
  have V2 := Lib.hid hv; have X2 := Lib.hid (X1.out.trans hx); clear hv hx V1 X1
  go_wp2
  go_ret
  exact ⟨_, rfl, V2.out, X2.out⟩
set_option maxRecDepth 100000 in
set_option maxHeartbeats 4000000 in
theorem ten_odd (n h T : Nat) (g1 : ((n : Int) == 0) = false) (_g2 : ¬ (n : Int) = 0) (g3 : (n : Int).tdiv 2 = (h : Int)) (_g4 : wrap64 (h : Int) = (h : Int)) (g5 : IntKind.i64.wrap (h : Int) = (h : Int)) (g6 : (n : Int).tmod 2 = 1)
    (HT : NatTo 88 #[.int .i64 (h : Int)] T) (hf : Fits (T * T)) (hf2 : Fits (T * T * 10)) (w : World) :
    Calls Tryz.prog 88 #[.int .i64 (n : Int)] w fun e w' => ∃ v, e = .returned v ∧ IsNat w' v (T * T * 10) ∧ Ext w w' := by
  have HF := Lib.hid hf; have HH := Lib.hid HT; clear hf HT
  have HF2 := Lib.hid hf2; clear hf2
  have S10 := Lib.hid (small_nat 10 (by omega))
  rw [show ((10 : Nat) : Int) = 10 from rfl] at S10
  go_enter Tryz.func88, Tryz.ntmps88
  go_wp2_with fail
  refine (HH.out _).mono ?_
  rintro e w1 ⟨v1, rfl, hv, hx⟩
  have V1 := Lib.hid hv; have X1 := Lib.hid hx; clear hv hx
  go_wp2_with fail
  refine (nmul_any V1.out V1.out HF.out).mono ?_
  rintro e w2 ⟨v2, rfl, hv, hx⟩
  have V2 := Lib.hid hv; have X2 := Lib.hid (X1.out.trans hx); clear hv hx V1 X1
  go_wp2_with fail
  refine (S10.out _).mono ?_
  rintro e w3 ⟨v3, rfl, hv, hx⟩
  have V3 := Lib.hid hv; have V2b := Lib.hid (V2.out.later hx); have X3 := Lib.hid (X2.out.trans hx); clear hv hx V2 X2
  go_wp2_with fail
  refine (nmul_any V2b.out V3.out HF2.out).mono ?_
  rintro e w4 ⟨v4, rfl, hv, hx⟩
  have V2 := Lib.hid hv; have X2 := Lib.hid (X3.out.trans hx); clear hv hx V2b V3 X3
  go_wp2
  go_ret
  exact ⟨_, rfl, V2.out, X2.out⟩
set_option maxRecDepth 100000 in
set_option maxHeartbeats 4000000 in
theorem ten_zero (w : World) : Calls Tryz.prog 88 #[.int .i64 0] w fun e w' => ∃ v, e = .returned v ∧ IsNat w' v 1 ∧ Ext w w' := by
  have S1 := Lib.hid (small_nat 1 (by omega))
  rw [show ((1 : Nat) : Int) = 1 from rfl] at S1
  go_enter Tryz.func88, Tryz.ntmps88
  go_wp2_with fail
  refine (S1.out _).mono ?_
  rintro e w1 ⟨v1, rfl, hv, hx⟩
  have V1 := Lib.hid hv; have X1 := Lib.hid hx; clear hv hx
  go_wp2
  go_ret
  exact ⟨_, rfl, V1.out, X1.out⟩
theorem ten_fits {n : Nat} (h : n ≤ 1000) : 10 ^ n < 2 ^ (4 * n + 1) ∧ Fits (10 ^ n * 10 ^ n) ∧ Fits (10 ^ n * 10 ^ n * 10) := by
  have h1 : 10 ^ n < 2 ^ (4 * n + 1) := Nat.lt_of_le_of_lt (ten_lt_two n) (Nat.pow_lt_pow_right (by omega) (by omega))
  have h2 := fits_mul h1 h1 (by omega)
  exact ⟨h1, h2.2, (fits_mul (b := 4) h2.1 (by omega) (by omega)).2⟩
theorem ten_any : ∀ (f n : Nat), n < 2 ^ f → n ≤ 1000 → NatTo 88 #[.int .i64 (n : Int)] (10 ^ n)
  | f, 0, _, _ => fun w => ten_zero w
  | 0, n + 1, h, _ => absurd h (by omega)
  | f + 1, n + 1, h, hn => by
    obtain ⟨m, hm⟩ : ∃ m, n + 1 = m := ⟨_, rfl⟩
    rw [hm] at h hn ⊢
    obtain ⟨k, hk⟩ : ∃ k, m / 2 = k := ⟨_, rfl⟩
    have hk2 : k ≤ 1000 := by omega
    have ih := ten_any f k (by rw [Nat.pow_succ] at h; omega) hk2
    obtain ⟨_, f1, f2⟩ := ten_fits hk2
    have g1 : ((m : Int) == 0) = false := by simp; omega
    have g2 : ¬ (m : Int) = 0 := by omega
    have g3 : (m : Int).tdiv 2 = (k : Int) := by rw [Int.tdiv_eq_ediv_of_nonneg (by omega)]; omega
    have g4 : wrap64 (k : Int) = (k : Int) := by unfold wrap64; omega
    have g5 : IntKind.i64.wrap (k : Int) = (k : Int) := IntWalk.i64_in _ ⟨by omega, by omega⟩
    by_cases ho : m % 2 = 0
    · have e : 10 ^ m = 10 ^ k * 10 ^ k := by rw [← Nat.pow_add]; congr 1; omega
      rw [e]
      exact fun w => ten_even m k (10 ^ k) g1 g2 g3 g4 g5 (by rw [Int.tmod_eq_emod_of_nonneg (by omega)]; omega) ih f1 w
    · have e : 10 ^ m = 10 ^ k * 10 ^ k * 10 := by rw [← Nat.pow_add, ← Nat.pow_succ]; congr 1; omega
      rw [e]
      exact fun w => ten_odd m k (10 ^ k) g1 g2 g3 g4 g5 (by rw [Int.tmod_eq_emod_of_nonneg (by omega)]; omega) ih f1 f2 w
theorem ten_nat {n : Nat} (h : n ≤ 1000) : NatTo 88 #[.int .i64 (n : Int)] (10 ^ n) := ten_any 10 n (by omega) h
set_option maxRecDepth 100000 in
set_option maxHeartbeats 4000000 in
theorem ex_pos (D X : Nat) (K : Int) (g1 : K ≥ 0) (hD : D < 9223372036854775808) (hf : Fits (D * X)) (HT : NatTo 88 #[.int .i64 K] X) (w : World) :
    Calls Tryz.prog 120 #[.agg #[.int .i64 (D : Int), .int .i64 K]] w fun e w' => QEnd e w' false (D * X) (1) ∧ Ext w w' := by
  have HD := Lib.hid hD; have HH := Lib.hid HT; clear hD HT
  have HF := Lib.hid hf; clear hf
  have S1 := Lib.hid (small_nat 1 (by omega))
  rw [show ((1 : Nat) : Int) = 1 from rfl] at S1
  go_enter Tryz.func120, Tryz.ntmps120
  go_upto_region 1 with (fail)
  have X0 : Hid (Ext w ((w.alloc (.cells #[.int .i64 (D : Int), .int .i64 K] 102)).alloc (.cells #[.bool false, .slice none 0 0, .slice none 0 0] 73))) := Lib.hid (((Ext.refl w).alloc _).alloc _)
  have RB : Hid (Rc ((w.alloc (.cells #[.int .i64 (D : Int), .int .i64 K] 102)).alloc (.cells #[.bool false, .slice none 0 0, .slice none 0 0] 73)) w.heap.size (D : Int) K) := Lib.hid ⟨by simp [go_sem], by simp [go_sem]⟩
  have ZB : Hid (Ob ((w.alloc (.cells #[.int .i64 (D : Int), .int .i64 K] 102)).alloc (.cells #[.bool false, .slice none 0 0, .slice none 0 0] 73)) (w.heap.size + 1)) := Lib.hid ⟨by simp [go_sem], by simp [go_sem], by simp [go_sem], fun j hj => by obtain ⟨i, rfl⟩ : ∃ i, j = i + 3 := ⟨j - 3, by omega⟩; simp [go_sem], fun j => by simp [go_sem], by simp [go_sem]⟩
  generalize ((w.alloc (.cells #[.int .i64 (D : Int), .int .i64 K] 102)).alloc (.cells #[.bool false, .slice none 0 0, .slice none 0 0] 73)) = W at *
  have g0 := RB.out.c0; have g9 := RB.out.c1
  go_upto_region 2 with (fail)
  clear g0 g9
  refine wp_region_S (fun uu : World => Ext W uu) 9 (by kernel_rfl) ?_
  have HS : Ext W W.drew := (Ext.refl W).drew
  refine GoS.pure (i := 0) (v := ?_) rfl (by kernel_rfl) (by kernel_rfl) (by kernel_rfl) (by kernel_rfl) (fun _ _ _ h => h) (Or.inl ⟨by rfl, ?hy1⟩) (fun _ => HS) ?_
  case hy1 => ((intro u' hT; go_simp); try with_reducible rfl)
  try simp only [List.getElem_toArray, List.getElem_cons_zero, Act.put, List.setIfInBounds_toArray, List.set_cons_zero, List.set_cons_succ]
  refine GoS.take (i := 1) (v := ?_) rfl (by kernel_rfl) (by kernel_rfl) (by kernel_rfl) (by kernel_rfl) (fun _ _ _ h => h) (Or.inl ⟨by rfl, ?hy2⟩) HS ?_
  case hy2 => ((intro u' hT; have d1 := (RB.out.later hT).c0; go_simp); try with_reducible rfl)
  try simp only [List.getElem_toArray, List.getElem_cons_succ, List.getElem_cons_zero, Act.put, List.setIfInBounds_toArray, List.set_cons_zero, List.set_cons_succ]
  refine GoS.pure (i := 3) (v := ?_) rfl (by kernel_rfl) (by kernel_rfl) (by kernel_rfl) (by kernel_rfl) (fun _ _ _ h => h) (Or.inl ⟨by rfl, ?hy3⟩) (fun _ => HS) ?_
  case hy3 => ((intro u' hT; go_simp); try with_reducible rfl)
  try simp only [List.getElem_toArray, List.getElem_cons_succ, List.getElem_cons_zero, Act.put, List.setIfInBounds_toArray, List.set_cons_zero, List.set_cons_succ]
  refine GoS.take (i := 4) (v := ?_) rfl (by kernel_rfl) (by kernel_rfl) (by kernel_rfl) (by kernel_rfl) (fun _ _ _ h => h) (Or.inl ⟨by rfl, ?hy4⟩) HS ?_
  case hy4 => ((intro u' hT; have d1 := (RB.out.later hT).c1; go_simp); try with_reducible rfl)
  try simp only [List.getElem_toArray, List.getElem_cons_succ, List.getElem_cons_zero, Act.put, List.setIfInBounds_toArray, List.set_cons_zero, List.set_cons_succ]
  refine GoS.one (i := 2) (by kernel_rfl) rfl (fun K hK => ?_)
  go_simp
  (with_reducible refine (small_nat D HD.out _).mono ?_)
  rintro e q5 ⟨v1, rfl, hv, hx⟩
  have HS2 := HS.trans hx; clear HS; have HS := HS2; clear HS2 hx
  go_wp2_with fail
  refine hK.out _ _ HS (fun _ => ?_)
  clear hK K
  try simp only [List.getElem_toArray, List.getElem_cons_succ, List.getElem_cons_zero, Act.put, List.setIfInBounds_toArray, List.set_cons_zero, List.set_cons_succ]
  have V1 := Lib.hid hv; clear hv
  refine GoS.one (i := 5) (by kernel_rfl) rfl (fun K hK => ?_)
  go_simp
  (with_reducible refine (HH.out _).mono ?_)
  rintro e q6 ⟨v2, rfl, hv, hx⟩
  have V1b := Lib.hid (V1.out.later hx); clear V1
  have HS2 := HS.trans hx; clear HS; have HS := HS2; clear HS2 hx
  go_wp2_with fail
  refine hK.out _ _ HS (fun _ => ?_)
  clear hK K
  try simp only [List.getElem_toArray, List.getElem_cons_succ, List.getElem_cons_zero, Act.put, List.setIfInBounds_toArray, List.set_cons_zero, List.set_cons_succ]
  have V2 := Lib.hid hv; clear hv
  refine GoS.one (i := 6) (by kernel_rfl) rfl (fun K hK => ?_)
  go_simp
  (with_reducible refine (nmul_any V1b.out V2.out HF.out).mono ?_)
  rintro e q7 ⟨v3, rfl, hv, hx⟩
  have HS2 := HS.trans hx; clear HS; have HS := HS2; clear HS2 hx
  go_wp2_with fail
  refine hK.out _ _ HS (fun _ => ?_)
  clear hK K
  try simp only [List.getElem_toArray, List.getElem_cons_succ, List.getElem_cons_zero, Act.put, List.setIfInBounds_toArray, List.set_cons_zero, List.set_cons_succ]
  have V3 := Lib.hid hv; clear hv V1b V2
  refine GoS.one (i := 7) (by kernel_rfl) rfl (fun K hK => ?_)
  go_simp
  (with_reducible refine (S1.out _).mono ?_)
  rintro e q8 ⟨v4, rfl, hv, hx⟩
  have V1b := Lib.hid (V3.out.later hx); clear V3
  have HS2 := HS.trans hx; clear HS; have HS := HS2; clear HS2 hx
  go_wp2_with fail
  refine hK.out _ _ HS (fun _ => ?_)
  clear hK K
  try simp only [List.getElem_toArray, List.getElem_cons_succ, List.getElem_cons_zero, Act.put, List.setIfInBounds_toArray, List.set_cons_zero, List.set_cons_succ]
  have V2 := Lib.hid hv; clear hv
  obtain ⟨a3, L3, C3, rfl⟩ := V1b.out.shape
  obtain ⟨a4, L4, C4, rfl⟩ := V2.out.shape
  refine GoS.pure (i := 8) (v := ?_) rfl (by kernel_rfl) (by kernel_rfl) (by kernel_rfl) (by kernel_rfl) (fun _ _ _ h => h) (Or.inl ⟨by rfl, ?hy9⟩) (fun _ => HS) ?_
  case hy9 => ((intro u' hT; go_simp); try with_reducible rfl)
  try simp only [List.getElem_toArray, List.getElem_cons_succ, List.getElem_cons_zero, Act.put, List.setIfInBounds_toArray, List.set_cons_zero, List.set_cons_succ]
  have ZB2 := Lib.hid (ZB.out.later HS)
  have z0 := ZB2.out.c0; have z1 := ZB2.out.c1; have z2 := ZB2.out.c2; have zf := ZB2.out.fz
  refine GoS.store (i := 9) (by kernel_rfl) rfl (by kernel_rfl) (fun K hK => ?_)
  go_simp
  refine hK.out _ _ ?_
  clear hK K
  try simp only [List.getElem_toArray, List.getElem_cons_succ, List.getElem_cons_zero, Act.put, List.setIfInBounds_toArray, List.set_cons_zero, List.set_cons_succ]
  refine GoS.done (by kernel_rfl) ?_
  have XX := Lib.hid (X0.out.trans HS)
  have X9 : Ext w (((q8.setCell ⟨w.heap.size + 1, 0, none⟩ (.bool false)).setCell ⟨w.heap.size + 1, 1, none⟩ (.slice a3 L3 C3)).setCell ⟨w.heap.size + 1, 2, none⟩ (.slice a4 L4 C4)) := ((XX.out.setCell (by simp) _).setCell (by simp) _).setCell (by simp) _
  have U3 := Lib.hid (ZB2.out.aside V1b.out (.bool false) (.slice a3 L3 C3) (.slice a4 L4 C4) rfl rfl rfl)
  have U4 := Lib.hid (ZB2.out.aside V2.out (.bool false) (.slice a3 L3 C3) (.slice a4 L4 C4) rfl rfl rfl)
  have X8 := Lib.hid X9; clear X9
  go_wp2
  refine bodyPost_ret (v := .agg #[.bool false, .slice a3 L3 C3, .slice a4 L4 C4]) ?_ rfl ⟨⟨_, _, _, _, _, _, rfl, ?_, ?_⟩, ?_⟩
  · simp [results, Tryz.results120, go_sem, z0, z1, z2]
  · exact U3.out
  · exact U4.out
  · exact X8.out
set_option maxRecDepth 100000 in
set_option maxHeartbeats 4000000 in
theorem ex_neg (D X : Nat) (K : Int) (Z : Int) (g1 : ¬ K ≥ 0) (_g2 : wrap64 (0 - K) = Z) (_g3 : IntKind.i64.wrap (0 - K) = Z) (_g4 : wrap64 (-K) = Z) (g5 : IntKind.i64.wrap (-K) = Z) (hD : D < 9223372036854775808) (HT : NatTo 88 #[.int .i64 Z] X) (w : World) :
    Calls Tryz.prog 120 #[.agg #[.int .i64 (D : Int), .int .i64 K]] w fun e w' => QEnd e w' false (D) (X) ∧ Ext w w' := by
  have HD := Lib.hid hD; have HH := Lib.hid HT; clear hD HT
  go_enter Tryz.func120, Tryz.ntmps120
  go_upto_region 1 with (fail)
  have X0 : Hid (Ext w ((w.alloc (.cells #[.int .i64 (D : Int), .int .i64 K] 102)).alloc (.cells #[.bool false, .slice none 0 0, .slice none 0 0] 73))) := Lib.hid (((Ext.refl w).alloc _).alloc _)
  have RB : Hid (Rc ((w.alloc (.cells #[.int .i64 (D : Int), .int .i64 K] 102)).alloc (.cells #[.bool false, .slice none 0 0, .slice none 0 0] 73)) w.heap.size (D : Int) K) := Lib.hid ⟨by simp [go_sem], by simp [go_sem]⟩
  have ZB : Hid (Ob ((w.alloc (.cells #[.int .i64 (D : Int), .int .i64 K] 102)).alloc (.cells #[.bool false, .slice none 0 0, .slice none 0 0] 73)) (w.heap.size + 1)) := Lib.hid ⟨by simp [go_sem], by simp [go_sem], by simp [go_sem], fun j hj => by obtain ⟨i, rfl⟩ : ∃ i, j = i + 3 := ⟨j - 3, by omega⟩; simp [go_sem], fun j => by simp [go_sem], by simp [go_sem]⟩
  generalize ((w.alloc (.cells #[.int .i64 (D : Int), .int .i64 K] 102)).alloc (.cells #[.bool false, .slice none 0 0, .slice none 0 0] 73)) = W at *
  have g0 := RB.out.c0; have g9 := RB.out.c1
  go_upto_region 3 with (fail)
  clear g0 g9
  refine wp_region_S (fun uu : World => Ext W uu) 8 (by kernel_rfl) ?_
  have HS : Ext W W.drew := (Ext.refl W).drew
  refine GoS.pure (i := 0) (v := ?_) rfl (by kernel_rfl) (by kernel_rfl) (by kernel_rfl) (by kernel_rfl) (fun _ _ _ h => h) (Or.inl ⟨by rfl, ?hy10⟩) (fun _ => HS) ?_
  case hy10 => ((intro u' hT; go_simp); try with_reducible rfl)
  try simp only [List.getElem_toArray, List.getElem_cons_zero, Act.put, List.setIfInBounds_toArray, List.set_cons_zero, List.set_cons_succ]
  refine GoS.take (i := 1) (v := ?_) rfl (by kernel_rfl) (by kernel_rfl) (by kernel_rfl) (by kernel_rfl) (fun _ _ _ h => h) (Or.inl ⟨by rfl, ?hy11⟩) HS ?_
  case hy11 => ((intro u' hT; have d1 := (RB.out.later hT).c0; go_simp); try with_reducible rfl)
  try simp only [List.getElem_toArray, List.getElem_cons_succ, List.getElem_cons_zero, Act.put, List.setIfInBounds_toArray, List.set_cons_zero, List.set_cons_succ]
  refine GoS.pure (i := 3) (v := ?_) rfl (by kernel_rfl) (by kernel_rfl) (by kernel_rfl) (by kernel_rfl) (fun _ _ _ h => h) (Or.inl ⟨by rfl, ?hy12⟩) (fun _ => HS) ?_
  case hy12 => ((intro u' hT; go_simp); try with_reducible rfl)
  try simp only [List.getElem_toArray, List.getElem_cons_succ, List.getElem_cons_zero, Act.put, List.setIfInBounds_toArray, List.set_cons_zero, List.set_cons_succ]
  refine GoS.take (i := 4) (v := ?_) rfl (by kernel_rfl) (by kernel_rfl) (by kernel_rfl) (by kernel_rfl) (fun _ _ _ h => h) (Or.inl ⟨by rfl, ?hy13⟩) HS ?_
  case hy13 => ((intro u' hT; have d1 := (RB.out.later hT).c1; go_simp); try with_reducible rfl)
  try simp only [List.getElem_toArray, List.getElem_cons_succ, List.getElem_cons_zero, Act.put, List.setIfInBounds_toArray, List.set_cons_zero, List.set_cons_succ]
  refine GoS.pure (i := 5) (v := ?_) rfl (by kernel_rfl) (by kernel_rfl) (by kernel_rfl) (by kernel_rfl) (fun _ _ _ h => h) (Or.inl ⟨by rfl, ?hy14⟩) (fun _ => HS) ?_
  case hy14 => ((intro u' hT; go_simp); try with_reducible rfl)
  try simp only [List.getElem_toArray, List.getElem_cons_succ, List.getElem_cons_zero, Act.put, List.setIfInBounds_toArray, List.set_cons_zero, List.set_cons_succ]
  refine GoS.one (i := 2) (by kernel_rfl) rfl (fun K hK => ?_)
  go_simp
  (with_reducible refine (small_nat D HD.out _).mono ?_)
  rintro e q15 ⟨v1, rfl, hv, hx⟩
  have HS2 := HS.trans hx; clear HS; have HS := HS2; clear HS2 hx
  go_wp2_with fail
  refine hK.out _ _ HS (fun _ => ?_)
  clear hK K
  try simp only [List.getElem_toArray, List.getElem_cons_succ, List.getElem_cons_zero, Act.put, List.setIfInBounds_toArray, List.set_cons_zero, List.set_cons_succ]
  have V1 := Lib.hid hv; clear hv
  refine GoS.one (i := 6) (by kernel_rfl) rfl (fun K hK => ?_)
  go_simp
  (with_reducible refine (HH.out _).mono ?_)
  rintro e q16 ⟨v2, rfl, hv, hx⟩
  have V1b := Lib.hid (V1.out.later hx); clear V1
  have HS2 := HS.trans hx; clear HS; have HS := HS2; clear HS2 hx
  go_wp2_with fail
  refine hK.out _ _ HS (fun _ => ?_)
  clear hK K
  try simp only [List.getElem_toArray, List.getElem_cons_succ, List.getElem_cons_zero, Act.put, List.setIfInBounds_toArray, List.set_cons_zero, List.set_cons_succ]
  have V2 := Lib.hid hv; clear hv
  obtain ⟨a3, L3, C3, rfl⟩ := V1b.out.shape
  obtain ⟨a4, L4, C4, rfl⟩ := V2.out.shape
  refine GoS.pure (i := 7) (v := ?_) rfl (by kernel_rfl) (by kernel_rfl) (by kernel_rfl) (by kernel_rfl) (fun _ _ _ h => h) (Or.inl ⟨by rfl, ?hy17⟩) (fun _ => HS) ?_
  case hy17 => ((intro u' hT; go_simp); try with_reducible rfl)
  try simp only [List.getElem_toArray, List.getElem_cons_succ, List.getElem_cons_zero, Act.put, List.setIfInBounds_toArray, List.set_cons_zero, List.set_cons_succ]
  have ZB2 := Lib.hid (ZB.out.later HS)
  have z0 := ZB2.out.c0; have z1 := ZB2.out.c1; have z2 := ZB2.out.c2; have zf := ZB2.out.fz
  refine GoS.store (i := 8) (by kernel_rfl) rfl (by kernel_rfl) (fun K hK => ?_)
  go_simp
  refine hK.out _ _ ?_
  clear hK K
  try simp only [List.getElem_toArray, List.getElem_cons_succ, List.getElem_cons_zero, Act.put, List.setIfInBounds_toArray, List.set_cons_zero, List.set_cons_succ]
  refine GoS.done (by kernel_rfl) ?_
  have XX := Lib.hid (X0.out.trans HS)
  have X9 : Ext w (((q16.setCell ⟨w.heap.size + 1, 0, none⟩ (.bool false)).setCell ⟨w.heap.size + 1, 1, none⟩ (.slice a3 L3 C3)).setCell ⟨w.heap.size + 1, 2, none⟩ (.slice a4 L4 C4)) := ((XX.out.setCell (by simp) _).setCell (by simp) _).setCell (by simp) _
  have U3 := Lib.hid (ZB2.out.aside V1b.out (.bool false) (.slice a3 L3 C3) (.slice a4 L4 C4) rfl rfl rfl)
  have U4 := Lib.hid (ZB2.out.aside V2.out (.bool false) (.slice a3 L3 C3) (.slice a4 L4 C4) rfl rfl rfl)
  have X8 := Lib.hid X9; clear X9
  go_wp2
  refine bodyPost_ret (v := .agg #[.bool false, .slice a3 L3 C3, .slice a4 L4 C4]) ?_ rfl ⟨⟨_, _, _, _, _, _, rfl, ?_, ?_⟩, ?_⟩
  · simp [results, Tryz.results120, go_sem, z0, z1, z2]
  · exact U3.out
  · exact U4.out
  · exact X8.out
/-- A decimal is an exact number. -/
abbrev ExTo (D : Nat) (K : Int) : Prop := ∀ w, Calls Tryz.prog 120 #[.agg #[.int .i64 (D : Int), .int .i64 K]] w fun e w' => QEnd e w' false (D * tenU K) (tenD K) ∧ Ext w w'
theorem dec_exact {D : Nat} {K : Int} (hD : D ≤ 2000000000000) (h1 : -500 ≤ K) (h2 : K ≤ 500) : ExTo D K := by
  unfold ExTo tenU tenD
  by_cases h : K ≥ 0
  · obtain ⟨k, rfl⟩ : ∃ k : Nat, K = (k : Int) := ⟨K.toNat, by omega⟩
    rw [show (-((k : Nat) : Int)).toNat = 0 by omega, Nat.pow_zero, Int.toNat_natCast]
    have hf : Fits (D * 10 ^ k) := (fits_mul (a := 41) (b := 4 * k + 1) (by omega) (ten_fits (by omega)).1 (by omega)).2
    exact fun w => ex_pos D (10 ^ k) k h (by omega) hf (ten_nat (by omega)) w
  · obtain ⟨k, rfl⟩ : ∃ k : Nat, K = -(k : Int) := ⟨(-K).toNat, by omega⟩
    rw [show (-((k : Nat) : Int)).toNat = 0 by omega, Nat.pow_zero, Nat.mul_one, show (-(-((k : Nat) : Int))).toNat = k by omega]
    have e : 0 - -(k : Int) = (k : Int) := by omega
    have e2 : - -(k : Int) = (k : Int) := by omega
    have g1 : wrap64 (k : Int) = (k : Int) := by unfold wrap64; omega
    have g2 : IntKind.i64.wrap (k : Int) = (k : Int) := IntWalk.i64_in _ ⟨by omega, by omega⟩
    exact fun w => ex_neg D (10 ^ k) _ k h (by rw [e]; exact g1) (by rw [e]; exact g2) (by rw [e2]; exact g1) (by rw [e2]; exact g2) (by omega) (ten_nat (by omega)) w
end Go.Proofs.YtogfiekbikechaaGreatDoor
