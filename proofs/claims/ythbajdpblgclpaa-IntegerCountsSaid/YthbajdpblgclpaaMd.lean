/- Layer 1: plain facts on loops. -/
import Derived.Test.YthbajdpblgclpaaMc
namespace Go.Proofs.Ythbajdpblgclpaa

def trE (f s l : Int) : Int := if okB f && (okB s && okB l) then (if s = 0 then 5 else 0) else 1
def trZ (f s l : Int) : Bool := decide (0 < s ∧ l < f) || decide (s < 0 ∧ f < l)
def trN (f s l : Int) : Int := if trE f s l = 0 then (if trZ f s l then 0 else (l - f).tdiv s + 1) else 0
def trO (f s l : Int) : Bool := decide (trE f s l = 0) && !okB (f + trN f s l * s)
theorem trE_3 (f s l : Int) : trE f s l = 0 ∨ trE f s l = 1 ∨ trE f s l = 5 := by
  unfold trE; cases okB f <;> cases okB s <;> cases okB l <;> simp; by_cases h : s = 0 <;> simp [h]
theorem trE_0 {f s l : Int} (h : trE f s l = 0) : okB f = true ∧ okB s = true ∧ okB l = true ∧ s ≠ 0 := by
  unfold trE at h
  cases h1 : okB f <;> cases h2 : okB s <;> cases h3 : okB l <;> simp [h1, h2, h3] at h
  exact ⟨rfl, rfl, rfl, h⟩
theorem trE_5 {f s l : Int} (h : trE f s l = 5) : okB f = true ∧ okB s = true ∧ okB l = true ∧ s = 0 := by
  unfold trE at h
  cases h1 : okB f <;> cases h2 : okB s <;> cases h3 : okB l <;> simp [h1, h2, h3] at h
  exact ⟨rfl, rfl, rfl, h⟩
theorem trE_1 {f s l : Int} (h : trE f s l = 1) : okB f = false ∨ (okB f = true ∧ okB s = false) ∨ (okB f = true ∧ okB s = true ∧ okB l = false) := by
  unfold trE at h
  cases h1 : okB f <;> cases h2 : okB s <;> cases h3 : okB l <;> simp [h1, h2, h3] at h ⊢
  split at h <;> omega
theorem trE_mk {f s l : Int} (h1 : okB f = true) (h2 : okB s = true) (h3 : okB l = true) (h4 : s ≠ 0) : trE f s l = 0 := by simp [trE, h1, h2, h3, h4]
/-- What is known of the quotient of a loop that has a term. -/
structure TripAt (f s l q r : Int) : Prop where
  hq : (l - f).tdiv s = q
  hr : (l - f).tmod s = r
  qb : q * s = l - f - r
  qb1 : (q + 1) * s = l - f - r + s
  q1 : 0 ≤ q
  q2 : q ≤ 4294967294
  r3 : 0 < s → 0 ≤ r ∧ r < s
  r4 : s < 0 → s < r ∧ r ≤ 0
  z : q = 0 → r = l - f
  p : q ≠ 0 → (0 < s → f + s ≤ l) ∧ (s < 0 → l ≤ f + s)
theorem tripAt {f s l : Int} (h1 : okB f = true) (h3 : okB l = true) (hs : s ≠ 0) (hz : trZ f s l = false) : ∃ q r, TripAt f s l q r := by
  have g1 := okB_t.1 h1
  have g3 := okB_t.1 h3
  have hz' : ¬ (0 < s ∧ l < f) ∧ ¬ (s < 0 ∧ f < l) := by
    unfold trZ at hz; simp at hz; omega
  have e : (l - f).tdiv s * s = l - f - (l - f).tmod s := by have := Int.tdiv_mul_add_tmod (l - f) s; omega
  have hl : ((l - f).tdiv s).natAbs ≤ (l - f).natAbs := by rw [Int.natAbs_tdiv]; exact Nat.div_le_self _ _
  have hm : ((l - f).tmod s).natAbs < s.natAbs := by rw [Int.natAbs_tmod]; exact Nat.mod_lt _ (by omega)
  have hq0 : 0 ≤ (l - f).tdiv s := by
    rcases Int.lt_or_gt_of_ne hs with h | h
    · rw [← Int.neg_tdiv_neg]; exact Int.tdiv_nonneg (by omega) (by omega)
    · exact Int.tdiv_nonneg (by omega) (by omega)
  have hr1 : 0 < s → 0 ≤ (l - f).tmod s := fun h => Int.tmod_nonneg _ (by omega)
  have hr2 : s < 0 → (l - f).tmod s ≤ 0 := fun h => by
    have := Int.tmod_nonneg s (a := -(l - f)) (by omega)
    rw [Int.neg_tmod] at this; omega
  refine ⟨(l - f).tdiv s, (l - f).tmod s, rfl, rfl, e, by rw [Int.add_mul, e, Int.one_mul], hq0, by omega, fun h => ⟨hr1 h, by omega⟩, fun h => ⟨by omega, hr2 h⟩, fun h => by rw [h] at e; omega, fun h => ?_⟩
  generalize hQ : (l - f).tdiv s = q at *
  generalize hR : (l - f).tmod s = r at *
  have hq1 : 1 ≤ q := by omega
  constructor
  · intro hp
    have := Int.mul_le_mul_of_nonneg_right hq1 (show 0 ≤ s by omega)
    have := hr1 hp
    omega
  · intro hp
    have := Int.mul_le_mul_of_nonneg_right hq1 (show 0 ≤ -s by omega)
    have h2 := hr2 hp
    simp only [Int.mul_neg, Int.one_mul] at this
    omega

/-- A loop that begins one step later has one trip less. -/
theorem trips_next {f s l : Int} (h : trE f s l = 0) (hz : trZ f s l = false) (ha : addE f s = 0) :
    trE (addV f s) s l = 0 ∧ trN (addV f s) s l = trN f s l - 1 ∧ trO (addV f s) s l = trO f s l := by
  obtain ⟨h1, h2, h3, h4⟩ := trE_0 h
  obtain ⟨_, _, k3⟩ := addE_0 ha
  obtain ⟨q, r, hq, hr, qb, qb1, q1, q2, r3, r4, z, p⟩ := tripAt h1 h3 h4 hz
  rw [addV_0 ha]
  have e := trE_mk k3 h2 h3 h4
  have n0 : trN f s l = q + 1 := by simp only [trN, h, hz, hq]; simp
  have o0 : trO f s l = !okB (f + (q + 1) * s) := by simp only [trO, h, n0]; simp
  by_cases hq0 : q = 0
  · have hr' := z hq0
    have zz : trZ (f + s) s l = true := by
      unfold trZ; simp
      rcases Int.lt_or_gt_of_ne h4 with x | x
      · have := r4 x; omega
      · have := r3 x; omega
    have n1 : trN (f + s) s l = 0 := by simp [trN, e, zz]
    have o1 : trO (f + s) s l = false := by simp [trO, e, n1, k3]
    refine ⟨e, by rw [n1, n0]; omega, ?_⟩
    rw [o1, o0, hq0, show f + (0 + 1) * s = f + s by omega, k3]; rfl
  · obtain ⟨p1, p2⟩ := p hq0
    have zz : trZ (f + s) s l = false := by
      unfold trZ; simp
      constructor
      · intro x; have := p1 x; omega
      · intro x; have := p2 x; omega
    have hq' : (l - (f + s)).tdiv s = q - 1 := by
      have m1 : (q - 1) * s = l - (f + s) - r := by rw [Int.sub_mul, qb, Int.one_mul]; omega
      have e1 : l - (f + s) = (q - 1) * s + r := by omega
      rw [e1]
      rcases Int.lt_or_gt_of_ne h4 with x | x
      · have := r4 x
        rw [← Int.neg_tdiv_neg, show -((q - 1) * s + r) = -r + (q - 1) * (-s) by rw [Int.mul_neg]; omega, Int.tdiv_eq_ediv_of_nonneg (by rw [Int.mul_neg]; have := p2 x; omega), Int.add_mul_ediv_right _ _ (by omega), Int.ediv_eq_zero_of_lt (by omega) (by omega)]; omega
      · have := r3 x
        rw [show (q - 1) * s + r = r + (q - 1) * s by omega, Int.tdiv_eq_ediv_of_nonneg (by have := p1 x; omega), Int.add_mul_ediv_right _ _ (by omega), Int.ediv_eq_zero_of_lt (by omega) (by omega)]; omega
    have n1 : trN (f + s) s l = q := by simp only [trN, e, zz, hq']; simp
    have o1 : trO (f + s) s l = !okB (f + s + q * s) := by simp only [trO, e, n1]; simp
    refine ⟨e, by rw [n1, n0]; omega, ?_⟩
    rw [o1, o0, show f + (q + 1) * s = f + s + q * s by rw [Int.add_mul, Int.one_mul]; omega]
/-- Where the next term is out of range, there is one trip. -/
theorem trips_last {f s l : Int} (h : trE f s l = 0) (hz : trZ f s l = false) (ha : addE f s ≠ 0) : trN f s l = 1 ∧ trO f s l = true := by
  obtain ⟨h1, h2, h3, h4⟩ := trE_0 h
  obtain ⟨q, r, hq, hr, qb, qb1, q1, q2, r3, r4, z, p⟩ := tripAt h1 h3 h4 hz
  have hn : okB (f + s) = false := by
    rcases Bool.eq_false_or_eq_true (okB (f + s)) with x | x
    · exact absurd (by rw [(addV_ok h1 h2).2, (fit_ok x).2]) ha
    · exact x
  have g3 := okB_t.1 h3
  have g1 := okB_t.1 h1
  have hn' := okB_f.1 hn
  have hq0 : q = 0 := by
    rcases Decidable.em (q = 0) with x | x
    · exact x
    · obtain ⟨p1, p2⟩ := p x; omega
  have n0 : trN f s l = 1 := by simp only [trN, h, hz, hq, hq0]; simp
  refine ⟨n0, ?_⟩
  simp only [trO, h, n0, Int.one_mul, hn]; simp
theorem trips_cmp {f s l : Int} (h : trE f s l = 0) : (cmpV f l = sgnV s) ↔ trN f s l = 0 := by
  obtain ⟨h1, h2, h3, h4⟩ := trE_0 h
  have e1 : cmpV f l = cmpI f l := by simp [cmpV, h1, h3]
  have e2 : sgnV s = cmpI s 0 := by simp [sgnV, h2]
  rw [e1, e2]
  rcases Bool.eq_false_or_eq_true (trZ f s l) with hz | hz
  · have n0 : trN f s l = 0 := by simp [trN, h, hz]
    rw [n0]
    unfold trZ at hz; simp at hz
    unfold cmpI
    repeat' split <;> omega
  · obtain ⟨q, r, hq, hr, qb, qb1, q1, q2, r3, r4, z, p⟩ := tripAt h1 h3 h4 hz
    have n0 : trN f s l = q + 1 := by simp only [trN, h, hz, hq]; simp
    rw [n0]
    unfold trZ at hz; simp at hz
    unfold cmpI
    repeat' split <;> omega
theorem trN_nonneg (f s l : Int) : 0 ≤ trN f s l := by
  unfold trN; split
  · rename_i h
    split
    · omega
    · rename_i hz
      obtain ⟨h1, h2, h3, h4⟩ := trE_0 h
      obtain ⟨q, r, hq, hr, qb, qb1, q1, q2, r3, r4, z, p⟩ := tripAt h1 h3 h4 (by simpa using hz)
      omega
  · omega
theorem trZ_0 {f s l : Int} (h : trE f s l = 0) : trZ f s l = true ↔ trN f s l = 0 := by
  rcases Bool.eq_false_or_eq_true (trZ f s l) with hz | hz
  · simp [trN, h, hz]
  · obtain ⟨h1, h2, h3, h4⟩ := trE_0 h
    obtain ⟨q, r, hq, hr, qb, qb1, q1, q2, r3, r4, z, p⟩ := tripAt h1 h3 h4 hz
    simp only [trN, h, hz, hq]; simp; omega
end Go.Proofs.Ythbajdpblgclpaa
