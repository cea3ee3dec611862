/- Layer 2: the digits that Print writes: they end, and their number is near enough (no program here). -/
import Derived.Test.YthmndafjogndaaaGreatDoorKe
namespace Go.Proofs.YthmndafjogndaaaGreatDoor

/-- The number that digits are (a last one may be 10). -/
def valD (l : List Nat) : Nat := l.foldl (fun n d => n * 10 + d) 0
theorem valD_from (l : List Nat) : ∀ a, l.foldl (fun n d => n * 10 + d) a = a * 10 ^ l.length + valD l := by
  induction l with
  | nil => intro a; simp [valD]
  | cons d l ih =>
    intro a
    unfold valD
    rw [List.foldl_cons, List.foldl_cons, ih, ih (0 * 10 + d), List.length_cons, Nat.pow_succ]
    rw [Nat.add_mul, Nat.zero_mul, Nat.zero_add, Nat.mul_assoc, Nat.mul_comm 10, Nat.add_assoc]
theorem valD_cons (d : Nat) (l : List Nat) : valD (d :: l) = d * 10 ^ l.length + valD l := by
  show l.foldl _ (0 * 10 + d) = _
  rw [valD_from, Nat.zero_mul, Nat.zero_add]
theorem valD_snoc (l : List Nat) (d : Nat) : valD (l ++ [d]) = valD l * 10 + d := by unfold valD; rw [List.foldl_append]; rfl
/-- N lies within the marks of V places of size S. -/
def InI (even : Bool) (N V S B A : Nat) : Prop := (N < V * S + B ∨ N = V * S + B ∧ even = true) ∧ (V * S < N + A ∨ V * S = N + A ∧ even = true)
/-- N lies above the mark of V. -/
def OutI (even : Bool) (N V S B : Nat) : Prop := V * S + B < N ∨ V * S + B = N ∧ even = false
theorem scale_eq (d S r q V : Nat) : (d * S + r) * q = d * q * S + r * q ∧ (d * q + V) * S = d * q * S + V * S := by
  constructor
  · rw [Nat.add_mul, Nat.mul_right_comm]
  · rw [Nat.add_mul]
theorem InI.up {even : Bool} {r V S B A q d : Nat} (h : InI even (r * q) V S B A) : InI even ((d * S + r) * q) (d * q + V) S B A := by
  obtain ⟨e1, e2⟩ := scale_eq d S r q V
  unfold InI at *
  rw [e1, e2]
  obtain ⟨h1, h2⟩ := h
  refine ⟨?_, ?_⟩
  · rcases h1 with h1 | ⟨h1, h3⟩
    · exact .inl (by omega)
    · exact .inr ⟨by omega, h3⟩
  · rcases h2 with h2 | ⟨h2, h3⟩
    · exact .inl (by omega)
    · exact .inr ⟨by omega, h3⟩
theorem OutI.up {even : Bool} {r V S B q d : Nat} (h : OutI even (r * q) V S B) : OutI even ((d * S + r) * q) (d * q + V) S B := by
  obtain ⟨e1, e2⟩ := scale_eq d S r q V
  unfold OutI at *
  rw [e1, e2]
  rcases h with h | ⟨h, h3⟩
  · exact .inl (by omega)
  · exact .inr ⟨by omega, h3⟩
theorem dnB_iff {even : Bool} {r bl : Nat} : dnB even r bl = true ↔ (r < bl ∨ r = bl ∧ even = true) := by unfold dnB; simp
theorem hiB_iff {even : Bool} {ra S : Nat} : hiB even ra S = true ↔ (S < ra ∨ ra = S ∧ even = true) := by unfold hiB; simp
theorem inc_hi {even : Bool} {S d r bl ab : Nat} (h : incB even S d r bl ab = true) (hm : (r + ab) % M384 = r + ab) : S < r + ab ∨ r + ab = S ∧ even = true := by
  unfold incB at h
  rw [hm] at h
  split at h
  · rename_i c
    rw [Bool.and_eq_true] at c
    exact hiB_iff.1 c.2
  · exact hiB_iff.1 h
theorem inc_stop {even : Bool} {S d r bl ab : Nat} (h : stopB even S d r bl ab = false) (hm : (r + ab) % M384 = r + ab) : (bl < r ∨ bl = r ∧ even = false) ∧ (r + ab < S ∨ r + ab = S ∧ even = false) := by
  unfold stopB at h
  rw [Bool.or_eq_false_iff] at h
  obtain ⟨h1, h2⟩ := h
  unfold incB at h2
  rw [h1, Bool.false_and, hm] at h2
  have n1 : ¬ (r < bl ∨ r = bl ∧ even = true) := fun c => by rw [dnB_iff.2 c] at h1; cases h1
  have n2 : ¬ (S < r + ab ∨ r + ab = S ∧ even = true) := fun c => by simp [hiB_iff.2 c] at h2
  cases even
  · simp at n1 n2 ⊢; omega
  · simp at n1 n2 ⊢; omega
theorem stop_in {even : Bool} {S d r bl ab : Nat} (h : stopB even S d r bl ab = true) (hm : (r + ab) % M384 = r + ab) (hr : r < S) (ha : 0 < ab) :
    (incB even S d r bl ab = true → InI even (d * S + r) (d + 1) S bl ab) ∧ (incB even S d r bl ab = false → InI even (d * S + r) d S bl ab ∧ (r < bl ∨ r = bl ∧ even = true)) := by
  constructor
  · intro hi
    have := inc_hi hi hm
    unfold InI
    rw [Nat.add_mul, Nat.one_mul]
    refine ⟨.inl (by omega), ?_⟩
    rcases this with c | ⟨c, e⟩
    · exact .inl (by omega)
    · exact .inr ⟨by omega, e⟩
  · intro hi
    unfold stopB at h
    rw [hi, Bool.or_false] at h
    have := dnB_iff.1 h
    refine ⟨?_, this⟩
    unfold InI
    refine ⟨?_, .inl (by omega)⟩
    rcases this with c | ⟨c, e⟩
    · exact .inl (by omega)
    · exact .inr ⟨by omega, e⟩
/-- What the digits are. -/
structure Short (even : Bool) (S f num below above : Nat) (t : List Nat) (g : Nat) : Prop where
  eq : shortL even S f num below above = t ++ [g]
  done : shortDone even S f num below above = true
  nine : ∀ d, d ∈ t → d ≤ 9
  one : 1 ≤ g
  ten : g ≤ 9 ∨ g = 10 ∧ t = [] ∧ ¬ (num + above < S ∨ num + above = S ∧ even = false)
  inI : InI even (num * 10 ^ (t.length + 1)) (valD (t ++ [g])) S (below * 10 ^ (t.length + 1)) (above * 10 ^ (t.length + 1))
  out : OutI even (num * 10 ^ (t.length + 1)) (valD t * 10) S (below * 10 ^ (t.length + 1))
theorem short_setup {S num below above : Nat} (hS : 16 * S ≤ M384) (hS0 : 0 < S) (h1 : num < S) (h2 : below ≤ S) (h3 : above ≤ S) :
    num * 10 % M384 = num * 10 ∧ below * 10 % M384 = below * 10 ∧ above * 10 % M384 = above * 10 ∧ num * 10 = (num * 10 / S) * S + num * 10 % S ∧ num * 10 % S < S ∧ num * 10 / S ≤ 9 ∧ (num * 10 % S + above * 10) % M384 = num * 10 % S + above * 10 := by
  have d1 := Nat.div_add_mod (num * 10) S
  have d2 := Nat.mod_lt (num * 10) hS0
  have d3 : num * 10 / S ≤ 9 := by
    have : num * 10 / S < 10 := Nat.div_lt_of_lt_mul (by omega)
    omega
  rw [Nat.mul_comm S] at d1
  refine ⟨Nat.mod_eq_of_lt (by omega), Nat.mod_eq_of_lt (by omega), Nat.mod_eq_of_lt (by omega), d1.symm, d2, d3, Nat.mod_eq_of_lt ?_⟩
  generalize num * 10 % S = r at *
  omega
theorem short_halt {even : Bool} {S : Nat} (hS : 16 * S ≤ M384) (hS0 : 0 < S) (f num below above : Nat) (h1 : num < S) (h2 : below ≤ S) (h3 : above ≤ S) (h4 : 0 < above) (h5 : below < num ∨ below = num ∧ even = false)
    (hst : stopB even S (num * 10 / S) (num * 10 % S) (below * 10) (above * 10) = true) : Short even S (f + 1) num below above [] (digB even S (num * 10 / S) (num * 10 % S) (below * 10) (above * 10)) := by
  obtain ⟨m1, m2, m3, e, r1, d1, m4⟩ := short_setup hS hS0 h1 h2 h3
  obtain ⟨i1, i2⟩ := stop_in hst m4 r1 (by omega)
  have q1 : shortL even S (f + 1) num below above = [] ++ [digB even S (num * 10 / S) (num * 10 % S) (below * 10) (above * 10)] := by
    rw [shortL_succ]
    simp only [m1, m2, m3]
    rw [if_pos hst]
    rfl
  have q2 : shortDone even S (f + 1) num below above = true := by
    unfold shortDone
    rw [m1, m2, m3, hst]
    rfl
  rw [← e] at i1 i2
  generalize hd : num * 10 / S = d at *
  generalize hr : num * 10 % S = r at *
  have e1 : num * 10 ^ (([] : List Nat).length + 1) = num * 10 := rfl
  have e2 : below * 10 ^ (([] : List Nat).length + 1) = below * 10 := rfl
  have e3 : above * 10 ^ (([] : List Nat).length + 1) = above * 10 := rfl
  have e4 : ∀ g, valD ([] ++ [g]) = g := fun g => by simp [valD]
  have e5 : valD [] * 10 = 0 := rfl
  have ou : OutI even (num * 10) 0 S (below * 10) := by
    unfold OutI
    rw [Nat.zero_mul, Nat.zero_add]
    rcases h5 with c | ⟨c, c2⟩
    · exact .inl (by omega)
    · exact .inr ⟨by omega, c2⟩
  cases hi : incB even S d r (below * 10) (above * 10) with
  | true =>
    have hg : digB even S d r (below * 10) (above * 10) = d + 1 := by unfold digB; rw [hi]; rfl
    rw [hg] at q1 ⊢
    refine ⟨q1, q2, fun c hc => (by cases hc), by omega, ?_, by rw [e1, e2, e3, e4]; exact i1 hi, by rw [e1, e2, e5]; exact ou⟩
    by_cases d9 : d ≤ 8
    · exact .inl (by omega)
    · have hd9 : d = 9 := by omega
      refine .inr ⟨by omega, rfl, ?_⟩
      have := inc_hi hi m4
      rw [hd9] at e
      intro c
      rcases this with c1 | ⟨c1, c2⟩
      · rcases c with c | ⟨c, _⟩
        · omega
        · omega
      · rcases c with c | ⟨_, c3⟩
        · omega
        · rw [c2] at c3; cases c3
  | false =>
    have hg : digB even S d r (below * 10) (above * 10) = d := by unfold digB; rw [hi]; rfl
    rw [hg] at q1 ⊢
    obtain ⟨j1, j2⟩ := i2 hi
    refine ⟨q1, q2, fun c hc => (by cases hc), ?_, .inl d1, by rw [e1, e2, e3, e4]; exact j1, by rw [e1, e2, e5]; exact ou⟩
    rcases Nat.eq_zero_or_pos d with d0 | d0
    · exfalso
      rw [d0, Nat.zero_mul, Nat.zero_add] at e
      rcases j2 with c | ⟨c, c2⟩
      · omega
      · rcases h5 with c3 | ⟨_, c3⟩
        · omega
        · rw [c2] at c3; cases c3
    · exact d0
theorem short_next {even : Bool} {S : Nat} (hS : 16 * S ≤ M384) (hS0 : 0 < S) (f num below above : Nat) (h1 : num < S) (h2 : below ≤ S) (h3 : above ≤ S)
    (hst : stopB even S (num * 10 / S) (num * 10 % S) (below * 10) (above * 10) = false) {t : List Nat} {g : Nat} (ih : Short even S f (num * 10 % S) (below * 10) (above * 10) t g) : Short even S (f + 1) num below above (num * 10 / S :: t) g := by
  obtain ⟨m1, m2, m3, e, r1, d1, m4⟩ := short_setup hS hS0 h1 h2 h3
  obtain ⟨_, n2⟩ := inc_stop hst m4
  have hg := digB_go hst
  have q1 : shortL even S (f + 1) num below above = (num * 10 / S :: t) ++ [g] := by
    rw [shortL_succ]
    simp only [m1, m2, m3]
    rw [if_neg (by rw [hst]; decide), hg, ih.eq]
    rfl
  have q2 : shortDone even S (f + 1) num below above = true := by
    unfold shortDone
    rw [m1, m2, m3, hst, ih.done]
    rfl
  have hI := ih.inI
  have hO := ih.out
  have h9 := ih.nine
  have ht := ih.ten
  have h0 := ih.one
  clear ih hg hst m1 m2 m3
  generalize num * 10 / S = d at *
  generalize num * 10 % S = r at *
  have s1 : ∀ c, c * 10 ^ ((d :: t).length + 1) = c * 10 * 10 ^ (t.length + 1) := fun c => by
    rw [List.length_cons, Nat.pow_succ 10 (t.length + 1), Nat.mul_comm (10 ^ (t.length + 1)) 10, Nat.mul_assoc]
  have s2 : valD ((d :: t) ++ [g]) = d * 10 ^ (t.length + 1) + valD (t ++ [g]) := by
    rw [List.cons_append, valD_cons, List.length_append]; rfl
  have s3 : valD (d :: t) * 10 = d * 10 ^ (t.length + 1) + valD t * 10 := by
    rw [valD_cons, Nat.add_mul, Nat.pow_succ, Nat.mul_assoc]
  refine ⟨q1, q2, fun c hc => ?_, h0, ?_, ?_, ?_⟩
  · rcases List.mem_cons.1 hc with rfl | hc
    · exact d1
    · exact h9 c hc
  · rcases ht with c | ⟨_, _, c⟩
    · exact .inl c
    · exact absurd n2 c
  · rw [s1, s1, s1, s2, e]
    exact hI.up
  · rw [s1, s1, s3, e]
    exact hO.up
theorem short_spec {even : Bool} {S : Nat} (hS : 16 * S ≤ M384) (hS0 : 0 < S) : ∀ (f num below above : Nat), num < S → below ≤ S → above ≤ S → 0 < above → (below < num ∨ below = num ∧ even = false) → S ≤ below * 10 ^ (f + 1) →
    ∃ t g, Short even S (f + 1) num below above t g := by
  intro f
  induction f with
  | zero =>
    intro num below above h1 h2 h3 h4 h5 h6
    cases hst : stopB even S (num * 10 / S) (num * 10 % S) (below * 10) (above * 10) with
    | true => exact ⟨_, _, short_halt hS hS0 0 num below above h1 h2 h3 h4 h5 hst⟩
    | false =>
      exfalso
      obtain ⟨_, _, _, _, r1, _, m4⟩ := short_setup hS hS0 h1 h2 h3
      have := (inc_stop hst m4).1
      simp at h6
      omega
  | succ f ih =>
    intro num below above h1 h2 h3 h4 h5 h6
    cases hst : stopB even S (num * 10 / S) (num * 10 % S) (below * 10) (above * 10) with
    | true => exact ⟨_, _, short_halt hS hS0 (f + 1) num below above h1 h2 h3 h4 h5 hst⟩
    | false =>
      obtain ⟨_, _, _, _, r1, _, m4⟩ := short_setup hS hS0 h1 h2 h3
      obtain ⟨n1, n2⟩ := inc_stop hst m4
      have e : below * 10 * 10 ^ (f + 1) = below * 10 ^ (f + 1 + 1) := by rw [Nat.pow_succ 10 (f + 1), Nat.mul_comm (10 ^ (f + 1)) 10, Nat.mul_assoc]
      obtain ⟨t, g, h⟩ := ih (num * 10 % S) (below * 10) (above * 10) r1 (by omega) (by omega) (by omega) n1 (by rw [e]; exact h6)
      exact ⟨_, _, short_next hS hS0 (f + 1) num below above h1 h2 h3 hst h⟩
/-- Not more digits than tell the marks apart. -/
theorem short_len {even : Bool} {S : Nat} (hS : 16 * S ≤ M384) (hS0 : 0 < S) : ∀ (f j num below above : Nat), num < S → below ≤ S → above ≤ S → S < (below + above) * 10 ^ (j + 1) → (shortL even S f num below above).length ≤ j + 1
  | 0, j, num, below, above, _, _, _, _ => by rw [shortL]; simp
  | f + 1, j, num, below, above, h1, h2, h3, h4 => by
    obtain ⟨m1, m2, m3, _, r1, _, m4⟩ := short_setup hS hS0 h1 h2 h3
    rw [shortL_succ]
    simp only [m1, m2, m3]
    cases hst : stopB even S (num * 10 / S) (num * 10 % S) (below * 10) (above * 10) with
    | true => rw [if_pos rfl]; simp
    | false =>
      obtain ⟨n1, n2⟩ := inc_stop hst m4
      rw [if_neg (by decide)]
      rcases j with _ | j
      · exfalso; simp at h4; omega
      · rw [List.length_cons]
        have e : (below * 10 + above * 10) * 10 ^ (j + 1) = (below + above) * 10 ^ (j + 1 + 1) := by
          rw [← Nat.add_mul, Nat.pow_succ 10 (j + 1), Nat.mul_comm (10 ^ (j + 1)) 10, Nat.mul_assoc]
        have := short_len (even := even) hS hS0 f j (num * 10 % S) (below * 10) (above * 10) r1 (by omega) (by omega) (by rw [e]; exact h4)
        omega
end Go.Proofs.YthmndafjogndaaaGreatDoor
