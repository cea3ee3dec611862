/- Layer 2: Parse undoes Print: the text of a real that is not 0 is read as this real (no program here). -/
import Derived.Test.YthmndafjogndaaaGreatDoorKj
namespace Go.Proofs.YthmndafjogndaaaGreatDoor

theorem dig_byte : ∀ d : Fin 10, isDg (UInt8.ofNat (48 + d.val)) = true ∧ (UInt8.ofNat (48 + d.val)).toNat - 48 = d.val := by decide
theorem txt_dg : ∀ l : List Nat, (∀ d, d ∈ l → d ≤ 9) → (txt l).all isDg = true ∧ (txt l).length = l.length ∧ valL (txt l) = valD l
  | [], _ => ⟨rfl, rfl, rfl⟩
  | d :: l, h => by
    obtain ⟨h1, h2, h3⟩ := txt_dg l (fun c hc => h c (List.mem_cons_of_mem _ hc))
    have hd : d ≤ 9 := h d List.mem_cons_self
    obtain ⟨b1, b2⟩ := dig_byte ⟨d, by omega⟩
    simp only at b1 b2
    have e : txt (d :: l) = [UInt8.ofNat (48 + d)] ++ txt l := by rw [txt]; unfold itoaD; rw [if_pos (by omega)]
    rw [e]
    refine ⟨by rw [List.all_append, h1, List.all_cons, b1]; rfl, by rw [List.length_append, h2]; simp; omega, ?_⟩
    rw [valL_app, h3, valD_cons, h2]
    have : valL [UInt8.ofNat (48 + d)] = d := by
      show 0 * 10 + ((UInt8.ofNat (48 + d)).toNat - 48) = d
      omega
    rw [this]
theorem txt_ne {l : List Nat} (h : ∀ d, d ∈ l → d ≤ 9) : txt l = [49, 48] → l = [1, 0] := by
  intro e
  match l, h, e with
  | [], _, e => cases e
  | [a], h, e =>
    have := (txt_dg [a] h).2.1
    rw [e] at this; cases this
  | [a, b], h, e =>
    obtain ⟨_, _, h3⟩ := txt_dg [a, b] h
    have ha : a ≤ 9 := h a (by simp)
    have hb : b ≤ 9 := h b (by simp)
    rw [e] at h3
    have e1 : valL [49, 48] = 10 := by decide
    have e2 : valD [a, b] = a * 10 + b := by simp [valD]
    rw [e1, e2] at h3
    have q1 : a = 1 := by omega
    have q2 : b = 0 := by omega
    rw [q1, q2]
  | a :: b :: c :: l, h, e =>
    have := (txt_dg (a :: b :: c :: l) h).2.1
    rw [e] at this
    simp at this
/-- The digits' bytes and the place of the point. -/
theorem prP_of {m x : Int} {t : List Nat} {g u v : Nat} (h : Digs m x t g u v) : ∃ d k, prP m x = (d, k) ∧ d.all isDg = true ∧ d ≠ [] ∧ d.length ≤ 9 ∧ -60 ≤ k ∧ k ≤ 61 ∧
    (g ≤ 9 → d = txt (t ++ [g]) ∧ k = (u : Int) - v) ∧ (∀ r, Near (valL d * 10 ^ (k - d.length).toNat * tw 151) (10 ^ (-(k - d.length)).toNat) r ↔ Near (valD (t ++ [g]) * 10 ^ u * tw 151) (10 ^ (v + (t.length + 1))) r) := by
  have e0 : prP m x = if txt (t ++ [g]) = [49, 48] then ([49], (u : Int) - v + 1) else (txt (t ++ [g]), (u : Int) - v) := by
    unfold prP shT
    simp only
    rw [h.eq, h.point]
  have ub := h.ub
  have vb := h.vb
  have ln := h.len
  rcases h.ten with g9 | ⟨g10, t0⟩
  · have all9 : ∀ d, d ∈ t ++ [g] → d ≤ 9 := fun d hd => by
      rcases List.mem_append.1 hd with hd | hd
      · exact h.nine d hd
      · rw [List.mem_singleton.1 hd]; exact g9
    obtain ⟨a1, a2, a3⟩ := txt_dg _ all9
    have hne : ¬ txt (t ++ [g]) = [49, 48] := fun e => by
      have e2 := txt_ne all9 e
      have : g = 0 := by
        have := congrArg (fun l => l.getLast?) e2
        simpa using this
      have := h.one
      omega
    rw [if_neg hne] at e0
    rw [List.length_append, List.length_singleton] at a2
    refine ⟨_, _, e0, a1, ?_, by omega, by omega, by omega, fun _ => ⟨rfl, rfl⟩, fun r => ?_⟩
    · intro e; rw [e] at a2; simp at a2
    · rw [a3, a2]
      refine near_cross (ten_pos _) (ten_pos _) ?_
      have s1 : ∀ a b c d : Nat, a * b * c * d = a * c * (b * d) := fun a b c d => by ac_rfl
      rw [s1, s1 _ (10 ^ u), ← Nat.pow_add, ← Nat.pow_add]
      congr 2
      omega
  · subst g10 t0
    have e1 : txt ([] ++ [10]) = [49, 48] := by decide
    rw [if_pos e1] at e0
    refine ⟨_, _, e0, by decide, by simp, by simp, by omega, by omega, fun c => absurd c (by omega), fun r => ?_⟩
    have v1 : valL [49] = 1 := by decide
    have v2 : valD ([] ++ [10]) = 10 := by decide
    rw [v1, v2]
    refine near_cross (ten_pos _) (ten_pos _) ?_
    simp only [List.length_singleton, List.length_nil]
    have s1 : ∀ a b c d : Nat, a * b * c * d = a * c * (b * d) := fun a b c d => by ac_rfl
    rw [s1, s1 10 (10 ^ u), ← Nat.pow_add, ← Nat.pow_add, Nat.one_mul, Nat.mul_comm 10, Nat.mul_assoc (tw 151), Nat.mul_comm 10 (10 ^ _), ← Nat.pow_succ]
    congr 2
    omega
theorem print_sgn (m x : Int) : printV m x = sgn (decide (m < 0)) ++ layoutV (prP m x).1 (prP m x).2 := by
  unfold printV sgn
  simp only
  by_cases h : m < 0
  · rw [if_pos h, decide_eq_true h]; rfl
  · rw [if_neg h, decide_eq_false h]; rfl
/-- Parse undoes Print. -/
theorem print_back {m x : Int} (h : Vd m x) (m0 : m ≠ 0) : rparseV (printV m x) = (m, x) ∧ rparseE (printV m x) = 0 := by
  obtain ⟨⟨t, g, u, v, D⟩, _⟩ := digs_of h m0
  obtain ⟨d, k, e0, a1, a2, a3, a4, a5, _, a6⟩ := prP_of D
  rw [print_sgn, e0]
  simp only
  obtain ⟨r, hr, h1, h2⟩ := reads_num (layout_reads (k := k) (decide (m < 0)) a1 a2 (by omega) (by omega) (by omega))
  have hn := (a6 r).1 hr
  obtain rfl : r = idx m x := near_unique (ten_pos _) hn D.near
  rw [h1, h2, resI_idx h]
  exact ⟨rfl, rfl⟩
end Go.Proofs.YthmndafjogndaaaGreatDoor
