/- Layer 2: a real's text: its first and last digit that is not 0, and the text with the last one made 0 (no program here). -/
import Derived.Test.YthmndafjogndaaaGreatDoorKm
namespace Go.Proofs.YthmndafjogndaaaGreatDoor

/-- A byte that digitsOf passes by. -/
def Pas (c : UInt8) : Prop := c ≠ 101 ∧ ¬ (49 ≤ c.toNat ∧ c.toNat ≤ 57)
theorem dg_pass : ∀ (Z l : List UInt8) (i : Int) (s : Int × Int), (∀ c, c ∈ Z → Pas c) → dgF (Z ++ l) i s = dgF l (i + Z.length) s
  | [], l, i, s, _ => by simp
  | c :: Z, l, i, s, h => by
    obtain ⟨h1, h2⟩ := h c (List.mem_cons_self ..)
    rw [List.cons_append, dgF, if_neg h1, if_neg h2, dg_pass Z l (i + 1) s (fun c hc => h c (List.mem_cons_of_mem _ hc)), List.length_cons]
    congr 1
    omega
theorem dg_some : ∀ (Q l : List UInt8) (i : Int) (s : Int × Int), 0 ≤ i → (∀ c, c ∈ Q → c ≠ 101) →
    ∃ s', dgF (Q ++ l) i s = dgF l (i + Q.length) s' ∧ (s'.1 = s.1 ∨ s.1 < 0 ∧ i ≤ s'.1 ∧ s'.1 < i + Q.length)
  | [], l, i, s, _, _ => ⟨s, by simp, .inl rfl⟩
  | c :: Q, l, i, s, hi, h => by
    have h1 := h c (List.mem_cons_self ..)
    have hQ : ∀ c, c ∈ Q → c ≠ 101 := fun c hc => h c (List.mem_cons_of_mem _ hc)
    rw [List.cons_append, dgF, if_neg h1]
    have el : i + ((c :: Q).length : Int) = i + 1 + Q.length := by rw [List.length_cons]; omega
    rw [el]
    split
    · obtain ⟨s', e, f⟩ := dg_some Q l (i + 1) (if s.1 < 0 then i else s.1, i) (by omega) hQ
      refine ⟨s', e, ?_⟩
      by_cases n : s.1 < 0
      · rw [if_pos n] at f
        simp only at f
        rcases f with f | f
        · exact .inr ⟨n, by omega, by omega⟩
        · exact absurd f.1 (by omega)
      · rw [if_neg n] at f
        simp only at f
        rcases f with f | f
        · exact .inl f
        · exact absurd f.1 n
    · obtain ⟨s', e, f⟩ := dg_some Q l (i + 1) s (by omega) hQ
      refine ⟨s', e, ?_⟩
      rcases f with f | f
      · exact .inl f
      · exact .inr ⟨f.1, by omega, by omega⟩
/-- Behind the last digit: nothing but what is passed by, up to an e. -/
def Tail (B : List UInt8) : Prop := ∃ Z t, (B = Z ∨ B = Z ++ 101 :: t) ∧ ∀ c, c ∈ Z → Pas c
theorem dg_tail {B : List UInt8} (h : Tail B) (i : Int) (s : Int × Int) : dgF B i s = s := by
  obtain ⟨Z, t, e, hz⟩ := h
  rcases e with e | e
  · have := dg_pass Z [] i s hz
    rw [List.append_nil] at this
    rw [e, this]; rfl
  · rw [e, dg_pass Z _ i s hz, dgF, if_pos rfl]
/-- A text with its last digit that is not 0, the text with a 0 there, and at most n digits from the first one on. -/
structure Mark (s s' : List UInt8) (n : Nat) : Prop where
  ex : ∃ Z Q c B, s = Z ++ (Q ++ c :: B) ∧ s' = Z ++ (Q ++ 48 :: B) ∧ (∀ c, c ∈ Z → Pas c) ∧ (∀ c, c ∈ Q → c ≠ 101) ∧ 49 ≤ c.toNat ∧ c.toNat ≤ 57 ∧ Tail B ∧ Q.countP isDg + 1 ≤ n
theorem mark_dg {s s' : List UInt8} {n : Nat} (h : Mark s s' n) : ∃ F G : Nat, dgF s 0 (-1, -1) = ((F : Int), (G : Int)) ∧ F ≤ G ∧ G < s.length ∧
    s' = s.take G ++ [48] ++ s.drop (G + 1) ∧ ((s.drop F).take (G + 1 - F)).countP isDg ≤ n := by
  obtain ⟨Z, Q, c, B, e, e', hZ, hQ, c1, c2, hB, hn⟩ := h.ex
  have hc : c ≠ 101 := fun x => by rw [x] at c2; exact absurd c2 (by decide)
  obtain ⟨f, e1, e2⟩ := dg_some Q (c :: B) (0 + Z.length) (-1, -1) (by omega) hQ
  have e3 : dgF s 0 (-1, -1) = (if f.1 < 0 then 0 + (Z.length : Int) + Q.length else f.1, 0 + (Z.length : Int) + Q.length) := by
    rw [e, dg_pass Z _ 0 _ hZ, e1, dgF, if_neg hc, if_pos ⟨c1, c2⟩, dg_tail hB]
  simp only at e2
  have hF : ∃ F : Nat, (if f.1 < 0 then 0 + (Z.length : Int) + Q.length else f.1) = (F : Int) ∧ Z.length ≤ F ∧ F ≤ Z.length + Q.length := by
    by_cases n : f.1 < 0
    · rw [if_pos n]; exact ⟨Z.length + Q.length, by omega, by omega, by omega⟩
    · rw [if_neg n]; exact ⟨f.1.toNat, by omega, by omega, by omega⟩
  obtain ⟨F, h1, h2, h3⟩ := hF
  have hs : s = (Z ++ Q) ++ c :: B := by rw [e, List.append_assoc]
  have hl : (Z ++ Q).length = Z.length + Q.length := List.length_append
  refine ⟨F, Z.length + Q.length, ?_, h3, ?_, ?_, ?_⟩
  · rw [e3, h1]; congr 1; omega
  · rw [hs, List.length_append, hl, List.length_cons]; omega
  · rw [hs, ← hl, List.take_left, e']
    have : (Z ++ Q ++ c :: B).drop ((Z ++ Q).length + 1) = B := by
      rw [← List.drop_drop, List.drop_left]; rfl
    rw [this]; simp
  · obtain ⟨j, rfl⟩ : ∃ j, F = Z.length + j := ⟨F - Z.length, by omega⟩
    rw [e, ← List.drop_drop, List.drop_left]
    have t1 : Z.length + Q.length + 1 - (Z.length + j) = (Q.length + 1) - j := by omega
    rw [t1, ← List.drop_take]
    have t2 : (Q ++ c :: B).take (Q.length + 1) = Q ++ [c] := by
      rw [List.take_append]
      have : (Q.length + 1) - Q.length = 1 := by omega
      rw [this, List.take_of_length_le (by omega)]; rfl
    rw [t2]
    refine Nat.le_trans ((List.drop_sublist _ _).countP_le) ?_
    rw [List.countP_append]
    have : List.countP isDg [c] ≤ 1 := List.countP_le_length
    omega
end Go.Proofs.YthmndafjogndaaaGreatDoor
