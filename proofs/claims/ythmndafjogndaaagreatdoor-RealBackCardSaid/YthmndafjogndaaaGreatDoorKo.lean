/- Layer 2: the marks of a real's text (no program here). -/
import Derived.Test.YthmndafjogndaaaGreatDoorKn
namespace Go.Proofs.YthmndafjogndaaaGreatDoor

theorem pas_48 : Pas 48 := ⟨by decide, by decide⟩
theorem pas_46 : Pas 46 := ⟨by decide, by decide⟩
theorem pas_45 : Pas 45 := ⟨by decide, by decide⟩
theorem pas_app {a b : List UInt8} (ha : ∀ c, c ∈ a → Pas c) (hb : ∀ c, c ∈ b → Pas c) : ∀ c, c ∈ a ++ b → Pas c := fun c h => (List.mem_append.1 h).elim (ha c) (hb c)
theorem pas_zeros (k : Nat) : ∀ c, c ∈ List.replicate k (48 : UInt8) → Pas c := fun c h => by rw [(List.mem_replicate.1 h).2]; exact pas_48
theorem pas_one {c : UInt8} (h : Pas c) : ∀ b, b ∈ [c] → Pas b := fun b hb => by rw [List.mem_singleton.1 hb]; exact h
theorem pas_nil : ∀ b, b ∈ ([] : List UInt8) → Pas b := fun b hb => by cases hb
theorem pas_sgn (neg : Bool) : ∀ c, c ∈ sgn neg → Pas c := by
  cases neg
  · exact pas_nil
  · exact pas_one pas_45
theorem n101_dg {l : List UInt8} (h : l.all isDg = true) : ∀ c, c ∈ l → c ≠ 101 := fun c hc e => by
  have := List.all_eq_true.1 h c hc
  rw [e] at this; exact absurd this (by decide)
theorem n101_app {a b : List UInt8} (ha : ∀ c, c ∈ a → c ≠ 101) (hb : ∀ c, c ∈ b → c ≠ 101) : ∀ c, c ∈ a ++ b → c ≠ 101 := fun c h => (List.mem_append.1 h).elim (ha c) (hb c)
theorem n101_46 : ∀ c, c ∈ [(46 : UInt8)] → c ≠ 101 := fun c h => by rw [List.mem_singleton.1 h]; decide
theorem count_46 : List.countP isDg [46] = 0 := by decide
theorem count_len (l : List UInt8) : l.countP isDg ≤ l.length := List.countP_le_length
/-- The text of digits p c at a point, and that of p 0. -/
theorem layout_mark {p : List UInt8} {c : UInt8} {k : Int} (neg : Bool) (hp : p.all isDg = true) (c1 : 49 ≤ c.toNat) (c2 : c.toNat ≤ 57) :
    Mark (sgn neg ++ layoutV (p ++ [c]) k) (sgn neg ++ layoutV (p ++ [48]) k) (p.length + 1) := by
  have hs := pas_sgn neg
  have hn := n101_dg hp
  have or0_ne : ∀ {l : List UInt8}, l ≠ [] → or0 l = l := fun h => by unfold or0; rw [if_neg h]
  have or0_nil : or0 [] = [48] := rfl
  unfold layoutV
  split
  · unfold pointV
    match p, hp, hn with
    | [], _, _ =>
      refine ⟨sgn neg, [], c, 46 :: 48 :: 101 :: Lib.itoa (k - 1), ?_, ?_, hs, (fun b hb => nomatch hb), c1, c2, ⟨[46, 48], Lib.itoa (k - 1), .inr rfl, pas_app (pas_one pas_46) (pas_one pas_48)⟩, by simp⟩
      · simp [or0]
      · simp [or0]
    | a :: p, hp, hn =>
      refine ⟨sgn neg, (a :: 46 :: p), c, 101 :: Lib.itoa (k - 1), ?_, ?_, hs, ?_, c1, c2, ⟨[], Lib.itoa (k - 1), .inr rfl, pas_nil⟩, ?_⟩
      · simp [or0]
      · simp [or0]
      · exact n101_app (a := [a]) (fun b hb => hn b (by rw [List.mem_singleton.1 hb]; exact List.mem_cons_self ..)) (n101_app (a := [46]) n101_46 (fun b hb => hn b (List.mem_cons_of_mem _ hb)))
      · have h1 : (a :: 46 :: p) = [a] ++ ([46] ++ p) := rfl
        rw [h1, List.countP_append, List.countP_append, count_46]
        have := count_len [a]
        have := count_len p
        simp only [List.length_cons, List.length_nil] at *
        omega
  · split
    · unfold pointV
      have e1 : ∀ x : UInt8, or0 (List.replicate (-k).toNat 48 ++ (p ++ [x])) = List.replicate (-k).toNat 48 ++ (p ++ [x]) := fun x => or0_ne (by simp)
      refine ⟨sgn neg ++ ([48, 46] ++ List.replicate (-k).toNat 48), p, c, [], ?_, ?_, pas_app hs (pas_app (pas_app (pas_one pas_48) (pas_one pas_46)) (pas_zeros _)), hn, c1, c2, ⟨[], [], .inl rfl, pas_nil⟩, by have := count_len p; omega⟩
      · rw [e1, or0_nil]; simp
      · rw [e1, or0_nil]; simp
    · rw [List.length_append, List.length_append, List.length_singleton, List.length_singleton]
      split
      · unfold pointV
        have e1 : ∀ x : UInt8, or0 (p ++ [x] ++ List.replicate (k - ((p.length + 1 : Nat) : Int)).toNat 48) = p ++ [x] ++ List.replicate (k - ((p.length + 1 : Nat) : Int)).toNat 48 := fun x => or0_ne (by simp)
        refine ⟨sgn neg, p, c, List.replicate (k - ((p.length + 1 : Nat) : Int)).toNat 48 ++ [46, 48], ?_, ?_, hs, hn, c1, c2, ⟨_, [], .inl rfl, pas_app (pas_zeros _) (pas_app (pas_one pas_46) (pas_one pas_48))⟩, by have := count_len p; omega⟩
        · rw [e1, or0_nil]; simp
        · rw [e1, or0_nil]; simp
      · rename_i h2 h3
        unfold pointV
        obtain ⟨j, rfl⟩ : ∃ j : Nat, k = (j : Int) := ⟨k.toNat, by omega⟩
        rw [Int.toNat_natCast]
        by_cases hj : j = p.length + 1
        · have e1 : ∀ x : UInt8, (p ++ [x]).take j = p ++ [x] ∧ (p ++ [x]).drop j = [] := fun x => ⟨List.take_of_length_le (by simp; omega), List.drop_of_length_le (by simp; omega)⟩
          refine ⟨sgn neg, p, c, [46, 48], ?_, ?_, hs, hn, c1, c2, ⟨_, [], .inl rfl, pas_app (pas_one pas_46) (pas_one pas_48)⟩, by have := count_len p; omega⟩
          · rw [(e1 c).1, (e1 c).2, or0_nil, or0_ne (by simp)]; simp
          · rw [(e1 48).1, (e1 48).2, or0_nil, or0_ne (by simp)]; simp
        · have hj2 : j ≤ p.length := by omega
          have e1 : ∀ x : UInt8, (p ++ [x]).take j = p.take j ∧ (p ++ [x]).drop j = p.drop j ++ [x] := fun x => ⟨List.take_append_of_le_length hj2, List.drop_append_of_le_length hj2⟩
          have n1 : p.take j ≠ [] := by
            intro e
            have := congrArg List.length e
            rw [List.length_take, List.length_nil] at this
            omega
          refine ⟨sgn neg, p.take j ++ ([46] ++ p.drop j), c, [], ?_, ?_, hs, n101_app (fun b hb => hn b (List.mem_of_mem_take hb)) (n101_app n101_46 (fun b hb => hn b (List.mem_of_mem_drop hb))), c1, c2, ⟨[], [], .inl rfl, pas_nil⟩, ?_⟩
          · rw [(e1 c).1, (e1 c).2, or0_ne n1, or0_ne (by simp)]; simp
          · rw [(e1 48).1, (e1 48).2, or0_ne n1, or0_ne (by simp)]; simp
          · rw [List.countP_append, List.countP_append, count_46]
            have h5 := count_len p
            have h6 : p.countP isDg = (p.take j).countP isDg + (p.drop j).countP isDg := by rw [← List.countP_append, List.take_append_drop]
            omega
end Go.Proofs.YthmndafjogndaaaGreatDoor
