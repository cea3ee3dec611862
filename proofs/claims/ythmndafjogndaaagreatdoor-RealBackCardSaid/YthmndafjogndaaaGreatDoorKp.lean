/- Layer 2: all that RealBack asks of a real's text (no program here). -/
import Derived.Test.YthmndafjogndaaaGreatDoorKo
namespace Go.Proofs.YthmndafjogndaaaGreatDoor

theorem itoa_short : ∀ k : Fin 260, (Lib.itoa ((k.val : Int) - 130)).length ≤ 4 := by decide +kernel
theorem itoa_four (k : Int) (h1 : -130 ≤ k) (h2 : k < 130) : (Lib.itoa k).length ≤ 4 := by
  have := itoa_short ⟨(k + 130).toNat, by omega⟩
  simp only at this
  rwa [show (((k + 130).toNat : Nat) : Int) - 130 = k by omega] at this
theorem layout_len20 {d : List UInt8} {k : Int} (hL : d.length ≤ 9) (k1 : -100 ≤ k) (k2 : k ≤ 100) : (layoutV d k).length ≤ 20 := by
  unfold layoutV
  split
  · have h1 := point_len (d.take 1) (d.drop 1)
    have h2 := itoa_four (k - 1) (by omega) (by omega)
    have h3 : (d.take 1).length + (d.drop 1).length = d.length := by rw [← List.length_append, List.take_append_drop]
    rw [List.length_append, List.length_append, List.length_singleton]
    omega
  · split
    · have h1 := point_len [] (List.replicate (-k).toNat 48 ++ d)
      rw [List.length_append, List.length_replicate, List.length_nil] at h1
      omega
    · split
      · have h1 := point_len (d ++ List.replicate (k - d.length).toNat 48) []
        rw [List.length_append, List.length_replicate, List.length_nil] at h1
        omega
      · have h1 := point_len (d.take k.toNat) (d.drop k.toNat)
        have h3 : (d.take k.toNat).length + (d.drop k.toNat).length = d.length := by rw [← List.length_append, List.take_append_drop]
        omega
theorem dig_nz : ∀ d : Fin 10, 1 ≤ d.val → 49 ≤ (UInt8.ofNat (48 + d.val)).toNat ∧ (UInt8.ofNat (48 + d.val)).toNat ≤ 57 := by decide
theorem txt_snoc (g : Nat) : ∀ l : List Nat, txt (l ++ [g]) = txt l ++ itoaD g
  | [] => by simp [txt]
  | a :: l => by rw [List.cons_append, txt, txt_snoc g l, txt, List.append_assoc]
/-- All that the law asks of a real's text. -/
theorem print_facts {m x : Int} (h : Vd m x) (m0 : m ≠ 0) : ∃ (F G : Nat) (o : List UInt8), (printV m x).length ≤ 24 ∧ dgF (printV m x) 0 (-1, -1) = ((F : Int), (G : Int)) ∧ F ≤ G ∧ G < (printV m x).length ∧
    o = (printV m x).take G ++ [48] ++ (printV m x).drop (G + 1) ∧ (((printV m x).drop F).take (G + 1 - F)).countP isDg ≤ 9 ∧ rparseE o = 0 ∧ rparseV o ≠ (m, x) ∧
    rparseV (printV m x) = (m, x) ∧ rparseE (printV m x) = 0 ∧ printOK m x = true := by
  obtain ⟨⟨t, g, u, v, D⟩, hok⟩ := digs_of h m0
  obtain ⟨hb1, hb2⟩ := print_back h m0
  obtain ⟨ho1, ho2⟩ := print_other h m0
  obtain ⟨d, k, e0, a1, a2, a3, a4, a5, a6, a7⟩ := prP_of D
  have hd : ∃ p c, d = p ++ [c] ∧ 49 ≤ c.toNat ∧ c.toNat ≤ 57 := by
    rcases D.ten with g9 | ⟨g10, t0⟩
    · obtain ⟨b1, _⟩ := a6 g9
      obtain ⟨z1, z2⟩ := dig_nz ⟨g, by omega⟩ D.one
      refine ⟨txt t, UInt8.ofNat (48 + g), ?_, z1, z2⟩
      rw [b1, txt_snoc]; unfold itoaD; rw [if_pos (by omega)]
    · subst g10 t0
      have e1 : txt ([] ++ [10]) = [49, 48] := by decide
      have hd1 : d = [49] := by
        have e2 : prP m x = if txt ([] ++ [10]) = [49, 48] then ([49], (u : Int) - v + 1) else (txt ([] ++ [10]), (u : Int) - v) := by
          unfold prP shT
          simp only
          rw [D.eq, D.point]
        rw [if_pos e1, e0] at e2
        exact congrArg Prod.fst e2
      exact ⟨[], 49, by rw [hd1]; rfl, by decide, by decide⟩
  obtain ⟨p, c, e3, c1, c2⟩ := hd
  rw [e0] at ho1 ho2
  have es : printV m x = sgn (decide (m < 0)) ++ layoutV (p ++ [c]) k := by rw [print_sgn, e0, e3]
  have ed : d.dropLast ++ [48] = p ++ [48] := by rw [e3, List.dropLast_concat]
  simp only at ho1 ho2
  rw [ed] at ho1 ho2
  have hp : p.all isDg = true := by rw [e3, List.all_append, Bool.and_eq_true] at a1; exact a1.1
  have M := layout_mark (k := k) (decide (m < 0)) hp c1 c2
  obtain ⟨F, G, f1, f2, f3, f4, f5⟩ := mark_dg M
  have hlen : (printV m x).length ≤ 24 := by
    have h1 := @layout_len20 (p ++ [c]) k (by rw [← e3]; exact a3) (by omega) (by omega)
    have h2 := sgn_len (decide (m < 0))
    rw [es, List.length_append]; omega
  have h9 : p.length + 1 ≤ 9 := by rw [e3, List.length_append, List.length_singleton] at a3; exact a3
  rw [← es] at f1 f3 f4 f5
  exact ⟨F, G, _, hlen, f1, f2, f3, f4, Nat.le_trans f5 h9, ho1, ho2, hb1, hb2, hok⟩
end Go.Proofs.YthmndafjogndaaaGreatDoor
