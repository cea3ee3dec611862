/- Layer 2: with the last digit made 0 a real's text denotes another real (no program here). -/
import Derived.Test.YthmndafjogndaaaGreatDoorKk
namespace Go.Proofs.YthmndafjogndaaaGreatDoor

theorem resI_ne {neg : Bool} {r : Nat} {m x : Int} (_h : Vd m x) (_m0 : m ≠ 0) (hr : r ≤ 2533359615) (hne : r ≠ idx m x) : okE (resI neg r) = 0 ∧ okV (resI neg r) ≠ (m, x) := by
  obtain ⟨m', x', e, v', i', _⟩ := @resI_some neg r hr
  rw [e]
  refine ⟨rfl, fun c => hne ?_⟩
  have c1 : m' = m := congrArg Prod.fst c
  have c2 : x' = x := congrArg Prod.snd c
  rw [← i', c1, c2]
/-- The text with the last digit of the digits made 0. -/
theorem print_other {m x : Int} (h : Vd m x) (m0 : m ≠ 0) : rparseE (sgn (decide (m < 0)) ++ layoutV ((prP m x).1.dropLast ++ [48]) (prP m x).2) = 0 ∧ rparseV (sgn (decide (m < 0)) ++ layoutV ((prP m x).1.dropLast ++ [48]) (prP m x).2) ≠ (m, x) := by
  obtain ⟨⟨t, g, u, v, D⟩, _⟩ := digs_of h m0
  obtain ⟨d, k, e0, a1, a2, a3, a4, a5, a6, a7⟩ := prP_of D
  rw [e0]
  simp only
  have hl : (d.dropLast ++ [48]).length = d.length := by
    have := List.length_pos_iff.2 a2
    rw [List.length_append, List.length_dropLast, List.length_singleton]; omega
  have hd : (d.dropLast ++ [(48 : UInt8)]).all isDg = true := by
    rw [List.all_append, Bool.and_eq_true]
    refine ⟨?_, by decide⟩
    rw [List.all_eq_true] at a1 ⊢
    exact fun c hc => a1 c ((List.dropLast_sublist d).subset hc)
  obtain ⟨r, hr, h1, h2⟩ := reads_num (layout_reads (k := k) (decide (m < 0)) hd (by simp) (by omega) (by omega) (by omega))
  rw [h1, h2, hl] at *
  -- the number is that of the digits without the last one
  have near' : Near (valD t * 10 * 10 ^ u * tw 151) (10 ^ (v + (t.length + 1))) r := by
    rcases D.ten with g9 | ⟨g10, t0⟩
    · obtain ⟨b1, b2⟩ := a6 g9
      have h9 : ∀ d, d ∈ t → d ≤ 9 := D.nine
      obtain ⟨c1, c2, c3⟩ := txt_dg t h9
      have et : txt (t ++ [g]) = txt t ++ [UInt8.ofNat (48 + g)] := by
        have : ∀ l : List Nat, txt (l ++ [g]) = txt l ++ itoaD g := by
          intro l
          induction l with
          | nil => simp [txt]
          | cons a l ih => rw [List.cons_append, txt, ih, txt, List.append_assoc]
        rw [this]; unfold itoaD; rw [if_pos (by omega)]
      have ev : valL (d.dropLast ++ [48]) = valD t * 10 := by
        rw [b1, et, List.dropLast_concat, valL_app, c3]; simp [valL]
      have el : d.length = t.length + 1 := by rw [b1, et, List.length_append, c2]; rfl
      rw [ev, el, b2] at hr
      refine (near_cross (ten_pos _) (ten_pos _) ?_).1 hr
      have s1 : ∀ a b c d : Nat, a * b * c * d = a * c * (b * d) := fun a b c d => by ac_rfl
      rw [s1, s1 _ (10 ^ u), ← Nat.pow_add, ← Nat.pow_add]
      congr 2
      have := D.ub
      have := D.vb
      omega
    · subst g10 t0
      have e1 : txt ([] ++ [10]) = [49, 48] := by decide
      have hd1 : d = [49] := by
        have e2 : prP m x = if txt ([] ++ [10]) = [49, 48] then ([49], (u : Int) - v + 1) else (txt ([] ++ [10]), (u : Int) - v) := by
          unfold prP shT
          simp only
          rw [D.eq, D.point]
        rw [if_pos e1, e0] at e2
        exact congrArg Prod.fst e2
      have ev : valL (d.dropLast ++ [48]) = 0 := by rw [hd1]; decide
      rw [ev, Nat.zero_mul, Nat.zero_mul] at hr
      have e3 : valD [] * 10 * 10 ^ u * tw 151 = 0 := by rw [show valD [] = 0 from rfl, Nat.zero_mul, Nat.zero_mul]
      rw [e3]
      exact (near_cross (ten_pos _) (ten_pos _) (by rw [Nat.zero_mul, Nat.zero_mul])).1 hr
  have hne : r ≠ idx m x := fun e => D.out (by rw [← e]; exact near')
  have hle : r ≤ idx m x := by
    refine near_mono (ten_pos _) ?_ near' D.near
    refine Nat.mul_le_mul_right _ (Nat.mul_le_mul_right _ ?_)
    rw [valD_snoc]; omega
  exact resI_ne h m0 (Nat.le_trans hle (idx_le h)) hne
end Go.Proofs.YthmndafjogndaaaGreatDoor
