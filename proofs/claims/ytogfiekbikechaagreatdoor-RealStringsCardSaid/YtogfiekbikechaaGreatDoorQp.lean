/- Layer 2: the value of a numeric string's parts, as the reference bounds its exponent (no program here). -/
import Derived.Test.YtogfiekbikechaaGreatDoorQo
namespace Go.Proofs.YtogfiekbikechaaGreatDoor

theorem snoc_list (l : List UInt8) : l = [] ∨ ∃ t c, l = t ++ [c] := snoc_cases l
theorem bF_expF : ∀ (k : Nat) (l : List UInt8), l.length = k → l.all isDg = true → (bF l : Int) = min (expF l) 1000 ∧ 0 ≤ expF l ∧ expF l ≤ 10000
  | 0, l, hk, _ => by
    obtain rfl := List.length_eq_zero_iff.1 hk
    exact ⟨by decide, by decide, by decide⟩
  | k + 1, l, hk, hd => by
    rcases snoc_cases l with rfl | ⟨t, c, rfl⟩
    · simp at hk
    · rw [List.length_append, List.length_singleton] at hk
      rw [List.all_append, Bool.and_eq_true] at hd
      obtain ⟨h1, h2, h3⟩ := bF_expF k t (by omega) hd.1
      have hc := isDg_le (c := c) (by simpa using hd.2)
      have e : expF (t ++ [c]) = expS (expF t) c := by unfold expF; rw [List.foldl_append]; rfl
      rw [bF_snoc, e]
      unfold expS
      omega
theorem num_null {neg : Bool} {d : List UInt8} {sc : Int} (hd : d.all isDg = true) (h : valL d = 0) : numV (numOf neg d sc) = some (0, 0) := by
  have hdrop : d.dropWhile (· == 48) = [] := by
    rcases hh : d.dropWhile (· == 48) with _ | ⟨c, r⟩
    · rfl
    · exfalso
      have h1 := valL_ge r.length (d.dropWhile (· == 48)) (by rw [hh]; rfl) (all_drop hd) (lead_drop d)
      rw [valL_drop, h] at h1
      have := ten_pos r.length
      omega
  unfold numV numOf
  simp only [hdrop]
  simp
theorem num_under {neg : Bool} {d : List UInt8} {sc : Int} (hl : d.length ≤ 60) (h : sc < -200) : numV (numOf neg d sc) = some (0, 0) := by
  have h1 := len_drop d
  unfold numV numOf
  simp only
  rw [if_pos (.inr (by omega))]
theorem num_over {neg : Bool} {d : List UInt8} {sc : Int} (hv : valL d ≠ 0) (h : 200 < sc) : numV (numOf neg d sc) = none := by
  have hdrop : d.dropWhile (· == 48) ≠ [] := fun c => by
    have := valL_drop d
    rw [c] at this
    exact hv this.symm
  unfold numV numOf
  simp only
  have := List.length_pos_iff.2 hdrop
  rw [if_neg (by rintro (c | c); exact hdrop c; omega), if_pos (by omega)]
/-- The exponent as the reference has it. -/
def expB (le : Bool) (E : List UInt8) (af : Nat) : Int := (if le then -(bF E : Int) else bF E) - af
theorem parse_math {mi le : Bool} {D E : List UInt8} {af : Nat} (hD : D.all isDg = true) (hDl : D.length ≤ 60) (hE : E.all isDg = true) (ha : af ≤ 60) :
    (valL D = 0 ∨ expB le E af < -200 → numV (numOf mi D (-(af : Int) + expT le E)) = some (0, 0)) ∧
    (valL D ≠ 0 → 200 < expB le E af → numV (numOf mi D (-(af : Int) + expT le E)) = none) ∧
    (-200 ≤ expB le E af → expB le E af ≤ 200 → ∃ r, Near (valL D * 10 ^ (expB le E af).toNat * tw 151) (10 ^ (-(expB le E af)).toNat) r ∧ numV (numOf mi D (-(af : Int) + expT le E)) = resI mi r) := by
  obtain ⟨b1, b2, b3⟩ := bF_expF E.length E rfl hE
  have key : (expB le E af < -200 → -(af : Int) + expT le E < -200) ∧ (200 < expB le E af → 200 < -(af : Int) + expT le E) ∧ (-200 ≤ expB le E af → expB le E af ≤ 200 → expB le E af = -(af : Int) + expT le E) := by
    unfold expB expT
    cases le
    · simp only [Bool.false_eq_true, if_false]; omega
    · simp only [if_true]; omega
  refine ⟨?_, fun h1 h2 => num_over h1 (key.2.1 h2), fun h1 h2 => ?_⟩
  · rintro (h | h)
    · exact num_null hD h
    · exact num_under hDl (key.1 h)
  · rw [key.2.2 h1 h2]
    have := num_near (numOf mi D (-(af : Int) + expT le E)) (by have := len_drop D; unfold numOf; simp only; omega) (all_drop hD) (lead_drop D)
    obtain ⟨r, hr, hv⟩ := this
    refine ⟨r, ?_, hv⟩
    unfold numOf at hr
    simp only at hr
    rw [valL_drop] at hr
    exact hr
end Go.Proofs.YtogfiekbikechaaGreatDoor
