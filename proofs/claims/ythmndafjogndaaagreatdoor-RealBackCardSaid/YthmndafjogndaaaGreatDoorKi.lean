/- Layer 2: how a text with a point, and an exponent behind it, is read (no program here). -/
import Derived.Test.YthmndafjogndaaaGreatDoorKh
namespace Go.Proofs.YthmndafjogndaaaGreatDoor

theorem digs_app : ∀ (a r : List UInt8), a.all isDg = true → (r = [] ∨ ∃ c t, r = c :: t ∧ isDg c = false) → digs (a ++ r) = a ∧ rest (a ++ r) = r
  | [], r, _, hr => by
    rcases hr with rfl | ⟨c, t, rfl, hc⟩
    · exact ⟨rfl, rfl⟩
    · exact ⟨by simp [digs, hc], by simp [rest, hc]⟩
  | d :: a, r, ha, hr => by
    rw [List.all_cons, Bool.and_eq_true] at ha
    obtain ⟨h1, h2⟩ := digs_app a r ha.2 hr
    unfold digs rest at *
    refine ⟨?_, ?_⟩
    · rw [List.cons_append, List.takeWhile_cons, ha.1]; simp only [if_true]; rw [h1]
    · rw [List.cons_append, List.dropWhile_cons, ha.1]; simp only [if_true]; rw [h2]
theorem valL_from (l : List UInt8) : ∀ a, l.foldl (fun n (c : UInt8) => n * 10 + (c.toNat - 48)) a = a * 10 ^ l.length + valL l := by
  induction l with
  | nil => intro a; simp [valL]
  | cons d l ih =>
    intro a
    unfold valL
    rw [List.foldl_cons, List.foldl_cons, ih, ih (0 * 10 + _), List.length_cons, Nat.pow_succ]
    rw [Nat.add_mul, Nat.zero_mul, Nat.zero_add, Nat.mul_assoc, Nat.mul_comm 10, Nat.add_assoc]
theorem valL_app (a b : List UInt8) : valL (a ++ b) = valL a * 10 ^ b.length + valL b := by
  unfold valL
  rw [List.foldl_append]
  exact valL_from b _
theorem valL_zero (l : List UInt8) : valL (48 :: l) = valL l := by unfold valL; rw [List.foldl_cons]; rfl
theorem valL_drop : ∀ l : List UInt8, valL (l.dropWhile (· == 48)) = valL l
  | [] => rfl
  | c :: l => by
    rw [List.dropWhile_cons]
    by_cases h : c = 48
    · subst h
      simp only [beq_self_eq_true, if_true]
      rw [valL_zero, valL_drop l]
    · have : (c == 48) = false := by simpa using h
      rw [this]; rfl
theorem valL_zeros (k : Nat) : valL (List.replicate k 48) = 0 := by
  induction k with
  | zero => rfl
  | succ k ih => rw [List.replicate_succ, valL_zero, ih]
theorem lead_drop : ∀ l : List UInt8, Lead (l.dropWhile (· == 48))
  | [] => fun c t h => by cases h
  | c :: l => by
    rw [List.dropWhile_cons]
    by_cases h : c = 48
    · subst h
      simp only [beq_self_eq_true, if_true]
      exact lead_drop l
    · have : (c == 48) = false := by simpa using h
      rw [this]
      intro d t e
      cases e
      exact h
theorem all_drop {l : List UInt8} (h : l.all isDg = true) : (l.dropWhile (· == 48)).all isDg = true := by
  rw [List.all_eq_true] at h ⊢
  exact fun c hc => h c ((List.dropWhile_sublist _).subset hc)
theorem len_drop (l : List UInt8) : (l.dropWhile (· == 48)).length ≤ l.length := (List.dropWhile_sublist _).length_le
theorem not_dg_46 : isDg 46 = false := by decide
theorem not_dg_101 : isDg 101 = false := by decide
theorem dg_ne {c : UInt8} (h : isDg c = true) : c ≠ 45 ∧ c ≠ 43 := by
  constructor <;> (rintro rfl; revert h; decide)
def sgn (neg : Bool) : List UInt8 := if neg then [45] else []
theorem cut_sgn (neg : Bool) (a r : List UInt8) (ha : a.all isDg = true) (h0 : a ≠ []) : cut1 45 (sgn neg ++ (a ++ r)) = (a ++ r, neg) := by
  cases neg with
  | true => rfl
  | false =>
    match a, h0 with
    | c :: a, _ =>
      rw [List.all_cons, Bool.and_eq_true] at ha
      have := (dg_ne ha.1).1
      show (if c = 45 then ((a ++ r), true) else (c :: (a ++ r), false)) = _
      rw [if_neg this]; rfl
/-- A text with a point is read. -/
theorem read_point (neg : Bool) (a b tl : List UInt8) (ha : a.all isDg = true) (hb : b.all isDg = true) (a0 : a ≠ []) (b0 : b ≠ []) (ht : tl = [] ∨ ∃ e, tl = 101 :: e) (hl : (sgn neg ++ (a ++ 46 :: (b ++ tl))).length ≤ 60) :
    readV (sgn neg ++ (a ++ 46 :: (b ++ tl))) = tailV neg (a ++ b) (-(b.length : Int)) tl := by
  have d1 := digs_app a (46 :: (b ++ tl)) ha (.inr ⟨46, b ++ tl, rfl, not_dg_46⟩)
  have d2 := digs_app b tl hb (by
    rcases ht with h | ⟨e, h⟩
    · exact .inl h
    · exact .inr ⟨101, e, h, not_dg_101⟩)
  unfold readV
  rw [if_neg (by omega), cut_sgn neg a _ ha a0]
  simp only
  rw [d1.1, d1.2, if_neg a0]
  have c1 : cut1 46 (46 :: (b ++ tl)) = (b ++ tl, true) := rfl
  rw [c1]
  simp only [if_true]
  rw [d2.1, d2.2, if_neg b0]
/-- What a text denotes: V * 10^E. -/
def Reads (s : List UInt8) (neg : Bool) (V : Nat) (E : Int) : Prop :=
  ∃ n, readV s = some n ∧ n.neg = neg ∧ n.digits.length ≤ 60 ∧ n.digits.all isDg = true ∧ Lead n.digits ∧ valL n.digits * 10 ^ n.scale.toNat * 10 ^ (-E).toNat = V * 10 ^ E.toNat * 10 ^ (-n.scale).toNat
theorem near_cross {P D P' D' r : Nat} (hD : 0 < D) (hD' : 0 < D') (e : P * D' = P' * D) : Near P D r ↔ Near P' D' r := by
  rw [← near_scale (P := P) (D := D) hD', ← near_scale (P := P') (D := D') hD, e, Nat.mul_comm D D']
theorem reads_num {s : List UInt8} {neg : Bool} {V : Nat} {E : Int} (h : Reads s neg V E) : ∃ r, Near (V * 10 ^ E.toNat * tw 151) (10 ^ (-E).toNat) r ∧ rparseV s = okV (resI neg r) ∧ rparseE s = okE (resI neg r) := by
  obtain ⟨n, h1, h2, h3, h4, h5, h6⟩ := h
  obtain ⟨r, hr, hn⟩ := num_near n h3 h4 h5
  refine ⟨r, ?_, ?_, ?_⟩
  · refine (near_cross (ten_pos _) (ten_pos _) ?_).1 hr
    have : valL n.digits * 10 ^ n.scale.toNat * tw 151 * 10 ^ (-E).toNat = valL n.digits * 10 ^ n.scale.toNat * 10 ^ (-E).toNat * tw 151 := by ac_rfl
    rw [this, h6]; ac_rfl
  · unfold rparseV; rw [h1]; simp only; rw [hn, h2]
  · unfold rparseE; rw [h1]; simp only; rw [hn, h2]
theorem numOf_reads {s : List UInt8} {neg : Bool} {l : List UInt8} {sc : Int} {V : Nat} {E : Int} (h : readV s = some (numOf neg l sc)) (hl : l.length ≤ 60) (hd : l.all isDg = true) (hv : valL l * 10 ^ sc.toNat * 10 ^ (-E).toNat = V * 10 ^ E.toNat * 10 ^ (-sc).toNat) : Reads s neg V E :=
  ⟨_, h, rfl, Nat.le_trans (len_drop l) hl, all_drop hd, lead_drop l, by show valL (l.dropWhile (· == 48)) * _ * _ = _; rw [valL_drop]; exact hv⟩
end Go.Proofs.YthmndafjogndaaaGreatDoor
