/- Layer 2: the parts of a numeric string by places in it (no program here). -/
import Derived.Test.YtogfiekbikechaaGreatDoorQm
namespace Go.Proofs.YtogfiekbikechaaGreatDoor

/-- What is known where a byte is asked for. -/
theorem cut_cases (s : ByteArray) (k : Nat) (c : UInt8) :
    (∃ h : k < s.size, s[k] = c ∧ cut1 c (s.data.toList.drop k) = (s.data.toList.drop (k + 1), true)) ∨ (∃ h : k < s.size, s[k] ≠ c ∧ cut1 c (s.data.toList.drop k) = (s.data.toList.drop k, false)) ∨
      (¬ k < s.size ∧ cut1 c (s.data.toList.drop k) = (s.data.toList.drop k, false)) := by
  by_cases h : k < s.size
  · by_cases e : s[k] = c
    · refine .inl ⟨h, e, ?_⟩
      rw [drop_cons s k h, cut1, if_pos e]
    · refine .inr (.inl ⟨h, e, ?_⟩)
      rw [drop_cons s k h, cut1, if_neg e]
  · refine .inr (.inr ⟨h, ?_⟩)
    rw [drop_none s k h]; rfl
theorem byte_eq {c : UInt8} {n : Nat} (h : c.toNat = n) (b : UInt8) : ((b.toNat : Int) == (n : Int)) = decide (b = c) := by
  subst h
  rw [Bool.eq_iff_iff, beq_iff_eq, decide_eq_true_eq]
  exact ⟨fun e => UInt8.toNat_inj.1 (by omega), fun e => by rw [e]⟩
theorem byte_is {b c : UInt8} {n : Int} (hn : n = c.toNat) (h : b = c) : ((b.toNat : Int) == n) = true := by subst hn h; simp
theorem byte_not {b c : UInt8} {n : Int} (hn : n = c.toNat) (h : b ≠ c) : ((b.toNat : Int) == n) = false := by
  subst hn
  rw [Bool.eq_false_iff]
  intro e
  rw [beq_iff_eq] at e
  exact h (UInt8.toNat_inj.1 (by omega))
theorem rest_drop (l : List UInt8) : l.drop (digs l).length = rest l := by
  induction l with
  | nil => rfl
  | cons a l ih =>
    cases h : isDg a with
    | true =>
      rw [digs_cons h, List.length_cons, List.drop_succ_cons, ih]
      unfold rest
      rw [List.dropWhile_cons, if_pos h]
    | false =>
      rw [digs_stop h]
      unfold rest
      rw [List.dropWhile_cons, if_neg (by rw [h]; decide)]
      rfl
theorem take_digs (l : List UInt8) : l.take (digs l).length = digs l := by
  have := List.takeWhile_append_dropWhile (p := isDg) (l := l)
  show l.take (l.takeWhile isDg).length = l.takeWhile isDg
  conv => lhs; rw [← this]
  rw [List.take_left']
  rw [this]
/-- The digits at a place. -/
structure Dgs (s : ByteArray) (a e : Nat) (D : ByteArray) : Prop where
  ge : a ≤ e
  le : e ≤ s.size
  sum : a + (digs (s.data.toList.drop a)).length = e
  ex : s.extract a e = D
  list : D.data.toList = digs (s.data.toList.drop a)
  rest : s.data.toList.drop e = rest (s.data.toList.drop a)
theorem dgs_at (s : ByteArray) (a : Nat) (ha : a ≤ s.size) : ∃ e D, Dgs s a e D := by
  have h1 := digs_len (s.data.toList.drop a)
  rw [List.length_drop] at h1
  have h2 : s.data.toList.length = s.size := by simp
  refine ⟨a + (digs (s.data.toList.drop a)).length, _, by omega, by omega, rfl, rfl, ?_, ?_⟩
  · have : (s.extract a (a + (digs (s.data.toList.drop a)).length)).data.toList = (s.data.toList.drop a).take (a + (digs (s.data.toList.drop a)).length - a) := by
      rw [ByteArray.data_extract]; simp [List.extract_eq_take_drop]
    rw [this, Nat.add_sub_cancel_left, take_digs]
  · rw [← List.drop_drop, rest_drop]
theorem Dgs.none {s : ByteArray} {a e : Nat} {D : ByteArray} (h : Dgs s a e D) : e = a ↔ digs (s.data.toList.drop a) = [] := by
  have := h.sum
  constructor
  · intro c; exact List.length_eq_zero_iff.1 (by omega)
  · intro c; rw [c] at this; simpa using this.symm
theorem Dgs.size {s : ByteArray} {a e : Nat} {D : ByteArray} (h : Dgs s a e D) : D.size = e - a := by
  have h1 := h.sum
  have h2 : D.size = D.data.toList.length := by simp
  rw [h2, h.list]; omega
theorem Dgs.all {s : ByteArray} {a e : Nat} {D : ByteArray} (h : Dgs s a e D) : D.data.toList.all isDg = true := by rw [h.list]; exact digs_all _
/-- The number that a string's parts say, as far as its tail is read. -/
def headN (l : List UInt8) (mi : Bool) (dd : List UInt8) (sc : Int) (s3 : List UInt8) : Prop := readV l = tailV mi dd sc s3
theorem read_bad {l : List UInt8} {a : Nat} {mi : Bool} (hl : l.length ≤ 60) (h : cut1 45 l = (l.drop a, mi)) (hd : digs (l.drop a) = []) : readV l = none := by
  unfold readV
  rw [if_neg (by omega), h]
  simp only
  rw [if_pos hd]
theorem read_plain {l : List UInt8} {a e : Nat} {mi : Bool} (hl : l.length ≤ 60) (h : cut1 45 l = (l.drop a, mi)) (hd : digs (l.drop a) ≠ []) (hr : l.drop e = rest (l.drop a)) (hc : cut1 46 (l.drop e) = (l.drop e, false)) :
    headN l mi (digs (l.drop a)) 0 (l.drop e) := by
  unfold headN readV
  rw [if_neg (by omega), h]
  simp only
  rw [if_neg hd, ← hr, hc]
  rfl
theorem read_dot {l : List UInt8} {a e : Nat} {mi : Bool} (hl : l.length ≤ 60) (h : cut1 45 l = (l.drop a, mi)) (hd : digs (l.drop a) ≠ []) (hr : l.drop e = rest (l.drop a)) (hc : cut1 46 (l.drop e) = (l.drop (e + 1), true)) :
    (digs (l.drop (e + 1)) = [] → readV l = none) ∧ (digs (l.drop (e + 1)) ≠ [] → headN l mi (digs (l.drop a) ++ digs (l.drop (e + 1))) (-((digs (l.drop (e + 1))).length : Int)) (rest (l.drop (e + 1)))) := by
  unfold headN readV
  rw [if_neg (by omega), h]
  simp only
  rw [if_neg hd, ← hr, hc]
  simp only [if_true]
  exact ⟨fun c => by rw [if_pos c], fun c => by rw [if_neg c]⟩
/-- The value of the exponent. -/
def expT (le : Bool) (E : List UInt8) : Int := if le then -(expF E) else expF E
/-- All is read as far as place a. -/
def TailAt (l : List UInt8) (a : Nat) (mi : Bool) (dd : List UInt8) (sc : Int) (le : Bool) (E : List UInt8) : Prop := readV l = if l.drop a = [] then some (numOf mi dd (sc + expT le E)) else none
theorem tail_none {l : List UInt8} {a : Nat} {mi : Bool} {dd : List UInt8} {sc : Int} (h : headN l mi dd sc (l.drop a)) (hc : cut1 101 (l.drop a) = (l.drop a, false)) : TailAt l a mi dd sc false [] := by
  unfold TailAt headN at *
  rw [h]
  unfold tailV
  rw [hc]
  simp [expT, expF]
/-- The sign of an exponent, and where its digits begin. -/
structure Sgn (l : List UInt8) (k a : Nat) (le : Bool) : Prop where
  mi : (cut1 45 (l.drop k)).2 = le
  d : (if (cut1 45 (l.drop k)).2 then (cut1 45 (l.drop k)).1 else (cut1 43 (l.drop k)).1) = l.drop a
theorem tail_exp {l : List UInt8} {a k a4 e : Nat} {mi le : Bool} {dd : List UInt8} {sc : Int} (h : headN l mi dd sc (l.drop a)) (hc : cut1 101 (l.drop a) = (l.drop (a + 1), true)) (hk : k = a + 1) (hs : Sgn l k a4 le) (hr : l.drop e = rest (l.drop a4)) :
    (digs (l.drop a4) = [] → readV l = none) ∧ (digs (l.drop a4) ≠ [] → TailAt l e mi dd sc le (digs (l.drop a4))) := by
  subst hk
  unfold TailAt headN at *
  have he : expV (l.drop (a + 1)) = if digs (l.drop a4) = [] ∨ rest (l.drop a4) ≠ [] then none else some (if le then -(expF (l.drop a4)) else expF (l.drop a4)) := by
    unfold expV
    have h1 := hs.mi
    have h2 := hs.d
    revert h1 h2
    generalize cut1 45 (l.drop (a + 1)) = p
    intro h1 h2
    obtain ⟨p1, p2⟩ := p
    simp only at h1 h2 ⊢
    rw [h2, h1]
  have ht : tailV mi dd sc (l.drop a) = (expV (l.drop (a + 1))).map fun e => numOf mi dd (sc + e) := by
    unfold tailV
    rw [hc]
    simp
  rw [h, ht, he, hr]
  constructor
  · intro c; rw [if_pos (.inl c)]; rfl
  · intro c
    by_cases c2 : rest (l.drop a4) = []
    · rw [if_neg (by rintro (x | x); exact c x; exact x c2), if_pos c2]
      have e1 : digs (l.drop a4) = l.drop a4 := by
        have := List.takeWhile_append_dropWhile (p := isDg) (l := l.drop a4)
        have c3 : (l.drop a4).dropWhile isDg = [] := c2
        rw [c3, List.append_nil] at this
        exact this
      rw [e1]; rfl
    · rw [if_pos (.inr c2), if_neg c2]; rfl
end Go.Proofs.YtogfiekbikechaaGreatDoor
