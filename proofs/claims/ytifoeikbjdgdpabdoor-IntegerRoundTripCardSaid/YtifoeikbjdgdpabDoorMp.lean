/- Layer 1: texts of integers (no program here). -/
import Derived.Test.YtifoeikbjdgdpabDoorMc
import Derived.Lib.ItoaLen
namespace Go.Proofs.YtifoeikbjdgdpabDoor
open Go.Lib

/-- A decimal digit. -/
def isD (c : UInt8) : Bool := decide (48 ≤ c.toNat) && decide (c.toNat ≤ 57)
theorem isD_t {c : UInt8} : isD c = true ↔ (48 ≤ c.toNat ∧ c.toNat ≤ 57) := by unfold isD; simp
theorem isD_f {c : UInt8} : isD c = false ↔ (c.toNat < 48 ∨ 57 < c.toNat) := by
  rw [← Bool.not_eq_true, isD_t]; omega
/-- One digit more, no more than the least integer that is too great. -/
def satS (n : Int) (c : UInt8) : Int := min (n * 10 + ((c.toNat : Int) - 48)) 2147483648
def satF (l : List UInt8) : Int := l.foldl satS 0
def bodyL : List UInt8 → List UInt8
  | [] => []
  | c :: r => if c = 43 ∨ c = 45 then r else c :: r
def minusB (l : List UInt8) : Bool := l.head? == some 45
def parseN (l : List UInt8) : Int := if minusB l then -(satF (bodyL l)) else satF (bodyL l)
def parseOk (l : List UInt8) : Bool := !(bodyL l).isEmpty && (bodyL l).all isD
def parseV (l : List UInt8) : Int := if parseOk l then fitV (parseN l) else 0
def parseE (l : List UInt8) : Int := if parseOk l then fitE (parseN l) else 7

theorem satF_snoc (l : List UInt8) (c : UInt8) : satF (l ++ [c]) = satS (satF l) c := by
  unfold satF; rw [List.foldl_append]; rfl
theorem satS_bd {n : Int} {c : UInt8} (h : 0 ≤ n) (hc : isD c = true) : 0 ≤ satS n c ∧ satS n c ≤ 2147483648 := by
  have := isD_t.1 hc; unfold satS; omega
theorem fold_bd : ∀ (l : List UInt8) (n : Int), 0 ≤ n → n ≤ 2147483648 → l.all isD = true → 0 ≤ l.foldl satS n ∧ l.foldl satS n ≤ 2147483648
  | [], n, h, h', _ => ⟨h, h'⟩
  | c :: r, n, h, h', ha => by
    rw [List.all_cons, Bool.and_eq_true] at ha
    have := satS_bd h ha.1
    exact fold_bd r (satS n c) this.1 this.2 ha.2
theorem satF_bd {l : List UInt8} (h : l.all isD = true) : 0 ≤ satF l ∧ satF l ≤ 2147483648 := fold_bd l 0 (by omega) (by omega) h

theorem ofNat_digit (d : Nat) (h : d < 10) : (UInt8.ofNat (48 + d)).toNat = 48 + d := by
  rw [UInt8.toNat_ofNat']; omega
theorem digits_sat (u : Nat) : satF (decDigits u) = min (u : Int) 2147483648 ∧ (decDigits u).all isD = true ∧ decDigits u ≠ [] := by
  induction u using Nat.strongRecOn with
  | _ u ih =>
    by_cases h : u < 10
    · have hd := ofNat_digit u h
      rw [decDigits_one h]
      refine ⟨?_, ?_, by simp⟩
      · show satS 0 _ = _
        unfold satS; rw [hd]; omega
      · simp only [List.all_cons, List.all_nil, Bool.and_true]; exact isD_t.2 (by omega)
    · obtain ⟨i1, i2, i3⟩ := ih (u / 10) (by omega)
      have hd := ofNat_digit (u % 10) (by omega)
      rw [decDigits, dif_neg h]
      refine ⟨?_, ?_, by simp⟩
      · rw [satF_snoc, i1]; unfold satS; rw [hd]; omega
      · rw [List.all_append, i2]; simp only [List.all_cons, List.all_nil, Bool.and_true, Bool.true_and]; exact isD_t.2 (by omega)

theorem body_digits {l : List UInt8} (h : l.all isD = true) : bodyL l = l ∧ minusB l = false := by
  cases l with
  | nil => exact ⟨rfl, rfl⟩
  | cons c r =>
    rw [List.all_cons, Bool.and_eq_true] at h
    have := isD_t.1 h.1
    have h1 : c ≠ 43 := fun e => by subst e; revert this; decide
    have h2 : c ≠ 45 := fun e => by subst e; revert this; decide
    constructor
    · show (if c = 43 ∨ c = 45 then r else c :: r) = c :: r
      rw [if_neg (by simp [h1, h2])]
    · unfold minusB; simp [h2]

theorem parse_itoa {n : Int} (h : okB n = true) : parseV (itoa n) = n ∧ parseE (itoa n) = 0 := by
  have g := okB_t.1 h
  have f1 : fitV n = n := by unfold fitV; rw [h]; rfl
  have f2 : fitE n = 0 := by unfold fitE; rw [h]; rfl
  by_cases hn : n < 0
  · obtain ⟨d1, d2, d3⟩ := digits_sat n.natAbs
    have hi : itoa n = 45 :: decDigits n.natAbs := by unfold itoa; rw [if_pos hn]
    have hb : bodyL (itoa n) = decDigits n.natAbs := by rw [hi]; rfl
    have hm : minusB (itoa n) = true := by rw [hi]; rfl
    have ho : parseOk (itoa n) = true := by unfold parseOk; rw [hb, d2]; simp [d3]
    have hN : parseN (itoa n) = n := by unfold parseN; rw [hm, hb, d1, if_pos rfl]; omega
    exact ⟨by unfold parseV; rw [ho, hN, f1]; rfl, by unfold parseE; rw [ho, hN, f2]; rfl⟩
  · obtain ⟨d1, d2, d3⟩ := digits_sat n.toNat
    have hi : itoa n = decDigits n.toNat := by unfold itoa; rw [if_neg hn]
    obtain ⟨hb, hm⟩ := body_digits d2
    rw [← hi] at hb hm d3 d2 d1
    have ho : parseOk (itoa n) = true := by unfold parseOk; rw [hb, d2]; simp [d3]
    have hN : parseN (itoa n) = n := by unfold parseN; rw [hm, hb, d1, if_neg (by simp)]; omega
    exact ⟨by unfold parseV; rw [ho, hN, f1]; rfl, by unfold parseE; rw [ho, hN, f2]; rfl⟩

theorem parseE_0 {l : List UInt8} (h : parseE l = 0) : parseOk l = true ∧ okB (parseN l) = true ∧ parseV l = parseN l := by
  unfold parseE at h
  cases ho : parseOk l
  · rw [ho] at h; simp at h
  · rw [ho, if_pos rfl] at h
    unfold fitE at h
    cases hk : okB (parseN l)
    · rw [hk] at h; simp at h
    · exact ⟨rfl, rfl, by unfold parseV fitV; rw [ho, hk]; rfl⟩

theorem body_snoc {l : List UInt8} (h : l ≠ []) (c : UInt8) : bodyL (l ++ [c]) = bodyL l ++ [c] ∧ minusB (l ++ [c]) = minusB l := by
  cases l with
  | nil => exact absurd rfl h
  | cons a r =>
    constructor
    · simp only [List.cons_append, bodyL]; split <;> rfl
    · rfl
theorem ok_ne {l : List UInt8} (h : parseOk l = true) : l ≠ [] := by
  intro e; subst e; exact absurd h (by decide)

theorem longer {l : List UInt8} (h : parseE l = 0) (d : Int) (h0 : 0 ≤ d) (h9 : d ≤ 9) (s : Int) (hs : s = if minusB l then -d else d) :
    parseV (l ++ itoa d) = plusV (mulV (parseV l) 10) (mulE (parseV l) 10) s 0 ∧ parseE (l ++ itoa d) = plusE (mulV (parseV l) 10) (mulE (parseV l) 10) s 0 := by
  obtain ⟨ho, hk, hv⟩ := parseE_0 h
  have hi : itoa d = [UInt8.ofNat (48 + d.toNat)] := by
    unfold itoa; rw [if_neg (by omega), decDigits_one (by omega)]
  have hc := ofNat_digit d.toNat (by omega)
  rw [hi, hv]
  generalize UInt8.ofNat (48 + d.toNat) = c at hc
  have hd : isD c = true := isD_t.2 (by omega)
  obtain ⟨hb, hm⟩ := body_snoc (ok_ne ho) c
  have ho2 := ho
  unfold parseOk at ho2
  rw [Bool.and_eq_true] at ho2
  have bd := satF_bd ho2.2
  have hk2 := okB_t.1 hk
  have ho' : parseOk (l ++ [c]) = true := by
    unfold parseOk; rw [hb, List.all_append, ho2.2]; simp [hd]
  have hN : parseN (l ++ [c]) = if minusB l then -(satS (satF (bodyL l)) c) else satS (satF (bodyL l)) c := by
    unfold parseN; rw [hm, hb, satF_snoc]
  have hS : satS (satF (bodyL l)) c = min (satF (bodyL l) * 10 + d) 2147483648 := by unfold satS; rw [hc]; omega
  have hNl : parseN l = if minusB l then -(satF (bodyL l)) else satF (bodyL l) := rfl
  have k10 : okB 10 = true := by decide
  have kd : okB s = true := okB_t.2 (by rw [hs]; split <;> omega)
  unfold parseV parseE
  rw [ho', if_pos rfl, if_pos rfl]
  generalize parseN (l ++ [c]) = N' at hN ⊢
  rw [hS] at hN
  clear hS hm hb ho' ho ho2 hi hv h hc hd
  generalize parseN l = N at *
  generalize satF (bodyL l) = S at *
  have e1 : mulV N 10 = fitV (N * 10) := by unfold mulV; rw [hk, k10]; rfl
  have e2 : mulE N 10 = fitE (N * 10) := by unfold mulE; rw [hk, k10]; rfl
  rw [e1, e2]
  cases hx : okB (N * 10)
  · have hx' := okB_f.1 hx
    have hn : okB N' = false := okB_f.2 (by cases hm : minusB l <;> simp only [hm, if_true, if_false, Bool.false_eq_true] at hN hNl <;> omega)
    simp only [fitV, fitE, hx, hn, plusV, plusE, if_false, Bool.false_eq_true]
    exact ⟨by simp, by simp⟩
  · have hx' := okB_t.1 hx
    have e3 : fitV (N * 10) = N * 10 := by unfold fitV; rw [hx]; rfl
    have e4 : fitE (N * 10) = 0 := by unfold fitE; rw [hx]; rfl
    have e5 : okB N' = okB (N * 10 + s) ∧ (okB N' = true → N' = N * 10 + s) := by
      cases hm : minusB l <;> simp only [hm, if_true, if_false, Bool.false_eq_true] at hN hNl hs
      · constructor
        · rcases Bool.eq_false_or_eq_true (okB (N * 10 + s)) with q | q
          · rw [q]; have := okB_t.1 q; exact okB_t.2 (by omega)
          · rw [q]; have := okB_f.1 q; exact okB_f.2 (by omega)
        · intro q; have := okB_t.1 q; omega
      · constructor
        · rcases Bool.eq_false_or_eq_true (okB (N * 10 + s)) with q | q
          · rw [q]; have := okB_t.1 q; exact okB_t.2 (by omega)
          · rw [q]; have := okB_f.1 q; exact okB_f.2 (by omega)
        · intro q; have := okB_t.1 q; omega
    rw [e3, e4]
    have e6 : plusV (N * 10) 0 s 0 = fitV (N * 10 + s) := by simp [plusV, addV, hx, kd]
    have e7 : plusE (N * 10) 0 s 0 = fitE (N * 10 + s) := by simp [plusE, addE, hx, kd]
    rw [e6, e7]
    unfold fitV fitE
    rw [← e5.1]
    cases q : okB N'
    · simp
    · simp [e5.2 q]
end Go.Proofs.YtifoeikbjdgdpabDoor
