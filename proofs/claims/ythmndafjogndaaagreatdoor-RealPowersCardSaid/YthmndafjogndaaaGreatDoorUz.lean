/- Layer 2: the reference's powers: the same as the program's. -/
import Derived.Test.YthmndafjogndaaaGreatDoorUy
import Derived.Test.YthmndafjogndaaaGreatDoorTq
import Derived.Test.YthmndafjogndaaaGreatDoorGk
namespace Go.Proofs.YthmndafjogndaaaGreatDoor
open Go.RowKit

theorem sum_wrap {n l : Nat} (hn : n < 9223372036854775808) (hl : l ≤ 1) (h0 : n + l ≠ 0) : ∃ S : Int, IntKind.i64.wrap ((n : Int) + l) = S ∧ wrap64 ((n : Int) + l) = S ∧ S ≠ 0 := by
  by_cases h : n + l < 9223372036854775808
  · refine ⟨(n : Int) + l, IntWalk.i64_in _ ⟨by omega, by omega⟩, by unfold wrap64; omega, by omega⟩
  · obtain rfl : n = 9223372036854775807 := by omega
    obtain rfl : l = 1 := by omega
    exact ⟨-9223372036854775808, by decide, by unfold wrap64; decide, by decide⟩
theorem par_wrap {n : Nat} : (n : Int).tmod 2 = ((n % 2 : Nat) : Int) := by rw [Int.tmod_eq_emod_of_nonneg (by omega)]; omega
theorem small_wrap {k : Nat} (h : k < 9223372036854775808) : IntKind.i64.wrap (k : Int) = k ∧ wrap64 (k : Int) = k := ⟨IntWalk.i64_in _ ⟨by omega, by omega⟩, by unfold wrap64; omega⟩
theorem pw_num {n l : Nat} (hn : n < 9223372036854775808) (hl : l ≤ 1) (h0 : n + l ≠ 0) : ∃ S t u : Int, IntKind.i64.wrap ((n : Int) + l) = S ∧ wrap64 ((n : Int) + l) = S ∧ (S == 0) = false ∧ (n : Int).tmod 2 = t ∧ wrap64 t = t ∧ IntKind.i64.wrap t = t ∧ IntKind.i64.wrap (t + (l : Int)) = u ∧ wrap64 (t + (l : Int)) = u ∧
    u.tmod 2 = (((n + l) % 2 : Nat) : Int) ∧ t = ((n % 2 : Nat) : Int) := by
  obtain ⟨S, f1, f2, f3⟩ := sum_wrap hn hl h0
  have t1 := @par_wrap n
  have hlt : n % 2 < 2 := Nat.mod_lt _ (by omega)
  have f8 : (((n % 2 + l : Nat) : Int)).tmod 2 = (((n + l) % 2 : Nat) : Int) := by rw [par_wrap]; congr 1; clear f1 f2 t1; omega
  have u7 : ((n % 2 : Nat) : Int) + (l : Int) = ((n % 2 + l : Nat) : Int) := (Int.natCast_add _ _).symm
  have b1 : n % 2 < 9223372036854775808 := Nat.lt_of_lt_of_le hlt (by decide)
  have b2 : n % 2 + l < 9223372036854775808 := Nat.lt_of_lt_of_le (Nat.add_lt_add_of_lt_of_le hlt hl) (by decide)
  obtain ⟨t5, t6⟩ := small_wrap b1
  obtain ⟨u5, u6⟩ := small_wrap b2
  exact ⟨S, _, _, f1, f2, by simpa using f3, t1, t6, t5, by rw [u7]; exact u5, by rw [u7]; exact u6, f8, rfl⟩
theorem pw_half {n l : Nat} (hn : n < 9223372036854775808) (hl : l ≤ 1) (h : ¬ (n + l) % 2 = 1) : ∃ d e : Int, (n : Int).tdiv 2 = d ∧ wrap64 d = d ∧ IntKind.i64.wrap (((n % 2 : Nat) : Int) * (l : Int)) = e ∧ wrap64 (((n % 2 : Nat) : Int) * (l : Int)) = e ∧
    IntKind.i64.wrap (d + e) = (((n + l) / 2 : Nat) : Int) ∧ wrap64 (d + e) = (((n + l) / 2 : Nat) : Int) ∧ IntKind.i64.wrap d = d := by
  have hm : n % 2 * l ≤ 1 := Nat.le_trans (Nat.mul_le_mul (show n % 2 ≤ 1 by omega) hl) (by decide)
  have hK : n / 2 + n % 2 * l = (n + l) / 2 := by
    rcases (show l = 0 ∨ l = 1 by omega) with rfl | rfl
    · omega
    · omega
  have b0 : n / 2 < 9223372036854775808 := by omega
  have b1 : n % 2 * l < 9223372036854775808 := by omega
  have b2 : (n + l) / 2 < 9223372036854775808 := by omega
  have g1 : (n : Int).tdiv 2 = ((n / 2 : Nat) : Int) := by rw [Int.tdiv_eq_ediv_of_nonneg (by omega)]; omega
  have e7 : ((n % 2 : Nat) : Int) * (l : Int) = ((n % 2 * l : Nat) : Int) := (Int.natCast_mul _ _).symm
  have k7 : ((n / 2 : Nat) : Int) + ((n % 2 * l : Nat) : Int) = (((n + l) / 2 : Nat) : Int) := by rw [← hK]; exact (Int.natCast_add _ _).symm
  clear hm hK
  obtain ⟨d5, d6⟩ := small_wrap b0
  obtain ⟨e5, e6⟩ := small_wrap b1
  obtain ⟨k5, k6⟩ := small_wrap b2
  exact ⟨((n / 2 : Nat) : Int), ((n % 2 * l : Nat) : Int), g1, d6, by rw [e7]; exact e5, by rw [e7]; exact e6, by rw [k7]; exact k5, by rw [k7]; exact k6, d5⟩
theorem pred_wrap {n : Nat} (h : n + 1 < 9223372036854775808) : IntKind.i64.wrap (((n + 1 : Nat) : Int) - 1) = (n : Int) ∧ wrap64 (((n + 1 : Nat) : Int) - 1) = (n : Int) := ⟨by rw [IntWalk.i64_in _ ⟨by omega, by omega⟩]; omega, by unfold wrap64; omega⟩
theorem l0_not : ((0 : Int) == 1) = false := by decide
theorem w1_one : wrap64 1 = 1 := by unfold wrap64; decide
theorem w1_zero : wrap64 0 = 0 := by unfold wrap64; decide
def bindV (o : Option (Int × Int)) (f : Int × Int → Option (Int × Int)) : Option (Int × Int) := o.bind f
set_option maxHeartbeats 1000000 in
theorem power_odd1 {m x : Int} (h : Vd m x) (n : Nat) (hn : n < 9223372036854775808) (ho : (n + 1) % 2 = 1) (o : Option (Int × Int)) (ho2 : ∀ p, o = some p → Vd p.1 p.2)
    (R : Ret 78 #[.agg #[.int .i64 m, .int .i64 x], .int .i64 (n : Int), .int .i64 0] (rndV o)) : Ret 78 #[.agg #[.int .i64 m, .int .i64 x], .int .i64 (n : Int), .int .i64 1] (rndV (o.bind fun q => (prodV m x q.1 q.2).rd)) := fun w => by
  obtain ⟨S, t, u, f1, f2, f3, f4, f5, f6, f7, f8, f9, _⟩ := @pw_num n 1 hn (by decide) (by omega)
  rw [ho] at f9
  have f3' : ¬ S = 0 := by simpa using f3
  cases o with
  | none => exact pw_odd1_none m x n S t u f1 f2 f3 f3' f4 f5 f7 f8 f9 w1_one 0 0 R w
  | some q =>
    have MU := mul_ref h (ho2 q rfl)
    obtain ⟨v1, v2, ov, hV⟩ := rnd_shape (prodV m x q.1 q.2).rd
    show Calls _ _ _ w fun e w' => e = .returned (rndV (prodV m x q.1 q.2).rd) ∧ Ext w w'
    rw [hV] at MU ⊢
    exact pw_odd1_ok m x n S t u f1 f2 f3 f3' f4 f5 f7 f8 f9 w1_one q.1 q.2 R v1 v2 ov MU w
set_option maxHeartbeats 1000000 in
theorem power_odd0 {m x : Int} (h : Vd m x) (n : Nat) (hn : n + 1 < 9223372036854775808) (ho : (n + 1 + 0) % 2 = 1) (o : Option (Int × Int)) (ho2 : ∀ p, o = some p → Vd p.1 p.2)
    (R : Ret 78 #[.agg #[.int .i64 m, .int .i64 x], .int .i64 (n : Int), .int .i64 0] (rndV o)) : Ret 78 #[.agg #[.int .i64 m, .int .i64 x], .int .i64 ((n + 1 : Nat) : Int), .int .i64 0] (rndV (o.bind fun q => (prodV m x q.1 q.2).rd)) := fun w => by
  obtain ⟨S, t, u, f1, f2, f3, f4, f5, f6, f7, f8, f9, _⟩ := @pw_num (n + 1) 0 hn (by decide) (by omega)
  obtain ⟨e1, e2⟩ := pred_wrap hn
  rw [ho] at f9
  have f3' : ¬ S = 0 := by simpa using f3
  cases o with
  | none => exact pw_odd0_none m x _ 0 S t u f1 f2 f3 f3' f4 f5 f7 f8 l0_not (by decide) f9 w1_one n e1 e2 0 0 R w
  | some q =>
    have MU := mul_ref h (ho2 q rfl)
    obtain ⟨v1, v2, ov, hV⟩ := rnd_shape (prodV m x q.1 q.2).rd
    show Calls _ _ _ w fun e w' => e = .returned (rndV (prodV m x q.1 q.2).rd) ∧ Ext w w'
    rw [hV] at MU ⊢
    exact pw_odd0_ok m x _ 0 S t u f1 f2 f3 f3' f4 f5 f7 f8 l0_not (by decide) f9 w1_one n e1 e2 q.1 q.2 R v1 v2 ov MU w
set_option maxHeartbeats 1000000 in
theorem power_even {m x : Int} (n l : Nat) (hn : n < 9223372036854775808) (hl : l ≤ 1) (h0 : n + l ≠ 0) (ho : ¬ (n + l) % 2 = 1) (o : Option (Int × Int)) (ho2 : ∀ p, o = some p → Vd p.1 p.2)
    (R : Ret 78 #[.agg #[.int .i64 m, .int .i64 x], .int .i64 (((n + l) / 2 : Nat) : Int), .int .i64 0] (rndV o)) : Ret 78 #[.agg #[.int .i64 m, .int .i64 x], .int .i64 (n : Int), .int .i64 (l : Int)] (rndV (o.bind fun q => (prodV q.1 q.2 q.1 q.2).rd)) := fun w => by
  have ho' : (n + l) % 2 = 0 := by omega
  obtain ⟨d, e, g1, g2, g3, g4, g5, g6, g7⟩ := pw_half hn hl ho
  obtain ⟨S, t, u, f1, f2, f3, f4, f5, f6, f7, f8, f9, rfl⟩ := pw_num hn hl h0
  rw [ho'] at f9
  have f3' : ¬ S = 0 := by simpa using f3
  cases o with
  | none => exact pw_even_none m x _ _ S _ u f1 f2 f3 f3' f4 f5 f7 f8 f9 w1_zero d e _ g1 g2 g3 g4 g5 g6 g7 f6 0 0 R w
  | some q =>
    have V := ho2 q rfl
    have MU := mul_ref V V
    obtain ⟨v1, v2, ov, hV⟩ := rnd_shape (prodV q.1 q.2 q.1 q.2).rd
    show Calls _ _ _ w fun e w' => e = .returned (rndV (prodV q.1 q.2 q.1 q.2).rd) ∧ Ext w w'
    rw [hV] at MU ⊢
    exact pw_even_ok m x _ _ S _ u f1 f2 f3 f3' f4 f5 f7 f8 f9 w1_zero d e _ g1 g2 g3 g4 g5 g6 g7 f6 q.1 q.2 R v1 v2 ov MU w
theorem power_ref {m x : Int} (h : Vd m x) : ∀ (k n l : Nat), n + l ≤ k → n < 9223372036854775808 → l ≤ 1 → Ret 78 #[.agg #[.int .i64 m, .int .i64 x], .int .i64 (n : Int), .int .i64 (l : Int)] (rndV (powF m x k (n + l))) := by
  intro k
  induction k with
  | zero =>
    intro n l hk _ _ w
    obtain rfl : n = 0 := by omega
    obtain rfl : l = 0 := by omega
    exact pw_zero m x w
  | succ k ih =>
    intro n l hk hn hl
    by_cases h0 : n + l = 0
    · obtain rfl : n = 0 := by omega
      obtain rfl : l = 0 := by omega
      exact fun w => pw_zero m x w
    unfold powF
    rw [if_neg h0]
    by_cases hodd : (n + l) % 2 = 1
    · rw [if_pos hodd]
      by_cases hl1 : l = 1
      · subst hl1
        rw [Nat.add_sub_cancel]
        exact power_odd1 h n hn hodd _ (fun p e => powF_vd h _ _ _ e) (ih n 0 (by omega) hn (by omega))
      · obtain rfl : l = 0 := by omega
        obtain ⟨n', rfl⟩ : ∃ n', n = n' + 1 := ⟨n - 1, by omega⟩
        exact power_odd0 h n' hn hodd _ (fun p e => powF_vd h _ _ _ e) (ih n' 0 (by omega) (by omega) (by omega))
    · rw [if_neg hodd]
      exact power_even n l hn hl h0 hodd _ (fun p e => powF_vd h _ _ _ e) (ih ((n + l) / 2) 0 (by omega) (by omega) (by omega))
/-- What Pow returns. -/
def powE2 (m x n : Int) : (Int × Int) × Int := if m = 0 ∧ n < 0 then ((0, 0), 5) else (okV (powR m x n), okE (powR m x n))
def gotV (r : (Int × Int) × Int) : Value := .agg #[.int .i64 r.1.1, .int .i64 r.1.2, .int .i64 r.2]
theorem pow_ref {m x n : Int} (h : Vd m x) (b1 : -9223372036854775808 ≤ n) (b2 : n ≤ 9223372036854775807) : Ret 40 #[.agg #[.int .i64 m, .int .i64 x], .int .i64 n] (gotV (powE2 m x n)) := fun w => by
  unfold powE2
  by_cases hn : 0 ≤ n
  · rw [if_neg (by omega)]
    unfold powR
    rw [if_pos hn]
    have R := power_ref h n.toNat n.toNat 0 (by omega) (by omega) (by omega)
    rw [Nat.add_zero, Int.toNat_of_nonneg hn] at R
    cases e : powF m x n.toNat n.toNat with
    | none => rw [e] at R; exact po_pos_none m x n hn 0 0 R w
    | some q => rw [e] at R; exact po_pos_ok m x n hn q.1 q.2 R w
  · by_cases m0 : m = 0
    · subst m0
      rw [if_pos ⟨rfl, by omega⟩]
      exact po_zero x n (by omega) w
    · rw [if_neg (by omega)]
      unfold powR
      rw [if_neg hn]
      obtain ⟨N, hN⟩ : ∃ N : Nat, (-n).toNat = N + 1 := ⟨(-n).toNat - 1, by omega⟩
      rw [hN]
      have R := power_ref h (N + 1) N 1 (by omega) (by omega) (by omega)
      have w1 : IntKind.i64.wrap (n + 1) = n + 1 := IntWalk.i64_in _ ⟨by omega, by omega⟩
      have w2 : wrap64 (n + 1) = n + 1 := by unfold wrap64; omega
      have w3 : IntKind.i64.wrap (-(n + 1)) = (N : Int) := by rw [IntWalk.i64_in _ ⟨by omega, by omega⟩]; omega
      have w4 : wrap64 (-(n + 1)) = (N : Int) := by unfold wrap64; omega
      have m0' : (m == 0) = false := by simpa using m0
      cases e : powF m x (N + 1) (N + 1) with
      | none => rw [e] at R; exact po_neg_none m x n (by omega) m0' m0 _ _ w1 w2 w3 w4 0 0 R w
      | some q =>
        rw [e] at R
        show Calls _ _ _ w fun e w' => e = .returned (gotV (okV (if q.1 = 0 then none else (quotV 8388608 (-23) q.1 q.2).rd), okE (if q.1 = 0 then none else (quotV 8388608 (-23) q.1 q.2).rd))) ∧ Ext w w'
        have V := powF_vd h _ _ _ e
        by_cases q0 : q.1 = 0
        · rw [if_pos q0]
          obtain ⟨qa, qb⟩ := q
          obtain rfl : qa = 0 := q0
          exact po_neg_null m x n (by omega) m0' m0 _ _ w1 w2 w3 w4 qb R w
        · rw [if_neg q0]
          have D := div_ref vd_one V q0
          have q0' : (q.1 == 0) = false := by simpa using q0
          cases e2 : (quotV 8388608 (-23) q.1 q.2).rd with
          | none => rw [e2] at D; exact po_neg_div_none m x n (by omega) m0' m0 _ _ w1 w2 w3 w4 q.1 q.2 q0' q0 R 0 0 D w
          | some z => rw [e2] at D; exact po_neg_div_ok m x n (by omega) m0' m0 _ _ w1 w2 w3 w4 q.1 q.2 q0' q0 R z.1 z.2 D w
theorem Pow_two {m x n : Int} (h : Vd m x) (h1 : -9223372036854775808 ≤ n) (h2 : n ≤ 9223372036854775807) : Ret 39 #[.agg #[.int .i64 m, .int .i64 x], .int .i64 n] (.tuple #[.agg #[.int .i64 (powE2 m x n).1.1, .int .i64 (powE2 m x n).1.2], .int .i64 (powE2 m x n).2]) := fun w => by
  unfold powE2
  by_cases c : m = 0 ∧ n < 0
  · rw [if_pos c]
    obtain ⟨rfl, c2⟩ := c
    exact pow_none x n (vd_iff.2 h) c2 w
  · rw [if_neg c]
    refine Pow_good h h1 h2 ?_ w
    by_cases m0 : m = 0
    · exact .inr (fun q => c ⟨m0, q⟩)
    · exact .inl (by simpa using m0)
set_option maxHeartbeats 1000000 in
theorem Pow_bad {m x n : Int} (h : validV m x = false) (w : World) :
    Calls Tryz.prog 39 #[.agg #[.int .i64 m, .int .i64 x], .int .i64 n] w fun e w' => e = .returned (.tuple #[.agg #[.int .i64 0, .int .i64 0], .int .i64 1]) ∧ Ext w w' := by
  have A := Lib.hid (valid_any m x)
  rw [h] at A
  go_enter Tryz.func39, Tryz.ntmps39
  go_wp2_with fail
  refine (A.out _).mono ?_
  rintro e w1 ⟨rfl, hx⟩
  have X : Hid (Ext w w1) := Lib.hid (Ext.trans (by repeat (first | with_reducible exact Ext.refl _ | with_reducible refine Ext.alloc ?_ _)) hx)
  have sz : w.heap.size + 1 + 1 + 1 ≤ w1.heap.size := by simpa using hx.size
  have p0 : w1.cell? ⟨w.heap.size, 0, none⟩ = some (.int .i64 m) := (hx.cell 0 (by simp; omega)).trans (by simp [go_sem])
  have p1 : w1.cell? ⟨w.heap.size, 1, none⟩ = some (.int .i64 x) := (hx.cell 1 (by simp; omega)).trans (by simp [go_sem])
  have q0 : w1.cell? ⟨w.heap.size + 1, 0, none⟩ = some (.int .i64 n) := (hx.cell 0 (by simp)).trans (by simp [go_sem])
  have c0 : w1.cell? ⟨w.heap.size + 1 + 1, 0, none⟩ = some (.int .i64 0) := (hx.cell 0 (by simp)).trans (by simp [go_sem])
  have c1 : w1.cell? ⟨w.heap.size + 1 + 1, 1, none⟩ = some (.int .i64 0) := (hx.cell 1 (by simp)).trans (by simp [go_sem])
  have f0 : ∀ j, w1.frozen? ⟨w.heap.size + 1 + 1, j, none⟩ = false := fun j => (hx.froz j (by simp)).trans (by simp [go_sem])
  clear hx
  go_wp2
  refine bodyPost_ret (v := .tuple #[.agg #[.int .i64 0, .int .i64 0], .int .i64 1]) ?_ rfl ⟨rfl, ?_⟩
  · simp [results, Tryz.results39, go_sem, c0, c1]
  · exact (X.out.setCell (by simp; omega) _).setCell (by simp; omega) _
end Go.Proofs.YthmndafjogndaaaGreatDoor
