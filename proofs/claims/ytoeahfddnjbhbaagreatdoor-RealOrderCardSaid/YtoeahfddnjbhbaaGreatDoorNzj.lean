/- Layer 2: neighbours, comparison and whole numbers of reals. -/
import Derived.Test.YtoeahfddnjbhbaaGreatDoorNzi
import Derived.Test.YtoeahfddnjbhbaaGreatDoorNzg
namespace Go.Proofs.YtoeahfddnjbhbaaGreatDoor
open Go.RowKit

theorem halves_a (m x : Int) (b1 : -16777216 < m) (b2 : m < 16777216) (b3 : -150 ≤ x) (b4 : x ≤ 150) (h : x < -1) (w : World) (K : Int) (hs : Op.shift .shr .i64 m .i64 (-1 - x) = pure (.int .i64 K)) :
    Calls Tryz.prog 114 #[.agg #[.int .i64 m, .int .i64 x]] w fun e w' => e = .returned (.int .i64 K) ∧ Ext w w' := by
  go_enter Tryz.func114, Tryz.ntmps114
  go_wp2
  refine bodyPost_ret (v := .int .i64 K) ?_ rfl ⟨rfl, ?_⟩
  · simp [results, Tryz.results114, go_sem]
  · repeat (first | with_reducible exact Ext.refl _ | with_reducible refine Ext.alloc ?_ _ | with_reducible refine Ext.setCell ?_ (by simp) _)
theorem halves_b (m x : Int) (b1 : -16777216 < m) (b2 : m < 16777216) (b3 : -150 ≤ x) (b4 : x ≤ 63) (h : ¬ x < -1) (K : Int) (hw : IntKind.i64.wrap (m * 2 ^ (x + 1).toNat) = K) (hw2 : wrap64 (m * 2 ^ (x + 1).toNat) = K) (w : World) :
    Calls Tryz.prog 114 #[.agg #[.int .i64 m, .int .i64 x]] w fun e w' => e = .returned (.int .i64 K) ∧ Ext w w' := by
  go_enter Tryz.func114, Tryz.ntmps114
  go_wp2
  refine bodyPost_ret (v := .int .i64 K) ?_ rfl ⟨rfl, ?_⟩
  · simp [results, Tryz.results114, go_sem]
  · repeat (first | with_reducible exact Ext.refl _ | with_reducible refine Ext.alloc ?_ _ | with_reducible refine Ext.setCell ?_ (by simp) _)
theorem div_far (m : Int) (b1 : -16777216 < m) (b2 : m < 16777216) (k : Nat) (h : 64 ≤ k) : m / 2 ^ k = m / 2 ^ 64 := by
  have e : ∀ j : Nat, 64 ≤ j → m / (2 : Int) ^ j = if m < 0 then -1 else 0 := by
    intro j hj
    have hp : (18446744073709551616 : Int) ≤ 2 ^ j := by
      have : 2 ^ 64 ≤ 2 ^ j := Nat.pow_le_pow_right (by omega) hj
      have e : ((2 ^ j : Nat) : Int) = (2 : Int) ^ j := by simp
      omega
    generalize (2 : Int) ^ j = p at *
    split
    · exact Int.ediv_eq_neg_one_of_neg_of_le (by omega) (by omega)
    · exact Int.ediv_eq_zero_of_lt (by omega) (by omega)
  rw [e k h, e 64 (by omega)]
theorem shr_any (m x : Int) (b1 : -16777216 < m) (b2 : m < 16777216) (h : x < -1) : Op.shift .shr .i64 m .i64 (-1 - x) = pure (.int .i64 (m / 2 ^ (-1 - x).toNat)) := by
  by_cases hs : -1 - x ≤ 64
  · exact shift_shr .i64 .i64 m (-1 - x) (by omega) hs
  · rw [div_far m b1 b2 _ (by omega)]
    have hm : min (-1 - x).toNat IntKind.i64.bits = 64 := by simp [IntKind.bits]; omega
    have hn : ¬ -1 - x < 0 := by omega
    have hf : m.fdiv 18446744073709551616 = m / 18446744073709551616 := Int.fdiv_eq_ediv_of_nonneg _ (by omega)
    simp [Op.shift, hm, hn, hf]
theorem halves_any (m x : Int) (b1 : -16777216 < m) (b2 : m < 16777216) (b3 : -150 ≤ x) (b4 : x ≤ 31) (w : World) :
    Calls Tryz.prog 114 #[.agg #[.int .i64 m, .int .i64 x]] w fun e w' => e = .returned (.int .i64 (halvesV m x)) ∧ Ext w w' := by
  unfold halvesV
  by_cases h : x < -1
  · rw [if_pos h]; exact halves_a m x b1 b2 b3 (by omega) h w _ (shr_any m x b1 b2 h)
  · rw [if_neg h]
    obtain ⟨k1, k2⟩ := shl_bd (x + 1).toNat (by omega) b1 b2
    exact halves_b m x b1 b2 b3 (by omega) h _ (IntWalk.i64_in _ ⟨by omega, by omega⟩) (by unfold wrap64; omega) w

theorem len_31 (w : World) : Calls Tryz.prog 113 #[.int .u64 2147483647] w fun e w' => e = .returned (.int .i64 31) ∧ w = w' :=
  (Tryz.bits_Len 2147483647 w (by omega) (by omega)).mono fun e w' ⟨h1, h2⟩ => ⟨by rw [h1, show ((Lib.bitLen (Int.toNat 2147483647) : Nat) : Int) = 31 by decide +kernel], h2.symm⟩
theorem halves_bd {m x : Int} (b1 : -16777216 < m) (b2 : m < 16777216) (b4 : x ≤ 31) : -72057594037927936 ≤ halvesV m x ∧ halvesV m x ≤ 72057594037927936 := by
  unfold halvesV
  split
  · have hq : (1 : Int) ≤ (2 : Int) ^ (-1 - x).toNat := Int.pow_pos (by omega)
    generalize (2 : Int) ^ (-1 - x).toNat = q at *
    have h1 : m / q * q + m % q = m := Int.ediv_mul_add_emod m q
    have h2 := Int.emod_nonneg m (b := q) (by omega)
    have h3 := Int.emod_lt_of_pos m (b := q) (by omega)
    constructor
    · exact Int.le_ediv_of_mul_le (by omega) (by have : (-72057594037927936) * q ≤ (-72057594037927936) * 1 := Int.mul_le_mul_of_nonpos_left (by omega) (by omega); omega)
    · exact Int.ediv_le_of_le_mul (by omega) (by have : 72057594037927936 * 1 ≤ 72057594037927936 * q := Int.mul_le_mul_of_nonneg_left (by omega) (by omega); omega)
  · exact shl_bd _ (by omega) b1 b2
set_option maxHeartbeats 1000000 in
theorem whole_bad (m x : Int) (p : Int)  (w : World) (hv : validV m x = false) :
    Calls Tryz.prog 92 #[.agg #[.int .i64 m, .int .i64 x], .int .i64 p] w fun e w' => e = .returned (.tuple #[.int .i64 0, .int .i64 1]) ∧ Ext w w' := by
  have A := Lib.hid (valid_any m x)
  rw [hv] at A
  go_enter Tryz.func92, Tryz.ntmps92
  go_wp2_with fail
  refine (A.out _).mono ?_
  rintro e w1 ⟨rfl, hx⟩
  have sz : w.heap.size + 1 ≤ w1.heap.size := by simpa using hx.size
  have X : Hid (Ext w w1) := Lib.hid (Ext.trans (by repeat (first | with_reducible exact Ext.refl _ | with_reducible refine Ext.alloc ?_ _ | with_reducible refine Ext.setCell ?_ (by simp) _)) hx)
  have p0 : w1.cell? ⟨w.heap.size, 0, none⟩ = some (.int .i64 m) := (hx.cell 0 (by simp; try omega)).trans (by simp [go_sem])
  have p1 : w1.cell? ⟨w.heap.size, 1, none⟩ = some (.int .i64 x) := (hx.cell 1 (by simp; try omega)).trans (by simp [go_sem])
  clear hx
  go_wp2
  refine bodyPost_ret (v := .tuple #[.int .i64 0, .int .i64 1]) ?_ rfl ⟨rfl, ?_⟩
  · simp [results, Tryz.results92, go_sem]
  · repeat (first | with_reducible exact X.out | with_reducible refine Ext.drewN ?_ _ | with_reducible refine Ext.drew ?_ | with_reducible refine Ext.alloc ?_ _ | with_reducible refine Ext.setCell ?_ (by simp; try omega) _)
set_option maxHeartbeats 1000000 in
theorem whole_far (m x : Int) (p : Int) (hx : 31 < x) (w : World) (hv : validV m x = true) :
    Calls Tryz.prog 92 #[.agg #[.int .i64 m, .int .i64 x], .int .i64 p] w fun e w' => e = .returned (.tuple #[.int .i64 0, .int .i64 3]) ∧ Ext w w' := by
  have A := Lib.hid (valid_any m x)
  rw [hv] at A
  go_enter Tryz.func92, Tryz.ntmps92
  go_wp2_with fail
  refine (A.out _).mono ?_
  rintro e w1 ⟨rfl, hx⟩
  have sz : w.heap.size + 1 ≤ w1.heap.size := by simpa using hx.size
  have X : Hid (Ext w w1) := Lib.hid (Ext.trans (by repeat (first | with_reducible exact Ext.refl _ | with_reducible refine Ext.alloc ?_ _ | with_reducible refine Ext.setCell ?_ (by simp) _)) hx)
  have p0 : w1.cell? ⟨w.heap.size, 0, none⟩ = some (.int .i64 m) := (hx.cell 0 (by simp; try omega)).trans (by simp [go_sem])
  have p1 : w1.cell? ⟨w.heap.size, 1, none⟩ = some (.int .i64 x) := (hx.cell 1 (by simp; try omega)).trans (by simp [go_sem])
  clear hx
  go_wp2
  go_quiet ((go_at_call 113; exact quietL (len_31 _)))
  go_wp2
  refine bodyPost_ret (v := .tuple #[.int .i64 0, .int .i64 3]) ?_ rfl ⟨rfl, ?_⟩
  · simp [results, Tryz.results92, go_sem]
  · repeat (first | with_reducible exact X.out | with_reducible refine Ext.drewN ?_ _ | with_reducible refine Ext.drew ?_ | with_reducible refine Ext.alloc ?_ _ | with_reducible refine Ext.setCell ?_ (by simp; try omega) _)
set_option maxHeartbeats 1000000 in
theorem whole_ok (m x : Int) (p : Int) (H : Int) (hH : halvesV m x = H) (hx : x ≤ 31) (q1 : 0 ≤ p) (q2 : p ≤ 1) (n1 : ¬ (H + p) / 2 < -2147483647) (n2 : ¬ (H + p) / 2 > 2147483647) (w : World) (hv : validV m x = true) :
    Calls Tryz.prog 92 #[.agg #[.int .i64 m, .int .i64 x], .int .i64 p] w fun e w' => e = .returned (.tuple #[.int .i64 ((H + p) / 2), .int .i64 0]) ∧ Ext w w' := by
  have A := Lib.hid (valid_any m x)
  rw [hv] at A
  obtain ⟨b1, b2, b3, b4, _⟩ := valid_bd hv
  have Hv := Lib.hid (halves_any m x b1 b2 b3 hx)
  obtain ⟨h1, h2⟩ := halves_bd b1 b2 hx
  rw [hH] at Hv h1 h2
  clear hH
  have hx' : ¬ x > 31 := by omega
  go_enter Tryz.func92, Tryz.ntmps92
  go_wp2_with fail
  refine (A.out _).mono ?_
  rintro e w1 ⟨rfl, hx⟩
  have sz : w.heap.size + 1 ≤ w1.heap.size := by simpa using hx.size
  have X : Hid (Ext w w1) := Lib.hid (Ext.trans (by repeat (first | with_reducible exact Ext.refl _ | with_reducible refine Ext.alloc ?_ _ | with_reducible refine Ext.setCell ?_ (by simp) _)) hx)
  have p0 : w1.cell? ⟨w.heap.size, 0, none⟩ = some (.int .i64 m) := (hx.cell 0 (by simp; try omega)).trans (by simp [go_sem])
  have p1 : w1.cell? ⟨w.heap.size, 1, none⟩ = some (.int .i64 x) := (hx.cell 1 (by simp; try omega)).trans (by simp [go_sem])
  clear hx
  go_wp2
  go_quiet ((go_at_call 113; exact quietL (len_31 _)))
  go_wp2_with fail
  refine (Hv.out _).mono ?_
  rintro e w3 ⟨rfl, hx⟩
  have hx : Ext w1 w3 := Ext.trans (by repeat (first | exact Ext.refl _ | with_reducible refine Ext.drewN ?_ _ | with_reducible refine Ext.drew ?_)) hx
  have p0 := (hx.cell 0 (b := w.heap.size) (by omega)).trans p0
  have p1 := (hx.cell 1 (b := w.heap.size) (by omega)).trans p1
  have sz : w.heap.size + 1 ≤ w3.heap.size := Nat.le_trans sz hx.size
  have X := Lib.hid (X.out.trans hx)
  clear hx
  go_wp2
  refine bodyPost_ret (v := .tuple #[.int .i64 ((H + p) / 2), .int .i64 0]) ?_ rfl ⟨rfl, ?_⟩
  · simp [results, Tryz.results92, go_sem]
  · repeat (first | with_reducible exact X.out | with_reducible refine Ext.drewN ?_ _ | with_reducible refine Ext.drew ?_ | with_reducible refine Ext.alloc ?_ _ | with_reducible refine Ext.setCell ?_ (by simp; try omega) _)
set_option maxHeartbeats 1000000 in
theorem whole_lo (m x : Int) (p : Int) (H : Int) (hH : halvesV m x = H) (hx : x ≤ 31) (q1 : 0 ≤ p) (q2 : p ≤ 1) (n1 : (H + p) / 2 < -2147483647) (w : World) (hv : validV m x = true) :
    Calls Tryz.prog 92 #[.agg #[.int .i64 m, .int .i64 x], .int .i64 p] w fun e w' => e = .returned (.tuple #[.int .i64 0, .int .i64 3]) ∧ Ext w w' := by
  have A := Lib.hid (valid_any m x)
  rw [hv] at A
  obtain ⟨b1, b2, b3, b4, _⟩ := valid_bd hv
  have Hv := Lib.hid (halves_any m x b1 b2 b3 hx)
  obtain ⟨h1, h2⟩ := halves_bd b1 b2 hx
  rw [hH] at Hv h1 h2
  clear hH
  have hx' : ¬ x > 31 := by omega
  go_enter Tryz.func92, Tryz.ntmps92
  go_wp2_with fail
  refine (A.out _).mono ?_
  rintro e w1 ⟨rfl, hx⟩
  have sz : w.heap.size + 1 ≤ w1.heap.size := by simpa using hx.size
  have X : Hid (Ext w w1) := Lib.hid (Ext.trans (by repeat (first | with_reducible exact Ext.refl _ | with_reducible refine Ext.alloc ?_ _ | with_reducible refine Ext.setCell ?_ (by simp) _)) hx)
  have p0 : w1.cell? ⟨w.heap.size, 0, none⟩ = some (.int .i64 m) := (hx.cell 0 (by simp; try omega)).trans (by simp [go_sem])
  have p1 : w1.cell? ⟨w.heap.size, 1, none⟩ = some (.int .i64 x) := (hx.cell 1 (by simp; try omega)).trans (by simp [go_sem])
  clear hx
  go_wp2
  go_quiet ((go_at_call 113; exact quietL (len_31 _)))
  go_wp2_with fail
  refine (Hv.out _).mono ?_
  rintro e w3 ⟨rfl, hx⟩
  have hx : Ext w1 w3 := Ext.trans (by repeat (first | exact Ext.refl _ | with_reducible refine Ext.drewN ?_ _ | with_reducible refine Ext.drew ?_)) hx
  have p0 := (hx.cell 0 (b := w.heap.size) (by omega)).trans p0
  have p1 := (hx.cell 1 (b := w.heap.size) (by omega)).trans p1
  have sz : w.heap.size + 1 ≤ w3.heap.size := Nat.le_trans sz hx.size
  have X := Lib.hid (X.out.trans hx)
  clear hx
  go_wp2
  refine bodyPost_ret (v := .tuple #[.int .i64 0, .int .i64 3]) ?_ rfl ⟨rfl, ?_⟩
  · simp [results, Tryz.results92, go_sem]
  · repeat (first | with_reducible exact X.out | with_reducible refine Ext.drewN ?_ _ | with_reducible refine Ext.drew ?_ | with_reducible refine Ext.alloc ?_ _ | with_reducible refine Ext.setCell ?_ (by simp; try omega) _)
set_option maxHeartbeats 1000000 in
theorem whole_hi (m x : Int) (p : Int) (H : Int) (hH : halvesV m x = H) (hx : x ≤ 31) (q1 : 0 ≤ p) (q2 : p ≤ 1) (n1 : ¬ (H + p) / 2 < -2147483647) (n2 : (H + p) / 2 > 2147483647) (w : World) (hv : validV m x = true) :
    Calls Tryz.prog 92 #[.agg #[.int .i64 m, .int .i64 x], .int .i64 p] w fun e w' => e = .returned (.tuple #[.int .i64 0, .int .i64 3]) ∧ Ext w w' := by
  have A := Lib.hid (valid_any m x)
  rw [hv] at A
  obtain ⟨b1, b2, b3, b4, _⟩ := valid_bd hv
  have Hv := Lib.hid (halves_any m x b1 b2 b3 hx)
  obtain ⟨h1, h2⟩ := halves_bd b1 b2 hx
  rw [hH] at Hv h1 h2
  clear hH
  have hx' : ¬ x > 31 := by omega
  go_enter Tryz.func92, Tryz.ntmps92
  go_wp2_with fail
  refine (A.out _).mono ?_
  rintro e w1 ⟨rfl, hx⟩
  have sz : w.heap.size + 1 ≤ w1.heap.size := by simpa using hx.size
  have X : Hid (Ext w w1) := Lib.hid (Ext.trans (by repeat (first | with_reducible exact Ext.refl _ | with_reducible refine Ext.alloc ?_ _ | with_reducible refine Ext.setCell ?_ (by simp) _)) hx)
  have p0 : w1.cell? ⟨w.heap.size, 0, none⟩ = some (.int .i64 m) := (hx.cell 0 (by simp; try omega)).trans (by simp [go_sem])
  have p1 : w1.cell? ⟨w.heap.size, 1, none⟩ = some (.int .i64 x) := (hx.cell 1 (by simp; try omega)).trans (by simp [go_sem])
  clear hx
  go_wp2
  go_quiet ((go_at_call 113; exact quietL (len_31 _)))
  go_wp2_with fail
  refine (Hv.out _).mono ?_
  rintro e w3 ⟨rfl, hx⟩
  have hx : Ext w1 w3 := Ext.trans (by repeat (first | exact Ext.refl _ | with_reducible refine Ext.drewN ?_ _ | with_reducible refine Ext.drew ?_)) hx
  have p0 := (hx.cell 0 (b := w.heap.size) (by omega)).trans p0
  have p1 := (hx.cell 1 (b := w.heap.size) (by omega)).trans p1
  have sz : w.heap.size + 1 ≤ w3.heap.size := Nat.le_trans sz hx.size
  have X := Lib.hid (X.out.trans hx)
  clear hx
  go_wp2
  refine bodyPost_ret (v := .tuple #[.int .i64 0, .int .i64 3]) ?_ rfl ⟨rfl, ?_⟩
  · simp [results, Tryz.results92, go_sem]
  · repeat (first | with_reducible exact X.out | with_reducible refine Ext.drewN ?_ _ | with_reducible refine Ext.drew ?_ | with_reducible refine Ext.alloc ?_ _ | with_reducible refine Ext.setCell ?_ (by simp; try omega) _)
theorem whole_any (m x p : Int) (q1 : 0 ≤ p) (q2 : p ≤ 1) (w : World) :
    Calls Tryz.prog 92 #[.agg #[.int .i64 m, .int .i64 x], .int .i64 p] w fun e w' => e = .returned (.tuple #[.int .i64 (wholeR m x p).1, .int .i64 (wholeR m x p).2]) ∧ Ext w w' := by
  unfold wholeR
  cases hv : validV m x with
  | false => exact whole_bad m x p w hv
  | true =>
    simp only [if_true]
    unfold wholeV
    by_cases h : 31 < x
    · rw [if_pos h]; exact whole_far m x p h w hv
    rw [if_neg h]
    by_cases n1 : (halvesV m x + p) / 2 < -2147483647
    · rw [if_pos n1]; exact whole_lo m x p _ rfl (by omega) q1 q2 n1 w hv
    rw [if_neg n1]
    by_cases n2 : 2147483647 < (halvesV m x + p) / 2
    · rw [if_pos n2]; exact whole_hi m x p _ rfl (by omega) q1 q2 n1 n2 w hv
    · rw [if_neg n2]; exact whole_ok m x p _ rfl (by omega) q1 q2 n1 n2 w hv
theorem entier_any (m x : Int) (w : World) :
    Calls Tryz.prog 48 #[.agg #[.int .i64 m, .int .i64 x]] w fun e w' => e = .returned (.tuple #[.int .i64 (wholeR m x 0).1, .int .i64 (wholeR m x 0).2]) ∧ Ext w w' := by
  have A := Lib.hid (whole_any m x 0 (by omega) (by omega))
  generalize wholeR m x 0 = r at *
  obtain ⟨r1, r2⟩ := r
  simp only at *
  go_enter Tryz.func48, Tryz.ntmps48
  go_wp2_with fail
  refine (A.out _).mono ?_
  rintro e w1 ⟨rfl, hx⟩
  have X : Hid (Ext w w1) := Lib.hid (Ext.trans (by repeat (first | with_reducible exact Ext.refl _ | with_reducible refine Ext.alloc ?_ _ | with_reducible refine Ext.setCell ?_ (by simp) _)) hx)
  clear hx
  go_wp2
  refine bodyPost_ret (v := .tuple #[.int .i64 r1, .int .i64 r2]) ?_ rfl ⟨rfl, X.out⟩
  simp [results, Tryz.results48, go_sem]
theorem roundR_any (m x : Int) (w : World) :
    Calls Tryz.prog 49 #[.agg #[.int .i64 m, .int .i64 x]] w fun e w' => e = .returned (.tuple #[.int .i64 (wholeR m x 1).1, .int .i64 (wholeR m x 1).2]) ∧ Ext w w' := by
  have A := Lib.hid (whole_any m x 1 (by omega) (by omega))
  generalize wholeR m x 1 = r at *
  obtain ⟨r1, r2⟩ := r
  simp only at *
  go_enter Tryz.func49, Tryz.ntmps49
  go_wp2_with fail
  refine (A.out _).mono ?_
  rintro e w1 ⟨rfl, hx⟩
  have X : Hid (Ext w w1) := Lib.hid (Ext.trans (by repeat (first | with_reducible exact Ext.refl _ | with_reducible refine Ext.alloc ?_ _ | with_reducible refine Ext.setCell ?_ (by simp) _)) hx)
  clear hx
  go_wp2
  refine bodyPost_ret (v := .tuple #[.int .i64 r1, .int .i64 r2]) ?_ rfl ⟨rfl, X.out⟩
  simp [results, Tryz.results49, go_sem]
end Go.Proofs.YtoeahfddnjbhbaaGreatDoor
