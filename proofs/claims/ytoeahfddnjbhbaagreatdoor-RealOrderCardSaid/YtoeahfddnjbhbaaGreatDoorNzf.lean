/- Layer 2: sums and products of reals; what a guarded operation on two reals gives. -/
import Derived.Test.YtoeahfddnjbhbaaGreatDoorNze
import Derived.Test.YtoeahfddnjbhbaaGreatDoorNzc
namespace Go.Proofs.YtoeahfddnjbhbaaGreatDoor
open Go.RowKit

theorem shl_bd {m : Int} (d : Nat) (h : d ≤ 32) (c1 : -16777216 < m) (c2 : m < 16777216) : -72057594037927936 ≤ m * 2 ^ d ∧ m * 2 ^ d ≤ 72057594037927936 := by
  have hp : (2 : Int) ^ d ≤ 4294967296 := by
    have : (2 : Nat) ^ d ≤ 2 ^ 32 := Nat.pow_le_pow_right (by omega) h
    have e : ((2 ^ d : Nat) : Int) = (2 : Int) ^ d := by simp
    omega
  have hq : (0 : Int) < (2 : Int) ^ d := Int.pow_pos (by omega)
  generalize (2 : Int) ^ d = p at *
  constructor
  · have : (-16777216) * p ≤ m * p := Int.mul_le_mul_of_nonneg_right (by omega) (by omega)
    omega
  · have : m * p ≤ 16777216 * p := Int.mul_le_mul_of_nonneg_right (by omega) (by omega)
    omega
theorem mul_bd {m n : Int} (c1 : -16777216 < m) (c2 : m < 16777216) (c3 : -16777216 < n) (c4 : n < 16777216) : -281474976710656 ≤ m * n ∧ m * n ≤ 281474976710656 := by
  have h : (m * n).natAbs = m.natAbs * n.natAbs := Int.natAbs_mul m n
  have h2 : m.natAbs * n.natAbs ≤ 16777216 * 16777216 := Nat.mul_le_mul (by omega) (by omega)
  generalize m * n = k at *
  omega

theorem sum_any (m x n y : Int) (b1 : -150 ≤ x) (b2 : x ≤ 150) (b3 : -150 ≤ y) (b4 : y ≤ 150) (c1 : -16777216 < m) (c2 : m < 16777216) (c3 : -16777216 < n) (c4 : n < 16777216) (w : World) :
    Calls Tryz.prog 75 #[.agg #[.int .i64 m, .int .i64 x], .agg #[.int .i64 n, .int .i64 y]] w fun e w' => e = .returned (.agg #[.bool ((sumV m x n y)).neg, .int .u64 ((sumV m x n y)).man, .int .i64 ((sumV m x n y)).exp, .bool ((sumV m x n y)).more]) ∧ Ext w w' := by
  unfold sumV
  by_cases h : m = 0
  · rw [if_pos h]; exact sum_m0 m x n y _ _ (by simpa using h) w (fun w => exactly_any n y (by omega) (by omega) w)
  rw [if_neg h]
  have h' : (m == 0) = false := by simpa using h
  by_cases h2 : n = 0
  · rw [if_pos h2]; exact sum_n0 m x n y _ _ h' (by simpa using h2) w (fun w => exactly_any m x (by omega) (by omega) w)
  rw [if_neg h2]
  have h2' : (n == 0) = false := by simpa using h2
  by_cases h3 : x < y
  · rw [if_pos h3]
    by_cases h4 : 32 < y - x
    · rw [if_pos h4]; exact sum_lt m x n y _ _ h' h2' h3 b1 b2 b3 b4 h4 w (fun w => exactly_any n y (by omega) (by omega) w)
    · rw [if_neg h4]
      obtain ⟨k1, k2⟩ := shl_bd (y - x).toNat (by omega) c3 c4
      exact sum_sl m x n y _ _ h' h2' h3 b1 b2 b3 b4 h4 _ k1 k2 c1 c2 (IntWalk.i64_in _ ⟨by omega, by omega⟩) (by unfold wrap64; omega) w (fun w => exactly_any _ x (by omega) (by omega) w)
  · rw [if_neg h3]
    by_cases h4 : 32 < x - y
    · rw [if_pos h4]; exact sum_gt m x n y _ _ h' h2' h3 b1 b2 b3 b4 h4 w (fun w => exactly_any m x (by omega) (by omega) w)
    · rw [if_neg h4]
      obtain ⟨k1, k2⟩ := shl_bd (x - y).toNat (by omega) c1 c2
      exact sum_sh m x n y _ _ h' h2' h3 b1 b2 b3 b4 h4 _ k1 k2 c3 c4 (IntWalk.i64_in _ ⟨by omega, by omega⟩) (by unfold wrap64; omega) w (fun w => exactly_any _ y (by omega) (by omega) w)
theorem prod_any (m x n y : Int) (b1 : -150 ≤ x) (b2 : x ≤ 150) (b3 : -150 ≤ y) (b4 : y ≤ 150) (c1 : -16777216 < m) (c2 : m < 16777216) (c3 : -16777216 < n) (c4 : n < 16777216) (w : World) :
    Calls Tryz.prog 80 #[.agg #[.int .i64 m, .int .i64 x], .agg #[.int .i64 n, .int .i64 y]] w fun e w' => e = .returned (.agg #[.bool ((prodV m x n y)).neg, .int .u64 ((prodV m x n y)).man, .int .i64 ((prodV m x n y)).exp, .bool ((prodV m x n y)).more]) ∧ Ext w w' := by
  obtain ⟨k1, k2⟩ := mul_bd c1 c2 c3 c4
  exact prod_w m x n y _ _ b1 b2 b3 b4 (IntWalk.i64_in _ ⟨by omega, by omega⟩) w (fun w => exactly_any (m * n) (x + y) (by omega) (by omega) w)

set_option maxHeartbeats 1000000 in
theorem closure_any (K : FuncId) (a : Ex) (r : Option (Int × Int)) (hr : r = a.rd) (m x n y : Int) (bp bq bs : Nat) (w : World) (hent : ∀ args w, (callFunc K args).run Tryz.prog w = .ok (.enter K args) w)
    (cf : ∀ ob, (w.alloc ob).cell? ⟨bs, 0, none⟩ = some (.func (.func K) #[] #[]))
    (p0 : ∀ ob, (w.alloc ob).cell? ⟨bp, 0, none⟩ = some (.int .i64 m)) (p1 : ∀ ob, (w.alloc ob).cell? ⟨bp, 1, none⟩ = some (.int .i64 x))
    (q0 : ∀ ob, (w.alloc ob).cell? ⟨bq, 0, none⟩ = some (.int .i64 n)) (q1 : ∀ ob, (w.alloc ob).cell? ⟨bq, 1, none⟩ = some (.int .i64 y))
    (hm : a.man < 18446744073709551616) (he1 : -1000000 ≤ a.exp) (he2 : a.exp ≤ 1000000)
    (hop : ∀ w, Calls Tryz.prog K #[.agg #[.int .i64 m, .int .i64 x], .agg #[.int .i64 n, .int .i64 y]] w fun e w' => e = .returned (.agg #[.bool (a).neg, .int .u64 (a).man, .int .i64 (a).exp, .bool (a).more]) ∧ Ext w w') :
    Calls Tryz.prog 108 #[.pointer (some ⟨bs, 0, none⟩), .pointer (some ⟨bp, 0, none⟩), .pointer (some ⟨bq, 0, none⟩)] w fun e w' => Ends r e ∧ Ext w w' := by
  have A := Lib.hid hop
  have B := Lib.hid (rd_any a hm he1 he2)
  rw [← hr] at B
  clear hop hm he1 he2 hr
  obtain ⟨neg, man, ex, more⟩ := a
  simp only at A B
  go_enter Tryz.func108, Tryz.ntmps108
  go_wp2_with fail
  refine (A.out _).mono ?_
  rintro e w1 ⟨rfl, hx1⟩
  clear p0 p1 q0 q1 cf
  go_wp2_with fail
  refine (B.out _).mono ?_
  rintro e w2 ⟨hE, hx2⟩
  have hx := hx1.trans hx2
  have X := Lib.hid (((Ext.refl w).alloc _).trans hx)
  cases r with
  | none =>
    obtain rfl : e = RangePanic := hE
    exact ⟨rfl, rfl, X.out⟩
  | some p =>
    obtain ⟨m', x'⟩ := p
    obtain rfl : e = .returned (.agg #[.int .i64 m', .int .i64 x']) := hE
    have c0 : w2.cell? ⟨w.heap.size, 0, none⟩ = some (.int .i64 0) := (hx.cell 0 (by simp)).trans (by simp [go_sem])
    have c1 : w2.cell? ⟨w.heap.size, 1, none⟩ = some (.int .i64 0) := (hx.cell 1 (by simp)).trans (by simp [go_sem])
    have f0 : ∀ j, w2.frozen? ⟨w.heap.size, j, none⟩ = false := fun j => (hx.froz j (by simp)).trans (by simp [go_sem])
    clear hx hx1 hx2
    go_wp2
    refine bodyPost_ret (v := .agg #[.int .i64 m', .int .i64 x']) ?_ rfl ⟨rfl, ?_⟩
    · simp [results, Tryz.results108, go_sem, c0, c1]
    · exact (X.out.setCell (Nat.le_refl _) _).setCell (Nat.le_refl _) _

end Go.Proofs.YtoeahfddnjbhbaaGreatDoor
