/- Layer 2: sums and products of reals; what a guarded operation on two reals gives. -/
/- Layer 2: combined; Add and Mul. -/
/- Layer 2: indices and order of reals, as the program makes them. -/
/- Layer 2: neighbours, comparison and whole numbers of reals. -/
/- Layer 2: magnitudes, neighbours and comparison of reals. -/
import Derived.Test.YtogfiekbikechaaGreatDoorGh
import Derived.Test.YtogfiekbikechaaGreatDoorGg
import Derived.Test.YtogfiekbikechaaGreatDoorGb
import Derived.IntWalk
import Derived.Deep.RegionHeld3
namespace Go.Proofs.YtogfiekbikechaaGreatDoor
open Go.RowKit

theorem shl_bd {m : Int} (d : Nat) (h : d ≤ 32) (c1 : -16777216 < m) (c2 : m < 16777216) : -72057594037927936 ≤ m * 2 ^ d ∧ m * 2 ^ d ≤ 72057594037927936 := by
  have hp : (2 : Int) ^ d ≤ 4294967296 := by
    have : (2 : Nat) ^ d ≤ 2 ^ 32 := Nat.pow_le_pow_right (by omega) h
    have e : ((2 ^ d : Nat) : Int) = (2 : Int) ^ d := by simp
    omega
  have hq : (0 : Int) < (2 : Int) ^ d := Int.pow_pos (by omega)
  generalize (2 : Int) ^ d = p at *
  constructor
  · have : (-16777216) * p ≤ m * p := Int.mul_le_mul_of_nonneg_right (by omega) (by omega)
    omega
  · have : m * p ≤ 16777216 * p := Int.mul_le_mul_of_nonneg_right (by omega) (by omega)
    omega
theorem mul_bd {m n : Int} (c1 : -16777216 < m) (c2 : m < 16777216) (c3 : -16777216 < n) (c4 : n < 16777216) : -281474976710656 ≤ m * n ∧ m * n ≤ 281474976710656 := by
  have h : (m * n).natAbs = m.natAbs * n.natAbs := Int.natAbs_mul m n
  have h2 : m.natAbs * n.natAbs ≤ 16777216 * 16777216 := Nat.mul_le_mul (by omega) (by omega)
  generalize m * n = k at *
  omega

theorem sum_any (m x n y : Int) (b1 : -150 ≤ x) (b2 : x ≤ 150) (b3 : -150 ≤ y) (b4 : y ≤ 150) (c1 : -16777216 < m) (c2 : m < 16777216) (c3 : -16777216 < n) (c4 : n < 16777216) (w : World) :
    Calls Tryz.prog 63 #[.agg #[.int .i64 m, .int .i64 x], .agg #[.int .i64 n, .int .i64 y]] w fun e w' => e = .returned (.agg #[.bool ((sumV m x n y)).neg, .int .u64 ((sumV m x n y)).man, .int .i64 ((sumV m x n y)).exp, .bool ((sumV m x n y)).more]) ∧ Ext w w' := by
  unfold sumV
  by_cases h : m = 0
  · rw [if_pos h]; exact sum_m0 m x n y _ _ (by simpa using h) w (fun w => exactly_any n y (by omega) (by omega) w)
  rw [if_neg h]
  have h' : (m == 0) = false := by simpa using h
  by_cases h2 : n = 0
  · rw [if_pos h2]; exact sum_n0 m x n y _ _ h' (by simpa using h2) w (fun w => exactly_any m x (by omega) (by omega) w)
  rw [if_neg h2]
  have h2' : (n == 0) = false := by simpa using h2
  by_cases h3 : x < y
  · rw [if_pos h3]
    by_cases h4 : 32 < y - x
    · rw [if_pos h4]; exact sum_lt m x n y _ _ h' h2' h3 b1 b2 b3 b4 h4 w (fun w => exactly_any n y (by omega) (by omega) w)
    · rw [if_neg h4]
      obtain ⟨k1, k2⟩ := shl_bd (y - x).toNat (by omega) c3 c4
      exact sum_sl m x n y _ _ h' h2' h3 b1 b2 b3 b4 h4 _ k1 k2 c1 c2 (IntWalk.i64_in _ ⟨by omega, by omega⟩) (by unfold wrap64; omega) w (fun w => exactly_any _ x (by omega) (by omega) w)
  · rw [if_neg h3]
    by_cases h4 : 32 < x - y
    · rw [if_pos h4]; exact sum_gt m x n y _ _ h' h2' h3 b1 b2 b3 b4 h4 w (fun w => exactly_any m x (by omega) (by omega) w)
    · rw [if_neg h4]
      obtain ⟨k1, k2⟩ := shl_bd (x - y).toNat (by omega) c1 c2
      exact sum_sh m x n y _ _ h' h2' h3 b1 b2 b3 b4 h4 _ k1 k2 c3 c4 (IntWalk.i64_in _ ⟨by omega, by omega⟩) (by unfold wrap64; omega) w (fun w => exactly_any _ y (by omega) (by omega) w)
theorem prod_any (m x n y : Int) (b1 : -150 ≤ x) (b2 : x ≤ 150) (b3 : -150 ≤ y) (b4 : y ≤ 150) (c1 : -16777216 < m) (c2 : m < 16777216) (c3 : -16777216 < n) (c4 : n < 16777216) (w : World) :
    Calls Tryz.prog 68 #[.agg #[.int .i64 m, .int .i64 x], .agg #[.int .i64 n, .int .i64 y]] w fun e w' => e = .returned (.agg #[.bool ((prodV m x n y)).neg, .int .u64 ((prodV m x n y)).man, .int .i64 ((prodV m x n y)).exp, .bool ((prodV m x n y)).more]) ∧ Ext w w' := by
  obtain ⟨k1, k2⟩ := mul_bd c1 c2 c3 c4
  exact prod_w m x n y _ _ b1 b2 b3 b4 (IntWalk.i64_in _ ⟨by omega, by omega⟩) w (fun w => exactly_any (m * n) (x + y) (by omega) (by omega) w)

set_option maxHeartbeats 1000000 in
theorem closure_any (K : FuncId) (a : Ex) (r : Option (Int × Int)) (hr : r = a.rd) (m x n y : Int) (bp bq bs : Nat) (w : World) (hent : ∀ args w, (callFunc K args).run Tryz.prog w = .ok (.enter K args) w)
    (cf : ∀ ob, (w.alloc ob).cell? ⟨bs, 0, none⟩ = some (.func (.func K) #[] #[]))
    (p0 : ∀ ob, (w.alloc ob).cell? ⟨bp, 0, none⟩ = some (.int .i64 m)) (p1 : ∀ ob, (w.alloc ob).cell? ⟨bp, 1, none⟩ = some (.int .i64 x))
    (q0 : ∀ ob, (w.alloc ob).cell? ⟨bq, 0, none⟩ = some (.int .i64 n)) (q1 : ∀ ob, (w.alloc ob).cell? ⟨bq, 1, none⟩ = some (.int .i64 y))
    (hm : a.man < 18446744073709551616) (he1 : -1000000 ≤ a.exp) (he2 : a.exp ≤ 1000000)
    (hop : ∀ w, Calls Tryz.prog K #[.agg #[.int .i64 m, .int .i64 x], .agg #[.int .i64 n, .int .i64 y]] w fun e w' => e = .returned (.agg #[.bool (a).neg, .int .u64 (a).man, .int .i64 (a).exp, .bool (a).more]) ∧ Ext w w') :
    Calls Tryz.prog 96 #[.pointer (some ⟨bs, 0, none⟩), .pointer (some ⟨bp, 0, none⟩), .pointer (some ⟨bq, 0, none⟩)] w fun e w' => Ends r e ∧ Ext w w' := by
  have A := Lib.hid hop
  have B := Lib.hid (rd_any a hm he1 he2)
  rw [← hr] at B
  clear hop hm he1 he2 hr
  obtain ⟨neg, man, ex, more⟩ := a
  simp only at A B
  go_enter Tryz.func96, Tryz.ntmps96
  go_wp2_with fail
  refine (A.out _).mono ?_
  rintro e w1 ⟨rfl, hx1⟩
  clear p0 p1 q0 q1 cf
  go_wp2_with fail
  refine (B.out _).mono ?_
  rintro e w2 ⟨hE, hx2⟩
  have hx := hx1.trans hx2
  have X := Lib.hid (((Ext.refl w).alloc _).trans hx)
  cases r with
  | none =>
    obtain rfl : e = RangePanic := hE
    exact ⟨rfl, rfl, X.out⟩
  | some p =>
    obtain ⟨m', x'⟩ := p
    obtain rfl : e = .returned (.agg #[.int .i64 m', .int .i64 x']) := hE
    have c0 : w2.cell? ⟨w.heap.size, 0, none⟩ = some (.int .i64 0) := (hx.cell 0 (by simp)).trans (by simp [go_sem])
    have c1 : w2.cell? ⟨w.heap.size, 1, none⟩ = some (.int .i64 0) := (hx.cell 1 (by simp)).trans (by simp [go_sem])
    have f0 : ∀ j, w2.frozen? ⟨w.heap.size, j, none⟩ = false := fun j => (hx.froz j (by simp)).trans (by simp [go_sem])
    clear hx hx1 hx2
    go_wp2
    refine bodyPost_ret (v := .agg #[.int .i64 m', .int .i64 x']) ?_ rfl ⟨rfl, ?_⟩
    · simp [results, Tryz.results96, go_sem, c0, c1]
    · exact (X.out.setCell (Nat.le_refl _) _).setCell (Nat.le_refl _) _

end Go.Proofs.YtogfiekbikechaaGreatDoor

namespace Go.Proofs.YtogfiekbikechaaGreatDoor
open Go.RowKit

theorem c1_ent (args : Array Value) (w : World) : (callFunc 96 args).run Tryz.prog w = .ok (.enter 96 args) w :=
  ent_any Tryz.func96 (by kernel_rfl) rfl args w
theorem guarded_closure (K : FuncId) (a : Ex) (m x n y : Int) (bp bq bs : Nat) (u : World) (hent : ∀ args w, (callFunc K args).run Tryz.prog w = .ok (.enter K args) w)
    (h1 : bp < u.heap.size) (h2 : bq < u.heap.size) (h3 : bs < u.heap.size)
    (cf : u.cell? ⟨bs, 0, none⟩ = some (.func (.func K) #[] #[])) (p0 : u.cell? ⟨bp, 0, none⟩ = some (.int .i64 m)) (p1 : u.cell? ⟨bp, 1, none⟩ = some (.int .i64 x))
    (q0 : u.cell? ⟨bq, 0, none⟩ = some (.int .i64 n)) (q1 : u.cell? ⟨bq, 1, none⟩ = some (.int .i64 y))
    (hm : a.man < 18446744073709551616) (he1 : -1000000 ≤ a.exp) (he2 : a.exp ≤ 1000000)
    (hop : ∀ w, Calls Tryz.prog K #[.agg #[.int .i64 m, .int .i64 x], .agg #[.int .i64 n, .int .i64 y]] w fun e w' => e = .returned (.agg #[.bool (a).neg, .int .u64 (a).man, .int .i64 (a).exp, .bool (a).more]) ∧ Ext w w') :
    Calls Tryz.prog 70 #[.func (.func 96) #[] #[.pointer (some ⟨bs, 0, none⟩), .pointer (some ⟨bp, 0, none⟩), .pointer (some ⟨bq, 0, none⟩)]] u fun e w' => e = .returned (.tuple #[.agg #[.int .i64 (okV a.rd).1, .int .i64 (okV a.rd).2], .int .i64 (okE a.rd)]) ∧ Ext u w' :=
  guarded_any 96 _ a.rd u c1_ent fun v hv => closure_any K a _ rfl m x n y bp bq bs v hent
    (fun ob => ((hv.alloc ob).cell 0 h3).trans cf) (fun ob => ((hv.alloc ob).cell 0 h1).trans p0) (fun ob => ((hv.alloc ob).cell 1 h1).trans p1)
    (fun ob => ((hv.alloc ob).cell 0 h2).trans q0) (fun ob => ((hv.alloc ob).cell 1 h2).trans q1) hm he1 he2 hop
set_option maxHeartbeats 1000000 in
theorem combined_bad (K : FuncId) (m x n y : Int) (w : World) (h : (validV m x && validV n y) = false) :
    Calls Tryz.prog 62 #[.agg #[.int .i64 m, .int .i64 x], .agg #[.int .i64 n, .int .i64 y], .func (.func K) #[] #[]] w fun e w' => e = .returned (.tuple #[.agg #[.int .i64 0, .int .i64 0], .int .i64 1]) ∧ Ext w w' := by
  have A := Lib.hid (both_any m x n y)
  rw [h] at A
  clear h
  go_enter Tryz.func62, Tryz.ntmps62
  go_wp2_with fail
  refine (A.out _).mono ?_
  rintro e w1 ⟨rfl, hx⟩
  have X := Lib.hid (((((Ext.refl w).alloc _).alloc _).alloc _).alloc _ |>.trans hx)
  have sz := X.out.size
  have c0 : w1.cell? ⟨w.heap.size + 1 + 1 + 1, 0, none⟩ = some (.int .i64 0) := (hx.cell 0 (by simp)).trans (by simp [go_sem])
  have c1 : w1.cell? ⟨w.heap.size + 1 + 1 + 1, 1, none⟩ = some (.int .i64 0) := (hx.cell 1 (by simp)).trans (by simp [go_sem])
  have f0 : ∀ j, w1.frozen? ⟨w.heap.size + 1 + 1 + 1, j, none⟩ = false := fun j => (hx.froz j (by simp)).trans (by simp [go_sem])
  clear hx
  go_wp2
  refine bodyPost_ret (v := .tuple #[.agg #[.int .i64 0, .int .i64 0], .int .i64 1]) ?_ rfl ⟨rfl, ?_⟩
  · simp [results, Tryz.results62, go_sem, c0, c1]
  · exact (X.out.setCell (by simp; omega) _).setCell (by simp; omega) _
set_option maxHeartbeats 1000000 in
theorem combined_good (K : FuncId) (a : Ex) (m x n y : Int) (w : World) (h : (validV m x && validV n y) = true) (hent : ∀ args w, (callFunc K args).run Tryz.prog w = .ok (.enter K args) w)
    (hm : a.man < 18446744073709551616) (he1 : -1000000 ≤ a.exp) (he2 : a.exp ≤ 1000000)
    (hop : ∀ w, Calls Tryz.prog K #[.agg #[.int .i64 m, .int .i64 x], .agg #[.int .i64 n, .int .i64 y]] w fun e w' => e = .returned (.agg #[.bool (a).neg, .int .u64 (a).man, .int .i64 (a).exp, .bool (a).more]) ∧ Ext w w') :
    Calls Tryz.prog 62 #[.agg #[.int .i64 m, .int .i64 x], .agg #[.int .i64 n, .int .i64 y], .func (.func K) #[] #[]] w fun e w' => e = .returned (.tuple #[.agg #[.int .i64 (okV a.rd).1, .int .i64 (okV a.rd).2], .int .i64 (okE a.rd)]) ∧ Ext w w' := by
  have A := Lib.hid (both_any m x n y)
  rw [h] at A
  have GC := Lib.hid (fun bp bq bs u h1 h2 h3 cf p0 p1 q0 q1 => guarded_closure K a m x n y bp bq bs u hent h1 h2 h3 cf p0 p1 q0 q1 hm he1 he2 hop)
  clear h hm he1 he2 hop hent
  generalize okV a.rd = ov at *
  generalize okE a.rd = oe at *
  obtain ⟨vm, vx⟩ := ov
  simp only at *
  have hmf : ∀ (fn : Fn) (first cap : Array Value) (w : World), (Instr.makeFunc fn first cap).run Tryz.prog w = .ok (.func fn first cap) w := fun _ _ _ _ => rfl
  go_enter Tryz.func62, Tryz.ntmps62
  go_wp2_with fail
  refine (A.out _).mono ?_
  rintro e w1 ⟨rfl, hx⟩
  have X := Lib.hid (((((Ext.refl w).alloc _).alloc _).alloc _).alloc _ |>.trans hx)
  have sz : w.heap.size + 1 + 1 + 1 + 1 ≤ w1.heap.size := by simpa using hx.size
  have c0 : w1.cell? ⟨w.heap.size + 1 + 1 + 1, 0, none⟩ = some (.int .i64 0) := (hx.cell 0 (by simp)).trans (by simp [go_sem])
  have c1 : w1.cell? ⟨w.heap.size + 1 + 1 + 1, 1, none⟩ = some (.int .i64 0) := (hx.cell 1 (by simp)).trans (by simp [go_sem])
  have f0 : ∀ j, w1.frozen? ⟨w.heap.size + 1 + 1 + 1, j, none⟩ = false := fun j => (hx.froz j (by simp)).trans (by simp [go_sem])
  have p0 : w1.cell? ⟨w.heap.size, 0, none⟩ = some (.int .i64 m) := (hx.cell 0 (by simp; omega)).trans (by simp [go_sem])
  have p1 : w1.cell? ⟨w.heap.size, 1, none⟩ = some (.int .i64 x) := (hx.cell 1 (by simp; omega)).trans (by simp [go_sem])
  have q0 : w1.cell? ⟨w.heap.size + 1, 0, none⟩ = some (.int .i64 n) := (hx.cell 0 (by simp)).trans (by simp [go_sem])
  have q1 : w1.cell? ⟨w.heap.size + 1, 1, none⟩ = some (.int .i64 y) := (hx.cell 1 (by simp)).trans (by simp [go_sem])
  have cf : w1.cell? ⟨w.heap.size + 1 + 1, 0, none⟩ = some (.func (.func K) #[] #[]) := (hx.cell 0 (by simp)).trans (by simp [go_sem])
  have HG := Lib.hid (GC.out _ _ _ w1 (by omega) (by omega) (by omega) cf p0 p1 q0 q1)
  clear hx GC p0 p1 q0 q1 cf
  go_wp2_with fail
  refine HG.out.mono ?_
  rintro e w2 ⟨rfl, hx⟩
  have X2 := Lib.hid (X.out.trans hx)
  have c0 := (hx.cell 0 (b := w.heap.size + 1 + 1 + 1) (by omega)).trans c0
  have c1 := (hx.cell 1 (b := w.heap.size + 1 + 1 + 1) (by omega)).trans c1
  have f0 : ∀ j, w2.frozen? ⟨w.heap.size + 1 + 1 + 1, j, none⟩ = false := fun j => (hx.froz j (by omega)).trans (f0 j)
  clear hx
  go_wp2
  refine bodyPost_ret (v := .tuple #[.agg #[.int .i64 vm, .int .i64 vx], .int .i64 oe]) ?_ rfl ⟨rfl, ?_⟩
  · simp [results, Tryz.results62, go_sem, c0, c1]
  · exact (X2.out.setCell (by simp; omega) _).setCell (by simp; omega) _

theorem combined_any (K : FuncId) (a : Ex) (m x n y : Int) (w : World) (hent : ∀ args w, (callFunc K args).run Tryz.prog w = .ok (.enter K args) w)
    (hop : (validV m x && validV n y) = true → (a.man < 18446744073709551616 ∧ -1000000 ≤ a.exp ∧ a.exp ≤ 1000000) ∧ ∀ w, Calls Tryz.prog K #[.agg #[.int .i64 m, .int .i64 x], .agg #[.int .i64 n, .int .i64 y]] w fun e w' => e = .returned (.agg #[.bool (a).neg, .int .u64 (a).man, .int .i64 (a).exp, .bool (a).more]) ∧ Ext w w') :
    Calls Tryz.prog 62 #[.agg #[.int .i64 m, .int .i64 x], .agg #[.int .i64 n, .int .i64 y], .func (.func K) #[] #[]] w fun e w' => e = .returned (.tuple #[.agg #[.int .i64 (combV m x n y a).1.1, .int .i64 (combV m x n y a).1.2], .int .i64 (combV m x n y a).2]) ∧ Ext w w' := by
  unfold combV
  cases h : validV m x && validV n y with
  | false => exact combined_bad K m x n y w h
  | true =>
    obtain ⟨⟨h1, h2, h3⟩, h4⟩ := hop h
    exact combined_good K a m x n y w h hent h1 h2 h3 h4
theorem both_bd {m x n y : Int} (h : (validV m x && validV n y) = true) : (-150 ≤ x ∧ x ≤ 150 ∧ -150 ≤ y ∧ y ≤ 150) ∧ (-16777216 < m ∧ m < 16777216 ∧ -16777216 < n ∧ n < 16777216) := by
  rw [Bool.and_eq_true] at h
  obtain ⟨a1, a2, a3, a4, _⟩ := valid_bd h.1
  obtain ⟨b1, b2, b3, b4, _⟩ := valid_bd h.2
  exact ⟨⟨a3, a4, b3, b4⟩, a1, a2, b1, b2⟩
theorem exV_ok {m x : Int} (h1 : -9223372036854775808 ≤ m) (h2 : m < 9223372036854775808) (h3 : -1000000 ≤ x) (h4 : x ≤ 1000000) : (exV m x).man < 18446744073709551616 ∧ -1000000 ≤ (exV m x).exp ∧ (exV m x).exp ≤ 1000000 :=
  ⟨exV_man h1 h2, h3, h4⟩
theorem sum_ok (m x n y : Int) (b1 : -150 ≤ x) (b2 : x ≤ 150) (b3 : -150 ≤ y) (b4 : y ≤ 150) (c1 : -16777216 < m) (c2 : m < 16777216) (c3 : -16777216 < n) (c4 : n < 16777216) :
    (sumV m x n y).man < 18446744073709551616 ∧ -1000000 ≤ (sumV m x n y).exp ∧ (sumV m x n y).exp ≤ 1000000 := by
  unfold sumV
  by_cases h : m = 0
  · rw [if_pos h]; exact exV_ok (by omega) (by omega) (by omega) (by omega)
  rw [if_neg h]
  by_cases h2 : n = 0
  · rw [if_pos h2]; exact exV_ok (by omega) (by omega) (by omega) (by omega)
  rw [if_neg h2]
  by_cases h3 : x < y
  · rw [if_pos h3]
    by_cases h4 : 32 < y - x
    · rw [if_pos h4]; exact exV_ok (by omega) (by omega) (by omega) (by omega)
    · rw [if_neg h4]
      obtain ⟨k1, k2⟩ := shl_bd (y - x).toNat (by omega) c3 c4
      exact exV_ok (by omega) (by omega) (by omega) (by omega)
  · rw [if_neg h3]
    by_cases h4 : 32 < x - y
    · rw [if_pos h4]; exact exV_ok (by omega) (by omega) (by omega) (by omega)
    · rw [if_neg h4]
      obtain ⟨k1, k2⟩ := shl_bd (x - y).toNat (by omega) c1 c2
      exact exV_ok (by omega) (by omega) (by omega) (by omega)
theorem prod_ok (m x n y : Int) (b1 : -150 ≤ x) (b2 : x ≤ 150) (b3 : -150 ≤ y) (b4 : y ≤ 150) (c1 : -16777216 < m) (c2 : m < 16777216) (c3 : -16777216 < n) (c4 : n < 16777216) :
    (prodV m x n y).man < 18446744073709551616 ∧ -1000000 ≤ (prodV m x n y).exp ∧ (prodV m x n y).exp ≤ 1000000 := by
  obtain ⟨k1, k2⟩ := mul_bd c1 c2 c3 c4
  exact exV_ok (by omega) (by omega) (by omega) (by omega)

theorem add_ent (args : Array Value) (w : World) : (callFunc 63 args).run Tryz.prog w = .ok (.enter 63 args) w :=
  ent_any Tryz.func63 (by kernel_rfl) rfl args w
theorem add_comb (m x n y : Int) (w : World) :
    Calls Tryz.prog 62 #[.agg #[.int .i64 m, .int .i64 x], .agg #[.int .i64 n, .int .i64 y], .func (.func 63) #[] #[]] w fun e w' => e = .returned (.tuple #[.agg #[.int .i64 (combV m x n y (sumV m x n y)).1.1, .int .i64 (combV m x n y (sumV m x n y)).1.2], .int .i64 (combV m x n y (sumV m x n y)).2]) ∧ Ext w w' :=
  combined_any 63 (sumV m x n y) m x n y w add_ent fun h => by
    obtain ⟨⟨b1, b2, b3, b4⟩, c1, c2, c3, c4⟩ := both_bd h
    exact ⟨sum_ok m x n y b1 b2 b3 b4 c1 c2 c3 c4, fun w => sum_any m x n y b1 b2 b3 b4 c1 c2 c3 c4 w⟩
set_option maxHeartbeats 1000000 in
theorem add_real (m x n y : Int) (w : World) :
    Calls Tryz.prog 28 #[.agg #[.int .i64 m, .int .i64 x], .agg #[.int .i64 n, .int .i64 y]] w fun e w' => e = .returned (.tuple #[.agg #[.int .i64 (combV m x n y (sumV m x n y)).1.1, .int .i64 (combV m x n y (sumV m x n y)).1.2], .int .i64 (combV m x n y (sumV m x n y)).2]) ∧ Ext w w' := by
  have A := Lib.hid (add_comb m x n y)
  generalize combV m x n y (sumV m x n y) = r at *
  obtain ⟨⟨rm, rx⟩, re⟩ := r
  simp only at *
  have hmf : ∀ (fn : Fn) (first cap : Array Value) (w : World), (Instr.makeFunc fn first cap).run Tryz.prog w = .ok (.func fn first cap) w := fun _ _ _ _ => rfl
  go_enter Tryz.func28, Tryz.ntmps28
  go_wp2_with fail
  refine (A.out _).mono ?_
  rintro e w1 ⟨rfl, hx⟩
  have X := Lib.hid ((((Ext.refl w).alloc _).alloc _).alloc _ |>.trans hx)
  have sz : w.heap.size + 1 + 1 + 1 ≤ w1.heap.size := by simpa using hx.size
  have c0 : w1.cell? ⟨w.heap.size + 1 + 1, 0, none⟩ = some (.int .i64 0) := (hx.cell 0 (by simp)).trans (by simp [go_sem])
  have c1 : w1.cell? ⟨w.heap.size + 1 + 1, 1, none⟩ = some (.int .i64 0) := (hx.cell 1 (by simp)).trans (by simp [go_sem])
  have f0 : ∀ j, w1.frozen? ⟨w.heap.size + 1 + 1, j, none⟩ = false := fun j => (hx.froz j (by simp)).trans (by simp [go_sem])
  clear hx
  go_wp2
  refine bodyPost_ret (v := .tuple #[.agg #[.int .i64 rm, .int .i64 rx], .int .i64 re]) ?_ rfl ⟨rfl, ?_⟩
  · simp [results, Tryz.results28, go_sem, c0, c1]
  · exact (X.out.setCell (by simp; omega) _).setCell (by simp; omega) _

theorem mul_ent (args : Array Value) (w : World) : (callFunc 68 args).run Tryz.prog w = .ok (.enter 68 args) w :=
  ent_any Tryz.func68 (by kernel_rfl) rfl args w
theorem mul_comb (m x n y : Int) (w : World) :
    Calls Tryz.prog 62 #[.agg #[.int .i64 m, .int .i64 x], .agg #[.int .i64 n, .int .i64 y], .func (.func 68) #[] #[]] w fun e w' => e = .returned (.tuple #[.agg #[.int .i64 (combV m x n y (prodV m x n y)).1.1, .int .i64 (combV m x n y (prodV m x n y)).1.2], .int .i64 (combV m x n y (prodV m x n y)).2]) ∧ Ext w w' :=
  combined_any 68 (prodV m x n y) m x n y w mul_ent fun h => by
    obtain ⟨⟨b1, b2, b3, b4⟩, c1, c2, c3, c4⟩ := both_bd h
    exact ⟨prod_ok m x n y b1 b2 b3 b4 c1 c2 c3 c4, fun w => prod_any m x n y b1 b2 b3 b4 c1 c2 c3 c4 w⟩
set_option maxHeartbeats 1000000 in
theorem mul_real (m x n y : Int) (w : World) :
    Calls Tryz.prog 33 #[.agg #[.int .i64 m, .int .i64 x], .agg #[.int .i64 n, .int .i64 y]] w fun e w' => e = .returned (.tuple #[.agg #[.int .i64 (combV m x n y (prodV m x n y)).1.1, .int .i64 (combV m x n y (prodV m x n y)).1.2], .int .i64 (combV m x n y (prodV m x n y)).2]) ∧ Ext w w' := by
  have A := Lib.hid (mul_comb m x n y)
  generalize combV m x n y (prodV m x n y) = r at *
  obtain ⟨⟨rm, rx⟩, re⟩ := r
  simp only at *
  have hmf : ∀ (fn : Fn) (first cap : Array Value) (w : World), (Instr.makeFunc fn first cap).run Tryz.prog w = .ok (.func fn first cap) w := fun _ _ _ _ => rfl
  go_enter Tryz.func33, Tryz.ntmps33
  go_wp2_with fail
  refine (A.out _).mono ?_
  rintro e w1 ⟨rfl, hx⟩
  have X := Lib.hid ((((Ext.refl w).alloc _).alloc _).alloc _ |>.trans hx)
  have sz : w.heap.size + 1 + 1 + 1 ≤ w1.heap.size := by simpa using hx.size
  have c0 : w1.cell? ⟨w.heap.size + 1 + 1, 0, none⟩ = some (.int .i64 0) := (hx.cell 0 (by simp)).trans (by simp [go_sem])
  have c1 : w1.cell? ⟨w.heap.size + 1 + 1, 1, none⟩ = some (.int .i64 0) := (hx.cell 1 (by simp)).trans (by simp [go_sem])
  have f0 : ∀ j, w1.frozen? ⟨w.heap.size + 1 + 1, j, none⟩ = false := fun j => (hx.froz j (by simp)).trans (by simp [go_sem])
  clear hx
  go_wp2
  refine bodyPost_ret (v := .tuple #[.agg #[.int .i64 rm, .int .i64 rx], .int .i64 re]) ?_ rfl ⟨rfl, ?_⟩
  · simp [results, Tryz.results33, go_sem, c0, c1]
  · exact (X.out.setCell (by simp; omega) _).setCell (by simp; omega) _

end Go.Proofs.YtogfiekbikechaaGreatDoor

namespace Go.Proofs.YtogfiekbikechaaGreatDoor
open Go.RowKit


theorem place_z (x : Int) (w : World) :
    Calls Tryz.prog 57 #[.agg #[.int .i64 0, .int .i64 x]] w fun e w' => e = .returned (.int .i64 0) ∧ Ext w w' := by
  go_enter Tryz.func57, Tryz.ntmps57
  go_wp2
  refine bodyPost_ret (v := .int .i64 0) ?_ rfl ⟨rfl, ?_⟩
  · simp [results, Tryz.results57, go_sem]
  · repeat (first | with_reducible exact Ext.refl _ | with_reducible refine Ext.alloc ?_ _ | with_reducible refine Ext.setCell ?_ (by simp) _)
theorem place_n (m x : Int) (b1 : -16777216 < m) (b2 : m < 16777216) (b3 : -150 ≤ x) (b4 : x ≤ 150) (h0 : (m == 0) = false) (h : m < 0) (w : World) :
    Calls Tryz.prog 57 #[.agg #[.int .i64 m, .int .i64 x]] w fun e w' => e = .returned (.int .i64 (m - (x - -150) * 8388608)) ∧ Ext w w' := by
  go_enter Tryz.func57, Tryz.ntmps57
  go_wp2
  refine bodyPost_ret (v := .int .i64 (m - (x - -150) * 8388608)) ?_ rfl ⟨rfl, ?_⟩
  · simp [results, Tryz.results57, go_sem]
  · repeat (first | with_reducible exact Ext.refl _ | with_reducible refine Ext.alloc ?_ _ | with_reducible refine Ext.setCell ?_ (by simp) _)
theorem place_p (m x : Int) (b1 : -16777216 < m) (b2 : m < 16777216) (b3 : -150 ≤ x) (b4 : x ≤ 150) (h0 : (m == 0) = false) (h : ¬ m < 0) (w : World) :
    Calls Tryz.prog 57 #[.agg #[.int .i64 m, .int .i64 x]] w fun e w' => e = .returned (.int .i64 (m + (x - -150) * 8388608)) ∧ Ext w w' := by
  go_enter Tryz.func57, Tryz.ntmps57
  go_wp2
  refine bodyPost_ret (v := .int .i64 (m + (x - -150) * 8388608)) ?_ rfl ⟨rfl, ?_⟩
  · simp [results, Tryz.results57, go_sem]
  · repeat (first | with_reducible exact Ext.refl _ | with_reducible refine Ext.alloc ?_ _ | with_reducible refine Ext.setCell ?_ (by simp) _)
theorem place_any (m x : Int) (b1 : -16777216 < m) (b2 : m < 16777216) (b3 : -150 ≤ x) (b4 : x ≤ 150) (w : World) :
    Calls Tryz.prog 57 #[.agg #[.int .i64 m, .int .i64 x]] w fun e w' => e = .returned (.int .i64 (placeV m x)) ∧ Ext w w' := by
  unfold placeV
  by_cases h0 : m = 0
  · subst h0; rw [if_pos rfl]; exact place_z x w
  rw [if_neg h0]
  by_cases h : m < 0
  · rw [if_pos h]; exact place_n m x b1 b2 b3 b4 (by simpa using h0) h w
  · rw [if_neg h]; exact place_p m x b1 b2 b3 b4 (by simpa using h0) h w
theorem isNaN_i (x : Int) (w : World) :
    Calls Tryz.prog 95 #[.int .i64 x] w fun e w' => e = .returned (.bool false) ∧ w = w' := by
  have h1 : (x != x) = false := by simp
  go_enter Tryz.func95, Tryz.ntmps95
  go_wp2
  go_ret
  exact ⟨rfl, rfl⟩
theorem compareI_any (a b : Int) (w : World) :
    Calls Tryz.prog 59 #[.int .i64 a, .int .i64 b] w fun e w' => e = .returned (.int .i64 (cmpI a b)) ∧ w = w' := by
  rcases Int.lt_trichotomy a b with h | h | h
  · have hc : cmpI a b = -1 := by unfold cmpI; rw [if_pos h]
    rw [hc]
    go_enter Tryz.func59, Tryz.ntmps59
    go_wp2_with (first | (go_at_call 95; refine (isNaN_i _ _).mono ?_; rintro e w' ⟨rfl, rfl⟩))
    all_goals go_ret
    all_goals exact ⟨rfl, rfl⟩
  · subst h
    have hc : cmpI a a = 0 := by unfold cmpI; rw [if_neg (by omega), if_neg (by omega)]
    rw [hc]
    go_enter Tryz.func59, Tryz.ntmps59
    go_wp2_with (first | (go_at_call 95; refine (isNaN_i _ _).mono ?_; rintro e w' ⟨rfl, rfl⟩))
    all_goals go_ret
    all_goals exact ⟨rfl, rfl⟩
  · have hc : cmpI a b = 1 := by unfold cmpI; rw [if_neg (by omega), if_pos h]
    have h' : ¬ a < b := by omega
    rw [hc]
    go_enter Tryz.func59, Tryz.ntmps59
    go_wp2_with (first | (go_at_call 95; refine (isNaN_i _ _).mono ?_; rintro e w' ⟨rfl, rfl⟩))
    all_goals go_ret
    all_goals exact ⟨rfl, rfl⟩
theorem at_z (w : World) :
    Calls Tryz.prog 51 #[.int .i64 0] w fun e w' => e = .returned (.agg #[.int .i64 0, .int .i64 0]) ∧ Ext w w' := by
  go_enter Tryz.func51, Tryz.ntmps51
  go_wp2
  refine bodyPost_ret (v := .agg #[.int .i64 0, .int .i64 0]) ?_ rfl ⟨rfl, ?_⟩
  · simp [results, Tryz.results51, go_sem]
  · repeat (first | with_reducible exact Ext.refl _ | with_reducible refine Ext.alloc ?_ _ | with_reducible refine Ext.setCell ?_ (by simp) _)
theorem at_p (i k : Int) (hk : k = max (i / 8388608 - 1) 0) (h0 : (i == 0) = false) (h1 : 0 < i) (h2 : i < 4611686018427387904) (w : World) :
    Calls Tryz.prog 51 #[.int .i64 i] w fun e w' => e = .returned (.agg #[.int .i64 (i - k * 8388608), .int .i64 (-150 + k)]) ∧ Ext w w' := by
  have d1 : i.tdiv 8388608 = i / 8388608 := Int.tdiv_eq_ediv_of_nonneg (by omega)
  have k0 : 0 ≤ k := by omega
  have k1 : k * 8388608 ≤ i := by omega
  have q1 : 0 ≤ i / 8388608 := by omega
  have q2 : i / 8388608 ≤ i := by omega
  have n1 : ¬ i < 0 := by omega
  go_enter Tryz.func51, Tryz.ntmps51
  go_wp2
  subst hk
  refine bodyPost_ret (v := .agg #[.int .i64 (i - max (i / 8388608 - 1) 0 * 8388608), .int .i64 (-150 + max (i / 8388608 - 1) 0)]) ?_ rfl ⟨rfl, ?_⟩
  · simp [results, Tryz.results51, go_sem]
  · repeat (first | with_reducible exact Ext.refl _ | with_reducible refine Ext.alloc ?_ _ | with_reducible refine Ext.setCell ?_ (by simp) _)
theorem at_pos (i : Int) (h1 : 0 ≤ i) (h2 : i < 4611686018427387904) (w : World) :
    Calls Tryz.prog 51 #[.int .i64 i] w fun e w' => e = .returned (.agg #[.int .i64 (atP i).1, .int .i64 (atP i).2]) ∧ Ext w w' := by
  unfold atP
  by_cases h0 : i = 0
  · subst h0; exact at_z w
  · rw [if_neg h0]; exact at_p i _ rfl (by simpa using h0) (by omega) h2 w
theorem atP_bd {i : Int} (h1 : 0 ≤ i) (h2 : i < 4611686018427387904) : 0 ≤ (atP i).1 ∧ (atP i).1 < 4611686018427387904 := by
  unfold atP
  split
  · exact ⟨by omega, by omega⟩
  · simp only; omega
theorem at_neg (i : Int) (h : i < 0) (h2 : -4611686018427387904 < i) (w : World) :
    Calls Tryz.prog 51 #[.int .i64 i] w fun e w' => e = .returned (.agg #[.int .i64 (-(atP (-i)).1), .int .i64 (atP (-i)).2]) ∧ Ext w w' := by
  obtain ⟨z1, z2⟩ := atP_bd (i := -i) (by omega) (by omega)
  have A := Lib.hid (at_pos (-i) (by omega) (by omega))
  have B := Lib.hid (opposite_any (atP (-i)).1 (atP (-i)).2 (by omega) (by omega))
  generalize atP (-i) = q at *
  obtain ⟨qm, qx⟩ := q
  simp only at *
  go_enter Tryz.func51, Tryz.ntmps51
  go_wp2_with fail
  refine (A.out _).mono ?_
  rintro e w1 ⟨rfl, hx1⟩
  go_wp2_with fail
  refine (B.out _).mono ?_
  rintro e w2 ⟨rfl, hx2⟩
  have hx := hx1.trans hx2
  have X := Lib.hid (((Ext.refl w).alloc _).trans hx)
  have c0 : w2.cell? ⟨w.heap.size, 0, none⟩ = some (.int .i64 0) := (hx.cell 0 (by simp)).trans (by simp [go_sem])
  have c1 : w2.cell? ⟨w.heap.size, 1, none⟩ = some (.int .i64 0) := (hx.cell 1 (by simp)).trans (by simp [go_sem])
  have f0 : ∀ j, w2.frozen? ⟨w.heap.size, j, none⟩ = false := fun j => (hx.froz j (by simp)).trans (by simp [go_sem])
  clear hx hx1 hx2
  go_wp2
  refine bodyPost_ret (v := .agg #[.int .i64 (-qm), .int .i64 qx]) ?_ rfl ⟨rfl, ?_⟩
  · simp [results, Tryz.results51, go_sem, c0, c1]
  · exact (X.out.setCell (Nat.le_refl _) _).setCell (Nat.le_refl _) _
theorem at_any (i : Int) (h1 : -4611686018427387904 < i) (h2 : i < 4611686018427387904) (w : World) :
    Calls Tryz.prog 51 #[.int .i64 i] w fun e w' => e = .returned (.agg #[.int .i64 (atV i).1, .int .i64 (atV i).2]) ∧ Ext w w' := by
  unfold atV
  by_cases h : i < 0
  · rw [if_pos h]; exact at_neg i h h1 w
  · rw [if_neg h]; exact at_pos i (by omega) h2 w
set_option maxHeartbeats 1000000 in
theorem Index_bad (m x : Int)  (w : World) (hv : validV m x = false) :
    Calls Tryz.prog 17 #[.agg #[.int .i64 m, .int .i64 x]] w fun e w' => e = .returned (.tuple #[.int .i64 0, .int .i64 1]) ∧ Ext w w' := by
  have A := Lib.hid (valid_any m x)
  rw [hv] at A
  go_enter Tryz.func17, Tryz.ntmps17
  go_wp2_with fail
  refine (A.out _).mono ?_
  rintro e w1 ⟨rfl, hx⟩
  have sz : w.heap.size + 1 ≤ w1.heap.size := by simpa using hx.size
  have X : Hid (Ext w w1) := Lib.hid (Ext.trans (by repeat (first | with_reducible exact Ext.refl _ | with_reducible refine Ext.alloc ?_ _ | with_reducible refine Ext.setCell ?_ (by simp) _)) hx)
  have p0 : w1.cell? ⟨w.heap.size, 0, none⟩ = some (.int .i64 m) := (hx.cell 0 (by simp; try omega)).trans (by simp [go_sem])
  have p1 : w1.cell? ⟨w.heap.size, 1, none⟩ = some (.int .i64 x) := (hx.cell 1 (by simp; try omega)).trans (by simp [go_sem])
  clear hx
  go_wp2
  refine bodyPost_ret (v := .tuple #[.int .i64 0, .int .i64 1]) ?_ rfl ⟨rfl, ?_⟩
  · simp [results, Tryz.results17, go_sem]
  · repeat (first | with_reducible exact X.out | with_reducible refine Ext.alloc ?_ _ | with_reducible refine Ext.setCell ?_ (by simp; try omega) _)
set_option maxHeartbeats 1000000 in
theorem Neg_bad (m x : Int)  (w : World) (hv : validV m x = false) :
    Calls Tryz.prog 19 #[.agg #[.int .i64 m, .int .i64 x]] w fun e w' => e = .returned (.tuple #[.agg #[.int .i64 0, .int .i64 0], .int .i64 1]) ∧ Ext w w' := by
  have A := Lib.hid (valid_any m x)
  rw [hv] at A
  go_enter Tryz.func19, Tryz.ntmps19
  go_wp2_with fail
  refine (A.out _).mono ?_
  rintro e w1 ⟨rfl, hx⟩
  have sz : w.heap.size + 2 ≤ w1.heap.size := by simpa using hx.size
  have X : Hid (Ext w w1) := Lib.hid (Ext.trans (by repeat (first | with_reducible exact Ext.refl _ | with_reducible refine Ext.alloc ?_ _ | with_reducible refine Ext.setCell ?_ (by simp) _)) hx)
  have p0 : w1.cell? ⟨w.heap.size, 0, none⟩ = some (.int .i64 m) := (hx.cell 0 (by simp; try omega)).trans (by simp [go_sem])
  have p1 : w1.cell? ⟨w.heap.size, 1, none⟩ = some (.int .i64 x) := (hx.cell 1 (by simp; try omega)).trans (by simp [go_sem])
  have c0 : w1.cell? ⟨w.heap.size + 1, 0, none⟩ = some (.int .i64 0) := (hx.cell 0 (by simp)).trans (by simp [go_sem])
  have c1 : w1.cell? ⟨w.heap.size + 1, 1, none⟩ = some (.int .i64 0) := (hx.cell 1 (by simp)).trans (by simp [go_sem])
  have f0 : ∀ j, w1.frozen? ⟨w.heap.size + 1, j, none⟩ = false := fun j => (hx.froz j (by simp)).trans (by simp [go_sem])
  clear hx
  go_wp2
  refine bodyPost_ret (v := .tuple #[.agg #[.int .i64 0, .int .i64 0], .int .i64 1]) ?_ rfl ⟨rfl, ?_⟩
  · simp [results, Tryz.results19, go_sem, c0, c1]
  · repeat (first | with_reducible exact X.out | with_reducible refine Ext.alloc ?_ _ | with_reducible refine Ext.setCell ?_ (by simp; try omega) _)
set_option maxHeartbeats 1000000 in
theorem Abs_bad (m x : Int)  (w : World) (hv : validV m x = false) :
    Calls Tryz.prog 20 #[.agg #[.int .i64 m, .int .i64 x]] w fun e w' => e = .returned (.tuple #[.agg #[.int .i64 0, .int .i64 0], .int .i64 1]) ∧ Ext w w' := by
  have A := Lib.hid (valid_any m x)
  rw [hv] at A
  go_enter Tryz.func20, Tryz.ntmps20
  go_wp2_with fail
  refine (A.out _).mono ?_
  rintro e w1 ⟨rfl, hx⟩
  have sz : w.heap.size + 2 ≤ w1.heap.size := by simpa using hx.size
  have X : Hid (Ext w w1) := Lib.hid (Ext.trans (by repeat (first | with_reducible exact Ext.refl _ | with_reducible refine Ext.alloc ?_ _ | with_reducible refine Ext.setCell ?_ (by simp) _)) hx)
  have p0 : w1.cell? ⟨w.heap.size, 0, none⟩ = some (.int .i64 m) := (hx.cell 0 (by simp; try omega)).trans (by simp [go_sem])
  have p1 : w1.cell? ⟨w.heap.size, 1, none⟩ = some (.int .i64 x) := (hx.cell 1 (by simp; try omega)).trans (by simp [go_sem])
  have c0 : w1.cell? ⟨w.heap.size + 1, 0, none⟩ = some (.int .i64 0) := (hx.cell 0 (by simp)).trans (by simp [go_sem])
  have c1 : w1.cell? ⟨w.heap.size + 1, 1, none⟩ = some (.int .i64 0) := (hx.cell 1 (by simp)).trans (by simp [go_sem])
  have f0 : ∀ j, w1.frozen? ⟨w.heap.size + 1, j, none⟩ = false := fun j => (hx.froz j (by simp)).trans (by simp [go_sem])
  clear hx
  go_wp2
  refine bodyPost_ret (v := .tuple #[.agg #[.int .i64 0, .int .i64 0], .int .i64 1]) ?_ rfl ⟨rfl, ?_⟩
  · simp [results, Tryz.results20, go_sem, c0, c1]
  · repeat (first | with_reducible exact X.out | with_reducible refine Ext.alloc ?_ _ | with_reducible refine Ext.setCell ?_ (by simp; try omega) _)
set_option maxHeartbeats 1000000 in
theorem Sign_bad (m x : Int)  (w : World) (hv : validV m x = false) :
    Calls Tryz.prog 21 #[.agg #[.int .i64 m, .int .i64 x]] w fun e w' => e = .returned (.tuple #[.int .i64 0, .int .i64 1]) ∧ Ext w w' := by
  have A := Lib.hid (valid_any m x)
  rw [hv] at A
  go_enter Tryz.func21, Tryz.ntmps21
  go_wp2_with fail
  refine (A.out _).mono ?_
  rintro e w1 ⟨rfl, hx⟩
  have sz : w.heap.size + 1 ≤ w1.heap.size := by simpa using hx.size
  have X : Hid (Ext w w1) := Lib.hid (Ext.trans (by repeat (first | with_reducible exact Ext.refl _ | with_reducible refine Ext.alloc ?_ _ | with_reducible refine Ext.setCell ?_ (by simp) _)) hx)
  have p0 : w1.cell? ⟨w.heap.size, 0, none⟩ = some (.int .i64 m) := (hx.cell 0 (by simp; try omega)).trans (by simp [go_sem])
  have p1 : w1.cell? ⟨w.heap.size, 1, none⟩ = some (.int .i64 x) := (hx.cell 1 (by simp; try omega)).trans (by simp [go_sem])
  clear hx
  go_wp2
  refine bodyPost_ret (v := .tuple #[.int .i64 0, .int .i64 1]) ?_ rfl ⟨rfl, ?_⟩
  · simp [results, Tryz.results21, go_sem]
  · repeat (first | with_reducible exact X.out | with_reducible refine Ext.alloc ?_ _ | with_reducible refine Ext.setCell ?_ (by simp; try omega) _)
set_option maxHeartbeats 1000000 in
theorem Next_bad (m x : Int)  (w : World) (hv : validV m x = false) :
    Calls Tryz.prog 18 #[.agg #[.int .i64 m, .int .i64 x]] w fun e w' => e = .returned (.tuple #[.agg #[.int .i64 0, .int .i64 0], .int .i64 1]) ∧ Ext w w' := by
  have A := Lib.hid (valid_any m x)
  rw [hv] at A
  go_enter Tryz.func18, Tryz.ntmps18
  go_wp2_with fail
  refine (A.out _).mono ?_
  rintro e w1 ⟨rfl, hx⟩
  have sz : w.heap.size + 2 ≤ w1.heap.size := by simpa using hx.size
  have X : Hid (Ext w w1) := Lib.hid (Ext.trans (by repeat (first | with_reducible exact Ext.refl _ | with_reducible refine Ext.alloc ?_ _ | with_reducible refine Ext.setCell ?_ (by simp) _)) hx)
  have p0 : w1.cell? ⟨w.heap.size, 0, none⟩ = some (.int .i64 m) := (hx.cell 0 (by simp; try omega)).trans (by simp [go_sem])
  have p1 : w1.cell? ⟨w.heap.size, 1, none⟩ = some (.int .i64 x) := (hx.cell 1 (by simp; try omega)).trans (by simp [go_sem])
  have c0 : w1.cell? ⟨w.heap.size + 1, 0, none⟩ = some (.int .i64 0) := (hx.cell 0 (by simp)).trans (by simp [go_sem])
  have c1 : w1.cell? ⟨w.heap.size + 1, 1, none⟩ = some (.int .i64 0) := (hx.cell 1 (by simp)).trans (by simp [go_sem])
  have f0 : ∀ j, w1.frozen? ⟨w.heap.size + 1, j, none⟩ = false := fun j => (hx.froz j (by simp)).trans (by simp [go_sem])
  clear hx
  go_wp2
  refine bodyPost_ret (v := .tuple #[.agg #[.int .i64 0, .int .i64 0], .int .i64 1]) ?_ rfl ⟨rfl, ?_⟩
  · simp [results, Tryz.results18, go_sem, c0, c1]
  · repeat (first | with_reducible exact X.out | with_reducible refine Ext.alloc ?_ _ | with_reducible refine Ext.setCell ?_ (by simp; try omega) _)
set_option maxHeartbeats 1000000 in
theorem Index_good (m x : Int)  (w : World) (hv : validV m x = true) :
    Calls Tryz.prog 17 #[.agg #[.int .i64 m, .int .i64 x]] w fun e w' => e = .returned (.tuple #[.int .i64 (placeV m x), .int .i64 0]) ∧ Ext w w' := by
  have A := Lib.hid (valid_any m x)
  rw [hv] at A
  obtain ⟨b1, b2, b3, b4, _⟩ := valid_bd hv
  have Pl := Lib.hid (place_any m x b1 b2 b3 b4)
  go_enter Tryz.func17, Tryz.ntmps17
  go_wp2_with fail
  refine (A.out _).mono ?_
  rintro e w1 ⟨rfl, hx⟩
  have sz : w.heap.size + 1 ≤ w1.heap.size := by simpa using hx.size
  have X : Hid (Ext w w1) := Lib.hid (Ext.trans (by repeat (first | with_reducible exact Ext.refl _ | with_reducible refine Ext.alloc ?_ _ | with_reducible refine Ext.setCell ?_ (by simp) _)) hx)
  have p0 : w1.cell? ⟨w.heap.size, 0, none⟩ = some (.int .i64 m) := (hx.cell 0 (by simp; try omega)).trans (by simp [go_sem])
  have p1 : w1.cell? ⟨w.heap.size, 1, none⟩ = some (.int .i64 x) := (hx.cell 1 (by simp; try omega)).trans (by simp [go_sem])
  clear hx
  go_wp2_with fail
  refine (Pl.out _).mono ?_
  rintro e w2 ⟨rfl, hx⟩
  have p0 := (hx.cell 0 (b := w.heap.size) (by omega)).trans p0
  have p1 := (hx.cell 1 (b := w.heap.size) (by omega)).trans p1
  have sz : w.heap.size + 1 ≤ w2.heap.size := Nat.le_trans sz hx.size
  have X := Lib.hid (X.out.trans hx)
  clear hx
  go_wp2
  refine bodyPost_ret (v := .tuple #[.int .i64 (placeV m x), .int .i64 0]) ?_ rfl ⟨rfl, ?_⟩
  · simp [results, Tryz.results17, go_sem]
  · repeat (first | with_reducible exact X.out | with_reducible refine Ext.alloc ?_ _ | with_reducible refine Ext.setCell ?_ (by simp; try omega) _)
set_option maxHeartbeats 1000000 in
theorem Neg_good (m x : Int)  (w : World) (hv : validV m x = true) :
    Calls Tryz.prog 19 #[.agg #[.int .i64 m, .int .i64 x]] w fun e w' => e = .returned (.tuple #[.agg #[.int .i64 (-m), .int .i64 x], .int .i64 0]) ∧ Ext w w' := by
  have A := Lib.hid (valid_any m x)
  rw [hv] at A
  obtain ⟨b1, b2, b3, b4, _⟩ := valid_bd hv
  have Op := Lib.hid (opposite_any m x (by omega) (by omega))
  go_enter Tryz.func19, Tryz.ntmps19
  go_wp2_with fail
  refine (A.out _).mono ?_
  rintro e w1 ⟨rfl, hx⟩
  have sz : w.heap.size + 2 ≤ w1.heap.size := by simpa using hx.size
  have X : Hid (Ext w w1) := Lib.hid (Ext.trans (by repeat (first | with_reducible exact Ext.refl _ | with_reducible refine Ext.alloc ?_ _ | with_reducible refine Ext.setCell ?_ (by simp) _)) hx)
  have p0 : w1.cell? ⟨w.heap.size, 0, none⟩ = some (.int .i64 m) := (hx.cell 0 (by simp; try omega)).trans (by simp [go_sem])
  have p1 : w1.cell? ⟨w.heap.size, 1, none⟩ = some (.int .i64 x) := (hx.cell 1 (by simp; try omega)).trans (by simp [go_sem])
  have c0 : w1.cell? ⟨w.heap.size + 1, 0, none⟩ = some (.int .i64 0) := (hx.cell 0 (by simp)).trans (by simp [go_sem])
  have c1 : w1.cell? ⟨w.heap.size + 1, 1, none⟩ = some (.int .i64 0) := (hx.cell 1 (by simp)).trans (by simp [go_sem])
  have f0 : ∀ j, w1.frozen? ⟨w.heap.size + 1, j, none⟩ = false := fun j => (hx.froz j (by simp)).trans (by simp [go_sem])
  clear hx
  go_wp2_with fail
  refine (Op.out _).mono ?_
  rintro e w2 ⟨rfl, hx⟩
  have p0 := (hx.cell 0 (b := w.heap.size) (by omega)).trans p0
  have p1 := (hx.cell 1 (b := w.heap.size) (by omega)).trans p1
  have c0 := (hx.cell 0 (b := w.heap.size + 1) (by omega)).trans c0
  have c1 := (hx.cell 1 (b := w.heap.size + 1) (by omega)).trans c1
  have f0 : ∀ j, w2.frozen? ⟨w.heap.size + 1, j, none⟩ = false := fun j => (hx.froz j (by omega)).trans (f0 j)
  have sz : w.heap.size + 2 ≤ w2.heap.size := Nat.le_trans sz hx.size
  have X := Lib.hid (X.out.trans hx)
  clear hx
  go_wp2
  refine bodyPost_ret (v := .tuple #[.agg #[.int .i64 (-m), .int .i64 x], .int .i64 0]) ?_ rfl ⟨rfl, ?_⟩
  · simp [results, Tryz.results19, go_sem, c0, c1]
  · repeat (first | with_reducible exact X.out | with_reducible refine Ext.alloc ?_ _ | with_reducible refine Ext.setCell ?_ (by simp; try omega) _)
set_option maxHeartbeats 1000000 in
theorem Sign_good (m x : Int)  (w : World) (hv : validV m x = true) :
    Calls Tryz.prog 21 #[.agg #[.int .i64 m, .int .i64 x]] w fun e w' => e = .returned (.tuple #[.int .i64 (cmpI m 0), .int .i64 0]) ∧ Ext w w' := by
  have A := Lib.hid (valid_any m x)
  rw [hv] at A
  obtain ⟨b1, b2, b3, b4, _⟩ := valid_bd hv
  have Cm := Lib.hid (compareI_any m 0)
  go_enter Tryz.func21, Tryz.ntmps21
  go_wp2_with fail
  refine (A.out _).mono ?_
  rintro e w1 ⟨rfl, hx⟩
  have sz : w.heap.size + 1 ≤ w1.heap.size := by simpa using hx.size
  have X : Hid (Ext w w1) := Lib.hid (Ext.trans (by repeat (first | with_reducible exact Ext.refl _ | with_reducible refine Ext.alloc ?_ _ | with_reducible refine Ext.setCell ?_ (by simp) _)) hx)
  have p0 : w1.cell? ⟨w.heap.size, 0, none⟩ = some (.int .i64 m) := (hx.cell 0 (by simp; try omega)).trans (by simp [go_sem])
  have p1 : w1.cell? ⟨w.heap.size, 1, none⟩ = some (.int .i64 x) := (hx.cell 1 (by simp; try omega)).trans (by simp [go_sem])
  clear hx
  go_wp2_with fail
  refine (Cm.out _).mono ?_
  rintro e w2 ⟨rfl, rfl⟩
  go_wp2
  refine bodyPost_ret (v := .tuple #[.int .i64 (cmpI m 0), .int .i64 0]) ?_ rfl ⟨rfl, ?_⟩
  · simp [results, Tryz.results21, go_sem]
  · repeat (first | with_reducible exact X.out | with_reducible refine Ext.alloc ?_ _ | with_reducible refine Ext.setCell ?_ (by simp; try omega) _)
end Go.Proofs.YtogfiekbikechaaGreatDoor

namespace Go.Proofs.YtogfiekbikechaaGreatDoor
open Go.RowKit

theorem halves_a (m x : Int) (_b1 : -16777216 < m) (_b2 : m < 16777216) (b3 : -150 ≤ x) (b4 : x ≤ 150) (h : x < -1) (w : World) (K : Int) (hs : Op.shift .shr .i64 m .i64 (-1 - x) = pure (.int .i64 K)) :
    Calls Tryz.prog 102 #[.agg #[.int .i64 m, .int .i64 x]] w fun e w' => e = .returned (.int .i64 K) ∧ Ext w w' := by
  go_enter Tryz.func102, Tryz.ntmps102
  go_wp2
  refine bodyPost_ret (v := .int .i64 K) ?_ rfl ⟨rfl, ?_⟩
  · simp [results, Tryz.results102, go_sem]
  · repeat (first | with_reducible exact Ext.refl _ | with_reducible refine Ext.alloc ?_ _ | with_reducible refine Ext.setCell ?_ (by simp) _)
theorem halves_b (m x : Int) (_b1 : -16777216 < m) (_b2 : m < 16777216) (b3 : -150 ≤ x) (b4 : x ≤ 63) (h : ¬ x < -1) (K : Int) (hw : IntKind.i64.wrap (m * 2 ^ (x + 1).toNat) = K) (_hw2 : wrap64 (m * 2 ^ (x + 1).toNat) = K) (w : World) :
    Calls Tryz.prog 102 #[.agg #[.int .i64 m, .int .i64 x]] w fun e w' => e = .returned (.int .i64 K) ∧ Ext w w' := by
  go_enter Tryz.func102, Tryz.ntmps102
  go_wp2
  refine bodyPost_ret (v := .int .i64 K) ?_ rfl ⟨rfl, ?_⟩
  · simp [results, Tryz.results102, go_sem]
  · repeat (first | with_reducible exact Ext.refl _ | with_reducible refine Ext.alloc ?_ _ | with_reducible refine Ext.setCell ?_ (by simp) _)
theorem div_far (m : Int) (b1 : -16777216 < m) (b2 : m < 16777216) (k : Nat) (h : 64 ≤ k) : m / 2 ^ k = m / 2 ^ 64 := by
  have e : ∀ j : Nat, 64 ≤ j → m / (2 : Int) ^ j = if m < 0 then -1 else 0 := by
    intro j hj
    have hp : (18446744073709551616 : Int) ≤ 2 ^ j := by
      have : 2 ^ 64 ≤ 2 ^ j := Nat.pow_le_pow_right (by omega) hj
      have e : ((2 ^ j : Nat) : Int) = (2 : Int) ^ j := by simp
      omega
    generalize (2 : Int) ^ j = p at *
    split
    · exact Int.ediv_eq_neg_one_of_neg_of_le (by omega) (by omega)
    · exact Int.ediv_eq_zero_of_lt (by omega) (by omega)
  rw [e k h, e 64 (by omega)]
theorem shr_any (m x : Int) (b1 : -16777216 < m) (b2 : m < 16777216) (h : x < -1) : Op.shift .shr .i64 m .i64 (-1 - x) = pure (.int .i64 (m / 2 ^ (-1 - x).toNat)) := by
  by_cases hs : -1 - x ≤ 64
  · exact shift_shr .i64 .i64 m (-1 - x) (by omega) hs
  · rw [div_far m b1 b2 _ (by omega)]
    have hm : min (-1 - x).toNat IntKind.i64.bits = 64 := by simp [IntKind.bits]; omega
    have hn : ¬ -1 - x < 0 := by omega
    have hf : m.fdiv 18446744073709551616 = m / 18446744073709551616 := Int.fdiv_eq_ediv_of_nonneg _ (by omega)
    simp [Op.shift, hm, hn, hf]
theorem halves_any (m x : Int) (b1 : -16777216 < m) (b2 : m < 16777216) (b3 : -150 ≤ x) (b4 : x ≤ 31) (w : World) :
    Calls Tryz.prog 102 #[.agg #[.int .i64 m, .int .i64 x]] w fun e w' => e = .returned (.int .i64 (halvesV m x)) ∧ Ext w w' := by
  unfold halvesV
  by_cases h : x < -1
  · rw [if_pos h]; exact halves_a m x b1 b2 b3 (by omega) h w _ (shr_any m x b1 b2 h)
  · rw [if_neg h]
    obtain ⟨k1, k2⟩ := shl_bd (x + 1).toNat (by omega) b1 b2
    exact halves_b m x b1 b2 b3 (by omega) h _ (IntWalk.i64_in _ ⟨by omega, by omega⟩) (by unfold wrap64; omega) w

theorem len_31 (w : World) : Calls Tryz.prog 101 #[.int .u64 2147483647] w fun e w' => e = .returned (.int .i64 31) ∧ w = w' :=
  (Tryz.bits_Len 2147483647 w (by omega) (by omega)).mono fun e w' ⟨h1, h2⟩ => ⟨by rw [h1, show ((Lib.bitLen (Int.toNat 2147483647) : Nat) : Int) = 31 by decide +kernel], h2.symm⟩
theorem halves_bd {m x : Int} (b1 : -16777216 < m) (b2 : m < 16777216) (b4 : x ≤ 31) : -72057594037927936 ≤ halvesV m x ∧ halvesV m x ≤ 72057594037927936 := by
  unfold halvesV
  split
  · have hq : (1 : Int) ≤ (2 : Int) ^ (-1 - x).toNat := Int.pow_pos (by omega)
    generalize (2 : Int) ^ (-1 - x).toNat = q at *
    have h1 : m / q * q + m % q = m := Int.ediv_mul_add_emod m q
    have h2 := Int.emod_nonneg m (b := q) (by omega)
    have h3 := Int.emod_lt_of_pos m (b := q) (by omega)
    constructor
    · exact Int.le_ediv_of_mul_le (by omega) (by have : (-72057594037927936) * q ≤ (-72057594037927936) * 1 := Int.mul_le_mul_of_nonpos_left (by omega) (by omega); omega)
    · exact Int.ediv_le_of_le_mul (by omega) (by have : 72057594037927936 * 1 ≤ 72057594037927936 * q := Int.mul_le_mul_of_nonneg_left (by omega) (by omega); omega)
  · exact shl_bd _ (by omega) b1 b2
set_option maxHeartbeats 1000000 in
theorem whole_bad (m x : Int) (p : Int)  (w : World) (hv : validV m x = false) :
    Calls Tryz.prog 80 #[.agg #[.int .i64 m, .int .i64 x], .int .i64 p] w fun e w' => e = .returned (.tuple #[.int .i64 0, .int .i64 1]) ∧ Ext w w' := by
  have A := Lib.hid (valid_any m x)
  rw [hv] at A
  go_enter Tryz.func80, Tryz.ntmps80
  go_wp2_with fail
  refine (A.out _).mono ?_
  rintro e w1 ⟨rfl, hx⟩
  have sz : w.heap.size + 1 ≤ w1.heap.size := by simpa using hx.size
  have X : Hid (Ext w w1) := Lib.hid (Ext.trans (by repeat (first | with_reducible exact Ext.refl _ | with_reducible refine Ext.alloc ?_ _ | with_reducible refine Ext.setCell ?_ (by simp) _)) hx)
  have p0 : w1.cell? ⟨w.heap.size, 0, none⟩ = some (.int .i64 m) := (hx.cell 0 (by simp; try omega)).trans (by simp [go_sem])
  have p1 : w1.cell? ⟨w.heap.size, 1, none⟩ = some (.int .i64 x) := (hx.cell 1 (by simp; try omega)).trans (by simp [go_sem])
  clear hx
  go_wp2
  refine bodyPost_ret (v := .tuple #[.int .i64 0, .int .i64 1]) ?_ rfl ⟨rfl, ?_⟩
  · simp [results, Tryz.results80, go_sem]
  · repeat (first | with_reducible exact X.out | with_reducible refine Ext.drewN ?_ _ | with_reducible refine Ext.drew ?_ | with_reducible refine Ext.alloc ?_ _ | with_reducible refine Ext.setCell ?_ (by simp; try omega) _)
set_option maxHeartbeats 1000000 in
theorem whole_far (m x : Int) (p : Int) (hx : 31 < x) (w : World) (hv : validV m x = true) :
    Calls Tryz.prog 80 #[.agg #[.int .i64 m, .int .i64 x], .int .i64 p] w fun e w' => e = .returned (.tuple #[.int .i64 0, .int .i64 3]) ∧ Ext w w' := by
  have A := Lib.hid (valid_any m x)
  rw [hv] at A
  go_enter Tryz.func80, Tryz.ntmps80
  go_wp2_with fail
  refine (A.out _).mono ?_
  rintro e w1 ⟨rfl, hx⟩
  have sz : w.heap.size + 1 ≤ w1.heap.size := by simpa using hx.size
  have X : Hid (Ext w w1) := Lib.hid (Ext.trans (by repeat (first | with_reducible exact Ext.refl _ | with_reducible refine Ext.alloc ?_ _ | with_reducible refine Ext.setCell ?_ (by simp) _)) hx)
  have p0 : w1.cell? ⟨w.heap.size, 0, none⟩ = some (.int .i64 m) := (hx.cell 0 (by simp; try omega)).trans (by simp [go_sem])
  have p1 : w1.cell? ⟨w.heap.size, 1, none⟩ = some (.int .i64 x) := (hx.cell 1 (by simp; try omega)).trans (by simp [go_sem])
  clear hx
  go_wp2
  go_quiet ((go_at_call 101; exact quietL (len_31 _)))
  go_wp2
  refine bodyPost_ret (v := .tuple #[.int .i64 0, .int .i64 3]) ?_ rfl ⟨rfl, ?_⟩
  · simp [results, Tryz.results80, go_sem]
  · repeat (first | with_reducible exact X.out | with_reducible refine Ext.drewN ?_ _ | with_reducible refine Ext.drew ?_ | with_reducible refine Ext.alloc ?_ _ | with_reducible refine Ext.setCell ?_ (by simp; try omega) _)
set_option maxHeartbeats 1000000 in
theorem whole_ok (m x : Int) (p : Int) (H : Int) (hH : halvesV m x = H) (hx : x ≤ 31) (q1 : 0 ≤ p) (q2 : p ≤ 1) (n1 : ¬ (H + p) / 2 < -2147483647) (n2 : ¬ (H + p) / 2 > 2147483647) (w : World) (hv : validV m x = true) :
    Calls Tryz.prog 80 #[.agg #[.int .i64 m, .int .i64 x], .int .i64 p] w fun e w' => e = .returned (.tuple #[.int .i64 ((H + p) / 2), .int .i64 0]) ∧ Ext w w' := by
  have A := Lib.hid (valid_any m x)
  rw [hv] at A
  obtain ⟨b1, b2, b3, b4, _⟩ := valid_bd hv
  have Hv := Lib.hid (halves_any m x b1 b2 b3 hx)
  obtain ⟨h1, h2⟩ := halves_bd b1 b2 hx
  rw [hH] at Hv h1 h2
  clear hH
  have hx' : ¬ x > 31 := by omega
  go_enter Tryz.func80, Tryz.ntmps80
  go_wp2_with fail
  refine (A.out _).mono ?_
  rintro e w1 ⟨rfl, hx⟩
  have sz : w.heap.size + 1 ≤ w1.heap.size := by simpa using hx.size
  have X : Hid (Ext w w1) := Lib.hid (Ext.trans (by repeat (first | with_reducible exact Ext.refl _ | with_reducible refine Ext.alloc ?_ _ | with_reducible refine Ext.setCell ?_ (by simp) _)) hx)
  have p0 : w1.cell? ⟨w.heap.size, 0, none⟩ = some (.int .i64 m) := (hx.cell 0 (by simp; try omega)).trans (by simp [go_sem])
  have p1 : w1.cell? ⟨w.heap.size, 1, none⟩ = some (.int .i64 x) := (hx.cell 1 (by simp; try omega)).trans (by simp [go_sem])
  clear hx
  go_wp2
  go_quiet ((go_at_call 101; exact quietL (len_31 _)))
  go_wp2_with fail
  refine (Hv.out _).mono ?_
  rintro e w3 ⟨rfl, hx⟩
  have hx : Ext w1 w3 := Ext.trans (by repeat (first | exact Ext.refl _ | with_reducible refine Ext.drewN ?_ _ | with_reducible refine Ext.drew ?_)) hx
  have p0 := (hx.cell 0 (b := w.heap.size) (by omega)).trans p0
  have p1 := (hx.cell 1 (b := w.heap.size) (by omega)).trans p1
  have sz : w.heap.size + 1 ≤ w3.heap.size := Nat.le_trans sz hx.size
  have X := Lib.hid (X.out.trans hx)
  clear hx
  go_wp2
  refine bodyPost_ret (v := .tuple #[.int .i64 ((H + p) / 2), .int .i64 0]) ?_ rfl ⟨rfl, ?_⟩
  · simp [results, Tryz.results80, go_sem]
  · repeat (first | with_reducible exact X.out | with_reducible refine Ext.drewN ?_ _ | with_reducible refine Ext.drew ?_ | with_reducible refine Ext.alloc ?_ _ | with_reducible refine Ext.setCell ?_ (by simp; try omega) _)
set_option maxHeartbeats 1000000 in
theorem whole_lo (m x : Int) (p : Int) (H : Int) (hH : halvesV m x = H) (hx : x ≤ 31) (q1 : 0 ≤ p) (q2 : p ≤ 1) (n1 : (H + p) / 2 < -2147483647) (w : World) (hv : validV m x = true) :
    Calls Tryz.prog 80 #[.agg #[.int .i64 m, .int .i64 x], .int .i64 p] w fun e w' => e = .returned (.tuple #[.int .i64 0, .int .i64 3]) ∧ Ext w w' := by
  have A := Lib.hid (valid_any m x)
  rw [hv] at A
  obtain ⟨b1, b2, b3, b4, _⟩ := valid_bd hv
  have Hv := Lib.hid (halves_any m x b1 b2 b3 hx)
  obtain ⟨h1, h2⟩ := halves_bd b1 b2 hx
  rw [hH] at Hv h1 h2
  clear hH
  have hx' : ¬ x > 31 := by omega
  go_enter Tryz.func80, Tryz.ntmps80
  go_wp2_with fail
  refine (A.out _).mono ?_
  rintro e w1 ⟨rfl, hx⟩
  have sz : w.heap.size + 1 ≤ w1.heap.size := by simpa using hx.size
  have X : Hid (Ext w w1) := Lib.hid (Ext.trans (by repeat (first | with_reducible exact Ext.refl _ | with_reducible refine Ext.alloc ?_ _ | with_reducible refine Ext.setCell ?_ (by simp) _)) hx)
  have p0 : w1.cell? ⟨w.heap.size, 0, none⟩ = some (.int .i64 m) := (hx.cell 0 (by simp; try omega)).trans (by simp [go_sem])
  have p1 : w1.cell? ⟨w.heap.size, 1, none⟩ = some (.int .i64 x) := (hx.cell 1 (by simp; try omega)).trans (by simp [go_sem])
  clear hx
  go_wp2
  go_quiet ((go_at_call 101; exact quietL (len_31 _)))
  go_wp2_with fail
  refine (Hv.out _).mono ?_
  rintro e w3 ⟨rfl, hx⟩
  have hx : Ext w1 w3 := Ext.trans (by repeat (first | exact Ext.refl _ | with_reducible refine Ext.drewN ?_ _ | with_reducible refine Ext.drew ?_)) hx
  have p0 := (hx.cell 0 (b := w.heap.size) (by omega)).trans p0
  have p1 := (hx.cell 1 (b := w.heap.size) (by omega)).trans p1
  have sz : w.heap.size + 1 ≤ w3.heap.size := Nat.le_trans sz hx.size
  have X := Lib.hid (X.out.trans hx)
  clear hx
  go_wp2
  refine bodyPost_ret (v := .tuple #[.int .i64 0, .int .i64 3]) ?_ rfl ⟨rfl, ?_⟩
  · simp [results, Tryz.results80, go_sem]
  · repeat (first | with_reducible exact X.out | with_reducible refine Ext.drewN ?_ _ | with_reducible refine Ext.drew ?_ | with_reducible refine Ext.alloc ?_ _ | with_reducible refine Ext.setCell ?_ (by simp; try omega) _)
set_option maxHeartbeats 1000000 in
theorem whole_hi (m x : Int) (p : Int) (H : Int) (hH : halvesV m x = H) (hx : x ≤ 31) (q1 : 0 ≤ p) (q2 : p ≤ 1) (n1 : ¬ (H + p) / 2 < -2147483647) (n2 : (H + p) / 2 > 2147483647) (w : World) (hv : validV m x = true) :
    Calls Tryz.prog 80 #[.agg #[.int .i64 m, .int .i64 x], .int .i64 p] w fun e w' => e = .returned (.tuple #[.int .i64 0, .int .i64 3]) ∧ Ext w w' := by
  have A := Lib.hid (valid_any m x)
  rw [hv] at A
  obtain ⟨b1, b2, b3, b4, _⟩ := valid_bd hv
  have Hv := Lib.hid (halves_any m x b1 b2 b3 hx)
  obtain ⟨h1, h2⟩ := halves_bd b1 b2 hx
  rw [hH] at Hv h1 h2
  clear hH
  have hx' : ¬ x > 31 := by omega
  go_enter Tryz.func80, Tryz.ntmps80
  go_wp2_with fail
  refine (A.out _).mono ?_
  rintro e w1 ⟨rfl, hx⟩
  have sz : w.heap.size + 1 ≤ w1.heap.size := by simpa using hx.size
  have X : Hid (Ext w w1) := Lib.hid (Ext.trans (by repeat (first | with_reducible exact Ext.refl _ | with_reducible refine Ext.alloc ?_ _ | with_reducible refine Ext.setCell ?_ (by simp) _)) hx)
  have p0 : w1.cell? ⟨w.heap.size, 0, none⟩ = some (.int .i64 m) := (hx.cell 0 (by simp; try omega)).trans (by simp [go_sem])
  have p1 : w1.cell? ⟨w.heap.size, 1, none⟩ = some (.int .i64 x) := (hx.cell 1 (by simp; try omega)).trans (by simp [go_sem])
  clear hx
  go_wp2
  go_quiet ((go_at_call 101; exact quietL (len_31 _)))
  go_wp2_with fail
  refine (Hv.out _).mono ?_
  rintro e w3 ⟨rfl, hx⟩
  have hx : Ext w1 w3 := Ext.trans (by repeat (first | exact Ext.refl _ | with_reducible refine Ext.drewN ?_ _ | with_reducible refine Ext.drew ?_)) hx
  have p0 := (hx.cell 0 (b := w.heap.size) (by omega)).trans p0
  have p1 := (hx.cell 1 (b := w.heap.size) (by omega)).trans p1
  have sz : w.heap.size + 1 ≤ w3.heap.size := Nat.le_trans sz hx.size
  have X := Lib.hid (X.out.trans hx)
  clear hx
  go_wp2
  refine bodyPost_ret (v := .tuple #[.int .i64 0, .int .i64 3]) ?_ rfl ⟨rfl, ?_⟩
  · simp [results, Tryz.results80, go_sem]
  · repeat (first | with_reducible exact X.out | with_reducible refine Ext.drewN ?_ _ | with_reducible refine Ext.drew ?_ | with_reducible refine Ext.alloc ?_ _ | with_reducible refine Ext.setCell ?_ (by simp; try omega) _)
theorem whole_any (m x p : Int) (q1 : 0 ≤ p) (q2 : p ≤ 1) (w : World) :
    Calls Tryz.prog 80 #[.agg #[.int .i64 m, .int .i64 x], .int .i64 p] w fun e w' => e = .returned (.tuple #[.int .i64 (wholeR m x p).1, .int .i64 (wholeR m x p).2]) ∧ Ext w w' := by
  unfold wholeR
  cases hv : validV m x with
  | false => exact whole_bad m x p w hv
  | true =>
    simp only [if_true]
    unfold wholeV
    by_cases h : 31 < x
    · rw [if_pos h]; exact whole_far m x p h w hv
    rw [if_neg h]
    by_cases n1 : (halvesV m x + p) / 2 < -2147483647
    · rw [if_pos n1]; exact whole_lo m x p _ rfl (by omega) q1 q2 n1 w hv
    rw [if_neg n1]
    by_cases n2 : 2147483647 < (halvesV m x + p) / 2
    · rw [if_pos n2]; exact whole_hi m x p _ rfl (by omega) q1 q2 n1 n2 w hv
    · rw [if_neg n2]; exact whole_ok m x p _ rfl (by omega) q1 q2 n1 n2 w hv
theorem entier_any (m x : Int) (w : World) :
    Calls Tryz.prog 41 #[.agg #[.int .i64 m, .int .i64 x]] w fun e w' => e = .returned (.tuple #[.int .i64 (wholeR m x 0).1, .int .i64 (wholeR m x 0).2]) ∧ Ext w w' := by
  have A := Lib.hid (whole_any m x 0 (by omega) (by omega))
  generalize wholeR m x 0 = r at *
  obtain ⟨r1, r2⟩ := r
  simp only at *
  go_enter Tryz.func41, Tryz.ntmps41
  go_wp2_with fail
  refine (A.out _).mono ?_
  rintro e w1 ⟨rfl, hx⟩
  have X : Hid (Ext w w1) := Lib.hid (Ext.trans (by repeat (first | with_reducible exact Ext.refl _ | with_reducible refine Ext.alloc ?_ _ | with_reducible refine Ext.setCell ?_ (by simp) _)) hx)
  clear hx
  go_wp2
  refine bodyPost_ret (v := .tuple #[.int .i64 r1, .int .i64 r2]) ?_ rfl ⟨rfl, X.out⟩
  simp [results, Tryz.results41, go_sem]
theorem roundR_any (m x : Int) (w : World) :
    Calls Tryz.prog 42 #[.agg #[.int .i64 m, .int .i64 x]] w fun e w' => e = .returned (.tuple #[.int .i64 (wholeR m x 1).1, .int .i64 (wholeR m x 1).2]) ∧ Ext w w' := by
  have A := Lib.hid (whole_any m x 1 (by omega) (by omega))
  generalize wholeR m x 1 = r at *
  obtain ⟨r1, r2⟩ := r
  simp only at *
  go_enter Tryz.func42, Tryz.ntmps42
  go_wp2_with fail
  refine (A.out _).mono ?_
  rintro e w1 ⟨rfl, hx⟩
  have X : Hid (Ext w w1) := Lib.hid (Ext.trans (by repeat (first | with_reducible exact Ext.refl _ | with_reducible refine Ext.alloc ?_ _ | with_reducible refine Ext.setCell ?_ (by simp) _)) hx)
  clear hx
  go_wp2
  refine bodyPost_ret (v := .tuple #[.int .i64 r1, .int .i64 r2]) ?_ rfl ⟨rfl, X.out⟩
  simp [results, Tryz.results42, go_sem]
end Go.Proofs.YtogfiekbikechaaGreatDoor

namespace Go.Proofs.YtogfiekbikechaaGreatDoor
open Go.RowKit

set_option maxHeartbeats 1000000 in
theorem Abs_good (m x : Int)  (w : World) (hv : validV m x = true) :
    Calls Tryz.prog 20 #[.agg #[.int .i64 m, .int .i64 x]] w fun e w' => e = .returned (.tuple #[.agg #[.int .i64 (max m (-m)), .int .i64 x], .int .i64 0]) ∧ Ext w w' := by
  have A := Lib.hid (valid_any m x)
  rw [hv] at A
  obtain ⟨b1, b2, b3, b4, _⟩ := valid_bd hv
  go_enter Tryz.func20, Tryz.ntmps20
  go_wp2_with fail
  refine (A.out _).mono ?_
  rintro e w1 ⟨rfl, hx⟩
  have sz : w.heap.size + 2 ≤ w1.heap.size := by simpa using hx.size
  have X : Hid (Ext w w1) := Lib.hid (Ext.trans (by repeat (first | with_reducible exact Ext.refl _ | with_reducible refine Ext.alloc ?_ _ | with_reducible refine Ext.setCell ?_ (by simp) _)) hx)
  have p0 : w1.cell? ⟨w.heap.size, 0, none⟩ = some (.int .i64 m) := (hx.cell 0 (by simp; try omega)).trans (by simp [go_sem])
  have p1 : w1.cell? ⟨w.heap.size, 1, none⟩ = some (.int .i64 x) := (hx.cell 1 (by simp; try omega)).trans (by simp [go_sem])
  have c0 : w1.cell? ⟨w.heap.size + 1, 0, none⟩ = some (.int .i64 0) := (hx.cell 0 (by simp)).trans (by simp [go_sem])
  have c1 : w1.cell? ⟨w.heap.size + 1, 1, none⟩ = some (.int .i64 0) := (hx.cell 1 (by simp)).trans (by simp [go_sem])
  have f0 : ∀ j, w1.frozen? ⟨w.heap.size + 1, j, none⟩ = false := fun j => (hx.froz j (by simp)).trans (by simp [go_sem])
  clear hx
  go_wp2
  refine bodyPost_ret (v := .tuple #[.agg #[.int .i64 (max m (-m)), .int .i64 x], .int .i64 0]) ?_ rfl ⟨rfl, ?_⟩
  · simp [results, Tryz.results20, go_sem, c0, c1]
  · repeat (first | with_reducible exact X.out | with_reducible refine Ext.drewN ?_ _ | with_reducible refine Ext.drew ?_ | with_reducible refine Ext.alloc ?_ _ | with_reducible refine Ext.setCell ?_ (by simp; try omega) _)
set_option maxHeartbeats 1000000 in
theorem Next_top (m x : Int) (pv : Int) (hp : placeV m x = pv) (h : (pv == 2533359615) = true) (w : World) (hv : validV m x = true) :
    Calls Tryz.prog 18 #[.agg #[.int .i64 m, .int .i64 x]] w fun e w' => e = .returned (.tuple #[.agg #[.int .i64 0, .int .i64 0], .int .i64 3]) ∧ Ext w w' := by
  have A := Lib.hid (valid_any m x)
  rw [hv] at A
  obtain ⟨b1, b2, b3, b4, _⟩ := valid_bd hv
  have Pl := Lib.hid (place_any m x b1 b2 b3 b4)
  rw [hp] at Pl
  go_enter Tryz.func18, Tryz.ntmps18
  go_wp2_with fail
  refine (A.out _).mono ?_
  rintro e w1 ⟨rfl, hx⟩
  have sz : w.heap.size + 2 ≤ w1.heap.size := by simpa using hx.size
  have X : Hid (Ext w w1) := Lib.hid (Ext.trans (by repeat (first | with_reducible exact Ext.refl _ | with_reducible refine Ext.alloc ?_ _ | with_reducible refine Ext.setCell ?_ (by simp) _)) hx)
  have p0 : w1.cell? ⟨w.heap.size, 0, none⟩ = some (.int .i64 m) := (hx.cell 0 (by simp; try omega)).trans (by simp [go_sem])
  have p1 : w1.cell? ⟨w.heap.size, 1, none⟩ = some (.int .i64 x) := (hx.cell 1 (by simp; try omega)).trans (by simp [go_sem])
  have c0 : w1.cell? ⟨w.heap.size + 1, 0, none⟩ = some (.int .i64 0) := (hx.cell 0 (by simp)).trans (by simp [go_sem])
  have c1 : w1.cell? ⟨w.heap.size + 1, 1, none⟩ = some (.int .i64 0) := (hx.cell 1 (by simp)).trans (by simp [go_sem])
  have f0 : ∀ j, w1.frozen? ⟨w.heap.size + 1, j, none⟩ = false := fun j => (hx.froz j (by simp)).trans (by simp [go_sem])
  clear hx
  go_wp2_with fail
  refine (Pl.out _).mono ?_
  rintro e w2 ⟨rfl, hx⟩
  have hx : Ext w1 w2 := Ext.trans (by repeat (first | exact Ext.refl _ | with_reducible refine Ext.drewN ?_ _ | with_reducible refine Ext.drew ?_)) hx
  have p0 := (hx.cell 0 (b := w.heap.size) (by omega)).trans p0
  have p1 := (hx.cell 1 (b := w.heap.size) (by omega)).trans p1
  have c0 := (hx.cell 0 (b := w.heap.size + 1) (by omega)).trans c0
  have c1 := (hx.cell 1 (b := w.heap.size + 1) (by omega)).trans c1
  have f0 : ∀ j, w2.frozen? ⟨w.heap.size + 1, j, none⟩ = false := fun j => (hx.froz j (by omega)).trans (f0 j)
  have sz : w.heap.size + 2 ≤ w2.heap.size := Nat.le_trans sz hx.size
  have X := Lib.hid (X.out.trans hx)
  clear hx
  go_wp2
  refine bodyPost_ret (v := .tuple #[.agg #[.int .i64 0, .int .i64 0], .int .i64 3]) ?_ rfl ⟨rfl, ?_⟩
  · simp [results, Tryz.results18, go_sem, c0, c1]
  · repeat (first | with_reducible exact X.out | with_reducible refine Ext.drewN ?_ _ | with_reducible refine Ext.drew ?_ | with_reducible refine Ext.alloc ?_ _ | with_reducible refine Ext.setCell ?_ (by simp; try omega) _)
set_option maxHeartbeats 1000000 in
theorem Next_good (m x : Int) (pv : Int) (hp : placeV m x = pv) (h : (pv == 2533359615) = false) (g1 : -4611686018427387000 < pv) (g2 : pv < 4611686018427387000) (w : World) (hv : validV m x = true) :
    Calls Tryz.prog 18 #[.agg #[.int .i64 m, .int .i64 x]] w fun e w' => e = .returned (.tuple #[.agg #[.int .i64 (atV (pv + 1)).1, .int .i64 (atV (pv + 1)).2], .int .i64 0]) ∧ Ext w w' := by
  have A := Lib.hid (valid_any m x)
  rw [hv] at A
  obtain ⟨b1, b2, b3, b4, _⟩ := valid_bd hv
  have Pl := Lib.hid (place_any m x b1 b2 b3 b4)
  rw [hp] at Pl
  have At := Lib.hid (at_any (pv + 1) (by omega) (by omega))
  go_enter Tryz.func18, Tryz.ntmps18
  go_wp2_with fail
  refine (A.out _).mono ?_
  rintro e w1 ⟨rfl, hx⟩
  have sz : w.heap.size + 2 ≤ w1.heap.size := by simpa using hx.size
  have X : Hid (Ext w w1) := Lib.hid (Ext.trans (by repeat (first | with_reducible exact Ext.refl _ | with_reducible refine Ext.alloc ?_ _ | with_reducible refine Ext.setCell ?_ (by simp) _)) hx)
  have p0 : w1.cell? ⟨w.heap.size, 0, none⟩ = some (.int .i64 m) := (hx.cell 0 (by simp; try omega)).trans (by simp [go_sem])
  have p1 : w1.cell? ⟨w.heap.size, 1, none⟩ = some (.int .i64 x) := (hx.cell 1 (by simp; try omega)).trans (by simp [go_sem])
  have c0 : w1.cell? ⟨w.heap.size + 1, 0, none⟩ = some (.int .i64 0) := (hx.cell 0 (by simp)).trans (by simp [go_sem])
  have c1 : w1.cell? ⟨w.heap.size + 1, 1, none⟩ = some (.int .i64 0) := (hx.cell 1 (by simp)).trans (by simp [go_sem])
  have f0 : ∀ j, w1.frozen? ⟨w.heap.size + 1, j, none⟩ = false := fun j => (hx.froz j (by simp)).trans (by simp [go_sem])
  clear hx
  go_wp2_with fail
  refine (Pl.out _).mono ?_
  rintro e w2 ⟨rfl, hx⟩
  have hx : Ext w1 w2 := Ext.trans (by repeat (first | exact Ext.refl _ | with_reducible refine Ext.drewN ?_ _ | with_reducible refine Ext.drew ?_)) hx
  have p0 := (hx.cell 0 (b := w.heap.size) (by omega)).trans p0
  have p1 := (hx.cell 1 (b := w.heap.size) (by omega)).trans p1
  have c0 := (hx.cell 0 (b := w.heap.size + 1) (by omega)).trans c0
  have c1 := (hx.cell 1 (b := w.heap.size + 1) (by omega)).trans c1
  have f0 : ∀ j, w2.frozen? ⟨w.heap.size + 1, j, none⟩ = false := fun j => (hx.froz j (by omega)).trans (f0 j)
  have sz : w.heap.size + 2 ≤ w2.heap.size := Nat.le_trans sz hx.size
  have X := Lib.hid (X.out.trans hx)
  clear hx
  go_wp2_with fail
  refine (Pl.out _).mono ?_
  rintro e w3 ⟨rfl, hx⟩
  have hx : Ext w2 w3 := Ext.trans (by repeat (first | exact Ext.refl _ | with_reducible refine Ext.drewN ?_ _ | with_reducible refine Ext.drew ?_)) hx
  have p0 := (hx.cell 0 (b := w.heap.size) (by omega)).trans p0
  have p1 := (hx.cell 1 (b := w.heap.size) (by omega)).trans p1
  have c0 := (hx.cell 0 (b := w.heap.size + 1) (by omega)).trans c0
  have c1 := (hx.cell 1 (b := w.heap.size + 1) (by omega)).trans c1
  have f0 : ∀ j, w3.frozen? ⟨w.heap.size + 1, j, none⟩ = false := fun j => (hx.froz j (by omega)).trans (f0 j)
  have sz : w.heap.size + 2 ≤ w3.heap.size := Nat.le_trans sz hx.size
  have X := Lib.hid (X.out.trans hx)
  clear hx
  go_wp2_with fail
  refine (At.out _).mono ?_
  rintro e w4 ⟨rfl, hx⟩
  have hx : Ext w3 w4 := Ext.trans (by repeat (first | exact Ext.refl _ | with_reducible refine Ext.drewN ?_ _ | with_reducible refine Ext.drew ?_)) hx
  have p0 := (hx.cell 0 (b := w.heap.size) (by omega)).trans p0
  have p1 := (hx.cell 1 (b := w.heap.size) (by omega)).trans p1
  have c0 := (hx.cell 0 (b := w.heap.size + 1) (by omega)).trans c0
  have c1 := (hx.cell 1 (b := w.heap.size + 1) (by omega)).trans c1
  have f0 : ∀ j, w4.frozen? ⟨w.heap.size + 1, j, none⟩ = false := fun j => (hx.froz j (by omega)).trans (f0 j)
  have sz : w.heap.size + 2 ≤ w4.heap.size := Nat.le_trans sz hx.size
  have X := Lib.hid (X.out.trans hx)
  clear hx
  go_wp2
  refine bodyPost_ret (v := .tuple #[.agg #[.int .i64 (atV (pv + 1)).1, .int .i64 (atV (pv + 1)).2], .int .i64 0]) ?_ rfl ⟨rfl, ?_⟩
  · simp [results, Tryz.results18, go_sem, c0, c1]
  · repeat (first | with_reducible exact X.out | with_reducible refine Ext.drewN ?_ _ | with_reducible refine Ext.drew ?_ | with_reducible refine Ext.alloc ?_ _ | with_reducible refine Ext.setCell ?_ (by simp; try omega) _)
theorem At_lo (i : Int) (h : i < -2533359615) (w : World) :
    Calls Tryz.prog 10 #[.int .i64 i] w fun e w' => e = .returned (.tuple #[.agg #[.int .i64 0, .int .i64 0], .int .i64 1]) ∧ Ext w w' := by
  go_enter Tryz.func10, Tryz.ntmps10
  go_wp2
  refine bodyPost_ret (v := .tuple #[.agg #[.int .i64 0, .int .i64 0], .int .i64 1]) ?_ rfl ⟨rfl, ?_⟩
  · simp [results, Tryz.results10, go_sem]
  · repeat (first | with_reducible exact Ext.refl _ | with_reducible refine Ext.alloc ?_ _ | with_reducible refine Ext.setCell ?_ (by simp) _)
theorem At_hi (i : Int) (h1 : ¬ i < -2533359615) (h : i > 2533359615) (w : World) :
    Calls Tryz.prog 10 #[.int .i64 i] w fun e w' => e = .returned (.tuple #[.agg #[.int .i64 0, .int .i64 0], .int .i64 1]) ∧ Ext w w' := by
  go_enter Tryz.func10, Tryz.ntmps10
  go_wp2
  refine bodyPost_ret (v := .tuple #[.agg #[.int .i64 0, .int .i64 0], .int .i64 1]) ?_ rfl ⟨rfl, ?_⟩
  · simp [results, Tryz.results10, go_sem]
  · repeat (first | with_reducible exact Ext.refl _ | with_reducible refine Ext.alloc ?_ _ | with_reducible refine Ext.setCell ?_ (by simp) _)
theorem At_in (i : Int) (h1 : ¬ i < -2533359615) (h2 : ¬ i > 2533359615) (w : World) :
    Calls Tryz.prog 10 #[.int .i64 i] w fun e w' => e = .returned (.tuple #[.agg #[.int .i64 (atV i).1, .int .i64 (atV i).2], .int .i64 0]) ∧ Ext w w' := by
  have A := Lib.hid (at_any i (by omega) (by omega))
  generalize atV i = q at *
  obtain ⟨qm, qx⟩ := q
  simp only at *
  go_enter Tryz.func10, Tryz.ntmps10
  go_wp2_with fail
  refine (A.out _).mono ?_
  rintro e w2 ⟨rfl, hx⟩
  have X := Lib.hid (((Ext.refl w).alloc _).trans hx)
  have c0 : w2.cell? ⟨w.heap.size, 0, none⟩ = some (.int .i64 0) := (hx.cell 0 (by simp)).trans (by simp [go_sem])
  have c1 : w2.cell? ⟨w.heap.size, 1, none⟩ = some (.int .i64 0) := (hx.cell 1 (by simp)).trans (by simp [go_sem])
  have f0 : ∀ j, w2.frozen? ⟨w.heap.size, j, none⟩ = false := fun j => (hx.froz j (by simp)).trans (by simp [go_sem])
  clear hx
  go_wp2
  refine bodyPost_ret (v := .tuple #[.agg #[.int .i64 qm, .int .i64 qx], .int .i64 0]) ?_ rfl ⟨rfl, ?_⟩
  · simp [results, Tryz.results10, go_sem, c0, c1]
  · exact (X.out.setCell (Nat.le_refl _) _).setCell (Nat.le_refl _) _
set_option maxHeartbeats 1000000 in
theorem Cmp_bad (m x n y : Int) (hv : (validV m x && validV n y) = false) (w : World) :
    Calls Tryz.prog 22 #[.agg #[.int .i64 m, .int .i64 x], .agg #[.int .i64 n, .int .i64 y]] w fun e w' => e = .returned (.tuple #[.int .i64 0, .int .i64 1]) ∧ Ext w w' := by
  have A := Lib.hid (both_any m x n y)
  rw [hv] at A
  go_enter Tryz.func22, Tryz.ntmps22
  go_wp2_with fail
  refine (A.out _).mono ?_
  rintro e w1 ⟨rfl, hx⟩
  have sz : w.heap.size + 1 + 1 ≤ w1.heap.size := by simpa using hx.size
  have X : Hid (Ext w w1) := Lib.hid (Ext.trans (by repeat (first | with_reducible exact Ext.refl _ | with_reducible refine Ext.alloc ?_ _ | with_reducible refine Ext.setCell ?_ (by simp) _)) hx)
  have p00 : w1.cell? ⟨w.heap.size, 0, none⟩ = some (.int .i64 m) := (hx.cell 0 (by simp; try omega)).trans (by simp [go_sem])
  have p01 : w1.cell? ⟨w.heap.size, 1, none⟩ = some (.int .i64 x) := (hx.cell 1 (by simp; try omega)).trans (by simp [go_sem])
  have p10 : w1.cell? ⟨w.heap.size + 1, 0, none⟩ = some (.int .i64 n) := (hx.cell 0 (by simp; try omega)).trans (by simp [go_sem])
  have p11 : w1.cell? ⟨w.heap.size + 1, 1, none⟩ = some (.int .i64 y) := (hx.cell 1 (by simp; try omega)).trans (by simp [go_sem])
  clear hx
  go_wp2
  refine bodyPost_ret (v := .tuple #[.int .i64 0, .int .i64 1]) ?_ rfl ⟨rfl, ?_⟩
  · simp [results, Tryz.results22, go_sem]
  · repeat (first | with_reducible exact X.out | with_reducible refine Ext.drewN ?_ _ | with_reducible refine Ext.drew ?_ | with_reducible refine Ext.alloc ?_ _ | with_reducible refine Ext.setCell ?_ (by simp; try omega) _)
set_option maxHeartbeats 1000000 in
theorem Cmp_same (m x n y : Int) (hv : (validV m x && validV n y) = true) (h : (m == n && x == y) = true) (w : World) :
    Calls Tryz.prog 22 #[.agg #[.int .i64 m, .int .i64 x], .agg #[.int .i64 n, .int .i64 y]] w fun e w' => e = .returned (.tuple #[.int .i64 0, .int .i64 0]) ∧ Ext w w' := by
  have A := Lib.hid (both_any m x n y)
  rw [hv] at A
  have eqR := eqReal
  go_enter Tryz.func22, Tryz.ntmps22
  go_wp2_with fail
  refine (A.out _).mono ?_
  rintro e w1 ⟨rfl, hx⟩
  have sz : w.heap.size + 1 + 1 ≤ w1.heap.size := by simpa using hx.size
  have X : Hid (Ext w w1) := Lib.hid (Ext.trans (by repeat (first | with_reducible exact Ext.refl _ | with_reducible refine Ext.alloc ?_ _ | with_reducible refine Ext.setCell ?_ (by simp) _)) hx)
  have p00 : w1.cell? ⟨w.heap.size, 0, none⟩ = some (.int .i64 m) := (hx.cell 0 (by simp; try omega)).trans (by simp [go_sem])
  have p01 : w1.cell? ⟨w.heap.size, 1, none⟩ = some (.int .i64 x) := (hx.cell 1 (by simp; try omega)).trans (by simp [go_sem])
  have p10 : w1.cell? ⟨w.heap.size + 1, 0, none⟩ = some (.int .i64 n) := (hx.cell 0 (by simp; try omega)).trans (by simp [go_sem])
  have p11 : w1.cell? ⟨w.heap.size + 1, 1, none⟩ = some (.int .i64 y) := (hx.cell 1 (by simp; try omega)).trans (by simp [go_sem])
  clear hx
  go_wp2
  refine bodyPost_ret (v := .tuple #[.int .i64 0, .int .i64 0]) ?_ rfl ⟨rfl, ?_⟩
  · simp [results, Tryz.results22, go_sem]
  · repeat (first | with_reducible exact X.out | with_reducible refine Ext.drewN ?_ _ | with_reducible refine Ext.drew ?_ | with_reducible refine Ext.alloc ?_ _ | with_reducible refine Ext.setCell ?_ (by simp; try omega) _)
set_option maxHeartbeats 1000000 in
theorem Cmp_diff (m x n y : Int) (hv : (validV m x && validV n y) = true) (h : (m == n && x == y) = false) (w : World) :
    Calls Tryz.prog 22 #[.agg #[.int .i64 m, .int .i64 x], .agg #[.int .i64 n, .int .i64 y]] w fun e w' => e = .returned (.tuple #[.int .i64 (cmpI (placeV m x) (placeV n y)), .int .i64 0]) ∧ Ext w w' := by
  have A := Lib.hid (both_any m x n y)
  rw [hv] at A
  obtain ⟨⟨a1, a2, a3, a4⟩, c1, c2, c3, c4⟩ := both_bd hv
  have Pl1 := Lib.hid (place_any m x c1 c2 a1 a2)
  have Pl2 := Lib.hid (place_any n y c3 c4 a3 a4)
  generalize placeV m x = pm at *
  generalize placeV n y = pn at *
  have Cc := Lib.hid (compareI_any pm pn)
  generalize cmpI pm pn = cv at *
  have eqR := eqReal
  go_enter Tryz.func22, Tryz.ntmps22
  go_wp2_with fail
  refine (A.out _).mono ?_
  rintro e w1 ⟨rfl, hx⟩
  have sz : w.heap.size + 1 + 1 ≤ w1.heap.size := by simpa using hx.size
  have X : Hid (Ext w w1) := Lib.hid (Ext.trans (by repeat (first | with_reducible exact Ext.refl _ | with_reducible refine Ext.alloc ?_ _ | with_reducible refine Ext.setCell ?_ (by simp) _)) hx)
  have p00 : w1.cell? ⟨w.heap.size, 0, none⟩ = some (.int .i64 m) := (hx.cell 0 (by simp; try omega)).trans (by simp [go_sem])
  have p01 : w1.cell? ⟨w.heap.size, 1, none⟩ = some (.int .i64 x) := (hx.cell 1 (by simp; try omega)).trans (by simp [go_sem])
  have p10 : w1.cell? ⟨w.heap.size + 1, 0, none⟩ = some (.int .i64 n) := (hx.cell 0 (by simp; try omega)).trans (by simp [go_sem])
  have p11 : w1.cell? ⟨w.heap.size + 1, 1, none⟩ = some (.int .i64 y) := (hx.cell 1 (by simp; try omega)).trans (by simp [go_sem])
  clear hx
  go_wp2
  have KE : Hid (∀ u : World, Ext w1 u → (fun w' : World => w'.cell? ⟨w.heap.size, 0, none⟩ = some (.int .i64 m) ∧ w'.cell? ⟨w.heap.size, 1, none⟩ = some (.int .i64 x) ∧ w'.cell? ⟨w.heap.size + 1, 0, none⟩ = some (.int .i64 n) ∧ w'.cell? ⟨w.heap.size + 1, 1, none⟩ = some (.int .i64 y)) u) := Lib.hid (fun u hx => ⟨(hx.cell 0 (by omega)).trans p00, (hx.cell 1 (by omega)).trans p01, (hx.cell 0 (by omega)).trans p10, (hx.cell 1 (by omega)).trans p11⟩)
  go_region_held3 (fun w' : World => w'.cell? ⟨w.heap.size, 0, none⟩ = some (.int .i64 m) ∧ w'.cell? ⟨w.heap.size, 1, none⟩ = some (.int .i64 x) ∧ w'.cell? ⟨w.heap.size + 1, 0, none⟩ = some (.int .i64 n) ∧ w'.cell? ⟨w.heap.size + 1, 1, none⟩ = some (.int .i64 y)) ((refine KE.out _ ?_; (repeat (first | with_reducible exact Ext.refl _ | assumption | with_reducible refine Ext.drew ?_ | with_reducible refine Ext.drewN ?_ _ | refine Ext.trans ?_ (by assumption))); done)) (first | (go_at_call 57; ((with_reducible refine (Pl1.out _).mono ?_); rintro e v1 ⟨rfl, hx⟩)) | (go_at_call 57; ((with_reducible refine (Pl2.out _).mono ?_); rintro e v2 ⟨rfl, hx2⟩)) | (go_at_call 59; ((with_reducible refine (Cc.out _).mono ?_); rintro e v3 ⟨rfl, rfl⟩)))
  have X : Hid (Ext w v2) := Lib.hid (X.out.trans (((Ext.refl w1).drew.trans hx).trans hx2))
  clear hx hx2 KE p00 p01 p10 p11
  go_wp2
  refine bodyPost_ret (v := .tuple #[.int .i64 cv, .int .i64 0]) ?_ rfl ⟨rfl, ?_⟩
  · simp [results, Tryz.results22, go_sem]
  · repeat (first | with_reducible exact X.out | with_reducible refine Ext.drewN ?_ _ | with_reducible refine Ext.drew ?_ | with_reducible refine Ext.alloc ?_ _ | with_reducible refine Ext.setCell ?_ (by simp; try omega) _)
end Go.Proofs.YtogfiekbikechaaGreatDoor
