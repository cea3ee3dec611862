/- Layer 2: combined; Add and Mul. -/
import Derived.Test.YtoeahfddnjbhbaaGreatDoorNzf
namespace Go.Proofs.YtoeahfddnjbhbaaGreatDoor
open Go.RowKit

theorem c1_ent (args : Array Value) (w : World) : (callFunc 108 args).run Tryz.prog w = .ok (.enter 108 args) w :=
  ent_any Tryz.func108 (by kernel_rfl) rfl args w
theorem guarded_closure (K : FuncId) (a : Ex) (m x n y : Int) (bp bq bs : Nat) (u : World) (hent : ∀ args w, (callFunc K args).run Tryz.prog w = .ok (.enter K args) w)
    (h1 : bp < u.heap.size) (h2 : bq < u.heap.size) (h3 : bs < u.heap.size)
    (cf : u.cell? ⟨bs, 0, none⟩ = some (.func (.func K) #[] #[])) (p0 : u.cell? ⟨bp, 0, none⟩ = some (.int .i64 m)) (p1 : u.cell? ⟨bp, 1, none⟩ = some (.int .i64 x))
    (q0 : u.cell? ⟨bq, 0, none⟩ = some (.int .i64 n)) (q1 : u.cell? ⟨bq, 1, none⟩ = some (.int .i64 y))
    (hm : a.man < 18446744073709551616) (he1 : -1000000 ≤ a.exp) (he2 : a.exp ≤ 1000000)
    (hop : ∀ w, Calls Tryz.prog K #[.agg #[.int .i64 m, .int .i64 x], .agg #[.int .i64 n, .int .i64 y]] w fun e w' => e = .returned (.agg #[.bool (a).neg, .int .u64 (a).man, .int .i64 (a).exp, .bool (a).more]) ∧ Ext w w') :
    Calls Tryz.prog 82 #[.func (.func 108) #[] #[.pointer (some ⟨bs, 0, none⟩), .pointer (some ⟨bp, 0, none⟩), .pointer (some ⟨bq, 0, none⟩)]] u fun e w' => e = .returned (.tuple #[.agg #[.int .i64 (okV a.rd).1, .int .i64 (okV a.rd).2], .int .i64 (okE a.rd)]) ∧ Ext u w' :=
  guarded_any 108 _ a.rd u c1_ent fun v hv => closure_any K a _ rfl m x n y bp bq bs v hent
    (fun ob => ((hv.alloc ob).cell 0 h3).trans cf) (fun ob => ((hv.alloc ob).cell 0 h1).trans p0) (fun ob => ((hv.alloc ob).cell 1 h1).trans p1)
    (fun ob => ((hv.alloc ob).cell 0 h2).trans q0) (fun ob => ((hv.alloc ob).cell 1 h2).trans q1) hm he1 he2 hop
set_option maxHeartbeats 1000000 in
theorem combined_bad (K : FuncId) (m x n y : Int) (w : World) (h : (validV m x && validV n y) = false) :
    Calls Tryz.prog 74 #[.agg #[.int .i64 m, .int .i64 x], .agg #[.int .i64 n, .int .i64 y], .func (.func K) #[] #[]] w fun e w' => e = .returned (.tuple #[.agg #[.int .i64 0, .int .i64 0], .int .i64 1]) ∧ Ext w w' := by
  have A := Lib.hid (both_any m x n y)
  rw [h] at A
  clear h
  go_enter Tryz.func74, Tryz.ntmps74
  go_wp2_with fail
  refine (A.out _).mono ?_
  rintro e w1 ⟨rfl, hx⟩
  have X := Lib.hid (((((Ext.refl w).alloc _).alloc _).alloc _).alloc _ |>.trans hx)
  have sz := X.out.size
  have c0 : w1.cell? ⟨w.heap.size + 1 + 1 + 1, 0, none⟩ = some (.int .i64 0) := (hx.cell 0 (by simp)).trans (by simp [go_sem])
  have c1 : w1.cell? ⟨w.heap.size + 1 + 1 + 1, 1, none⟩ = some (.int .i64 0) := (hx.cell 1 (by simp)).trans (by simp [go_sem])
  have f0 : ∀ j, w1.frozen? ⟨w.heap.size + 1 + 1 + 1, j, none⟩ = false := fun j => (hx.froz j (by simp)).trans (by simp [go_sem])
  clear hx
  go_wp2
  refine bodyPost_ret (v := .tuple #[.agg #[.int .i64 0, .int .i64 0], .int .i64 1]) ?_ rfl ⟨rfl, ?_⟩
  · simp [results, Tryz.results74, go_sem, c0, c1]
  · exact (X.out.setCell (by simp; omega) _).setCell (by simp; omega) _
set_option maxHeartbeats 1000000 in
theorem combined_good (K : FuncId) (a : Ex) (m x n y : Int) (w : World) (h : (validV m x && validV n y) = true) (hent : ∀ args w, (callFunc K args).run Tryz.prog w = .ok (.enter K args) w)
    (hm : a.man < 18446744073709551616) (he1 : -1000000 ≤ a.exp) (he2 : a.exp ≤ 1000000)
    (hop : ∀ w, Calls Tryz.prog K #[.agg #[.int .i64 m, .int .i64 x], .agg #[.int .i64 n, .int .i64 y]] w fun e w' => e = .returned (.agg #[.bool (a).neg, .int .u64 (a).man, .int .i64 (a).exp, .bool (a).more]) ∧ Ext w w') :
    Calls Tryz.prog 74 #[.agg #[.int .i64 m, .int .i64 x], .agg #[.int .i64 n, .int .i64 y], .func (.func K) #[] #[]] w fun e w' => e = .returned (.tuple #[.agg #[.int .i64 (okV a.rd).1, .int .i64 (okV a.rd).2], .int .i64 (okE a.rd)]) ∧ Ext w w' := by
  have A := Lib.hid (both_any m x n y)
  rw [h] at A
  have GC := Lib.hid (fun bp bq bs u h1 h2 h3 cf p0 p1 q0 q1 => guarded_closure K a m x n y bp bq bs u hent h1 h2 h3 cf p0 p1 q0 q1 hm he1 he2 hop)
  clear h hm he1 he2 hop hent
  generalize okV a.rd = ov at *
  generalize okE a.rd = oe at *
  obtain ⟨vm, vx⟩ := ov
  simp only at *
  have hmf : ∀ (fn : Fn) (first cap : Array Value) (w : World), (Instr.makeFunc fn first cap).run Tryz.prog w = .ok (.func fn first cap) w := fun _ _ _ _ => rfl
  go_enter Tryz.func74, Tryz.ntmps74
  go_wp2_with fail
  refine (A.out _).mono ?_
  rintro e w1 ⟨rfl, hx⟩
  have X := Lib.hid (((((Ext.refl w).alloc _).alloc _).alloc _).alloc _ |>.trans hx)
  have sz : w.heap.size + 1 + 1 + 1 + 1 ≤ w1.heap.size := by simpa using hx.size
  have c0 : w1.cell? ⟨w.heap.size + 1 + 1 + 1, 0, none⟩ = some (.int .i64 0) := (hx.cell 0 (by simp)).trans (by simp [go_sem])
  have c1 : w1.cell? ⟨w.heap.size + 1 + 1 + 1, 1, none⟩ = some (.int .i64 0) := (hx.cell 1 (by simp)).trans (by simp [go_sem])
  have f0 : ∀ j, w1.frozen? ⟨w.heap.size + 1 + 1 + 1, j, none⟩ = false := fun j => (hx.froz j (by simp)).trans (by simp [go_sem])
  have p0 : w1.cell? ⟨w.heap.size, 0, none⟩ = some (.int .i64 m) := (hx.cell 0 (by simp; omega)).trans (by simp [go_sem])
  have p1 : w1.cell? ⟨w.heap.size, 1, none⟩ = some (.int .i64 x) := (hx.cell 1 (by simp; omega)).trans (by simp [go_sem])
  have q0 : w1.cell? ⟨w.heap.size + 1, 0, none⟩ = some (.int .i64 n) := (hx.cell 0 (by simp)).trans (by simp [go_sem])
  have q1 : w1.cell? ⟨w.heap.size + 1, 1, none⟩ = some (.int .i64 y) := (hx.cell 1 (by simp)).trans (by simp [go_sem])
  have cf : w1.cell? ⟨w.heap.size + 1 + 1, 0, none⟩ = some (.func (.func K) #[] #[]) := (hx.cell 0 (by simp)).trans (by simp [go_sem])
  have HG := Lib.hid (GC.out _ _ _ w1 (by omega) (by omega) (by omega) cf p0 p1 q0 q1)
  clear hx GC p0 p1 q0 q1 cf
  go_wp2_with fail
  refine HG.out.mono ?_
  rintro e w2 ⟨rfl, hx⟩
  have X2 := Lib.hid (X.out.trans hx)
  have c0 := (hx.cell 0 (b := w.heap.size + 1 + 1 + 1) (by omega)).trans c0
  have c1 := (hx.cell 1 (b := w.heap.size + 1 + 1 + 1) (by omega)).trans c1
  have f0 : ∀ j, w2.frozen? ⟨w.heap.size + 1 + 1 + 1, j, none⟩ = false := fun j => (hx.froz j (by omega)).trans (f0 j)
  clear hx
  go_wp2
  refine bodyPost_ret (v := .tuple #[.agg #[.int .i64 vm, .int .i64 vx], .int .i64 oe]) ?_ rfl ⟨rfl, ?_⟩
  · simp [results, Tryz.results74, go_sem, c0, c1]
  · exact (X2.out.setCell (by simp; omega) _).setCell (by simp; omega) _

theorem combined_any (K : FuncId) (a : Ex) (m x n y : Int) (w : World) (hent : ∀ args w, (callFunc K args).run Tryz.prog w = .ok (.enter K args) w)
    (hop : (validV m x && validV n y) = true → (a.man < 18446744073709551616 ∧ -1000000 ≤ a.exp ∧ a.exp ≤ 1000000) ∧ ∀ w, Calls Tryz.prog K #[.agg #[.int .i64 m, .int .i64 x], .agg #[.int .i64 n, .int .i64 y]] w fun e w' => e = .returned (.agg #[.bool (a).neg, .int .u64 (a).man, .int .i64 (a).exp, .bool (a).more]) ∧ Ext w w') :
    Calls Tryz.prog 74 #[.agg #[.int .i64 m, .int .i64 x], .agg #[.int .i64 n, .int .i64 y], .func (.func K) #[] #[]] w fun e w' => e = .returned (.tuple #[.agg #[.int .i64 (combV m x n y a).1.1, .int .i64 (combV m x n y a).1.2], .int .i64 (combV m x n y a).2]) ∧ Ext w w' := by
  unfold combV
  cases h : validV m x && validV n y with
  | false => exact combined_bad K m x n y w h
  | true =>
    obtain ⟨⟨h1, h2, h3⟩, h4⟩ := hop h
    exact combined_good K a m x n y w h hent h1 h2 h3 h4
theorem both_bd {m x n y : Int} (h : (validV m x && validV n y) = true) : (-150 ≤ x ∧ x ≤ 150 ∧ -150 ≤ y ∧ y ≤ 150) ∧ (-16777216 < m ∧ m < 16777216 ∧ -16777216 < n ∧ n < 16777216) := by
  rw [Bool.and_eq_true] at h
  obtain ⟨a1, a2, a3, a4, _⟩ := valid_bd h.1
  obtain ⟨b1, b2, b3, b4, _⟩ := valid_bd h.2
  exact ⟨⟨a3, a4, b3, b4⟩, a1, a2, b1, b2⟩
theorem exV_ok {m x : Int} (h1 : -9223372036854775808 ≤ m) (h2 : m < 9223372036854775808) (h3 : -1000000 ≤ x) (h4 : x ≤ 1000000) : (exV m x).man < 18446744073709551616 ∧ -1000000 ≤ (exV m x).exp ∧ (exV m x).exp ≤ 1000000 :=
  ⟨exV_man h1 h2, h3, h4⟩
theorem sum_ok (m x n y : Int) (b1 : -150 ≤ x) (b2 : x ≤ 150) (b3 : -150 ≤ y) (b4 : y ≤ 150) (c1 : -16777216 < m) (c2 : m < 16777216) (c3 : -16777216 < n) (c4 : n < 16777216) :
    (sumV m x n y).man < 18446744073709551616 ∧ -1000000 ≤ (sumV m x n y).exp ∧ (sumV m x n y).exp ≤ 1000000 := by
  unfold sumV
  by_cases h : m = 0
  · rw [if_pos h]; exact exV_ok (by omega) (by omega) (by omega) (by omega)
  rw [if_neg h]
  by_cases h2 : n = 0
  · rw [if_pos h2]; exact exV_ok (by omega) (by omega) (by omega) (by omega)
  rw [if_neg h2]
  by_cases h3 : x < y
  · rw [if_pos h3]
    by_cases h4 : 32 < y - x
    · rw [if_pos h4]; exact exV_ok (by omega) (by omega) (by omega) (by omega)
    · rw [if_neg h4]
      obtain ⟨k1, k2⟩ := shl_bd (y - x).toNat (by omega) c3 c4
      exact exV_ok (by omega) (by omega) (by omega) (by omega)
  · rw [if_neg h3]
    by_cases h4 : 32 < x - y
    · rw [if_pos h4]; exact exV_ok (by omega) (by omega) (by omega) (by omega)
    · rw [if_neg h4]
      obtain ⟨k1, k2⟩ := shl_bd (x - y).toNat (by omega) c1 c2
      exact exV_ok (by omega) (by omega) (by omega) (by omega)
theorem prod_ok (m x n y : Int) (b1 : -150 ≤ x) (b2 : x ≤ 150) (b3 : -150 ≤ y) (b4 : y ≤ 150) (c1 : -16777216 < m) (c2 : m < 16777216) (c3 : -16777216 < n) (c4 : n < 16777216) :
    (prodV m x n y).man < 18446744073709551616 ∧ -1000000 ≤ (prodV m x n y).exp ∧ (prodV m x n y).exp ≤ 1000000 := by
  obtain ⟨k1, k2⟩ := mul_bd c1 c2 c3 c4
  exact exV_ok (by omega) (by omega) (by omega) (by omega)

theorem add_ent (args : Array Value) (w : World) : (callFunc 75 args).run Tryz.prog w = .ok (.enter 75 args) w :=
  ent_any Tryz.func75 (by kernel_rfl) rfl args w
theorem add_comb (m x n y : Int) (w : World) :
    Calls Tryz.prog 74 #[.agg #[.int .i64 m, .int .i64 x], .agg #[.int .i64 n, .int .i64 y], .func (.func 75) #[] #[]] w fun e w' => e = .returned (.tuple #[.agg #[.int .i64 (combV m x n y (sumV m x n y)).1.1, .int .i64 (combV m x n y (sumV m x n y)).1.2], .int .i64 (combV m x n y (sumV m x n y)).2]) ∧ Ext w w' :=
  combined_any 75 (sumV m x n y) m x n y w add_ent fun h => by
    obtain ⟨⟨b1, b2, b3, b4⟩, c1, c2, c3, c4⟩ := both_bd h
    exact ⟨sum_ok m x n y b1 b2 b3 b4 c1 c2 c3 c4, fun w => sum_any m x n y b1 b2 b3 b4 c1 c2 c3 c4 w⟩
set_option maxHeartbeats 1000000 in
theorem add_real (m x n y : Int) (w : World) :
    Calls Tryz.prog 35 #[.agg #[.int .i64 m, .int .i64 x], .agg #[.int .i64 n, .int .i64 y]] w fun e w' => e = .returned (.tuple #[.agg #[.int .i64 (combV m x n y (sumV m x n y)).1.1, .int .i64 (combV m x n y (sumV m x n y)).1.2], .int .i64 (combV m x n y (sumV m x n y)).2]) ∧ Ext w w' := by
  have A := Lib.hid (add_comb m x n y)
  generalize combV m x n y (sumV m x n y) = r at *
  obtain ⟨⟨rm, rx⟩, re⟩ := r
  simp only at *
  have hmf : ∀ (fn : Fn) (first cap : Array Value) (w : World), (Instr.makeFunc fn first cap).run Tryz.prog w = .ok (.func fn first cap) w := fun _ _ _ _ => rfl
  go_enter Tryz.func35, Tryz.ntmps35
  go_wp2_with fail
  refine (A.out _).mono ?_
  rintro e w1 ⟨rfl, hx⟩
  have X := Lib.hid ((((Ext.refl w).alloc _).alloc _).alloc _ |>.trans hx)
  have sz : w.heap.size + 1 + 1 + 1 ≤ w1.heap.size := by simpa using hx.size
  have c0 : w1.cell? ⟨w.heap.size + 1 + 1, 0, none⟩ = some (.int .i64 0) := (hx.cell 0 (by simp)).trans (by simp [go_sem])
  have c1 : w1.cell? ⟨w.heap.size + 1 + 1, 1, none⟩ = some (.int .i64 0) := (hx.cell 1 (by simp)).trans (by simp [go_sem])
  have f0 : ∀ j, w1.frozen? ⟨w.heap.size + 1 + 1, j, none⟩ = false := fun j => (hx.froz j (by simp)).trans (by simp [go_sem])
  clear hx
  go_wp2
  refine bodyPost_ret (v := .tuple #[.agg #[.int .i64 rm, .int .i64 rx], .int .i64 re]) ?_ rfl ⟨rfl, ?_⟩
  · simp [results, Tryz.results35, go_sem, c0, c1]
  · exact (X.out.setCell (by simp; omega) _).setCell (by simp; omega) _

theorem mul_ent (args : Array Value) (w : World) : (callFunc 80 args).run Tryz.prog w = .ok (.enter 80 args) w :=
  ent_any Tryz.func80 (by kernel_rfl) rfl args w
theorem mul_comb (m x n y : Int) (w : World) :
    Calls Tryz.prog 74 #[.agg #[.int .i64 m, .int .i64 x], .agg #[.int .i64 n, .int .i64 y], .func (.func 80) #[] #[]] w fun e w' => e = .returned (.tuple #[.agg #[.int .i64 (combV m x n y (prodV m x n y)).1.1, .int .i64 (combV m x n y (prodV m x n y)).1.2], .int .i64 (combV m x n y (prodV m x n y)).2]) ∧ Ext w w' :=
  combined_any 80 (prodV m x n y) m x n y w mul_ent fun h => by
    obtain ⟨⟨b1, b2, b3, b4⟩, c1, c2, c3, c4⟩ := both_bd h
    exact ⟨prod_ok m x n y b1 b2 b3 b4 c1 c2 c3 c4, fun w => prod_any m x n y b1 b2 b3 b4 c1 c2 c3 c4 w⟩
set_option maxHeartbeats 1000000 in
theorem mul_real (m x n y : Int) (w : World) :
    Calls Tryz.prog 40 #[.agg #[.int .i64 m, .int .i64 x], .agg #[.int .i64 n, .int .i64 y]] w fun e w' => e = .returned (.tuple #[.agg #[.int .i64 (combV m x n y (prodV m x n y)).1.1, .int .i64 (combV m x n y (prodV m x n y)).1.2], .int .i64 (combV m x n y (prodV m x n y)).2]) ∧ Ext w w' := by
  have A := Lib.hid (mul_comb m x n y)
  generalize combV m x n y (prodV m x n y) = r at *
  obtain ⟨⟨rm, rx⟩, re⟩ := r
  simp only at *
  have hmf : ∀ (fn : Fn) (first cap : Array Value) (w : World), (Instr.makeFunc fn first cap).run Tryz.prog w = .ok (.func fn first cap) w := fun _ _ _ _ => rfl
  go_enter Tryz.func40, Tryz.ntmps40
  go_wp2_with fail
  refine (A.out _).mono ?_
  rintro e w1 ⟨rfl, hx⟩
  have X := Lib.hid ((((Ext.refl w).alloc _).alloc _).alloc _ |>.trans hx)
  have sz : w.heap.size + 1 + 1 + 1 ≤ w1.heap.size := by simpa using hx.size
  have c0 : w1.cell? ⟨w.heap.size + 1 + 1, 0, none⟩ = some (.int .i64 0) := (hx.cell 0 (by simp)).trans (by simp [go_sem])
  have c1 : w1.cell? ⟨w.heap.size + 1 + 1, 1, none⟩ = some (.int .i64 0) := (hx.cell 1 (by simp)).trans (by simp [go_sem])
  have f0 : ∀ j, w1.frozen? ⟨w.heap.size + 1 + 1, j, none⟩ = false := fun j => (hx.froz j (by simp)).trans (by simp [go_sem])
  clear hx
  go_wp2
  refine bodyPost_ret (v := .tuple #[.agg #[.int .i64 rm, .int .i64 rx], .int .i64 re]) ?_ rfl ⟨rfl, ?_⟩
  · simp [results, Tryz.results40, go_sem, c0, c1]
  · exact (X.out.setCell (by simp; omega) _).setCell (by simp; omega) _

end Go.Proofs.YtoeahfddnjbhbaaGreatDoor
