/- Layer 2: the reference's powers by repeated products. -/
import Derived.Test.YthmndafjogndaaaGreatDoorUs
import Derived.Test.YthmndafjogndaaaGreatDoorTp
namespace Go.Proofs.YthmndafjogndaaaGreatDoor
open Go.ChangeShapes Go.WideShapes Go.ChangeAt Go.RowKit

theorem one_ref : Ret 79 #[] (.agg #[.int .i64 8388608, .int .i64 (-23)]) := fun w => by
  go_enter Tryz.func79, Tryz.ntmps79
  go_wp2
  refine bodyPost_ret (v := .agg #[.int .i64 8388608, .int .i64 (-23)]) ?_ rfl ⟨rfl, ?_⟩
  · simp [results, Tryz.results79, go_sem]
  · repeat (first | with_reducible exact Ext.refl _ | with_reducible refine Ext.alloc ?_ _ | with_reducible refine Ext.setCell ?_ (by simp) _)
/-- Three cells that are there. -/
structure Tri (w : World) (b : Nat) : Prop where
  s0 : (w.cell? ⟨b, 0, none⟩).isSome = true
  s1 : (w.cell? ⟨b, 1, none⟩).isSome = true
  s2 : (w.cell? ⟨b, 2, none⟩).isSome = true
theorem tri_other {w : World} {b p q : Nat} {v : Value} (h : q ≠ p) : (w.setCell ⟨b, p, none⟩ v).cell? ⟨b, q, none⟩ = w.cell? ⟨b, q, none⟩ := by
  apply World.cell?_setCell_other; intro e2; injection e2 with _ e3 _; exact h e3.symm
theorem tri_set {w : World} {b : Nat} (h : Tri w b) (x y z : Value) :
    (((w.setCell ⟨b, 0, none⟩ x).setCell ⟨b, 1, none⟩ y).setCell ⟨b, 2, none⟩ z).cell? ⟨b, 0, none⟩ = some x ∧ (((w.setCell ⟨b, 0, none⟩ x).setCell ⟨b, 1, none⟩ y).setCell ⟨b, 2, none⟩ z).cell? ⟨b, 1, none⟩ = some y ∧
    (((w.setCell ⟨b, 0, none⟩ x).setCell ⟨b, 1, none⟩ y).setCell ⟨b, 2, none⟩ z).cell? ⟨b, 2, none⟩ = some z := by
  refine ⟨?_, ?_, ?_⟩
  · rw [tri_other (by omega), tri_other (by omega)]; exact World.cell?_setCell_same' _ _ _ h.s0
  · rw [tri_other (by omega)]; exact World.cell?_setCell_same' _ _ _ (set_some h.s1)
  · exact World.cell?_setCell_same' _ _ _ (set_some (set_some h.s2))

set_option maxRecDepth 100000 in
set_option maxHeartbeats 4000000 in
theorem pw_zero (m x : Int)  (w : World) :
    Calls Tryz.prog 78 #[.agg #[.int .i64 m, .int .i64 x], .int .i64 0, .int .i64 0] w fun e w' => e = .returned (.agg #[.int .i64 8388608, .int .i64 (-23), .bool true]) ∧ Ext w w' := by
  go_enter Tryz.func78, Tryz.ntmps78
  go_upto_region 1 with (fail)
  have X0 : Hid (Ext w ((w.alloc (.cells #[.int .i64 m, .int .i64 x] 23)).alloc (.cells #[.int .i64 0, .int .i64 0, .bool false] 43))) := Lib.hid (((Ext.refl w).alloc _).alloc _)
  have ZB : Hid (Zb ((w.alloc (.cells #[.int .i64 m, .int .i64 x] 23)).alloc (.cells #[.int .i64 0, .int .i64 0, .bool false] 43)) (w.heap.size + 1)) := Lib.hid ⟨by simp [go_sem], by simp [go_sem], by simp [go_sem], fun j => by simp [go_sem], by simp [go_sem]⟩
  have RX : Hid (Rc ((w.alloc (.cells #[.int .i64 m, .int .i64 x] 23)).alloc (.cells #[.int .i64 0, .int .i64 0, .bool false] 43)) w.heap.size m x) := Lib.hid ⟨by simp [go_sem], by simp [go_sem]⟩
  generalize (w.alloc (.cells #[.int .i64 m, .int .i64 x] 23)).alloc (.cells #[.int .i64 0, .int .i64 0, .bool false] 43) = W0 at *
  go_wp2_with fail
  refine (one_ref _).mono ?_
  rintro e w1 ⟨rfl, hx⟩
  have z0 := (ZB.out.later hx).c0; have z1 := (ZB.out.later hx).c1; have z2 := (ZB.out.later hx).c2; have zf := (ZB.out.later hx).fz
  have XF := Lib.hid (X0.out.trans hx); clear hx
  go_wp2
  refine bodyPost_ret (v := .agg #[.int .i64 8388608, .int .i64 (-23), .bool true]) ?_ rfl ⟨rfl, ?_⟩
  · simp [results, Tryz.results78, go_sem, z0, z1, z2]
  · repeat (first | with_reducible exact XF.out | with_reducible refine Ext.setCell ?_ (by simp) _)
set_option maxRecDepth 100000 in
set_option maxHeartbeats 4000000 in
theorem pw_odd1_ok (m x : Int) (n S t u : Int) (f1 : IntKind.i64.wrap (n + 1) = S) (_f2 : wrap64 (n + 1) = S) (f3 : (S == 0) = false) (_f3' : ¬ S = 0) (f4 : n.tmod 2 = t) (_f5 : wrap64 t = t) (f6 : IntKind.i64.wrap (t + 1) = u) (_f7 : wrap64 (t + 1) = u) (f8 : u.tmod 2 = 1) (_f8' : wrap64 1 = 1) (a b : Int) (PR : Ret 78 #[.agg #[.int .i64 m, .int .i64 x], .int .i64 n, .int .i64 0] (.agg #[.int .i64 a, .int .i64 b, .bool true])) (v1 v2 : Int) (ov : Bool) (MU : Ret 37 #[.agg #[.int .i64 m, .int .i64 x], .agg #[.int .i64 a, .int .i64 b]] (.agg #[.int .i64 v1, .int .i64 v2, .bool ov]))  (w : World) :
    Calls Tryz.prog 78 #[.agg #[.int .i64 m, .int .i64 x], .int .i64 n, .int .i64 1] w fun e w' => e = .returned (.agg #[.int .i64 v1, .int .i64 v2, .bool ov]) ∧ Ext w w' := by
  have HPR := Lib.hid PR; clear PR
  have HMU := Lib.hid MU; clear MU
  go_enter Tryz.func78, Tryz.ntmps78
  go_upto_region 1 with (fail)
  have X0 : Hid (Ext w ((w.alloc (.cells #[.int .i64 m, .int .i64 x] 23)).alloc (.cells #[.int .i64 0, .int .i64 0, .bool false] 43))) := Lib.hid (((Ext.refl w).alloc _).alloc _)
  have ZB : Hid (Zb ((w.alloc (.cells #[.int .i64 m, .int .i64 x] 23)).alloc (.cells #[.int .i64 0, .int .i64 0, .bool false] 43)) (w.heap.size + 1)) := Lib.hid ⟨by simp [go_sem], by simp [go_sem], by simp [go_sem], fun j => by simp [go_sem], by simp [go_sem]⟩
  have RX : Hid (Rc ((w.alloc (.cells #[.int .i64 m, .int .i64 x] 23)).alloc (.cells #[.int .i64 0, .int .i64 0, .bool false] 43)) w.heap.size m x) := Lib.hid ⟨by simp [go_sem], by simp [go_sem]⟩
  generalize (w.alloc (.cells #[.int .i64 m, .int .i64 x] 23)).alloc (.cells #[.int .i64 0, .int .i64 0, .bool false] 43) = W0 at *
  go_wp2_with fail
  refine (one_ref _).mono ?_
  rintro e w1 ⟨rfl, hx⟩
  have X1 := Lib.hid hx; clear hx
  have x0 : ∀ ob, (w1.alloc ob).cell? ⟨w.heap.size, 0, none⟩ = some (.int .i64 m) := fun ob => (RX.out.later (X1.out.alloc ob)).c0
  have x1 : ∀ ob, (w1.alloc ob).cell? ⟨w.heap.size, 1, none⟩ = some (.int .i64 x) := fun ob => (RX.out.later (X1.out.alloc ob)).c1
  go_wp2_with fail
  refine (HPR.out _).mono ?_
  rintro e w2 ⟨rfl, hx⟩
  clear x0 x1
  have q0 : w2.cell? ⟨w1.heap.size, 0, none⟩ = some (.int .i64 8388608) := (hx.cell 0 (by simp)).trans (by simp [go_sem])
  have q1 : w2.cell? ⟨w1.heap.size, 1, none⟩ = some (.int .i64 (-23)) := (hx.cell 1 (by simp)).trans (by simp [go_sem])
  have q2 : w2.cell? ⟨w1.heap.size, 2, none⟩ = some (.bool true) := (hx.cell 2 (by simp)).trans (by simp [go_sem])
  have qf : ∀ j, w2.frozen? ⟨w1.heap.size, j, none⟩ = false := fun j => (hx.froz j (by simp)).trans (by simp [go_sem])
  have X2 := Lib.hid ((X1.out.alloc (.cells #[.int .i64 8388608, .int .i64 (-23), .bool true] 43)).trans hx)
  have le1 : W0.heap.size ≤ w1.heap.size := X1.out.size
  have T3 := tri_set (w := w2) (b := w1.heap.size) ⟨by rw [q0]; rfl, by rw [q1]; rfl, by rw [q2]; rfl⟩ (.int .i64 a) (.int .i64 b) (.bool true)
  have X3 := Lib.hid (((X2.out.setCell (p := ⟨w1.heap.size, 0, none⟩) le1 (.int .i64 a)).setCell (p := ⟨w1.heap.size, 1, none⟩) le1 (.int .i64 b)).setCell (p := ⟨w1.heap.size, 2, none⟩) le1 (.bool true))
  have HT3 := Lib.hid T3
  clear hx X2 le1 T3
  go_upto_region 9 with (fail)
  generalize (((w2.setCell ⟨w1.heap.size, 0, none⟩ (.int .i64 a)).setCell ⟨w1.heap.size, 1, none⟩ (.int .i64 b)).setCell ⟨w1.heap.size, 2, none⟩ (.bool true)) = W3 at *
  clear q0 q1 q2 qf
  obtain ⟨y0, y1, y2⟩ := HT3.out
  have x0 := (RX.out.later X3.out).c0; have x1 := (RX.out.later X3.out).c1
  go_wp2_with fail
  refine (HMU.out _).mono ?_
  rintro e w4 ⟨rfl, hx⟩
  clear y0 y1 y2 x0 x1
  have X4 := Lib.hid (X3.out.trans hx); clear hx X3
  have z0 := (ZB.out.later X4.out).c0; have z1 := (ZB.out.later X4.out).c1; have z2 := (ZB.out.later X4.out).c2; have zf := (ZB.out.later X4.out).fz
  have XF := Lib.hid (X0.out.trans X4.out)
  go_wp2
  refine bodyPost_ret (v := .agg #[.int .i64 v1, .int .i64 v2, .bool ov]) ?_ rfl ⟨rfl, ?_⟩
  · simp [results, Tryz.results78, go_sem, z0, z1, z2]
  · repeat (first | with_reducible exact XF.out | with_reducible refine Ext.setCell ?_ (by simp) _)
set_option maxRecDepth 100000 in
set_option maxHeartbeats 4000000 in
theorem pw_odd1_none (m x : Int) (n S t u : Int) (f1 : IntKind.i64.wrap (n + 1) = S) (_f2 : wrap64 (n + 1) = S) (f3 : (S == 0) = false) (_f3' : ¬ S = 0) (f4 : n.tmod 2 = t) (_f5 : wrap64 t = t) (f6 : IntKind.i64.wrap (t + 1) = u) (_f7 : wrap64 (t + 1) = u) (f8 : u.tmod 2 = 1) (_f8' : wrap64 1 = 1) (a b : Int) (PR : Ret 78 #[.agg #[.int .i64 m, .int .i64 x], .int .i64 n, .int .i64 0] (.agg #[.int .i64 a, .int .i64 b, .bool false]))  (w : World) :
    Calls Tryz.prog 78 #[.agg #[.int .i64 m, .int .i64 x], .int .i64 n, .int .i64 1] w fun e w' => e = .returned (.agg #[.int .i64 0, .int .i64 0, .bool false]) ∧ Ext w w' := by
  have HPR := Lib.hid PR; clear PR
  go_enter Tryz.func78, Tryz.ntmps78
  go_upto_region 1 with (fail)
  have X0 : Hid (Ext w ((w.alloc (.cells #[.int .i64 m, .int .i64 x] 23)).alloc (.cells #[.int .i64 0, .int .i64 0, .bool false] 43))) := Lib.hid (((Ext.refl w).alloc _).alloc _)
  have ZB : Hid (Zb ((w.alloc (.cells #[.int .i64 m, .int .i64 x] 23)).alloc (.cells #[.int .i64 0, .int .i64 0, .bool false] 43)) (w.heap.size + 1)) := Lib.hid ⟨by simp [go_sem], by simp [go_sem], by simp [go_sem], fun j => by simp [go_sem], by simp [go_sem]⟩
  have RX : Hid (Rc ((w.alloc (.cells #[.int .i64 m, .int .i64 x] 23)).alloc (.cells #[.int .i64 0, .int .i64 0, .bool false] 43)) w.heap.size m x) := Lib.hid ⟨by simp [go_sem], by simp [go_sem]⟩
  generalize (w.alloc (.cells #[.int .i64 m, .int .i64 x] 23)).alloc (.cells #[.int .i64 0, .int .i64 0, .bool false] 43) = W0 at *
  go_wp2_with fail
  refine (one_ref _).mono ?_
  rintro e w1 ⟨rfl, hx⟩
  have X1 := Lib.hid hx; clear hx
  have x0 : ∀ ob, (w1.alloc ob).cell? ⟨w.heap.size, 0, none⟩ = some (.int .i64 m) := fun ob => (RX.out.later (X1.out.alloc ob)).c0
  have x1 : ∀ ob, (w1.alloc ob).cell? ⟨w.heap.size, 1, none⟩ = some (.int .i64 x) := fun ob => (RX.out.later (X1.out.alloc ob)).c1
  go_wp2_with fail
  refine (HPR.out _).mono ?_
  rintro e w2 ⟨rfl, hx⟩
  clear x0 x1
  have q0 : w2.cell? ⟨w1.heap.size, 0, none⟩ = some (.int .i64 8388608) := (hx.cell 0 (by simp)).trans (by simp [go_sem])
  have q1 : w2.cell? ⟨w1.heap.size, 1, none⟩ = some (.int .i64 (-23)) := (hx.cell 1 (by simp)).trans (by simp [go_sem])
  have q2 : w2.cell? ⟨w1.heap.size, 2, none⟩ = some (.bool true) := (hx.cell 2 (by simp)).trans (by simp [go_sem])
  have qf : ∀ j, w2.frozen? ⟨w1.heap.size, j, none⟩ = false := fun j => (hx.froz j (by simp)).trans (by simp [go_sem])
  have X2 := Lib.hid ((X1.out.alloc (.cells #[.int .i64 8388608, .int .i64 (-23), .bool true] 43)).trans hx)
  have le1 : W0.heap.size ≤ w1.heap.size := X1.out.size
  have T3 := tri_set (w := w2) (b := w1.heap.size) ⟨by rw [q0]; rfl, by rw [q1]; rfl, by rw [q2]; rfl⟩ (.int .i64 a) (.int .i64 b) (.bool false)
  have X3 := Lib.hid (((X2.out.setCell (p := ⟨w1.heap.size, 0, none⟩) le1 (.int .i64 a)).setCell (p := ⟨w1.heap.size, 1, none⟩) le1 (.int .i64 b)).setCell (p := ⟨w1.heap.size, 2, none⟩) le1 (.bool false))
  have HT3 := Lib.hid T3
  clear hx X2 le1 T3
  go_upto_region 9 with (fail)
  generalize (((w2.setCell ⟨w1.heap.size, 0, none⟩ (.int .i64 a)).setCell ⟨w1.heap.size, 1, none⟩ (.int .i64 b)).setCell ⟨w1.heap.size, 2, none⟩ (.bool false)) = W3 at *
  clear q0 q1 q2 qf
  obtain ⟨y0, y1, y2⟩ := HT3.out
  have x0 := (RX.out.later X3.out).c0; have x1 := (RX.out.later X3.out).c1
  have X4 := X3; clear X3
  have z0 := (ZB.out.later X4.out).c0; have z1 := (ZB.out.later X4.out).c1; have z2 := (ZB.out.later X4.out).c2; have zf := (ZB.out.later X4.out).fz
  have XF := Lib.hid (X0.out.trans X4.out)
  go_wp2
  refine bodyPost_ret (v := .agg #[.int .i64 0, .int .i64 0, .bool false]) ?_ rfl ⟨rfl, ?_⟩
  · simp [results, Tryz.results78, go_sem, z0, z1, z2]
  · repeat (first | with_reducible exact XF.out | with_reducible refine Ext.setCell ?_ (by simp) _)
set_option maxRecDepth 100000 in
set_option maxHeartbeats 4000000 in
theorem pw_odd0_ok (m x : Int) (n l S t u : Int) (f1 : IntKind.i64.wrap (n + l) = S) (_f2 : wrap64 (n + l) = S) (f3 : (S == 0) = false) (_f3' : ¬ S = 0) (f4 : n.tmod 2 = t) (_f5 : wrap64 t = t) (f6 : IntKind.i64.wrap (t + l) = u) (_f7 : wrap64 (t + l) = u) (hl : (l == 1) = false) (_hl' : ¬ l = 1) (f8 : u.tmod 2 = 1) (_f8' : wrap64 1 = 1) (n' : Int) (f9 : IntKind.i64.wrap (n - 1) = n') (_f10 : wrap64 (n - 1) = n') (a b : Int) (PR : Ret 78 #[.agg #[.int .i64 m, .int .i64 x], .int .i64 n', .int .i64 0] (.agg #[.int .i64 a, .int .i64 b, .bool true])) (v1 v2 : Int) (ov : Bool) (MU : Ret 37 #[.agg #[.int .i64 m, .int .i64 x], .agg #[.int .i64 a, .int .i64 b]] (.agg #[.int .i64 v1, .int .i64 v2, .bool ov]))  (w : World) :
    Calls Tryz.prog 78 #[.agg #[.int .i64 m, .int .i64 x], .int .i64 n, .int .i64 l] w fun e w' => e = .returned (.agg #[.int .i64 v1, .int .i64 v2, .bool ov]) ∧ Ext w w' := by
  have HPR := Lib.hid PR; clear PR
  have HMU := Lib.hid MU; clear MU
  go_enter Tryz.func78, Tryz.ntmps78
  go_upto_region 1 with (fail)
  have X0 : Hid (Ext w ((w.alloc (.cells #[.int .i64 m, .int .i64 x] 23)).alloc (.cells #[.int .i64 0, .int .i64 0, .bool false] 43))) := Lib.hid (((Ext.refl w).alloc _).alloc _)
  have ZB : Hid (Zb ((w.alloc (.cells #[.int .i64 m, .int .i64 x] 23)).alloc (.cells #[.int .i64 0, .int .i64 0, .bool false] 43)) (w.heap.size + 1)) := Lib.hid ⟨by simp [go_sem], by simp [go_sem], by simp [go_sem], fun j => by simp [go_sem], by simp [go_sem]⟩
  have RX : Hid (Rc ((w.alloc (.cells #[.int .i64 m, .int .i64 x] 23)).alloc (.cells #[.int .i64 0, .int .i64 0, .bool false] 43)) w.heap.size m x) := Lib.hid ⟨by simp [go_sem], by simp [go_sem]⟩
  generalize (w.alloc (.cells #[.int .i64 m, .int .i64 x] 23)).alloc (.cells #[.int .i64 0, .int .i64 0, .bool false] 43) = W0 at *
  go_wp2_with fail
  refine (one_ref _).mono ?_
  rintro e w1 ⟨rfl, hx⟩
  have X1 := Lib.hid hx; clear hx
  have x0 : ∀ ob, (w1.alloc ob).cell? ⟨w.heap.size, 0, none⟩ = some (.int .i64 m) := fun ob => (RX.out.later (X1.out.alloc ob)).c0
  have x1 : ∀ ob, (w1.alloc ob).cell? ⟨w.heap.size, 1, none⟩ = some (.int .i64 x) := fun ob => (RX.out.later (X1.out.alloc ob)).c1
  go_wp2_with fail
  refine (HPR.out _).mono ?_
  rintro e w2 ⟨rfl, hx⟩
  clear x0 x1
  have q0 : w2.cell? ⟨w1.heap.size, 0, none⟩ = some (.int .i64 8388608) := (hx.cell 0 (by simp)).trans (by simp [go_sem])
  have q1 : w2.cell? ⟨w1.heap.size, 1, none⟩ = some (.int .i64 (-23)) := (hx.cell 1 (by simp)).trans (by simp [go_sem])
  have q2 : w2.cell? ⟨w1.heap.size, 2, none⟩ = some (.bool true) := (hx.cell 2 (by simp)).trans (by simp [go_sem])
  have qf : ∀ j, w2.frozen? ⟨w1.heap.size, j, none⟩ = false := fun j => (hx.froz j (by simp)).trans (by simp [go_sem])
  have X2 := Lib.hid ((X1.out.alloc (.cells #[.int .i64 8388608, .int .i64 (-23), .bool true] 43)).trans hx)
  have le1 : W0.heap.size ≤ w1.heap.size := X1.out.size
  have T3 := tri_set (w := w2) (b := w1.heap.size) ⟨by rw [q0]; rfl, by rw [q1]; rfl, by rw [q2]; rfl⟩ (.int .i64 a) (.int .i64 b) (.bool true)
  have X3 := Lib.hid (((X2.out.setCell (p := ⟨w1.heap.size, 0, none⟩) le1 (.int .i64 a)).setCell (p := ⟨w1.heap.size, 1, none⟩) le1 (.int .i64 b)).setCell (p := ⟨w1.heap.size, 2, none⟩) le1 (.bool true))
  have HT3 := Lib.hid T3
  clear hx X2 le1 T3
  go_upto_region 9 with (fail)
  generalize (((w2.setCell ⟨w1.heap.size, 0, none⟩ (.int .i64 a)).setCell ⟨w1.heap.size, 1, none⟩ (.int .i64 b)).setCell ⟨w1.heap.size, 2, none⟩ (.bool true)) = W3 at *
  clear q0 q1 q2 qf
  obtain ⟨y0, y1, y2⟩ := HT3.out
  have x0 := (RX.out.later X3.out).c0; have x1 := (RX.out.later X3.out).c1
  go_wp2_with fail
  refine (HMU.out _).mono ?_
  rintro e w4 ⟨rfl, hx⟩
  clear y0 y1 y2 x0 x1
  have X4 := Lib.hid (X3.out.trans hx); clear hx X3
  have z0 := (ZB.out.later X4.out).c0; have z1 := (ZB.out.later X4.out).c1; have z2 := (ZB.out.later X4.out).c2; have zf := (ZB.out.later X4.out).fz
  have XF := Lib.hid (X0.out.trans X4.out)
  go_wp2
  refine bodyPost_ret (v := .agg #[.int .i64 v1, .int .i64 v2, .bool ov]) ?_ rfl ⟨rfl, ?_⟩
  · simp [results, Tryz.results78, go_sem, z0, z1, z2]
  · repeat (first | with_reducible exact XF.out | with_reducible refine Ext.setCell ?_ (by simp) _)
set_option maxRecDepth 100000 in
set_option maxHeartbeats 4000000 in
theorem pw_odd0_none (m x : Int) (n l S t u : Int) (f1 : IntKind.i64.wrap (n + l) = S) (_f2 : wrap64 (n + l) = S) (f3 : (S == 0) = false) (_f3' : ¬ S = 0) (f4 : n.tmod 2 = t) (_f5 : wrap64 t = t) (f6 : IntKind.i64.wrap (t + l) = u) (_f7 : wrap64 (t + l) = u) (hl : (l == 1) = false) (_hl' : ¬ l = 1) (f8 : u.tmod 2 = 1) (_f8' : wrap64 1 = 1) (n' : Int) (f9 : IntKind.i64.wrap (n - 1) = n') (_f10 : wrap64 (n - 1) = n') (a b : Int) (PR : Ret 78 #[.agg #[.int .i64 m, .int .i64 x], .int .i64 n', .int .i64 0] (.agg #[.int .i64 a, .int .i64 b, .bool false]))  (w : World) :
    Calls Tryz.prog 78 #[.agg #[.int .i64 m, .int .i64 x], .int .i64 n, .int .i64 l] w fun e w' => e = .returned (.agg #[.int .i64 0, .int .i64 0, .bool false]) ∧ Ext w w' := by
  have HPR := Lib.hid PR; clear PR
  go_enter Tryz.func78, Tryz.ntmps78
  go_upto_region 1 with (fail)
  have X0 : Hid (Ext w ((w.alloc (.cells #[.int .i64 m, .int .i64 x] 23)).alloc (.cells #[.int .i64 0, .int .i64 0, .bool false] 43))) := Lib.hid (((Ext.refl w).alloc _).alloc _)
  have ZB : Hid (Zb ((w.alloc (.cells #[.int .i64 m, .int .i64 x] 23)).alloc (.cells #[.int .i64 0, .int .i64 0, .bool false] 43)) (w.heap.size + 1)) := Lib.hid ⟨by simp [go_sem], by simp [go_sem], by simp [go_sem], fun j => by simp [go_sem], by simp [go_sem]⟩
  have RX : Hid (Rc ((w.alloc (.cells #[.int .i64 m, .int .i64 x] 23)).alloc (.cells #[.int .i64 0, .int .i64 0, .bool false] 43)) w.heap.size m x) := Lib.hid ⟨by simp [go_sem], by simp [go_sem]⟩
  generalize (w.alloc (.cells #[.int .i64 m, .int .i64 x] 23)).alloc (.cells #[.int .i64 0, .int .i64 0, .bool false] 43) = W0 at *
  go_wp2_with fail
  refine (one_ref _).mono ?_
  rintro e w1 ⟨rfl, hx⟩
  have X1 := Lib.hid hx; clear hx
  have x0 : ∀ ob, (w1.alloc ob).cell? ⟨w.heap.size, 0, none⟩ = some (.int .i64 m) := fun ob => (RX.out.later (X1.out.alloc ob)).c0
  have x1 : ∀ ob, (w1.alloc ob).cell? ⟨w.heap.size, 1, none⟩ = some (.int .i64 x) := fun ob => (RX.out.later (X1.out.alloc ob)).c1
  go_wp2_with fail
  refine (HPR.out _).mono ?_
  rintro e w2 ⟨rfl, hx⟩
  clear x0 x1
  have q0 : w2.cell? ⟨w1.heap.size, 0, none⟩ = some (.int .i64 8388608) := (hx.cell 0 (by simp)).trans (by simp [go_sem])
  have q1 : w2.cell? ⟨w1.heap.size, 1, none⟩ = some (.int .i64 (-23)) := (hx.cell 1 (by simp)).trans (by simp [go_sem])
  have q2 : w2.cell? ⟨w1.heap.size, 2, none⟩ = some (.bool true) := (hx.cell 2 (by simp)).trans (by simp [go_sem])
  have qf : ∀ j, w2.frozen? ⟨w1.heap.size, j, none⟩ = false := fun j => (hx.froz j (by simp)).trans (by simp [go_sem])
  have X2 := Lib.hid ((X1.out.alloc (.cells #[.int .i64 8388608, .int .i64 (-23), .bool true] 43)).trans hx)
  have le1 : W0.heap.size ≤ w1.heap.size := X1.out.size
  have T3 := tri_set (w := w2) (b := w1.heap.size) ⟨by rw [q0]; rfl, by rw [q1]; rfl, by rw [q2]; rfl⟩ (.int .i64 a) (.int .i64 b) (.bool false)
  have X3 := Lib.hid (((X2.out.setCell (p := ⟨w1.heap.size, 0, none⟩) le1 (.int .i64 a)).setCell (p := ⟨w1.heap.size, 1, none⟩) le1 (.int .i64 b)).setCell (p := ⟨w1.heap.size, 2, none⟩) le1 (.bool false))
  have HT3 := Lib.hid T3
  clear hx X2 le1 T3
  go_upto_region 9 with (fail)
  generalize (((w2.setCell ⟨w1.heap.size, 0, none⟩ (.int .i64 a)).setCell ⟨w1.heap.size, 1, none⟩ (.int .i64 b)).setCell ⟨w1.heap.size, 2, none⟩ (.bool false)) = W3 at *
  clear q0 q1 q2 qf
  obtain ⟨y0, y1, y2⟩ := HT3.out
  have x0 := (RX.out.later X3.out).c0; have x1 := (RX.out.later X3.out).c1
  have X4 := X3; clear X3
  have z0 := (ZB.out.later X4.out).c0; have z1 := (ZB.out.later X4.out).c1; have z2 := (ZB.out.later X4.out).c2; have zf := (ZB.out.later X4.out).fz
  have XF := Lib.hid (X0.out.trans X4.out)
  go_wp2
  refine bodyPost_ret (v := .agg #[.int .i64 0, .int .i64 0, .bool false]) ?_ rfl ⟨rfl, ?_⟩
  · simp [results, Tryz.results78, go_sem, z0, z1, z2]
  · repeat (first | with_reducible exact XF.out | with_reducible refine Ext.setCell ?_ (by simp) _)
set_option maxRecDepth 100000 in
set_option maxHeartbeats 4000000 in
theorem pw_even_ok (m x : Int) (n l S t u : Int) (f1 : IntKind.i64.wrap (n + l) = S) (_f2 : wrap64 (n + l) = S) (f3 : (S == 0) = false) (_f3' : ¬ S = 0) (f4 : n.tmod 2 = t) (_f5 : wrap64 t = t) (f6 : IntKind.i64.wrap (t + l) = u) (_f7 : wrap64 (t + l) = u) (f8 : u.tmod 2 = 0) (_f8' : wrap64 0 = 0) (d e k : Int) (g1 : n.tdiv 2 = d) (_g2 : wrap64 d = d) (g3 : IntKind.i64.wrap (t * l) = e) (_g4 : wrap64 (t * l) = e) (g5 : IntKind.i64.wrap (d + e) = k) (_g6 : wrap64 (d + e) = k) (g7 : IntKind.i64.wrap d = d) (_g8 : IntKind.i64.wrap t = t) (a b : Int) (PR : Ret 78 #[.agg #[.int .i64 m, .int .i64 x], .int .i64 k, .int .i64 0] (.agg #[.int .i64 a, .int .i64 b, .bool true])) (v1 v2 : Int) (ov : Bool) (MU : Ret 37 #[.agg #[.int .i64 a, .int .i64 b], .agg #[.int .i64 a, .int .i64 b]] (.agg #[.int .i64 v1, .int .i64 v2, .bool ov]))  (w : World) :
    Calls Tryz.prog 78 #[.agg #[.int .i64 m, .int .i64 x], .int .i64 n, .int .i64 l] w fun e w' => e = .returned (.agg #[.int .i64 v1, .int .i64 v2, .bool ov]) ∧ Ext w w' := by
  have HPR := Lib.hid PR; clear PR
  have HMU := Lib.hid MU; clear MU
  go_enter Tryz.func78, Tryz.ntmps78
  go_upto_region 1 with (fail)
  have X0 : Hid (Ext w ((w.alloc (.cells #[.int .i64 m, .int .i64 x] 23)).alloc (.cells #[.int .i64 0, .int .i64 0, .bool false] 43))) := Lib.hid (((Ext.refl w).alloc _).alloc _)
  have ZB : Hid (Zb ((w.alloc (.cells #[.int .i64 m, .int .i64 x] 23)).alloc (.cells #[.int .i64 0, .int .i64 0, .bool false] 43)) (w.heap.size + 1)) := Lib.hid ⟨by simp [go_sem], by simp [go_sem], by simp [go_sem], fun j => by simp [go_sem], by simp [go_sem]⟩
  have RX : Hid (Rc ((w.alloc (.cells #[.int .i64 m, .int .i64 x] 23)).alloc (.cells #[.int .i64 0, .int .i64 0, .bool false] 43)) w.heap.size m x) := Lib.hid ⟨by simp [go_sem], by simp [go_sem]⟩
  generalize (w.alloc (.cells #[.int .i64 m, .int .i64 x] 23)).alloc (.cells #[.int .i64 0, .int .i64 0, .bool false] 43) = W0 at *
  have x0 := RX.out.c0; have x1 := RX.out.c1
  go_wp2_with fail
  refine (HPR.out _).mono ?_
  rintro e w1 ⟨rfl, hx⟩
  clear x0 x1
  have X1 := Lib.hid hx; clear hx
  go_wp2_with fail
  refine (HMU.out _).mono ?_
  rintro e w4 ⟨rfl, hx⟩
  have X4 := Lib.hid ((X1.out.alloc (.cells #[.int .i64 a, .int .i64 b, .bool true] 43)).trans hx); clear hx X1
  have z0 := (ZB.out.later X4.out).c0; have z1 := (ZB.out.later X4.out).c1; have z2 := (ZB.out.later X4.out).c2; have zf := (ZB.out.later X4.out).fz
  have XF := Lib.hid (X0.out.trans X4.out)
  go_wp2
  refine bodyPost_ret (v := .agg #[.int .i64 v1, .int .i64 v2, .bool ov]) ?_ rfl ⟨rfl, ?_⟩
  · simp [results, Tryz.results78, go_sem, z0, z1, z2]
  · repeat (first | with_reducible exact XF.out | with_reducible refine Ext.setCell ?_ (by simp) _)
set_option maxRecDepth 100000 in
set_option maxHeartbeats 4000000 in
theorem pw_even_none (m x : Int) (n l S t u : Int) (f1 : IntKind.i64.wrap (n + l) = S) (_f2 : wrap64 (n + l) = S) (f3 : (S == 0) = false) (_f3' : ¬ S = 0) (f4 : n.tmod 2 = t) (_f5 : wrap64 t = t) (f6 : IntKind.i64.wrap (t + l) = u) (_f7 : wrap64 (t + l) = u) (f8 : u.tmod 2 = 0) (_f8' : wrap64 0 = 0) (d e k : Int) (g1 : n.tdiv 2 = d) (_g2 : wrap64 d = d) (g3 : IntKind.i64.wrap (t * l) = e) (_g4 : wrap64 (t * l) = e) (g5 : IntKind.i64.wrap (d + e) = k) (_g6 : wrap64 (d + e) = k) (g7 : IntKind.i64.wrap d = d) (_g8 : IntKind.i64.wrap t = t) (a b : Int) (PR : Ret 78 #[.agg #[.int .i64 m, .int .i64 x], .int .i64 k, .int .i64 0] (.agg #[.int .i64 a, .int .i64 b, .bool false]))  (w : World) :
    Calls Tryz.prog 78 #[.agg #[.int .i64 m, .int .i64 x], .int .i64 n, .int .i64 l] w fun e w' => e = .returned (.agg #[.int .i64 0, .int .i64 0, .bool false]) ∧ Ext w w' := by
  have HPR := Lib.hid PR; clear PR
  go_enter Tryz.func78, Tryz.ntmps78
  go_upto_region 1 with (fail)
  have X0 : Hid (Ext w ((w.alloc (.cells #[.int .i64 m, .int .i64 x] 23)).alloc (.cells #[.int .i64 0, .int .i64 0, .bool false] 43))) := Lib.hid (((Ext.refl w).alloc _).alloc _)
  have ZB : Hid (Zb ((w.alloc (.cells #[.int .i64 m, .int .i64 x] 23)).alloc (.cells #[.int .i64 0, .int .i64 0, .bool false] 43)) (w.heap.size + 1)) := Lib.hid ⟨by simp [go_sem], by simp [go_sem], by simp [go_sem], fun j => by simp [go_sem], by simp [go_sem]⟩
  have RX : Hid (Rc ((w.alloc (.cells #[.int .i64 m, .int .i64 x] 23)).alloc (.cells #[.int .i64 0, .int .i64 0, .bool false] 43)) w.heap.size m x) := Lib.hid ⟨by simp [go_sem], by simp [go_sem]⟩
  generalize (w.alloc (.cells #[.int .i64 m, .int .i64 x] 23)).alloc (.cells #[.int .i64 0, .int .i64 0, .bool false] 43) = W0 at *
  have x0 := RX.out.c0; have x1 := RX.out.c1
  go_wp2_with fail
  refine (HPR.out _).mono ?_
  rintro e w1 ⟨rfl, hx⟩
  clear x0 x1
  have X1 := Lib.hid hx; clear hx
  have z0 : ∀ ob, (w1.alloc ob).cell? ⟨w.heap.size + 1, 0, none⟩ = some (.int .i64 0) := fun ob => (ZB.out.later (X1.out.alloc ob)).c0
  have z1 : ∀ ob, (w1.alloc ob).cell? ⟨w.heap.size + 1, 1, none⟩ = some (.int .i64 0) := fun ob => (ZB.out.later (X1.out.alloc ob)).c1
  have z2 : ∀ ob, (w1.alloc ob).cell? ⟨w.heap.size + 1, 2, none⟩ = some (.bool false) := fun ob => (ZB.out.later (X1.out.alloc ob)).c2
  have zf : ∀ ob j, (w1.alloc ob).frozen? ⟨w.heap.size + 1, j, none⟩ = false := fun ob => (ZB.out.later (X1.out.alloc ob)).fz
  have XF := Lib.hid ((X0.out.trans X1.out).alloc (.cells #[.int .i64 a, .int .i64 b, .bool false] 43))
  go_wp2
  refine bodyPost_ret (v := .agg #[.int .i64 0, .int .i64 0, .bool false]) ?_ rfl ⟨rfl, ?_⟩
  · simp [results, Tryz.results78, go_sem, z0, z1, z2]
  · repeat (first | with_reducible exact XF.out | with_reducible refine Ext.setCell ?_ (by simp) _)
end Go.Proofs.YthmndafjogndaaaGreatDoor
