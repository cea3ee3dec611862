/- Layer 2: the reference's Pow. -/
import Derived.Test.YthmndafjogndaaaGreatDoorUx
import Derived.Test.YthmndafjogndaaaGreatDoorGr
namespace Go.Proofs.YthmndafjogndaaaGreatDoor
open Go.ChangeShapes Go.WideShapes Go.ChangeAt Go.RowKit

/-- A Got that is still zero. -/
structure Gb (w : World) (b : Nat) : Prop where
  c0 : w.cell? ⟨b, 0, none⟩ = some (.int .i64 0)
  c1 : w.cell? ⟨b, 1, none⟩ = some (.int .i64 0)
  c2 : w.cell? ⟨b, 2, none⟩ = some (.int .i64 0)
  fz : ∀ j, w.frozen? ⟨b, j, none⟩ = false
  lt : b < w.heap.size
theorem Gb.later {w w' : World} {b : Nat} (h : Gb w b) (hx : Ext w w') : Gb w' b :=
  ⟨(hx.cell 0 h.lt).trans h.c0, (hx.cell 1 h.lt).trans h.c1, (hx.cell 2 h.lt).trans h.c2, fun j => (hx.froz j h.lt).trans (h.fz j), Nat.lt_of_lt_of_le h.lt hx.size⟩
/-- Two reals' and a flag's cells. -/
structure Yq (w : World) (b : Nat) (y0 y1 : Int) (ok : Bool) : Prop where
  c0 : w.cell? ⟨b, 0, none⟩ = some (.int .i64 y0)
  c1 : w.cell? ⟨b, 1, none⟩ = some (.int .i64 y1)
  c2 : w.cell? ⟨b, 2, none⟩ = some (.bool ok)
  lt : b < w.heap.size
theorem Yq.later {w w' : World} {b : Nat} {y0 y1 : Int} {ok : Bool} (h : Yq w b y0 y1 ok) (hx : Ext w w') : Yq w' b y0 y1 ok :=
  ⟨(hx.cell 0 h.lt).trans h.c0, (hx.cell 1 h.lt).trans h.c1, (hx.cell 2 h.lt).trans h.c2, Nat.lt_of_lt_of_le h.lt hx.size⟩
theorem zb_new (u : World) : Zb (u.alloc (.cells #[.int .i64 0, .int .i64 0, .bool false] 43)) u.heap.size := ⟨by simp [go_sem], by simp [go_sem], by simp [go_sem], fun j => by simp [go_sem], by simp [go_sem]⟩

set_option maxRecDepth 100000 in
set_option maxHeartbeats 4000000 in
theorem po_pos_ok (m x n : Int) (hn : n ≥ 0) (a b : Int) (PR : Ret 78 #[.agg #[.int .i64 m, .int .i64 x], .int .i64 n, .int .i64 0] (.agg #[.int .i64 a, .int .i64 b, .bool true])) (w : World) :
    Calls Tryz.prog 40 #[.agg #[.int .i64 m, .int .i64 x], .int .i64 n] w fun e w' => e = .returned (.agg #[.int .i64 a, .int .i64 b, .int .i64 0]) ∧ Ext w w' := by
  have HPR := Lib.hid PR; clear PR
  go_enter Tryz.func40, Tryz.ntmps40
  go_upto_region 1 with (fail)
  have X0 : Hid (Ext w ((w.alloc (.cells #[.int .i64 m, .int .i64 x] 23)).alloc (.cells #[.int .i64 0, .int .i64 0, .int .i64 0] 48))) := Lib.hid (((Ext.refl w).alloc _).alloc _)
  have GB : Hid (Gb ((w.alloc (.cells #[.int .i64 m, .int .i64 x] 23)).alloc (.cells #[.int .i64 0, .int .i64 0, .int .i64 0] 48)) (w.heap.size + 1)) := Lib.hid ⟨by simp [go_sem], by simp [go_sem], by simp [go_sem], fun j => by simp [go_sem], by simp [go_sem]⟩
  have RX : Hid (Rc ((w.alloc (.cells #[.int .i64 m, .int .i64 x] 23)).alloc (.cells #[.int .i64 0, .int .i64 0, .int .i64 0] 48)) w.heap.size m x) := Lib.hid ⟨by simp [go_sem], by simp [go_sem]⟩
  generalize (w.alloc (.cells #[.int .i64 m, .int .i64 x] 23)).alloc (.cells #[.int .i64 0, .int .i64 0, .int .i64 0] 48) = W0 at *
  have x0 := RX.out.c0; have x1 := RX.out.c1
  go_wp2_with fail
  refine (HPR.out _).mono ?_
  rintro e w1 ⟨rfl, hx⟩
  clear x0 x1
  have X1 := Lib.hid hx; clear hx
  have z0 : ∀ ob, (w1.alloc ob).cell? ⟨w.heap.size + 1, 0, none⟩ = some (.int .i64 0) := fun ob => (GB.out.later (X1.out.alloc ob)).c0
  have z1 : ∀ ob, (w1.alloc ob).cell? ⟨w.heap.size + 1, 1, none⟩ = some (.int .i64 0) := fun ob => (GB.out.later (X1.out.alloc ob)).c1
  have z2 : ∀ ob, (w1.alloc ob).cell? ⟨w.heap.size + 1, 2, none⟩ = some (.int .i64 0) := fun ob => (GB.out.later (X1.out.alloc ob)).c2
  have zf : ∀ ob j, (w1.alloc ob).frozen? ⟨w.heap.size + 1, j, none⟩ = false := fun ob => (GB.out.later (X1.out.alloc ob)).fz
  have XF := Lib.hid (X0.out.trans X1.out)
  go_wp2
  refine bodyPost_ret (v := .agg #[.int .i64 a, .int .i64 b, .int .i64 0]) ?_ rfl ⟨rfl, ?_⟩
  · simp [results, Tryz.results40, go_sem, z0, z1, z2]
  · repeat (first | with_reducible exact XF.out | with_reducible refine Ext.alloc ?_ _ | with_reducible refine Ext.setCell ?_ (by simp) _)
set_option maxRecDepth 100000 in
set_option maxHeartbeats 4000000 in
theorem po_pos_none (m x n : Int) (hn : n ≥ 0) (a b : Int) (PR : Ret 78 #[.agg #[.int .i64 m, .int .i64 x], .int .i64 n, .int .i64 0] (.agg #[.int .i64 a, .int .i64 b, .bool false])) (w : World) :
    Calls Tryz.prog 40 #[.agg #[.int .i64 m, .int .i64 x], .int .i64 n] w fun e w' => e = .returned (.agg #[.int .i64 0, .int .i64 0, .int .i64 3]) ∧ Ext w w' := by
  have HPR := Lib.hid PR; clear PR
  go_enter Tryz.func40, Tryz.ntmps40
  go_upto_region 1 with (fail)
  have X0 : Hid (Ext w ((w.alloc (.cells #[.int .i64 m, .int .i64 x] 23)).alloc (.cells #[.int .i64 0, .int .i64 0, .int .i64 0] 48))) := Lib.hid (((Ext.refl w).alloc _).alloc _)
  have GB : Hid (Gb ((w.alloc (.cells #[.int .i64 m, .int .i64 x] 23)).alloc (.cells #[.int .i64 0, .int .i64 0, .int .i64 0] 48)) (w.heap.size + 1)) := Lib.hid ⟨by simp [go_sem], by simp [go_sem], by simp [go_sem], fun j => by simp [go_sem], by simp [go_sem]⟩
  have RX : Hid (Rc ((w.alloc (.cells #[.int .i64 m, .int .i64 x] 23)).alloc (.cells #[.int .i64 0, .int .i64 0, .int .i64 0] 48)) w.heap.size m x) := Lib.hid ⟨by simp [go_sem], by simp [go_sem]⟩
  generalize (w.alloc (.cells #[.int .i64 m, .int .i64 x] 23)).alloc (.cells #[.int .i64 0, .int .i64 0, .int .i64 0] 48) = W0 at *
  have x0 := RX.out.c0; have x1 := RX.out.c1
  go_wp2_with fail
  refine (HPR.out _).mono ?_
  rintro e w1 ⟨rfl, hx⟩
  clear x0 x1
  have X1 := Lib.hid hx; clear hx
  have z0 : ∀ ob, (w1.alloc ob).cell? ⟨w.heap.size + 1, 0, none⟩ = some (.int .i64 0) := fun ob => (GB.out.later (X1.out.alloc ob)).c0
  have z1 : ∀ ob, (w1.alloc ob).cell? ⟨w.heap.size + 1, 1, none⟩ = some (.int .i64 0) := fun ob => (GB.out.later (X1.out.alloc ob)).c1
  have z2 : ∀ ob, (w1.alloc ob).cell? ⟨w.heap.size + 1, 2, none⟩ = some (.int .i64 0) := fun ob => (GB.out.later (X1.out.alloc ob)).c2
  have zf : ∀ ob j, (w1.alloc ob).frozen? ⟨w.heap.size + 1, j, none⟩ = false := fun ob => (GB.out.later (X1.out.alloc ob)).fz
  have XF := Lib.hid (X0.out.trans X1.out)
  go_wp2
  refine bodyPost_ret (v := .agg #[.int .i64 0, .int .i64 0, .int .i64 3]) ?_ rfl ⟨rfl, ?_⟩
  · simp [results, Tryz.results40, go_sem, z0, z1, z2]
  · repeat (first | with_reducible exact XF.out | with_reducible refine Ext.alloc ?_ _ | with_reducible refine Ext.setCell ?_ (by simp) _)
set_option maxRecDepth 100000 in
set_option maxHeartbeats 4000000 in
theorem po_zero (x n : Int) (hn : ¬ n ≥ 0) (w : World) :
    Calls Tryz.prog 40 #[.agg #[.int .i64 0, .int .i64 x], .int .i64 n] w fun e w' => e = .returned (.agg #[.int .i64 0, .int .i64 0, .int .i64 5]) ∧ Ext w w' := by
  go_enter Tryz.func40, Tryz.ntmps40
  go_upto_region 1 with (fail)
  have X0 : Hid (Ext w ((w.alloc (.cells #[.int .i64 0, .int .i64 x] 23)).alloc (.cells #[.int .i64 0, .int .i64 0, .int .i64 0] 48))) := Lib.hid (((Ext.refl w).alloc _).alloc _)
  have GB : Hid (Gb ((w.alloc (.cells #[.int .i64 0, .int .i64 x] 23)).alloc (.cells #[.int .i64 0, .int .i64 0, .int .i64 0] 48)) (w.heap.size + 1)) := Lib.hid ⟨by simp [go_sem], by simp [go_sem], by simp [go_sem], fun j => by simp [go_sem], by simp [go_sem]⟩
  have RX : Hid (Rc ((w.alloc (.cells #[.int .i64 0, .int .i64 x] 23)).alloc (.cells #[.int .i64 0, .int .i64 0, .int .i64 0] 48)) w.heap.size 0 x) := Lib.hid ⟨by simp [go_sem], by simp [go_sem]⟩
  generalize (w.alloc (.cells #[.int .i64 0, .int .i64 x] 23)).alloc (.cells #[.int .i64 0, .int .i64 0, .int .i64 0] 48) = W0 at *
  have x0 := RX.out.c0; have z0 := GB.out.c0; have z1 := GB.out.c1; have z2 := GB.out.c2; have zf := GB.out.fz
  go_wp2
  refine bodyPost_ret (v := .agg #[.int .i64 0, .int .i64 0, .int .i64 5]) ?_ rfl ⟨rfl, ?_⟩
  · simp [results, Tryz.results40, go_sem, z0, z1, z2]
  · repeat (first | with_reducible exact X0.out | with_reducible refine Ext.alloc ?_ _ | with_reducible refine Ext.setCell ?_ (by simp) _)
set_option maxRecDepth 100000 in
set_option maxHeartbeats 4000000 in
theorem po_neg_none (m x n : Int) (hn : ¬ n ≥ 0) (h0 : (m == 0) = false) (_h0' : ¬ m = 0) (n1 N : Int) (f1 : IntKind.i64.wrap (n + 1) = n1) (_f2 : wrap64 (n + 1) = n1) (f3 : IntKind.i64.wrap (-n1) = N) (_f4 : wrap64 (-n1) = N) (a b : Int) (PR : Ret 78 #[.agg #[.int .i64 m, .int .i64 x], .int .i64 N, .int .i64 1] (.agg #[.int .i64 a, .int .i64 b, .bool false])) (w : World) :
    Calls Tryz.prog 40 #[.agg #[.int .i64 m, .int .i64 x], .int .i64 n] w fun e w' => e = .returned (.agg #[.int .i64 0, .int .i64 0, .int .i64 3]) ∧ Ext w w' := by
  have HPR := Lib.hid PR; clear PR
  go_enter Tryz.func40, Tryz.ntmps40
  go_upto_region 1 with (fail)
  have X0 : Hid (Ext w ((w.alloc (.cells #[.int .i64 m, .int .i64 x] 23)).alloc (.cells #[.int .i64 0, .int .i64 0, .int .i64 0] 48))) := Lib.hid (((Ext.refl w).alloc _).alloc _)
  have GB : Hid (Gb ((w.alloc (.cells #[.int .i64 m, .int .i64 x] 23)).alloc (.cells #[.int .i64 0, .int .i64 0, .int .i64 0] 48)) (w.heap.size + 1)) := Lib.hid ⟨by simp [go_sem], by simp [go_sem], by simp [go_sem], fun j => by simp [go_sem], by simp [go_sem]⟩
  have RX : Hid (Rc ((w.alloc (.cells #[.int .i64 m, .int .i64 x] 23)).alloc (.cells #[.int .i64 0, .int .i64 0, .int .i64 0] 48)) w.heap.size m x) := Lib.hid ⟨by simp [go_sem], by simp [go_sem]⟩
  generalize (w.alloc (.cells #[.int .i64 m, .int .i64 x] 23)).alloc (.cells #[.int .i64 0, .int .i64 0, .int .i64 0] 48) = W0 at *
  have x0 := RX.out.c0; have x1 := RX.out.c1
  go_wp2_with fail
  refine (HPR.out _).mono ?_
  rintro e w1 ⟨rfl, hx⟩
  clear x0 x1
  have X1 := Lib.hid hx; clear hx
  have z0 : ∀ ob, (w1.alloc ob).cell? ⟨w.heap.size + 1, 0, none⟩ = some (.int .i64 0) := fun ob => (GB.out.later (X1.out.alloc ob)).c0
  have z1 : ∀ ob, (w1.alloc ob).cell? ⟨w.heap.size + 1, 1, none⟩ = some (.int .i64 0) := fun ob => (GB.out.later (X1.out.alloc ob)).c1
  have z2 : ∀ ob, (w1.alloc ob).cell? ⟨w.heap.size + 1, 2, none⟩ = some (.int .i64 0) := fun ob => (GB.out.later (X1.out.alloc ob)).c2
  have zf : ∀ ob j, (w1.alloc ob).frozen? ⟨w.heap.size + 1, j, none⟩ = false := fun ob => (GB.out.later (X1.out.alloc ob)).fz
  have XF := Lib.hid (X0.out.trans X1.out)
  go_wp2
  refine bodyPost_ret (v := .agg #[.int .i64 0, .int .i64 0, .int .i64 3]) ?_ rfl ⟨rfl, ?_⟩
  · simp [results, Tryz.results40, go_sem, z0, z1, z2]
  · repeat (first | with_reducible exact XF.out | with_reducible refine Ext.alloc ?_ _ | with_reducible refine Ext.setCell ?_ (by simp) _)
set_option maxRecDepth 100000 in
set_option maxHeartbeats 4000000 in
theorem po_neg_null (m x n : Int) (hn : ¬ n ≥ 0) (h0 : (m == 0) = false) (_h0' : ¬ m = 0) (n1 N : Int) (f1 : IntKind.i64.wrap (n + 1) = n1) (_f2 : wrap64 (n + 1) = n1) (f3 : IntKind.i64.wrap (-n1) = N) (_f4 : wrap64 (-n1) = N) (b : Int) (PR : Ret 78 #[.agg #[.int .i64 m, .int .i64 x], .int .i64 N, .int .i64 1] (.agg #[.int .i64 0, .int .i64 b, .bool true])) (w : World) :
    Calls Tryz.prog 40 #[.agg #[.int .i64 m, .int .i64 x], .int .i64 n] w fun e w' => e = .returned (.agg #[.int .i64 0, .int .i64 0, .int .i64 3]) ∧ Ext w w' := by
  have HPR := Lib.hid PR; clear PR
  go_enter Tryz.func40, Tryz.ntmps40
  go_upto_region 1 with (fail)
  have X0 : Hid (Ext w ((w.alloc (.cells #[.int .i64 m, .int .i64 x] 23)).alloc (.cells #[.int .i64 0, .int .i64 0, .int .i64 0] 48))) := Lib.hid (((Ext.refl w).alloc _).alloc _)
  have GB : Hid (Gb ((w.alloc (.cells #[.int .i64 m, .int .i64 x] 23)).alloc (.cells #[.int .i64 0, .int .i64 0, .int .i64 0] 48)) (w.heap.size + 1)) := Lib.hid ⟨by simp [go_sem], by simp [go_sem], by simp [go_sem], fun j => by simp [go_sem], by simp [go_sem]⟩
  have RX : Hid (Rc ((w.alloc (.cells #[.int .i64 m, .int .i64 x] 23)).alloc (.cells #[.int .i64 0, .int .i64 0, .int .i64 0] 48)) w.heap.size m x) := Lib.hid ⟨by simp [go_sem], by simp [go_sem]⟩
  generalize (w.alloc (.cells #[.int .i64 m, .int .i64 x] 23)).alloc (.cells #[.int .i64 0, .int .i64 0, .int .i64 0] 48) = W0 at *
  have x0 := RX.out.c0; have x1 := RX.out.c1
  go_wp2_with fail
  refine (HPR.out _).mono ?_
  rintro e w1 ⟨rfl, hx⟩
  clear x0 x1
  have X1 := Lib.hid hx; clear hx
  have z0 : ∀ ob, (w1.alloc ob).cell? ⟨w.heap.size + 1, 0, none⟩ = some (.int .i64 0) := fun ob => (GB.out.later (X1.out.alloc ob)).c0
  have z1 : ∀ ob, (w1.alloc ob).cell? ⟨w.heap.size + 1, 1, none⟩ = some (.int .i64 0) := fun ob => (GB.out.later (X1.out.alloc ob)).c1
  have z2 : ∀ ob, (w1.alloc ob).cell? ⟨w.heap.size + 1, 2, none⟩ = some (.int .i64 0) := fun ob => (GB.out.later (X1.out.alloc ob)).c2
  have zf : ∀ ob j, (w1.alloc ob).frozen? ⟨w.heap.size + 1, j, none⟩ = false := fun ob => (GB.out.later (X1.out.alloc ob)).fz
  have XF := Lib.hid (X0.out.trans X1.out)
  go_wp2
  refine bodyPost_ret (v := .agg #[.int .i64 0, .int .i64 0, .int .i64 3]) ?_ rfl ⟨rfl, ?_⟩
  · simp [results, Tryz.results40, go_sem, z0, z1, z2]
  · repeat (first | with_reducible exact XF.out | with_reducible refine Ext.alloc ?_ _ | with_reducible refine Ext.setCell ?_ (by simp) _)
set_option maxRecDepth 100000 in
set_option maxHeartbeats 4000000 in
theorem po_neg_div_ok (m x n : Int) (hn : ¬ n ≥ 0) (h0 : (m == 0) = false) (_h0' : ¬ m = 0) (n1 N : Int) (f1 : IntKind.i64.wrap (n + 1) = n1) (_f2 : wrap64 (n + 1) = n1) (f3 : IntKind.i64.wrap (-n1) = N) (_f4 : wrap64 (-n1) = N) (a b : Int) (ha : (a == 0) = false) (_ha' : ¬ a = 0) (PR : Ret 78 #[.agg #[.int .i64 m, .int .i64 x], .int .i64 N, .int .i64 1] (.agg #[.int .i64 a, .int .i64 b, .bool true])) (c d : Int) (DV : Ret 38 #[.agg #[.int .i64 8388608, .int .i64 (-23)], .agg #[.int .i64 a, .int .i64 b]] (.agg #[.int .i64 c, .int .i64 d, .bool true])) (w : World) :
    Calls Tryz.prog 40 #[.agg #[.int .i64 m, .int .i64 x], .int .i64 n] w fun e w' => e = .returned (.agg #[.int .i64 c, .int .i64 d, .int .i64 0]) ∧ Ext w w' := by
  have HPR := Lib.hid PR; clear PR
  have HDV := Lib.hid DV; clear DV
  go_enter Tryz.func40, Tryz.ntmps40
  go_upto_region 1 with (fail)
  have X0 : Hid (Ext w ((w.alloc (.cells #[.int .i64 m, .int .i64 x] 23)).alloc (.cells #[.int .i64 0, .int .i64 0, .int .i64 0] 48))) := Lib.hid (((Ext.refl w).alloc _).alloc _)
  have GB : Hid (Gb ((w.alloc (.cells #[.int .i64 m, .int .i64 x] 23)).alloc (.cells #[.int .i64 0, .int .i64 0, .int .i64 0] 48)) (w.heap.size + 1)) := Lib.hid ⟨by simp [go_sem], by simp [go_sem], by simp [go_sem], fun j => by simp [go_sem], by simp [go_sem]⟩
  have RX : Hid (Rc ((w.alloc (.cells #[.int .i64 m, .int .i64 x] 23)).alloc (.cells #[.int .i64 0, .int .i64 0, .int .i64 0] 48)) w.heap.size m x) := Lib.hid ⟨by simp [go_sem], by simp [go_sem]⟩
  generalize (w.alloc (.cells #[.int .i64 m, .int .i64 x] 23)).alloc (.cells #[.int .i64 0, .int .i64 0, .int .i64 0] 48) = W0 at *
  have x0 := RX.out.c0; have x1 := RX.out.c1
  go_wp2_with fail
  refine (HPR.out _).mono ?_
  rintro e w1 ⟨rfl, hx⟩
  clear x0 x1
  have X1 := Lib.hid hx; clear hx
  go_upto_region 11 with (fail)
  have GW := Lib.hid (GB.out.later (X1.out.alloc (.cells #[.int .i64 a, .int .i64 b, .bool true] 43)))
  have YW : Hid (Yq (w1.alloc (.cells #[.int .i64 a, .int .i64 b, .bool true] 43)) w1.heap.size a b true) := Lib.hid ⟨by simp [go_sem], by simp [go_sem], by simp [go_sem], by simp [go_sem]⟩
  have XW := Lib.hid ((X0.out.trans X1.out).alloc (.cells #[.int .i64 a, .int .i64 b, .bool true] 43))
  clear X0 X1 GB RX HPR
  generalize w1.alloc (.cells #[.int .i64 a, .int .i64 b, .bool true] 43) = W at *
  refine wp_region_S (fun uu : World => Ext W uu) 5 (by kernel_rfl) ?_
  have HS : Ext W W.drew := (Ext.refl W).drew
  refine GoS.pure (i := 1) (v := ?_) rfl (by kernel_rfl) (by kernel_rfl) (by kernel_rfl) (by kernel_rfl) (fun _ _ _ h => h) (Or.inl ⟨by rfl, ?hy1⟩) (fun _ => HS) ?_
  case hy1 => ((intro u' hT; go_simp); try with_reducible rfl)
  try simp only [List.getElem_toArray, List.getElem_cons_succ, List.getElem_cons_zero, Act.put, List.setIfInBounds_toArray, List.set_cons_zero, List.set_cons_succ]
  refine GoS.take (i := 2) (v := ?_) rfl (by kernel_rfl) (by kernel_rfl) (by kernel_rfl) (by kernel_rfl) (fun _ _ _ h => h) (Or.inl ⟨by rfl, ?hy2⟩) HS ?_
  case hy2 => ((intro u' hT; have d0 := (YW.out.later hT).c0; have d1 := (YW.out.later hT).c1; go_simp); try with_reducible rfl)
  try simp only [List.getElem_toArray, List.getElem_cons_succ, List.getElem_cons_zero, Act.put, List.setIfInBounds_toArray, List.set_cons_zero, List.set_cons_succ]
  refine GoS.two (i := 0) (j := 4) (by kernel_rfl) rfl rfl (fun K hK => ?_) (fun K hK => ?_)
  · skip
    go_simp
    (with_reducible refine (one_ref.call _).mono ?_)
    rintro e q3 ⟨rfl, hx⟩
    have HS2 := HS.trans hx; clear HS; have HS := HS2; clear HS2 hx
    go_wp2_with fail
    refine hK.out _ _ HS (fun _ => ?_)
    clear hK K
    try simp only [List.getElem_toArray, List.getElem_cons_succ, List.getElem_cons_zero, Act.put, List.setIfInBounds_toArray, List.set_cons_zero, List.set_cons_succ]
    refine GoS.two (i := 3) (j := 4) (by kernel_rfl) rfl rfl (fun K hK => ?_) (fun K hK => ?_)
    · skip
      go_simp
      (with_reducible refine (HDV.out.call _).mono ?_)
      rintro e q4 ⟨rfl, hx⟩
      have HS2 := HS.trans hx; clear HS; have HS := HS2; clear HS2 hx
      go_wp2_with fail
      refine hK.out _ _ HS (fun _ => ?_)
      clear hK K
      try simp only [List.getElem_toArray, List.getElem_cons_succ, List.getElem_cons_zero, Act.put, List.setIfInBounds_toArray, List.set_cons_zero, List.set_cons_succ]
      have HSP := Lib.hid HS
      refine GoS.one (i := 4) (by kernel_rfl) rfl (fun K hK => ?_)
      go_simp
      skip
      have HS2 := HS.alloc (.cells #[.int .i64 0, .int .i64 0, .bool false] 43); clear HS; have HS := HS2; clear HS2
      refine hK.out _ _ HS (fun _ => ?_)
      clear hK K
      try simp only [List.getElem_toArray, List.getElem_cons_succ, List.getElem_cons_zero, Act.put, List.setIfInBounds_toArray, List.set_cons_zero, List.set_cons_succ]
      refine GoS.store (i := 5) (by kernel_rfl) rfl (by kernel_rfl) (fun K hK => ?_)
      go_simp
      refine hK.out _ _ ?_
      clear hK K
      try simp only [List.getElem_toArray, List.getElem_cons_succ, List.getElem_cons_zero, Act.put, List.setIfInBounds_toArray, List.set_cons_zero, List.set_cons_succ]
      refine GoS.done (by kernel_rfl) ?_
      have XC := Lib.hid (HSP.out.trans ((Ext.refl _).alloc (.cells #[.int .i64 c, .int .i64 d, .bool true] 43)))
      have z0 := (GW.out.later XC.out).c0; have z1 := (GW.out.later XC.out).c1; have z2 := (GW.out.later XC.out).c2; have zf := (GW.out.later XC.out).fz
      have XF := Lib.hid (XW.out.trans XC.out)
      go_wp2
      refine bodyPost_ret (v := .agg #[.int .i64 c, .int .i64 d, .int .i64 0]) ?_ rfl ⟨rfl, ?_⟩
      · simp [results, Tryz.results40, go_sem, z0, z1, z2]
      · repeat (first | with_reducible exact XF.out | with_reducible refine Ext.alloc ?_ _ | with_reducible refine Ext.setCell ?_ (by simp) _)
    · skip
      go_simp
      have ZZ := Lib.hid (zb_new q3); have LZ := Lib.hid HS.size
      have HS2 := HS.alloc (.cells #[.int .i64 0, .int .i64 0, .bool false] 43); clear HS; have HS := HS2; clear HS2
      refine hK.out _ _ HS (fun _ => ?_)
      clear hK K
      try simp only [List.getElem_toArray, List.getElem_cons_succ, List.getElem_cons_zero, Act.put, List.setIfInBounds_toArray, List.set_cons_zero, List.set_cons_succ]
      refine GoS.one (i := 3) (by kernel_rfl) rfl (fun K hK => ?_)
      go_simp
      (with_reducible refine (HDV.out.call _).mono ?_)
      rintro e q5 ⟨rfl, hx⟩
      have ZZ' := Lib.hid (ZZ.out.later hx); clear ZZ; have ZZ := ZZ'; clear ZZ'
      have HS2 := HS.trans hx; clear HS; have HS := HS2; clear HS2 hx
      go_wp2_with fail
      refine hK.out _ _ HS (fun _ => ?_)
      clear hK K
      try simp only [List.getElem_toArray, List.getElem_cons_succ, List.getElem_cons_zero, Act.put, List.setIfInBounds_toArray, List.set_cons_zero, List.set_cons_succ]
      have st0 := ZZ.out.c0; have st1 := ZZ.out.c1; have st2 := ZZ.out.c2; have stf := ZZ.out.fz
      have TS := Lib.hid (tri_set (w := q5) (b := q3.heap.size) ⟨by rw [st0]; rfl, by rw [st1]; rfl, by rw [st2]; rfl⟩ (.int .i64 c) (.int .i64 d) (.bool true))
      have XC := Lib.hid (((HS.setCell (p := ⟨q3.heap.size, 0, none⟩) LZ.out (.int .i64 c)).setCell (p := ⟨q3.heap.size, 1, none⟩) LZ.out (.int .i64 d)).setCell (p := ⟨q3.heap.size, 2, none⟩) LZ.out (.bool true))
      refine GoS.store (i := 5) (by kernel_rfl) rfl (by kernel_rfl) (fun K hK => ?_)
      go_simp
      refine hK.out _ _ ?_
      clear hK K
      try simp only [List.getElem_toArray, List.getElem_cons_succ, List.getElem_cons_zero, Act.put, List.setIfInBounds_toArray, List.set_cons_zero, List.set_cons_succ]
      clear HS st0 st1 st2 stf ZZ
      generalize (((q5.setCell ⟨q3.heap.size, 0, none⟩ (.int .i64 c)).setCell ⟨q3.heap.size, 1, none⟩ (.int .i64 d)).setCell ⟨q3.heap.size, 2, none⟩ (.bool true)) = W7 at *
      obtain ⟨y0, y1, y2⟩ := TS.out
      refine GoS.done (by kernel_rfl) ?_
      have z0 := (GW.out.later XC.out).c0; have z1 := (GW.out.later XC.out).c1; have z2 := (GW.out.later XC.out).c2; have zf := (GW.out.later XC.out).fz
      have XF := Lib.hid (XW.out.trans XC.out)
      go_wp2
      refine bodyPost_ret (v := .agg #[.int .i64 c, .int .i64 d, .int .i64 0]) ?_ rfl ⟨rfl, ?_⟩
      · simp [results, Tryz.results40, go_sem, z0, z1, z2]
      · repeat (first | with_reducible exact XF.out | with_reducible refine Ext.alloc ?_ _ | with_reducible refine Ext.setCell ?_ (by simp) _)
  · skip
    go_simp
    have ZZ : Hid (Zb (W.drew.alloc (.cells #[.int .i64 0, .int .i64 0, .bool false] 43)) W.heap.size) := Lib.hid (zb_new W.drew); have LZ := Lib.hid (Nat.le_refl W.heap.size)
    have HS2 := HS.alloc (.cells #[.int .i64 0, .int .i64 0, .bool false] 43); clear HS; have HS := HS2; clear HS2
    refine hK.out _ _ HS (fun _ => ?_)
    clear hK K
    try simp only [List.getElem_toArray, List.getElem_cons_succ, List.getElem_cons_zero, Act.put, List.setIfInBounds_toArray, List.set_cons_zero, List.set_cons_succ]
    refine GoS.one (i := 0) (by kernel_rfl) rfl (fun K hK => ?_)
    go_simp
    (with_reducible refine (one_ref.call _).mono ?_)
    rintro e q6 ⟨rfl, hx⟩
    have ZZ' := Lib.hid (ZZ.out.later hx); clear ZZ; have ZZ := ZZ'; clear ZZ'
    have HS2 := HS.trans hx; clear HS; have HS := HS2; clear HS2 hx
    go_wp2_with fail
    refine hK.out _ _ HS (fun _ => ?_)
    clear hK K
    try simp only [List.getElem_toArray, List.getElem_cons_succ, List.getElem_cons_zero, Act.put, List.setIfInBounds_toArray, List.set_cons_zero, List.set_cons_succ]
    refine GoS.one (i := 3) (by kernel_rfl) rfl (fun K hK => ?_)
    go_simp
    (with_reducible refine (HDV.out.call _).mono ?_)
    rintro e q7 ⟨rfl, hx⟩
    have ZZ' := Lib.hid (ZZ.out.later hx); clear ZZ; have ZZ := ZZ'; clear ZZ'
    have HS2 := HS.trans hx; clear HS; have HS := HS2; clear HS2 hx
    go_wp2_with fail
    refine hK.out _ _ HS (fun _ => ?_)
    clear hK K
    try simp only [List.getElem_toArray, List.getElem_cons_succ, List.getElem_cons_zero, Act.put, List.setIfInBounds_toArray, List.set_cons_zero, List.set_cons_succ]
    have st0 := ZZ.out.c0; have st1 := ZZ.out.c1; have st2 := ZZ.out.c2; have stf := ZZ.out.fz
    have TS := Lib.hid (tri_set (w := q7) (b := W.heap.size) ⟨by rw [st0]; rfl, by rw [st1]; rfl, by rw [st2]; rfl⟩ (.int .i64 c) (.int .i64 d) (.bool true))
    have XC := Lib.hid (((HS.setCell (p := ⟨W.heap.size, 0, none⟩) LZ.out (.int .i64 c)).setCell (p := ⟨W.heap.size, 1, none⟩) LZ.out (.int .i64 d)).setCell (p := ⟨W.heap.size, 2, none⟩) LZ.out (.bool true))
    refine GoS.store (i := 5) (by kernel_rfl) rfl (by kernel_rfl) (fun K hK => ?_)
    go_simp
    refine hK.out _ _ ?_
    clear hK K
    try simp only [List.getElem_toArray, List.getElem_cons_succ, List.getElem_cons_zero, Act.put, List.setIfInBounds_toArray, List.set_cons_zero, List.set_cons_succ]
    clear HS st0 st1 st2 stf ZZ
    generalize (((q7.setCell ⟨W.heap.size, 0, none⟩ (.int .i64 c)).setCell ⟨W.heap.size, 1, none⟩ (.int .i64 d)).setCell ⟨W.heap.size, 2, none⟩ (.bool true)) = W7 at *
    obtain ⟨y0, y1, y2⟩ := TS.out
    refine GoS.done (by kernel_rfl) ?_
    have z0 := (GW.out.later XC.out).c0; have z1 := (GW.out.later XC.out).c1; have z2 := (GW.out.later XC.out).c2; have zf := (GW.out.later XC.out).fz
    have XF := Lib.hid (XW.out.trans XC.out)
    go_wp2
    refine bodyPost_ret (v := .agg #[.int .i64 c, .int .i64 d, .int .i64 0]) ?_ rfl ⟨rfl, ?_⟩
    · simp [results, Tryz.results40, go_sem, z0, z1, z2]
    · repeat (first | with_reducible exact XF.out | with_reducible refine Ext.alloc ?_ _ | with_reducible refine Ext.setCell ?_ (by simp) _)
set_option maxRecDepth 100000 in
set_option maxHeartbeats 4000000 in
theorem po_neg_div_none (m x n : Int) (hn : ¬ n ≥ 0) (h0 : (m == 0) = false) (_h0' : ¬ m = 0) (n1 N : Int) (f1 : IntKind.i64.wrap (n + 1) = n1) (_f2 : wrap64 (n + 1) = n1) (f3 : IntKind.i64.wrap (-n1) = N) (_f4 : wrap64 (-n1) = N) (a b : Int) (ha : (a == 0) = false) (_ha' : ¬ a = 0) (PR : Ret 78 #[.agg #[.int .i64 m, .int .i64 x], .int .i64 N, .int .i64 1] (.agg #[.int .i64 a, .int .i64 b, .bool true])) (c d : Int) (DV : Ret 38 #[.agg #[.int .i64 8388608, .int .i64 (-23)], .agg #[.int .i64 a, .int .i64 b]] (.agg #[.int .i64 c, .int .i64 d, .bool false])) (w : World) :
    Calls Tryz.prog 40 #[.agg #[.int .i64 m, .int .i64 x], .int .i64 n] w fun e w' => e = .returned (.agg #[.int .i64 0, .int .i64 0, .int .i64 3]) ∧ Ext w w' := by
  have HPR := Lib.hid PR; clear PR
  have HDV := Lib.hid DV; clear DV
  go_enter Tryz.func40, Tryz.ntmps40
  go_upto_region 1 with (fail)
  have X0 : Hid (Ext w ((w.alloc (.cells #[.int .i64 m, .int .i64 x] 23)).alloc (.cells #[.int .i64 0, .int .i64 0, .int .i64 0] 48))) := Lib.hid (((Ext.refl w).alloc _).alloc _)
  have GB : Hid (Gb ((w.alloc (.cells #[.int .i64 m, .int .i64 x] 23)).alloc (.cells #[.int .i64 0, .int .i64 0, .int .i64 0] 48)) (w.heap.size + 1)) := Lib.hid ⟨by simp [go_sem], by simp [go_sem], by simp [go_sem], fun j => by simp [go_sem], by simp [go_sem]⟩
  have RX : Hid (Rc ((w.alloc (.cells #[.int .i64 m, .int .i64 x] 23)).alloc (.cells #[.int .i64 0, .int .i64 0, .int .i64 0] 48)) w.heap.size m x) := Lib.hid ⟨by simp [go_sem], by simp [go_sem]⟩
  generalize (w.alloc (.cells #[.int .i64 m, .int .i64 x] 23)).alloc (.cells #[.int .i64 0, .int .i64 0, .int .i64 0] 48) = W0 at *
  have x0 := RX.out.c0; have x1 := RX.out.c1
  go_wp2_with fail
  refine (HPR.out _).mono ?_
  rintro e w1 ⟨rfl, hx⟩
  clear x0 x1
  have X1 := Lib.hid hx; clear hx
  go_upto_region 11 with (fail)
  have GW := Lib.hid (GB.out.later (X1.out.alloc (.cells #[.int .i64 a, .int .i64 b, .bool true] 43)))
  have YW : Hid (Yq (w1.alloc (.cells #[.int .i64 a, .int .i64 b, .bool true] 43)) w1.heap.size a b true) := Lib.hid ⟨by simp [go_sem], by simp [go_sem], by simp [go_sem], by simp [go_sem]⟩
  have XW := Lib.hid ((X0.out.trans X1.out).alloc (.cells #[.int .i64 a, .int .i64 b, .bool true] 43))
  clear X0 X1 GB RX HPR
  generalize w1.alloc (.cells #[.int .i64 a, .int .i64 b, .bool true] 43) = W at *
  refine wp_region_S (fun uu : World => Ext W uu) 5 (by kernel_rfl) ?_
  have HS : Ext W W.drew := (Ext.refl W).drew
  refine GoS.pure (i := 1) (v := ?_) rfl (by kernel_rfl) (by kernel_rfl) (by kernel_rfl) (by kernel_rfl) (fun _ _ _ h => h) (Or.inl ⟨by rfl, ?hy8⟩) (fun _ => HS) ?_
  case hy8 => ((intro u' hT; go_simp); try with_reducible rfl)
  try simp only [List.getElem_toArray, List.getElem_cons_succ, List.getElem_cons_zero, Act.put, List.setIfInBounds_toArray, List.set_cons_zero, List.set_cons_succ]
  refine GoS.take (i := 2) (v := ?_) rfl (by kernel_rfl) (by kernel_rfl) (by kernel_rfl) (by kernel_rfl) (fun _ _ _ h => h) (Or.inl ⟨by rfl, ?hy9⟩) HS ?_
  case hy9 => ((intro u' hT; have d0 := (YW.out.later hT).c0; have d1 := (YW.out.later hT).c1; go_simp); try with_reducible rfl)
  try simp only [List.getElem_toArray, List.getElem_cons_succ, List.getElem_cons_zero, Act.put, List.setIfInBounds_toArray, List.set_cons_zero, List.set_cons_succ]
  refine GoS.two (i := 0) (j := 4) (by kernel_rfl) rfl rfl (fun K hK => ?_) (fun K hK => ?_)
  · skip
    go_simp
    (with_reducible refine (one_ref.call _).mono ?_)
    rintro e q10 ⟨rfl, hx⟩
    have HS2 := HS.trans hx; clear HS; have HS := HS2; clear HS2 hx
    go_wp2_with fail
    refine hK.out _ _ HS (fun _ => ?_)
    clear hK K
    try simp only [List.getElem_toArray, List.getElem_cons_succ, List.getElem_cons_zero, Act.put, List.setIfInBounds_toArray, List.set_cons_zero, List.set_cons_succ]
    refine GoS.two (i := 3) (j := 4) (by kernel_rfl) rfl rfl (fun K hK => ?_) (fun K hK => ?_)
    · skip
      go_simp
      (with_reducible refine (HDV.out.call _).mono ?_)
      rintro e q11 ⟨rfl, hx⟩
      have HS2 := HS.trans hx; clear HS; have HS := HS2; clear HS2 hx
      go_wp2_with fail
      refine hK.out _ _ HS (fun _ => ?_)
      clear hK K
      try simp only [List.getElem_toArray, List.getElem_cons_succ, List.getElem_cons_zero, Act.put, List.setIfInBounds_toArray, List.set_cons_zero, List.set_cons_succ]
      have HSP := Lib.hid HS
      refine GoS.one (i := 4) (by kernel_rfl) rfl (fun K hK => ?_)
      go_simp
      skip
      have HS2 := HS.alloc (.cells #[.int .i64 0, .int .i64 0, .bool false] 43); clear HS; have HS := HS2; clear HS2
      refine hK.out _ _ HS (fun _ => ?_)
      clear hK K
      try simp only [List.getElem_toArray, List.getElem_cons_succ, List.getElem_cons_zero, Act.put, List.setIfInBounds_toArray, List.set_cons_zero, List.set_cons_succ]
      refine GoS.store (i := 5) (by kernel_rfl) rfl (by kernel_rfl) (fun K hK => ?_)
      go_simp
      refine hK.out _ _ ?_
      clear hK K
      try simp only [List.getElem_toArray, List.getElem_cons_succ, List.getElem_cons_zero, Act.put, List.setIfInBounds_toArray, List.set_cons_zero, List.set_cons_succ]
      refine GoS.done (by kernel_rfl) ?_
      have XC := Lib.hid (HSP.out.trans ((Ext.refl _).alloc (.cells #[.int .i64 c, .int .i64 d, .bool false] 43)))
      have z0 := (GW.out.later XC.out).c0; have z1 := (GW.out.later XC.out).c1; have z2 := (GW.out.later XC.out).c2; have zf := (GW.out.later XC.out).fz
      have XF := Lib.hid (XW.out.trans XC.out)
      go_wp2
      refine bodyPost_ret (v := .agg #[.int .i64 0, .int .i64 0, .int .i64 3]) ?_ rfl ⟨rfl, ?_⟩
      · simp [results, Tryz.results40, go_sem, z0, z1, z2]
      · repeat (first | with_reducible exact XF.out | with_reducible refine Ext.alloc ?_ _ | with_reducible refine Ext.setCell ?_ (by simp) _)
    · skip
      go_simp
      have ZZ := Lib.hid (zb_new q10); have LZ := Lib.hid HS.size
      have HS2 := HS.alloc (.cells #[.int .i64 0, .int .i64 0, .bool false] 43); clear HS; have HS := HS2; clear HS2
      refine hK.out _ _ HS (fun _ => ?_)
      clear hK K
      try simp only [List.getElem_toArray, List.getElem_cons_succ, List.getElem_cons_zero, Act.put, List.setIfInBounds_toArray, List.set_cons_zero, List.set_cons_succ]
      refine GoS.one (i := 3) (by kernel_rfl) rfl (fun K hK => ?_)
      go_simp
      (with_reducible refine (HDV.out.call _).mono ?_)
      rintro e q12 ⟨rfl, hx⟩
      have ZZ' := Lib.hid (ZZ.out.later hx); clear ZZ; have ZZ := ZZ'; clear ZZ'
      have HS2 := HS.trans hx; clear HS; have HS := HS2; clear HS2 hx
      go_wp2_with fail
      refine hK.out _ _ HS (fun _ => ?_)
      clear hK K
      try simp only [List.getElem_toArray, List.getElem_cons_succ, List.getElem_cons_zero, Act.put, List.setIfInBounds_toArray, List.set_cons_zero, List.set_cons_succ]
      have st0 := ZZ.out.c0; have st1 := ZZ.out.c1; have st2 := ZZ.out.c2; have stf := ZZ.out.fz
      have TS := Lib.hid (tri_set (w := q12) (b := q10.heap.size) ⟨by rw [st0]; rfl, by rw [st1]; rfl, by rw [st2]; rfl⟩ (.int .i64 c) (.int .i64 d) (.bool false))
      have XC := Lib.hid (((HS.setCell (p := ⟨q10.heap.size, 0, none⟩) LZ.out (.int .i64 c)).setCell (p := ⟨q10.heap.size, 1, none⟩) LZ.out (.int .i64 d)).setCell (p := ⟨q10.heap.size, 2, none⟩) LZ.out (.bool false))
      refine GoS.store (i := 5) (by kernel_rfl) rfl (by kernel_rfl) (fun K hK => ?_)
      go_simp
      refine hK.out _ _ ?_
      clear hK K
      try simp only [List.getElem_toArray, List.getElem_cons_succ, List.getElem_cons_zero, Act.put, List.setIfInBounds_toArray, List.set_cons_zero, List.set_cons_succ]
      clear HS st0 st1 st2 stf ZZ
      generalize (((q12.setCell ⟨q10.heap.size, 0, none⟩ (.int .i64 c)).setCell ⟨q10.heap.size, 1, none⟩ (.int .i64 d)).setCell ⟨q10.heap.size, 2, none⟩ (.bool false)) = W7 at *
      obtain ⟨y0, y1, y2⟩ := TS.out
      refine GoS.done (by kernel_rfl) ?_
      have z0 := (GW.out.later XC.out).c0; have z1 := (GW.out.later XC.out).c1; have z2 := (GW.out.later XC.out).c2; have zf := (GW.out.later XC.out).fz
      have XF := Lib.hid (XW.out.trans XC.out)
      go_wp2
      refine bodyPost_ret (v := .agg #[.int .i64 0, .int .i64 0, .int .i64 3]) ?_ rfl ⟨rfl, ?_⟩
      · simp [results, Tryz.results40, go_sem, z0, z1, z2]
      · repeat (first | with_reducible exact XF.out | with_reducible refine Ext.alloc ?_ _ | with_reducible refine Ext.setCell ?_ (by simp) _)
  · skip
    go_simp
    have ZZ : Hid (Zb (W.drew.alloc (.cells #[.int .i64 0, .int .i64 0, .bool false] 43)) W.heap.size) := Lib.hid (zb_new W.drew); have LZ := Lib.hid (Nat.le_refl W.heap.size)
    have HS2 := HS.alloc (.cells #[.int .i64 0, .int .i64 0, .bool false] 43); clear HS; have HS := HS2; clear HS2
    refine hK.out _ _ HS (fun _ => ?_)
    clear hK K
    try simp only [List.getElem_toArray, List.getElem_cons_succ, List.getElem_cons_zero, Act.put, List.setIfInBounds_toArray, List.set_cons_zero, List.set_cons_succ]
    refine GoS.one (i := 0) (by kernel_rfl) rfl (fun K hK => ?_)
    go_simp
    (with_reducible refine (one_ref.call _).mono ?_)
    rintro e q13 ⟨rfl, hx⟩
    have ZZ' := Lib.hid (ZZ.out.later hx); clear ZZ; have ZZ := ZZ'; clear ZZ'
    have HS2 := HS.trans hx; clear HS; have HS := HS2; clear HS2 hx
    go_wp2_with fail
    refine hK.out _ _ HS (fun _ => ?_)
    clear hK K
    try simp only [List.getElem_toArray, List.getElem_cons_succ, List.getElem_cons_zero, Act.put, List.setIfInBounds_toArray, List.set_cons_zero, List.set_cons_succ]
    refine GoS.one (i := 3) (by kernel_rfl) rfl (fun K hK => ?_)
    go_simp
    (with_reducible refine (HDV.out.call _).mono ?_)
    rintro e q14 ⟨rfl, hx⟩
    have ZZ' := Lib.hid (ZZ.out.later hx); clear ZZ; have ZZ := ZZ'; clear ZZ'
    have HS2 := HS.trans hx; clear HS; have HS := HS2; clear HS2 hx
    go_wp2_with fail
    refine hK.out _ _ HS (fun _ => ?_)
    clear hK K
    try simp only [List.getElem_toArray, List.getElem_cons_succ, List.getElem_cons_zero, Act.put, List.setIfInBounds_toArray, List.set_cons_zero, List.set_cons_succ]
    have st0 := ZZ.out.c0; have st1 := ZZ.out.c1; have st2 := ZZ.out.c2; have stf := ZZ.out.fz
    have TS := Lib.hid (tri_set (w := q14) (b := W.heap.size) ⟨by rw [st0]; rfl, by rw [st1]; rfl, by rw [st2]; rfl⟩ (.int .i64 c) (.int .i64 d) (.bool false))
    have XC := Lib.hid (((HS.setCell (p := ⟨W.heap.size, 0, none⟩) LZ.out (.int .i64 c)).setCell (p := ⟨W.heap.size, 1, none⟩) LZ.out (.int .i64 d)).setCell (p := ⟨W.heap.size, 2, none⟩) LZ.out (.bool false))
    refine GoS.store (i := 5) (by kernel_rfl) rfl (by kernel_rfl) (fun K hK => ?_)
    go_simp
    refine hK.out _ _ ?_
    clear hK K
    try simp only [List.getElem_toArray, List.getElem_cons_succ, List.getElem_cons_zero, Act.put, List.setIfInBounds_toArray, List.set_cons_zero, List.set_cons_succ]
    clear HS st0 st1 st2 stf ZZ
    generalize (((q14.setCell ⟨W.heap.size, 0, none⟩ (.int .i64 c)).setCell ⟨W.heap.size, 1, none⟩ (.int .i64 d)).setCell ⟨W.heap.size, 2, none⟩ (.bool false)) = W7 at *
    obtain ⟨y0, y1, y2⟩ := TS.out
    refine GoS.done (by kernel_rfl) ?_
    have z0 := (GW.out.later XC.out).c0; have z1 := (GW.out.later XC.out).c1; have z2 := (GW.out.later XC.out).c2; have zf := (GW.out.later XC.out).fz
    have XF := Lib.hid (XW.out.trans XC.out)
    go_wp2
    refine bodyPost_ret (v := .agg #[.int .i64 0, .int .i64 0, .int .i64 3]) ?_ rfl ⟨rfl, ?_⟩
    · simp [results, Tryz.results40, go_sem, z0, z1, z2]
    · repeat (first | with_reducible exact XF.out | with_reducible refine Ext.alloc ?_ _ | with_reducible refine Ext.setCell ?_ (by simp) _)
end Go.Proofs.YthmndafjogndaaaGreatDoor
