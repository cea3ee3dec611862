/- Layer 1: the reference's SpanQuo. -/
import Derived.Test.YtmcajdfbkhaplaaMq
import Derived.Test.YtmcajdfbkhaplaaSd
import Derived.Test.YtmcajdfbkhaplaaMin
import Derived.Deep.RegionHeld3
import Derived.Deep.QuietTactic
import Derived.BigQuiet
import Derived.IntWalk
namespace Go.Proofs.Ytmcajdfbkhaplaa
open Go.RowKit

set_option maxHeartbeats 8000000 in
theorem rspanquo_bad1 (a b c d : Int) (w : World) (v1 : spB a b = false) :
    Calls Try.prog 60 #[.agg #[.int .i64 a, .int .i64 b], .agg #[.int .i64 c, .int .i64 d]] w fun e w' => e = .returned (.tuple #[.agg #[.int .i64 0, .int .i64 0], .bool false, .int .i64 1]) ∧ Ext w w' := by
  go_enter Try.func60, Try.ntmps60
  go_wp2_with fail
  refine (rvalidSpan_any _ _ _).mono ?_
  rintro e w1 ⟨rfl, hx1⟩
  rw [v1]
  have hz := hx1.size
  (try simp at hz)
  have k1 : w1.cell? ⟨w.heap.size, 0, none⟩ = some (.int .i64 a) := (hx1.cell 0 (by first | (simp; done) | (simp; omega) | omega)).trans (by first | assumption | (simp [go_sem]; done) | (simp [go_sem, *]; done))
  have k2 : w1.cell? ⟨w.heap.size, 1, none⟩ = some (.int .i64 b) := (hx1.cell 1 (by first | (simp; done) | (simp; omega) | omega)).trans (by first | assumption | (simp [go_sem]; done) | (simp [go_sem, *]; done))
  have k3 : w1.cell? ⟨w.heap.size + 1, 0, none⟩ = some (.int .i64 c) := (hx1.cell 0 (by first | (simp; done) | (simp; omega) | omega)).trans (by first | assumption | (simp [go_sem]; done) | (simp [go_sem, *]; done))
  have k4 : w1.cell? ⟨w.heap.size + 1, 1, none⟩ = some (.int .i64 d) := (hx1.cell 1 (by first | (simp; done) | (simp; omega) | omega)).trans (by first | assumption | (simp [go_sem]; done) | (simp [go_sem, *]; done))
  have k5 : w1.cell? ⟨w.heap.size + 1 + 1, 0, none⟩ = some (.int .i64 (0)) := (hx1.cell 0 (by first | (simp; done) | (simp; omega) | omega)).trans (by first | assumption | (simp [go_sem]; done) | (simp [go_sem, *]; done))
  have k6 : w1.cell? ⟨w.heap.size + 1 + 1, 1, none⟩ = some (.int .i64 (0)) := (hx1.cell 1 (by first | (simp; done) | (simp; omega) | omega)).trans (by first | assumption | (simp [go_sem]; done) | (simp [go_sem, *]; done))
  have z7 : w1.frozen? ⟨w.heap.size + 1 + 1, 0, none⟩ = false := (hx1.froz 0 (by first | (simp; done) | (simp; omega) | omega)).trans (by first | assumption | exact ((((Ext.refl _).alloc _).alloc _).froz _ (by omega)).trans (by assumption) | (simp [go_sem]; done) | (simp [go_sem, *]; done))
  have z8 : w1.frozen? ⟨w.heap.size + 1 + 1, 1, none⟩ = false := (hx1.froz 1 (by first | (simp; done) | (simp; omega) | omega)).trans (by first | assumption | exact ((((Ext.refl _).alloc _).alloc _).froz _ (by omega)).trans (by assumption) | (simp [go_sem]; done) | (simp [go_sem, *]; done))
  go_wp2_with fail
  all_goals first | go_returns | (refine bodyPost_ret (by simp [results, Try.results60, go_sem, *]; try rfl) rfl ?_) | (go_region <;> first | go_returns | (refine bodyPost_ret (by simp [results, Try.results60, go_sem, *]; try rfl) rfl ?_) | (go_wp2 <;> first | go_returns | (refine bodyPost_ret (by simp [results, Try.results60, go_sem, *]; try rfl) rfl ?_))) | (refine bodyPost_ret (by simp [results, Try.results60, go_sem, *]; try rfl) rfl ?_)
  all_goals exact ⟨by first | rfl | (simp; done), by repeat (first | exact Ext.refl _ | assumption | refine Ext.drewN ?_ _ | refine Ext.drew ?_ | refine Ext.alloc ?_ _ | refine Ext.setCell ?_ (by dsimp only; omega) _ | refine Ext.trans ?_ (by assumption))⟩

set_option maxHeartbeats 8000000 in
theorem rspanquo_bad2 (a b c d : Int) (w : World) (v1 : spB a b = true) (v2 : spB c d = false) :
    Calls Try.prog 60 #[.agg #[.int .i64 a, .int .i64 b], .agg #[.int .i64 c, .int .i64 d]] w fun e w' => e = .returned (.tuple #[.agg #[.int .i64 0, .int .i64 0], .bool false, .int .i64 1]) ∧ Ext w w' := by
  go_enter Try.func60, Try.ntmps60
  go_wp2_with fail
  refine (rvalidSpan_any _ _ _).mono ?_
  rintro e w1 ⟨rfl, hx1⟩
  rw [v1]
  have hz := hx1.size
  (try simp at hz)
  have k1 : w1.cell? ⟨w.heap.size, 0, none⟩ = some (.int .i64 a) := (hx1.cell 0 (by first | (simp; done) | (simp; omega) | omega)).trans (by first | assumption | (simp [go_sem]; done) | (simp [go_sem, *]; done))
  have k2 : w1.cell? ⟨w.heap.size, 1, none⟩ = some (.int .i64 b) := (hx1.cell 1 (by first | (simp; done) | (simp; omega) | omega)).trans (by first | assumption | (simp [go_sem]; done) | (simp [go_sem, *]; done))
  have k3 : w1.cell? ⟨w.heap.size + 1, 0, none⟩ = some (.int .i64 c) := (hx1.cell 0 (by first | (simp; done) | (simp; omega) | omega)).trans (by first | assumption | (simp [go_sem]; done) | (simp [go_sem, *]; done))
  have k4 : w1.cell? ⟨w.heap.size + 1, 1, none⟩ = some (.int .i64 d) := (hx1.cell 1 (by first | (simp; done) | (simp; omega) | omega)).trans (by first | assumption | (simp [go_sem]; done) | (simp [go_sem, *]; done))
  have k5 : w1.cell? ⟨w.heap.size + 1 + 1, 0, none⟩ = some (.int .i64 (0)) := (hx1.cell 0 (by first | (simp; done) | (simp; omega) | omega)).trans (by first | assumption | (simp [go_sem]; done) | (simp [go_sem, *]; done))
  have k6 : w1.cell? ⟨w.heap.size + 1 + 1, 1, none⟩ = some (.int .i64 (0)) := (hx1.cell 1 (by first | (simp; done) | (simp; omega) | omega)).trans (by first | assumption | (simp [go_sem]; done) | (simp [go_sem, *]; done))
  have z7 : w1.frozen? ⟨w.heap.size + 1 + 1, 0, none⟩ = false := (hx1.froz 0 (by first | (simp; done) | (simp; omega) | omega)).trans (by first | assumption | exact ((((Ext.refl _).alloc _).alloc _).froz _ (by omega)).trans (by assumption) | (simp [go_sem]; done) | (simp [go_sem, *]; done))
  have z8 : w1.frozen? ⟨w.heap.size + 1 + 1, 1, none⟩ = false := (hx1.froz 1 (by first | (simp; done) | (simp; omega) | omega)).trans (by first | assumption | exact ((((Ext.refl _).alloc _).alloc _).froz _ (by omega)).trans (by assumption) | (simp [go_sem]; done) | (simp [go_sem, *]; done))
  go_wp2_with fail
  refine (rvalidSpan_any _ _ _).mono ?_
  rintro e w2 ⟨rfl, hx2⟩
  rw [v2]
  have hy := hx1.size
  (try simp at hy)
  have hx12 : Ext w w2 := by
    repeat (first | exact Ext.refl _ | assumption | refine Ext.drewN ?_ _ | refine Ext.drew ?_ | refine Ext.alloc ?_ _ | refine Ext.setCell ?_ (by dsimp only; omega) _ | refine Ext.trans ?_ (by assumption))
  have hz := hx2.size
  (try simp at hz)
  have k1 : w2.cell? ⟨w.heap.size, 0, none⟩ = some (.int .i64 a) := (hx2.cell 0 (by first | (simp; done) | (simp; omega) | omega)).trans (by first | assumption | (simp [go_sem]; done) | (simp [go_sem, *]; done))
  have k2 : w2.cell? ⟨w.heap.size, 1, none⟩ = some (.int .i64 b) := (hx2.cell 1 (by first | (simp; done) | (simp; omega) | omega)).trans (by first | assumption | (simp [go_sem]; done) | (simp [go_sem, *]; done))
  have k3 : w2.cell? ⟨w.heap.size + 1, 0, none⟩ = some (.int .i64 c) := (hx2.cell 0 (by first | (simp; done) | (simp; omega) | omega)).trans (by first | assumption | (simp [go_sem]; done) | (simp [go_sem, *]; done))
  have k4 : w2.cell? ⟨w.heap.size + 1, 1, none⟩ = some (.int .i64 d) := (hx2.cell 1 (by first | (simp; done) | (simp; omega) | omega)).trans (by first | assumption | (simp [go_sem]; done) | (simp [go_sem, *]; done))
  have k5 : w2.cell? ⟨w.heap.size + 1 + 1, 0, none⟩ = some (.int .i64 (0)) := (hx2.cell 0 (by first | (simp; done) | (simp; omega) | omega)).trans (by first | assumption | (simp [go_sem]; done) | (simp [go_sem, *]; done))
  have k6 : w2.cell? ⟨w.heap.size + 1 + 1, 1, none⟩ = some (.int .i64 (0)) := (hx2.cell 1 (by first | (simp; done) | (simp; omega) | omega)).trans (by first | assumption | (simp [go_sem]; done) | (simp [go_sem, *]; done))
  have z7 : w2.frozen? ⟨w.heap.size + 1 + 1, 0, none⟩ = false := (hx2.froz 0 (by first | (simp; done) | (simp; omega) | omega)).trans (by first | assumption | exact ((((Ext.refl _).alloc _).alloc _).froz _ (by omega)).trans (by assumption) | (simp [go_sem]; done) | (simp [go_sem, *]; done))
  have z8 : w2.frozen? ⟨w.heap.size + 1 + 1, 1, none⟩ = false := (hx2.froz 1 (by first | (simp; done) | (simp; omega) | omega)).trans (by first | assumption | exact ((((Ext.refl _).alloc _).alloc _).froz _ (by omega)).trans (by assumption) | (simp [go_sem]; done) | (simp [go_sem, *]; done))
  have m00a : ∀ ob, (w2.alloc ob).cell? ⟨w.heap.size, 0, none⟩ = some (.int .i64 a) := fun ob => (((Ext.refl w2).alloc ob).cell 0 (by omega)).trans (by assumption)
  have m00b : ∀ ob oc, ((w2.alloc ob).alloc oc).cell? ⟨w.heap.size, 0, none⟩ = some (.int .i64 a) := fun ob oc => ((((Ext.refl w2).alloc ob).alloc oc).cell 0 (by omega)).trans (by assumption)
  have m01a : ∀ ob, (w2.alloc ob).cell? ⟨w.heap.size, 1, none⟩ = some (.int .i64 b) := fun ob => (((Ext.refl w2).alloc ob).cell 1 (by omega)).trans (by assumption)
  have m01b : ∀ ob oc, ((w2.alloc ob).alloc oc).cell? ⟨w.heap.size, 1, none⟩ = some (.int .i64 b) := fun ob oc => ((((Ext.refl w2).alloc ob).alloc oc).cell 1 (by omega)).trans (by assumption)
  have m10a : ∀ ob, (w2.alloc ob).cell? ⟨w.heap.size + 1, 0, none⟩ = some (.int .i64 c) := fun ob => (((Ext.refl w2).alloc ob).cell 0 (by omega)).trans (by assumption)
  have m10b : ∀ ob oc, ((w2.alloc ob).alloc oc).cell? ⟨w.heap.size + 1, 0, none⟩ = some (.int .i64 c) := fun ob oc => ((((Ext.refl w2).alloc ob).alloc oc).cell 0 (by omega)).trans (by assumption)
  have m11a : ∀ ob, (w2.alloc ob).cell? ⟨w.heap.size + 1, 1, none⟩ = some (.int .i64 d) := fun ob => (((Ext.refl w2).alloc ob).cell 1 (by omega)).trans (by assumption)
  have m11b : ∀ ob oc, ((w2.alloc ob).alloc oc).cell? ⟨w.heap.size + 1, 1, none⟩ = some (.int .i64 d) := fun ob oc => ((((Ext.refl w2).alloc ob).alloc oc).cell 1 (by omega)).trans (by assumption)
  have m20a : ∀ ob, (w2.alloc ob).cell? ⟨w.heap.size + 1 + 1, 0, none⟩ = some (.int .i64 (0)) := fun ob => (((Ext.refl w2).alloc ob).cell 0 (by omega)).trans (by assumption)
  have m20b : ∀ ob oc, ((w2.alloc ob).alloc oc).cell? ⟨w.heap.size + 1 + 1, 0, none⟩ = some (.int .i64 (0)) := fun ob oc => ((((Ext.refl w2).alloc ob).alloc oc).cell 0 (by omega)).trans (by assumption)
  have m21a : ∀ ob, (w2.alloc ob).cell? ⟨w.heap.size + 1 + 1, 1, none⟩ = some (.int .i64 (0)) := fun ob => (((Ext.refl w2).alloc ob).cell 1 (by omega)).trans (by assumption)
  have m21b : ∀ ob oc, ((w2.alloc ob).alloc oc).cell? ⟨w.heap.size + 1 + 1, 1, none⟩ = some (.int .i64 (0)) := fun ob oc => ((((Ext.refl w2).alloc ob).alloc oc).cell 1 (by omega)).trans (by assumption)
  have n0b : ∀ ob oc, ((w2.alloc ob).alloc oc).frozen? ⟨w.heap.size + 1 + 1, 0, none⟩ = false := fun ob oc => ((((Ext.refl w2).alloc ob).alloc oc).froz 0 (by omega)).trans (by assumption)
  have n1b : ∀ ob oc, ((w2.alloc ob).alloc oc).frozen? ⟨w.heap.size + 1 + 1, 1, none⟩ = false := fun ob oc => ((((Ext.refl w2).alloc ob).alloc oc).froz 1 (by omega)).trans (by assumption)
  go_wp2_with fail
  all_goals first | go_returns | (refine bodyPost_ret (by simp [results, Try.results60, go_sem, *]; try rfl) rfl ?_) | (go_region <;> first | go_returns | (refine bodyPost_ret (by simp [results, Try.results60, go_sem, *]; try rfl) rfl ?_) | (go_wp2 <;> first | go_returns | (refine bodyPost_ret (by simp [results, Try.results60, go_sem, *]; try rfl) rfl ?_))) | (refine bodyPost_ret (by simp [results, Try.results60, go_sem, *]; try rfl) rfl ?_)
  all_goals exact ⟨by first | rfl | (simp; done), by repeat (first | exact Ext.refl _ | assumption | refine Ext.drewN ?_ _ | refine Ext.drew ?_ | refine Ext.alloc ?_ _ | refine Ext.setCell ?_ (by dsimp only; omega) _ | refine Ext.trans ?_ (by assumption))⟩

set_option maxHeartbeats 8000000 in
theorem rspanquo_none (a b : Int) (w : World) (v1 : spB a b = true) (v2 : spB 0 0 = true) :
    Calls Try.prog 60 #[.agg #[.int .i64 a, .int .i64 b], .agg #[.int .i64 0, .int .i64 0]] w fun e w' => e = .returned (.tuple #[.agg #[.int .i64 0, .int .i64 0], .bool false, .int .i64 5]) ∧ Ext w w' := by
  go_enter Try.func60, Try.ntmps60
  go_wp2_with fail
  refine (rvalidSpan_any _ _ _).mono ?_
  rintro e w1 ⟨rfl, hx1⟩
  rw [v1]
  have hz := hx1.size
  (try simp at hz)
  have k1 : w1.cell? ⟨w.heap.size, 0, none⟩ = some (.int .i64 a) := (hx1.cell 0 (by first | (simp; done) | (simp; omega) | omega)).trans (by first | assumption | (simp [go_sem]; done) | (simp [go_sem, *]; done))
  have k2 : w1.cell? ⟨w.heap.size, 1, none⟩ = some (.int .i64 b) := (hx1.cell 1 (by first | (simp; done) | (simp; omega) | omega)).trans (by first | assumption | (simp [go_sem]; done) | (simp [go_sem, *]; done))
  have k3 : w1.cell? ⟨w.heap.size + 1, 0, none⟩ = some (.int .i64 (0)) := (hx1.cell 0 (by first | (simp; done) | (simp; omega) | omega)).trans (by first | assumption | (simp [go_sem]; done) | (simp [go_sem, *]; done))
  have k4 : w1.cell? ⟨w.heap.size + 1, 1, none⟩ = some (.int .i64 (0)) := (hx1.cell 1 (by first | (simp; done) | (simp; omega) | omega)).trans (by first | assumption | (simp [go_sem]; done) | (simp [go_sem, *]; done))
  have k5 : w1.cell? ⟨w.heap.size + 1 + 1, 0, none⟩ = some (.int .i64 (0)) := (hx1.cell 0 (by first | (simp; done) | (simp; omega) | omega)).trans (by first | assumption | (simp [go_sem]; done) | (simp [go_sem, *]; done))
  have k6 : w1.cell? ⟨w.heap.size + 1 + 1, 1, none⟩ = some (.int .i64 (0)) := (hx1.cell 1 (by first | (simp; done) | (simp; omega) | omega)).trans (by first | assumption | (simp [go_sem]; done) | (simp [go_sem, *]; done))
  have z7 : w1.frozen? ⟨w.heap.size + 1 + 1, 0, none⟩ = false := (hx1.froz 0 (by first | (simp; done) | (simp; omega) | omega)).trans (by first | assumption | exact ((((Ext.refl _).alloc _).alloc _).froz _ (by omega)).trans (by assumption) | (simp [go_sem]; done) | (simp [go_sem, *]; done))
  have z8 : w1.frozen? ⟨w.heap.size + 1 + 1, 1, none⟩ = false := (hx1.froz 1 (by first | (simp; done) | (simp; omega) | omega)).trans (by first | assumption | exact ((((Ext.refl _).alloc _).alloc _).froz _ (by omega)).trans (by assumption) | (simp [go_sem]; done) | (simp [go_sem, *]; done))
  go_wp2_with fail
  refine (rvalidSpan_any _ _ _).mono ?_
  rintro e w2 ⟨rfl, hx2⟩
  rw [v2]
  have hy := hx1.size
  (try simp at hy)
  have hx12 : Ext w w2 := by
    repeat (first | exact Ext.refl _ | assumption | refine Ext.drewN ?_ _ | refine Ext.drew ?_ | refine Ext.alloc ?_ _ | refine Ext.setCell ?_ (by dsimp only; omega) _ | refine Ext.trans ?_ (by assumption))
  have hz := hx2.size
  (try simp at hz)
  have k1 : w2.cell? ⟨w.heap.size, 0, none⟩ = some (.int .i64 a) := (hx2.cell 0 (by first | (simp; done) | (simp; omega) | omega)).trans (by first | assumption | (simp [go_sem]; done) | (simp [go_sem, *]; done))
  have k2 : w2.cell? ⟨w.heap.size, 1, none⟩ = some (.int .i64 b) := (hx2.cell 1 (by first | (simp; done) | (simp; omega) | omega)).trans (by first | assumption | (simp [go_sem]; done) | (simp [go_sem, *]; done))
  have k3 : w2.cell? ⟨w.heap.size + 1, 0, none⟩ = some (.int .i64 (0)) := (hx2.cell 0 (by first | (simp; done) | (simp; omega) | omega)).trans (by first | assumption | (simp [go_sem]; done) | (simp [go_sem, *]; done))
  have k4 : w2.cell? ⟨w.heap.size + 1, 1, none⟩ = some (.int .i64 (0)) := (hx2.cell 1 (by first | (simp; done) | (simp; omega) | omega)).trans (by first | assumption | (simp [go_sem]; done) | (simp [go_sem, *]; done))
  have k5 : w2.cell? ⟨w.heap.size + 1 + 1, 0, none⟩ = some (.int .i64 (0)) := (hx2.cell 0 (by first | (simp; done) | (simp; omega) | omega)).trans (by first | assumption | (simp [go_sem]; done) | (simp [go_sem, *]; done))
  have k6 : w2.cell? ⟨w.heap.size + 1 + 1, 1, none⟩ = some (.int .i64 (0)) := (hx2.cell 1 (by first | (simp; done) | (simp; omega) | omega)).trans (by first | assumption | (simp [go_sem]; done) | (simp [go_sem, *]; done))
  have z7 : w2.frozen? ⟨w.heap.size + 1 + 1, 0, none⟩ = false := (hx2.froz 0 (by first | (simp; done) | (simp; omega) | omega)).trans (by first | assumption | exact ((((Ext.refl _).alloc _).alloc _).froz _ (by omega)).trans (by assumption) | (simp [go_sem]; done) | (simp [go_sem, *]; done))
  have z8 : w2.frozen? ⟨w.heap.size + 1 + 1, 1, none⟩ = false := (hx2.froz 1 (by first | (simp; done) | (simp; omega) | omega)).trans (by first | assumption | exact ((((Ext.refl _).alloc _).alloc _).froz _ (by omega)).trans (by assumption) | (simp [go_sem]; done) | (simp [go_sem, *]; done))
  have m00a : ∀ ob, (w2.alloc ob).cell? ⟨w.heap.size, 0, none⟩ = some (.int .i64 a) := fun ob => (((Ext.refl w2).alloc ob).cell 0 (by omega)).trans (by assumption)
  have m00b : ∀ ob oc, ((w2.alloc ob).alloc oc).cell? ⟨w.heap.size, 0, none⟩ = some (.int .i64 a) := fun ob oc => ((((Ext.refl w2).alloc ob).alloc oc).cell 0 (by omega)).trans (by assumption)
  have m01a : ∀ ob, (w2.alloc ob).cell? ⟨w.heap.size, 1, none⟩ = some (.int .i64 b) := fun ob => (((Ext.refl w2).alloc ob).cell 1 (by omega)).trans (by assumption)
  have m01b : ∀ ob oc, ((w2.alloc ob).alloc oc).cell? ⟨w.heap.size, 1, none⟩ = some (.int .i64 b) := fun ob oc => ((((Ext.refl w2).alloc ob).alloc oc).cell 1 (by omega)).trans (by assumption)
  have m10a : ∀ ob, (w2.alloc ob).cell? ⟨w.heap.size + 1, 0, none⟩ = some (.int .i64 (0)) := fun ob => (((Ext.refl w2).alloc ob).cell 0 (by omega)).trans (by assumption)
  have m10b : ∀ ob oc, ((w2.alloc ob).alloc oc).cell? ⟨w.heap.size + 1, 0, none⟩ = some (.int .i64 (0)) := fun ob oc => ((((Ext.refl w2).alloc ob).alloc oc).cell 0 (by omega)).trans (by assumption)
  have m11a : ∀ ob, (w2.alloc ob).cell? ⟨w.heap.size + 1, 1, none⟩ = some (.int .i64 (0)) := fun ob => (((Ext.refl w2).alloc ob).cell 1 (by omega)).trans (by assumption)
  have m11b : ∀ ob oc, ((w2.alloc ob).alloc oc).cell? ⟨w.heap.size + 1, 1, none⟩ = some (.int .i64 (0)) := fun ob oc => ((((Ext.refl w2).alloc ob).alloc oc).cell 1 (by omega)).trans (by assumption)
  have m20a : ∀ ob, (w2.alloc ob).cell? ⟨w.heap.size + 1 + 1, 0, none⟩ = some (.int .i64 (0)) := fun ob => (((Ext.refl w2).alloc ob).cell 0 (by omega)).trans (by assumption)
  have m20b : ∀ ob oc, ((w2.alloc ob).alloc oc).cell? ⟨w.heap.size + 1 + 1, 0, none⟩ = some (.int .i64 (0)) := fun ob oc => ((((Ext.refl w2).alloc ob).alloc oc).cell 0 (by omega)).trans (by assumption)
  have m21a : ∀ ob, (w2.alloc ob).cell? ⟨w.heap.size + 1 + 1, 1, none⟩ = some (.int .i64 (0)) := fun ob => (((Ext.refl w2).alloc ob).cell 1 (by omega)).trans (by assumption)
  have m21b : ∀ ob oc, ((w2.alloc ob).alloc oc).cell? ⟨w.heap.size + 1 + 1, 1, none⟩ = some (.int .i64 (0)) := fun ob oc => ((((Ext.refl w2).alloc ob).alloc oc).cell 1 (by omega)).trans (by assumption)
  have n0b : ∀ ob oc, ((w2.alloc ob).alloc oc).frozen? ⟨w.heap.size + 1 + 1, 0, none⟩ = false := fun ob oc => ((((Ext.refl w2).alloc ob).alloc oc).froz 0 (by omega)).trans (by assumption)
  have n1b : ∀ ob oc, ((w2.alloc ob).alloc oc).frozen? ⟨w.heap.size + 1 + 1, 1, none⟩ = false := fun ob oc => ((((Ext.refl w2).alloc ob).alloc oc).froz 1 (by omega)).trans (by assumption)
  go_wp2_with fail
  all_goals first | go_returns | (refine bodyPost_ret (by simp [results, Try.results60, go_sem, *]; try rfl) rfl ?_) | (go_region <;> first | go_returns | (refine bodyPost_ret (by simp [results, Try.results60, go_sem, *]; try rfl) rfl ?_) | (go_wp2 <;> first | go_returns | (refine bodyPost_ret (by simp [results, Try.results60, go_sem, *]; try rfl) rfl ?_))) | (refine bodyPost_ret (by simp [results, Try.results60, go_sem, *]; try rfl) rfl ?_)
  all_goals exact ⟨by first | rfl | (simp; done), by repeat (first | exact Ext.refl _ | assumption | refine Ext.drewN ?_ _ | refine Ext.drew ?_ | refine Ext.alloc ?_ _ | refine Ext.setCell ?_ (by dsimp only; omega) _ | refine Ext.trans ?_ (by assumption))⟩

set_option maxRecDepth 100000 in
set_option maxHeartbeats 16000000 in
theorem rspanquo_main (a b c d : Int) (w : World) (v1 : spB a b = true) (v2 : spB c d = true) (hcd : ¬ (c = 0 ∧ d = 0)) :
    Calls Try.prog 60 #[.agg #[.int .i64 a, .int .i64 b], .agg #[.int .i64 c, .int .i64 d]] w fun e w' => e = .returned (.tuple #[.agg #[.int .i64 (qL a b c d 4), .int .i64 (qH a b c d 4)], .bool (inB 0 c d), .int .i64 0]) ∧ Ext w w' := by
  have hq0 := qL_0 a b c d
  have hq1 := qH_0 a b c d
  have HQ0 := Lib.hid hq0
  have HQ1 := Lib.hid hq1
  have oa := (spB_t v1).1
  have ob := (spB_t v1).2.1
  have HA := Lib.hid oa
  have HB := Lib.hid ob
  clear hq0 hq1 oa ob
  have hg : ((c == 0) = false) ∨ ((c == 0) = true ∧ (d == 0) = false) := by
    by_cases h : c = 0
    · exact Or.inr ⟨by simp [h], by simp; intro h'; exact hcd ⟨h, h'⟩⟩
    · exact Or.inl (by simp [h])
  have hmn := fun (ts : Array TypeId) (t : TypeId) (x y z : Int) (w : World) => min3_run (P := Try.prog) ts t x y z w
  have hmx := fun (ts : Array TypeId) (t : TypeId) (x y z : Int) (w : World) => max3_run (P := Try.prog) ts t x y z w
  clear hcd
  rcases hg with hc0 | ⟨hc0, hd0⟩
  all_goals
    go_enter Try.func60, Try.ntmps60
    go_wp2_with fail
    refine (rvalidSpan_any _ _ _).mono ?_
    rintro e w1 ⟨rfl, hx1⟩
    rw [v1]
    have hz := hx1.size
    (try simp at hz)
    have k1 : w1.cell? ⟨w.heap.size, 0, none⟩ = some (.int .i64 a) := (hx1.cell 0 (by first | (simp; done) | (simp; omega) | omega)).trans (by first | assumption | (simp [go_sem]; done) | (simp [go_sem, *]; done))
    have k2 : w1.cell? ⟨w.heap.size, 1, none⟩ = some (.int .i64 b) := (hx1.cell 1 (by first | (simp; done) | (simp; omega) | omega)).trans (by first | assumption | (simp [go_sem]; done) | (simp [go_sem, *]; done))
    have k3 : w1.cell? ⟨w.heap.size + 1, 0, none⟩ = some (.int .i64 c) := (hx1.cell 0 (by first | (simp; done) | (simp; omega) | omega)).trans (by first | assumption | (simp [go_sem]; done) | (simp [go_sem, *]; done))
    have k4 : w1.cell? ⟨w.heap.size + 1, 1, none⟩ = some (.int .i64 d) := (hx1.cell 1 (by first | (simp; done) | (simp; omega) | omega)).trans (by first | assumption | (simp [go_sem]; done) | (simp [go_sem, *]; done))
    have k5 : w1.cell? ⟨w.heap.size + 1 + 1, 0, none⟩ = some (.int .i64 (0)) := (hx1.cell 0 (by first | (simp; done) | (simp; omega) | omega)).trans (by first | assumption | (simp [go_sem]; done) | (simp [go_sem, *]; done))
    have k6 : w1.cell? ⟨w.heap.size + 1 + 1, 1, none⟩ = some (.int .i64 (0)) := (hx1.cell 1 (by first | (simp; done) | (simp; omega) | omega)).trans (by first | assumption | (simp [go_sem]; done) | (simp [go_sem, *]; done))
    have z7 : w1.frozen? ⟨w.heap.size + 1 + 1, 0, none⟩ = false := (hx1.froz 0 (by first | (simp; done) | (simp; omega) | omega)).trans (by first | assumption | exact ((((Ext.refl _).alloc _).alloc _).froz _ (by omega)).trans (by assumption) | (simp [go_sem]; done) | (simp [go_sem, *]; done))
    have z8 : w1.frozen? ⟨w.heap.size + 1 + 1, 1, none⟩ = false := (hx1.froz 1 (by first | (simp; done) | (simp; omega) | omega)).trans (by first | assumption | exact ((((Ext.refl _).alloc _).alloc _).froz _ (by omega)).trans (by assumption) | (simp [go_sem]; done) | (simp [go_sem, *]; done))
    go_wp2_with fail
    refine (rvalidSpan_any _ _ _).mono ?_
    rintro e w2 ⟨rfl, hx2⟩
    rw [v2]
    have hy := hx1.size
    (try simp at hy)
    have hx12 : Ext w w2 := by
      repeat (first | exact Ext.refl _ | assumption | refine Ext.drewN ?_ _ | refine Ext.drew ?_ | refine Ext.alloc ?_ _ | refine Ext.setCell ?_ (by dsimp only; omega) _ | refine Ext.trans ?_ (by assumption))
    have hz := hx2.size
    (try simp at hz)
    have k1 : w2.cell? ⟨w.heap.size, 0, none⟩ = some (.int .i64 a) := (hx2.cell 0 (by first | (simp; done) | (simp; omega) | omega)).trans (by first | assumption | (simp [go_sem]; done) | (simp [go_sem, *]; done))
    have k2 : w2.cell? ⟨w.heap.size, 1, none⟩ = some (.int .i64 b) := (hx2.cell 1 (by first | (simp; done) | (simp; omega) | omega)).trans (by first | assumption | (simp [go_sem]; done) | (simp [go_sem, *]; done))
    have k3 : w2.cell? ⟨w.heap.size + 1, 0, none⟩ = some (.int .i64 c) := (hx2.cell 0 (by first | (simp; done) | (simp; omega) | omega)).trans (by first | assumption | (simp [go_sem]; done) | (simp [go_sem, *]; done))
    have k4 : w2.cell? ⟨w.heap.size + 1, 1, none⟩ = some (.int .i64 d) := (hx2.cell 1 (by first | (simp; done) | (simp; omega) | omega)).trans (by first | assumption | (simp [go_sem]; done) | (simp [go_sem, *]; done))
    have k5 : w2.cell? ⟨w.heap.size + 1 + 1, 0, none⟩ = some (.int .i64 (0)) := (hx2.cell 0 (by first | (simp; done) | (simp; omega) | omega)).trans (by first | assumption | (simp [go_sem]; done) | (simp [go_sem, *]; done))
    have k6 : w2.cell? ⟨w.heap.size + 1 + 1, 1, none⟩ = some (.int .i64 (0)) := (hx2.cell 1 (by first | (simp; done) | (simp; omega) | omega)).trans (by first | assumption | (simp [go_sem]; done) | (simp [go_sem, *]; done))
    have z7 : w2.frozen? ⟨w.heap.size + 1 + 1, 0, none⟩ = false := (hx2.froz 0 (by first | (simp; done) | (simp; omega) | omega)).trans (by first | assumption | exact ((((Ext.refl _).alloc _).alloc _).froz _ (by omega)).trans (by assumption) | (simp [go_sem]; done) | (simp [go_sem, *]; done))
    have z8 : w2.frozen? ⟨w.heap.size + 1 + 1, 1, none⟩ = false := (hx2.froz 1 (by first | (simp; done) | (simp; omega) | omega)).trans (by first | assumption | exact ((((Ext.refl _).alloc _).alloc _).froz _ (by omega)).trans (by assumption) | (simp [go_sem]; done) | (simp [go_sem, *]; done))
    have m00a : ∀ ob, (w2.alloc ob).cell? ⟨w.heap.size, 0, none⟩ = some (.int .i64 a) := fun ob => (((Ext.refl w2).alloc ob).cell 0 (by omega)).trans (by assumption)
    have m00b : ∀ ob oc, ((w2.alloc ob).alloc oc).cell? ⟨w.heap.size, 0, none⟩ = some (.int .i64 a) := fun ob oc => ((((Ext.refl w2).alloc ob).alloc oc).cell 0 (by omega)).trans (by assumption)
    have m01a : ∀ ob, (w2.alloc ob).cell? ⟨w.heap.size, 1, none⟩ = some (.int .i64 b) := fun ob => (((Ext.refl w2).alloc ob).cell 1 (by omega)).trans (by assumption)
    have m01b : ∀ ob oc, ((w2.alloc ob).alloc oc).cell? ⟨w.heap.size, 1, none⟩ = some (.int .i64 b) := fun ob oc => ((((Ext.refl w2).alloc ob).alloc oc).cell 1 (by omega)).trans (by assumption)
    have m10a : ∀ ob, (w2.alloc ob).cell? ⟨w.heap.size + 1, 0, none⟩ = some (.int .i64 c) := fun ob => (((Ext.refl w2).alloc ob).cell 0 (by omega)).trans (by assumption)
    have m10b : ∀ ob oc, ((w2.alloc ob).alloc oc).cell? ⟨w.heap.size + 1, 0, none⟩ = some (.int .i64 c) := fun ob oc => ((((Ext.refl w2).alloc ob).alloc oc).cell 0 (by omega)).trans (by assumption)
    have m11a : ∀ ob, (w2.alloc ob).cell? ⟨w.heap.size + 1, 1, none⟩ = some (.int .i64 d) := fun ob => (((Ext.refl w2).alloc ob).cell 1 (by omega)).trans (by assumption)
    have m11b : ∀ ob oc, ((w2.alloc ob).alloc oc).cell? ⟨w.heap.size + 1, 1, none⟩ = some (.int .i64 d) := fun ob oc => ((((Ext.refl w2).alloc ob).alloc oc).cell 1 (by omega)).trans (by assumption)
    have m20a : ∀ ob, (w2.alloc ob).cell? ⟨w.heap.size + 1 + 1, 0, none⟩ = some (.int .i64 (0)) := fun ob => (((Ext.refl w2).alloc ob).cell 0 (by omega)).trans (by assumption)
    have m20b : ∀ ob oc, ((w2.alloc ob).alloc oc).cell? ⟨w.heap.size + 1 + 1, 0, none⟩ = some (.int .i64 (0)) := fun ob oc => ((((Ext.refl w2).alloc ob).alloc oc).cell 0 (by omega)).trans (by assumption)
    have m21a : ∀ ob, (w2.alloc ob).cell? ⟨w.heap.size + 1 + 1, 1, none⟩ = some (.int .i64 (0)) := fun ob => (((Ext.refl w2).alloc ob).cell 1 (by omega)).trans (by assumption)
    have m21b : ∀ ob oc, ((w2.alloc ob).alloc oc).cell? ⟨w.heap.size + 1 + 1, 1, none⟩ = some (.int .i64 (0)) := fun ob oc => ((((Ext.refl w2).alloc ob).alloc oc).cell 1 (by omega)).trans (by assumption)
    have n0b : ∀ ob oc, ((w2.alloc ob).alloc oc).frozen? ⟨w.heap.size + 1 + 1, 0, none⟩ = false := fun ob oc => ((((Ext.refl w2).alloc ob).alloc oc).froz 0 (by omega)).trans (by assumption)
    have n1b : ∀ ob oc, ((w2.alloc ob).alloc oc).frozen? ⟨w.heap.size + 1 + 1, 1, none⟩ = false := fun ob oc => ((((Ext.refl w2).alloc ob).alloc oc).froz 1 (by omega)).trans (by assumption)
    go_wp2_with fail
    go_loopw [9] (fun i u => ∃ k : Nat, k ≤ 4 ∧ i = .int .i64 k ∧ RQ a b c d w (w.heap.size) (w.heap.size + 1) (w.heap.size + 1 + 1) (w2.heap.size) (w2.heap.size + 1) k u) (fun i _ => 4 - (intOf i).toNat)
    case atStart =>
      refine ⟨0, Nat.zero_le _, rfl, ?_⟩
      exact { a0 := by (first | (simp [go_sem]; done) | (simp [go_sem, *]; done) | (simp [go_sem]; omega)), a1 := by (first | (simp [go_sem]; done) | (simp [go_sem, *]; done) | (simp [go_sem]; omega)), b0 := by (first | (simp [go_sem]; done) | (simp [go_sem, *]; done) | (simp [go_sem]; omega)), b1 := by (first | (simp [go_sem]; done) | (simp [go_sem, *]; done) | (simp [go_sem]; omega)), s0 := by (first | (simp [go_sem]; done) | (simp [go_sem, *]; done) | (simp [go_sem]; omega)), s1 := by (first | (simp [go_sem]; done) | (simp [go_sem, *]; done) | (simp [go_sem]; omega)), f0 := by (first | (simp [go_sem]; done) | (simp [go_sem, *]; done) | (simp [go_sem]; omega)), f1 := by (first | (simp [go_sem]; done) | (simp [go_sem, *]; done) | (simp [go_sem]; omega)), o0 := by (rw [HQ0.out]; simp [go_sem]; done), o1 := by (rw [HQ1.out]; simp [go_sem]; done), g0 := by (simp [go_sem]; done), g1 := by (simp [go_sem]; done), y0 := by (simp [go_sem]; done), y1 := by (simp [go_sem]; done), y2 := by (simp [go_sem]; done), y3 := by (simp [go_sem]; done), ext := by repeat (first | exact Ext.refl _ | assumption | refine Ext.drewN ?_ _ | refine Ext.drew ?_ | refine Ext.alloc ?_ _ | refine Ext.setCell ?_ (by dsimp only; omega) _ | refine Ext.trans ?_ (by assumption)) }
    case round =>
      obtain ⟨k, hk, rfl, hR⟩ := hrel
      by_cases hlt : k < 4
      · have hy := hR.y hlt
        obtain ⟨v, hv⟩ : ∃ v, dvs c d k = v := ⟨_, rfl⟩
        rw [hv] at hy
        have HV := Lib.hid hv
        clear hv
        have hb0 := hR.b0
        have hb1 := hR.b1
        obtain ⟨RR, hRR⟩ : ∃ RR : World → Prop, ∀ u, RR u ↔ RQ a b c d w (w.heap.size) (w.heap.size + 1) (w.heap.size + 1 + 1) (w2.heap.size) (w2.heap.size + 1) k u := ⟨_, fun _ => Iff.rfl⟩
        have keepE : ∀ u u' : World, (fun w' : World => (w'.cell? ⟨w2.heap.size + 1, k, none⟩ = some (.int .i64 v) ∧ w'.cell? ⟨w.heap.size + 1, 0, none⟩ = some (.int .i64 c) ∧ w'.cell? ⟨w.heap.size + 1, 1, none⟩ = some (.int .i64 d) ∧ RR w')) u → Ext u u' → (fun w' : World => (w'.cell? ⟨w2.heap.size + 1, k, none⟩ = some (.int .i64 v) ∧ w'.cell? ⟨w.heap.size + 1, 0, none⟩ = some (.int .i64 c) ∧ w'.cell? ⟨w.heap.size + 1, 1, none⟩ = some (.int .i64 d) ∧ RR w')) u' := by
          rintro u u' ⟨g0, g1, g2, r⟩ hx
          exact ⟨(hx.cell k (World.block_lt_of_cell? u _ g0)).trans g0, (hx.cell 0 (World.block_lt_of_cell? u _ g1)).trans g1, (hx.cell 1 (World.block_lt_of_cell? u _ g2)).trans g2, (hRR _).2 (((hRR _).1 r).later hx)⟩
        have keep0 : (fun w' : World => (w'.cell? ⟨w2.heap.size + 1, k, none⟩ = some (.int .i64 v) ∧ w'.cell? ⟨w.heap.size + 1, 0, none⟩ = some (.int .i64 c) ∧ w'.cell? ⟨w.heap.size + 1, 1, none⟩ = some (.int .i64 d) ∧ RR w')) _ := ⟨hy, hb0, hb1, (hRR _).2 hR⟩
        have KE := Lib.hid keepE
        have K0 := Lib.hid keep0
        have HRR := Lib.hid hRR
        clear keepE keep0 hRR hR hy hb0 hb1
        rcases Bool.eq_false_or_eq_true (v == 0) with hz | hz
        · obtain rfl : v = 0 := by simpa using hz
          clear hz
          go_wp2_with fail
          have hy0 := K0.out.1
          go_quiet (fail)
          clear hy0
          go_wp2_with fail
          go_roundw
          case rel => exact ⟨k + 1, by omega, by go_num, RQ.skip ((HRR.out _).1 (KE.out _ _ K0.out (by (repeat (first | exact Ext.refl _ | assumption | refine Ext.drew ?_ | refine Ext.drewN ?_ _ | refine Ext.trans ?_ (by assumption))))).2.2.2) (by rw [HV.out]; simp [cnt])⟩
          case measure => simp [intOf]; omega
        · rcases Bool.eq_false_or_eq_true (inB v c d) with hn | hn
          · have hvz : v ≠ 0 := by simpa using hz
            obtain ⟨p, hp⟩ : ∃ p, a.tdiv v = p := ⟨_, rfl⟩
            obtain ⟨q, hq⟩ : ∃ q, b.tdiv v = q := ⟨_, rfl⟩
            have p1 := (tdiv_bd v HA.out)
            have q1 := (tdiv_bd v HB.out)
            rw [hp] at p1
            rw [hq] at q1
            obtain ⟨p1, p2⟩ := p1
            obtain ⟨q1, q2⟩ := q1
            have e1 : IntKind.i64.wrap p = p := IntWalk.i64_in _ ⟨by omega, by omega⟩
            have e2 : IntKind.i64.wrap q = q := IntWalk.i64_in _ ⟨by omega, by omega⟩
            go_wp2_with fail
            go_region_held3 (fun w' : World => (w'.cell? ⟨w2.heap.size + 1, k, none⟩ = some (.int .i64 v) ∧ w'.cell? ⟨w.heap.size + 1, 0, none⟩ = some (.int .i64 c) ∧ w'.cell? ⟨w.heap.size + 1, 1, none⟩ = some (.int .i64 d) ∧ RR w')) ((refine KE.out _ _ K0.out ?_; (repeat (first | exact Ext.refl _ | assumption | refine Ext.drew ?_ | refine Ext.drewN ?_ _ | refine Ext.trans ?_ (by assumption))); done)) ((go_at_call 69; refine (in_any _ _ _ _).mono ?_; rintro e w' ⟨rfl, hx⟩))
            have hS3 := KE.out _ w' K0.out (by (repeat (first | exact Ext.refl _ | assumption | refine Ext.drew ?_ | refine Ext.drewN ?_ _ | refine Ext.trans ?_ (by assumption))))
            obtain ⟨g0, g1, g2, g3⟩ := hS3
            have hR3 := (HRR.out _).1 g3
            have xa0 := hR3.a0
            have xa1 := hR3.a1
            have xo0 := hR3.o0
            have xo1 := hR3.o1
            have xg0 := hR3.g0
            have xg1 := hR3.g1
            have HR3 := Lib.hid hR3
            clear g3 hR3
            go_wp2_with fail
            go_quiet (fail)
            go_wp2_with fail
            go_roundw
            case rel => exact ⟨k + 1, by omega, by go_num, by with_reducible exact RQ.store' (RQ.later HR3.out ((Ext.refl _).drewN _)) HV.out hp hq (by simp [cnt, hz, hn]) (by omega) (by omega) (by omega) (by omega) (by omega)⟩
            case measure => simp [intOf]; omega
          · go_wp2_with fail
            go_region_held3 (fun w' : World => (w'.cell? ⟨w2.heap.size + 1, k, none⟩ = some (.int .i64 v) ∧ w'.cell? ⟨w.heap.size + 1, 0, none⟩ = some (.int .i64 c) ∧ w'.cell? ⟨w.heap.size + 1, 1, none⟩ = some (.int .i64 d) ∧ RR w')) ((refine KE.out _ _ K0.out ?_; (repeat (first | exact Ext.refl _ | assumption | refine Ext.drew ?_ | refine Ext.drewN ?_ _ | refine Ext.trans ?_ (by assumption))); done)) ((go_at_call 69; refine (in_any _ _ _ _).mono ?_; rintro e w' ⟨rfl, hx⟩))
            go_wp2_with fail
            go_roundw
            case rel => exact ⟨k + 1, by omega, by go_num, RQ.skip ((HRR.out _).1 (KE.out _ _ K0.out (by (repeat (first | exact Ext.refl _ | assumption | refine Ext.drew ?_ | refine Ext.drewN ?_ _ | refine Ext.trans ?_ (by assumption))))).2.2.2) (by rw [HV.out]; simp [cnt, hz, hn])⟩
            case measure => simp [intOf]; omega
      · obtain rfl : k = 4 := by omega
        have xb0 := hR.b0
        have xb1 := hR.b1
        have xo0 := hR.o0
        have xo1 := hR.o1
        have xs0 := hR.s0
        have xs1 := hR.s1
        have xf0 := hR.f0
        have xf1 := hR.f1
        have xext := hR.ext
        clear hR
        obtain ⟨ql, hql⟩ : ∃ x, qL a b c d 4 = x := ⟨_, rfl⟩
        obtain ⟨qh, hqh⟩ : ∃ x, qH a b c d 4 = x := ⟨_, rfl⟩
        rw [hql] at xo0
        rw [hqh] at xo1
        have HQL := Lib.hid hql
        have HQH := Lib.hid hqh
        clear hql hqh
        obtain ⟨sv0, hsv0⟩ : ∃ sv : World → Value, ∀ u : World, sv u = (u.cell? ⟨w.heap.size + 1 + 1, 0, none⟩).getD undef := ⟨_, fun _ => rfl⟩
        obtain ⟨sv1, hsv1⟩ : ∃ sv : World → Value, ∀ u : World, sv u = (u.cell? ⟨w.heap.size + 1 + 1, 1, none⟩).getD undef := ⟨_, fun _ => rfl⟩
        obtain ⟨EE, hEE⟩ : ∃ EE : World → Prop, ∀ u, EE u ↔ Ext w u := ⟨_, fun _ => Iff.rfl⟩
        have keepE : ∀ u u' : World, (fun w' : World => (w'.cell? ⟨w2.heap.size, 0, none⟩ = some (.int .i64 ql) ∧ w'.cell? ⟨w2.heap.size, 1, none⟩ = some (.int .i64 qh) ∧ w'.cell? ⟨w.heap.size + 1, 0, none⟩ = some (.int .i64 c) ∧ w'.cell? ⟨w.heap.size + 1, 1, none⟩ = some (.int .i64 d) ∧ w'.cell? ⟨w.heap.size + 1 + 1, 0, none⟩ = some (sv0 w') ∧ w'.cell? ⟨w.heap.size + 1 + 1, 1, none⟩ = some (sv1 w') ∧ w'.frozen? ⟨w.heap.size + 1 + 1, 0, none⟩ = false ∧ w'.frozen? ⟨w.heap.size + 1 + 1, 1, none⟩ = false ∧ EE w')) u → Ext u u' → (fun w' : World => (w'.cell? ⟨w2.heap.size, 0, none⟩ = some (.int .i64 ql) ∧ w'.cell? ⟨w2.heap.size, 1, none⟩ = some (.int .i64 qh) ∧ w'.cell? ⟨w.heap.size + 1, 0, none⟩ = some (.int .i64 c) ∧ w'.cell? ⟨w.heap.size + 1, 1, none⟩ = some (.int .i64 d) ∧ w'.cell? ⟨w.heap.size + 1 + 1, 0, none⟩ = some (sv0 w') ∧ w'.cell? ⟨w.heap.size + 1 + 1, 1, none⟩ = some (sv1 w') ∧ w'.frozen? ⟨w.heap.size + 1 + 1, 0, none⟩ = false ∧ w'.frozen? ⟨w.heap.size + 1 + 1, 1, none⟩ = false ∧ EE w')) u' := by
          rintro u u' ⟨g0, g1, g2, g3, s0, s1, f0, f1, hE⟩ hx
          have b0 := World.block_lt_of_cell? u _ s0
          have q0 := (hx.cell 0 b0).trans s0
          have q1 := (hx.cell 1 b0).trans s1
          exact ⟨(hx.cell 0 (World.block_lt_of_cell? u _ g0)).trans g0, (hx.cell 1 (World.block_lt_of_cell? u _ g1)).trans g1, (hx.cell 0 (World.block_lt_of_cell? u _ g2)).trans g2, (hx.cell 1 (World.block_lt_of_cell? u _ g3)).trans g3, by rw [hsv0, q0]; rfl, by rw [hsv1, q1]; rfl, (hx.froz 0 b0).trans f0, (hx.froz 1 b0).trans f1, (hEE _).2 (((hEE _).1 hE).trans hx)⟩
        have keepS : ∀ (u : World) (x y : Value), (fun w' : World => (w'.cell? ⟨w2.heap.size, 0, none⟩ = some (.int .i64 ql) ∧ w'.cell? ⟨w2.heap.size, 1, none⟩ = some (.int .i64 qh) ∧ w'.cell? ⟨w.heap.size + 1, 0, none⟩ = some (.int .i64 c) ∧ w'.cell? ⟨w.heap.size + 1, 1, none⟩ = some (.int .i64 d) ∧ w'.cell? ⟨w.heap.size + 1 + 1, 0, none⟩ = some (sv0 w') ∧ w'.cell? ⟨w.heap.size + 1 + 1, 1, none⟩ = some (sv1 w') ∧ w'.frozen? ⟨w.heap.size + 1 + 1, 0, none⟩ = false ∧ w'.frozen? ⟨w.heap.size + 1 + 1, 1, none⟩ = false ∧ EE w')) u → (fun w' : World => (w'.cell? ⟨w2.heap.size, 0, none⟩ = some (.int .i64 ql) ∧ w'.cell? ⟨w2.heap.size, 1, none⟩ = some (.int .i64 qh) ∧ w'.cell? ⟨w.heap.size + 1, 0, none⟩ = some (.int .i64 c) ∧ w'.cell? ⟨w.heap.size + 1, 1, none⟩ = some (.int .i64 d) ∧ w'.cell? ⟨w.heap.size + 1 + 1, 0, none⟩ = some (sv0 w') ∧ w'.cell? ⟨w.heap.size + 1 + 1, 1, none⟩ = some (sv1 w') ∧ w'.frozen? ⟨w.heap.size + 1 + 1, 0, none⟩ = false ∧ w'.frozen? ⟨w.heap.size + 1 + 1, 1, none⟩ = false ∧ EE w')) ((u.setCell ⟨w.heap.size + 1 + 1, 0, none⟩ x).setCell ⟨w.heap.size + 1 + 1, 1, none⟩ y) := by
          rintro u x y ⟨g0, g1, g2, g3, s0, s1, f0, f1, hE⟩
          obtain ⟨q0, q1⟩ := set_two (x := x) (y := y) s0 s1
          exact ⟨by rw [World.cell?_setCell_other _ _ _ _ (by first | (simp; done) | (simp; omega)), World.cell?_setCell_other _ _ _ _ (by first | (simp; done) | (simp; omega))]; exact g0, by rw [World.cell?_setCell_other _ _ _ _ (by first | (simp; done) | (simp; omega)), World.cell?_setCell_other _ _ _ _ (by first | (simp; done) | (simp; omega))]; exact g1, by rw [World.cell?_setCell_other _ _ _ _ (by first | (simp; done) | (simp; omega)), World.cell?_setCell_other _ _ _ _ (by first | (simp; done) | (simp; omega))]; exact g2, by rw [World.cell?_setCell_other _ _ _ _ (by first | (simp; done) | (simp; omega)), World.cell?_setCell_other _ _ _ _ (by first | (simp; done) | (simp; omega))]; exact g3, by rw [hsv0, q0]; rfl, by rw [hsv1, q1]; rfl, by rw [World.frozen?_setCell, World.frozen?_setCell]; exact f0, by rw [World.frozen?_setCell, World.frozen?_setCell]; exact f1, (hEE _).2 ((((hEE _).1 hE).setCell (by dsimp only; omega) _).setCell (by dsimp only; omega) _)⟩
        have keep0 : (fun w' : World => (w'.cell? ⟨w2.heap.size, 0, none⟩ = some (.int .i64 ql) ∧ w'.cell? ⟨w2.heap.size, 1, none⟩ = some (.int .i64 qh) ∧ w'.cell? ⟨w.heap.size + 1, 0, none⟩ = some (.int .i64 c) ∧ w'.cell? ⟨w.heap.size + 1, 1, none⟩ = some (.int .i64 d) ∧ w'.cell? ⟨w.heap.size + 1 + 1, 0, none⟩ = some (sv0 w') ∧ w'.cell? ⟨w.heap.size + 1 + 1, 1, none⟩ = some (sv1 w') ∧ w'.frozen? ⟨w.heap.size + 1 + 1, 0, none⟩ = false ∧ w'.frozen? ⟨w.heap.size + 1 + 1, 1, none⟩ = false ∧ EE w')) _ := ⟨xo0, xo1, xb0, xb1, by rw [hsv0, xs0]; rfl, by rw [hsv1, xs1]; rfl, xf0, xf1, (hEE _).2 xext⟩
        have KE := Lib.hid keepE
        have KS := Lib.hid keepS
        have K0 := Lib.hid keep0
        have HEE := Lib.hid hEE
        have HS0 := Lib.hid hsv0
        have HS1 := Lib.hid hsv1
        clear keepE keepS keep0 hsv0 hsv1 hEE xo0 xo1 xb0 xb1 xs0 xs1 xf0 xf1 xext
        go_wp2_with fail
        go_region_held3 (fun w' : World => (w'.cell? ⟨w2.heap.size, 0, none⟩ = some (.int .i64 ql) ∧ w'.cell? ⟨w2.heap.size, 1, none⟩ = some (.int .i64 qh) ∧ w'.cell? ⟨w.heap.size + 1, 0, none⟩ = some (.int .i64 c) ∧ w'.cell? ⟨w.heap.size + 1, 1, none⟩ = some (.int .i64 d) ∧ w'.cell? ⟨w.heap.size + 1 + 1, 0, none⟩ = some (sv0 w') ∧ w'.cell? ⟨w.heap.size + 1 + 1, 1, none⟩ = some (sv1 w') ∧ w'.frozen? ⟨w.heap.size + 1 + 1, 0, none⟩ = false ∧ w'.frozen? ⟨w.heap.size + 1 + 1, 1, none⟩ = false ∧ EE w')) (first | (refine KE.out _ _ K0.out ?_; (repeat (first | exact Ext.refl _ | assumption | refine Ext.drew ?_ | refine Ext.drewN ?_ _ | refine Ext.trans ?_ (by assumption))); done) | (refine KS.out _ _ _ ?_; refine KE.out _ _ K0.out ?_; (repeat (first | exact Ext.refl _ | assumption | refine Ext.drew ?_ | refine Ext.drewN ?_ _ | refine Ext.trans ?_ (by assumption))); done)) ((go_at_call 69; refine (in_any _ _ _ _).mono ?_; rintro e w' ⟨rfl, hx⟩))
        have hS3 := KE.out _ w' K0.out (by (repeat (first | exact Ext.refl _ | assumption | refine Ext.drew ?_ | refine Ext.drewN ?_ _ | refine Ext.trans ?_ (by assumption))))
        obtain ⟨g0, g1, g2, g3, s0, s1, f0, f1, hE⟩ := hS3
        have hEw := (HEE.out _).1 hE
        obtain ⟨r0, r1⟩ := set_two (x := .int .i64 ql) (y := .int .i64 qh) s0 s1
        go_wp2
        all_goals (refine bodyPost_ret (by simp [results, Try.results60, go_sem, *]; try rfl) rfl ?_)
        all_goals exact ⟨by first | (rw [HQL.out, HQH.out, HS0.out, HS1.out, r0, r1]; rfl) | rw [HQL.out, HQH.out], by repeat (first | exact Ext.refl _ | assumption | refine Ext.drewN ?_ _ | refine Ext.drew ?_ | refine Ext.alloc ?_ _ | refine Ext.setCell ?_ (by dsimp only; omega) _ | refine Ext.trans ?_ (by assumption))⟩

theorem rspanquo_any (a b c d : Int) (w : World) :
    Calls Try.prog 60 #[.agg #[.int .i64 a, .int .i64 b], .agg #[.int .i64 c, .int .i64 d]] w fun e w' => e = .returned (.tuple #[.agg #[.int .i64 (sqL a b c d), .int .i64 (sqH a b c d)], .bool (sqM a b c d), .int .i64 (sqE a b c d)]) ∧ Ext w w' := by
  rcases Bool.eq_false_or_eq_true (spB a b) with v1 | v1
  · rcases Bool.eq_false_or_eq_true (spB c d) with v2 | v2
    · by_cases h : c = 0 ∧ d = 0
      · obtain ⟨rfl, rfl⟩ := h
        have hE : sqE a b 0 0 = 5 := by simp [sqE, v1, v2]
        rw [show sqL a b 0 0 = 0 from by simp [sqL, hE], show sqH a b 0 0 = 0 from by simp [sqH, hE], show sqM a b 0 0 = false from by simp [sqM, hE], hE]
        exact rspanquo_none a b w v1 v2
      · obtain ⟨h1, h2, h3, h4⟩ := q4 v1 v2 h
        rw [← h2, ← h3, ← h4, h1]
        exact rspanquo_main a b c d w v1 v2 h
    · have hE : sqE a b c d = 1 := by simp [sqE, v1, v2]
      rw [show sqL a b c d = 0 from by simp [sqL, hE], show sqH a b c d = 0 from by simp [sqH, hE], show sqM a b c d = false from by simp [sqM, hE], hE]
      exact rspanquo_bad2 a b c d w v1 v2
  · have hE : sqE a b c d = 1 := by simp [sqE, v1]
    rw [show sqL a b c d = 0 from by simp [sqL, hE], show sqH a b c d = 0 from by simp [sqH, hE], show sqM a b c d = false from by simp [sqM, hE], hE]
    exact rspanquo_bad1 a b c d w v1

end Go.Proofs.Ytmcajdfbkhaplaa
