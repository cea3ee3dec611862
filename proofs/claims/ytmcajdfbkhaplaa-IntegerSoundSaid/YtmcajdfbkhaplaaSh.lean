/- Layer 1: integer.SpanQuo as one contract. -/
import Derived.Test.YtmcajdfbkhaplaaSg
namespace Go.Proofs.Ytmcajdfbkhaplaa
open Go.RowKit

def sqE (a b c d : Int) : Int := if (spB a b && spB c d) = true then (if c = 0 ∧ d = 0 then 5 else 0) else 1
def sqL (a b c d : Int) : Int := if sqE a b c d = 0 then (if 0 < c then mn4 Int.tdiv a b c d else if c = 0 then mn4 Int.tdiv a b 1 d else if d < 0 then mn4 Int.tdiv a b c d else if d = 0 then mn4 Int.tdiv a b c (-1) else min (mn4 Int.tdiv a b c (-1)) (mn4 Int.tdiv a b 1 d)) else 0
def sqH (a b c d : Int) : Int := if sqE a b c d = 0 then (if 0 < c then mx4 Int.tdiv a b c d else if c = 0 then mx4 Int.tdiv a b 1 d else if d < 0 then mx4 Int.tdiv a b c d else if d = 0 then mx4 Int.tdiv a b c (-1) else max (mx4 Int.tdiv a b c (-1)) (mx4 Int.tdiv a b 1 d)) else 0
def sqM (a b c d : Int) : Bool := decide (sqE a b c d = 0) && (decide (c ≤ 0) && decide (0 ≤ d))

set_option maxHeartbeats 8000000 in
theorem spanquo_bad (a b c d : Int) (w : World) (hv : (spB a b && spB c d) = false) :
    Calls Try.prog 59 #[.agg #[.int .i64 a, .int .i64 b], .agg #[.int .i64 c, .int .i64 d]] w fun e w' => e = .returned (.tuple #[.agg #[.int .i64 0, .int .i64 0], .bool false, .int .i64 1]) ∧ Ext w w' := by
  have hmf : ∀ (fn : Fn) (first cap : Array Value) (w : World), (Instr.makeFunc fn first cap).run Try.prog w = .ok (.func fn first cap) w := fun _ _ _ _ => rfl
  go_enter Try.func59, Try.ntmps59
  go_wp2_with fail
  refine (bothValidSpans_any _ _ _ _ _).mono ?_
  rintro e w1 ⟨rfl, hx1⟩
  rw [hv]
  have hz := hx1.size
  (try simp at hz)
  have k1 : w1.cell? ⟨w.heap.size, 0, none⟩ = some (.int .i64 a) := (hx1.cell 0 (by first | (simp; done) | (simp; omega) | omega)).trans (by first | assumption | (simp [go_sem]; done) | (simp [go_sem, *]; done))
  have k1a : ∀ ob, (w1.alloc ob).cell? ⟨w.heap.size, 0, none⟩ = some (.int .i64 a) := fun ob => (((Ext.refl w1).alloc ob).cell 0 (by omega)).trans (by assumption)
  have k1b : ∀ ob oc, ((w1.alloc ob).alloc oc).cell? ⟨w.heap.size, 0, none⟩ = some (.int .i64 a) := fun ob oc => ((((Ext.refl w1).alloc ob).alloc oc).cell 0 (by omega)).trans (by assumption)
  have k2 : w1.cell? ⟨w.heap.size, 1, none⟩ = some (.int .i64 b) := (hx1.cell 1 (by first | (simp; done) | (simp; omega) | omega)).trans (by first | assumption | (simp [go_sem]; done) | (simp [go_sem, *]; done))
  have k2a : ∀ ob, (w1.alloc ob).cell? ⟨w.heap.size, 1, none⟩ = some (.int .i64 b) := fun ob => (((Ext.refl w1).alloc ob).cell 1 (by omega)).trans (by assumption)
  have k2b : ∀ ob oc, ((w1.alloc ob).alloc oc).cell? ⟨w.heap.size, 1, none⟩ = some (.int .i64 b) := fun ob oc => ((((Ext.refl w1).alloc ob).alloc oc).cell 1 (by omega)).trans (by assumption)
  have k3 : w1.cell? ⟨w.heap.size + 1, 0, none⟩ = some (.int .i64 c) := (hx1.cell 0 (by first | (simp; done) | (simp; omega) | omega)).trans (by first | assumption | (simp [go_sem]; done) | (simp [go_sem, *]; done))
  have k3a : ∀ ob, (w1.alloc ob).cell? ⟨w.heap.size + 1, 0, none⟩ = some (.int .i64 c) := fun ob => (((Ext.refl w1).alloc ob).cell 0 (by omega)).trans (by assumption)
  have k3b : ∀ ob oc, ((w1.alloc ob).alloc oc).cell? ⟨w.heap.size + 1, 0, none⟩ = some (.int .i64 c) := fun ob oc => ((((Ext.refl w1).alloc ob).alloc oc).cell 0 (by omega)).trans (by assumption)
  have k4 : w1.cell? ⟨w.heap.size + 1, 1, none⟩ = some (.int .i64 d) := (hx1.cell 1 (by first | (simp; done) | (simp; omega) | omega)).trans (by first | assumption | (simp [go_sem]; done) | (simp [go_sem, *]; done))
  have k4a : ∀ ob, (w1.alloc ob).cell? ⟨w.heap.size + 1, 1, none⟩ = some (.int .i64 d) := fun ob => (((Ext.refl w1).alloc ob).cell 1 (by omega)).trans (by assumption)
  have k4b : ∀ ob oc, ((w1.alloc ob).alloc oc).cell? ⟨w.heap.size + 1, 1, none⟩ = some (.int .i64 d) := fun ob oc => ((((Ext.refl w1).alloc ob).alloc oc).cell 1 (by omega)).trans (by assumption)
  have k5 : w1.cell? ⟨w.heap.size + 1 + 1, 0, none⟩ = some (.int .i64 (0)) := (hx1.cell 0 (by first | (simp; done) | (simp; omega) | omega)).trans (by first | assumption | (simp [go_sem]; done) | (simp [go_sem, *]; done))
  have k5a : ∀ ob, (w1.alloc ob).cell? ⟨w.heap.size + 1 + 1, 0, none⟩ = some (.int .i64 (0)) := fun ob => (((Ext.refl w1).alloc ob).cell 0 (by omega)).trans (by assumption)
  have k5b : ∀ ob oc, ((w1.alloc ob).alloc oc).cell? ⟨w.heap.size + 1 + 1, 0, none⟩ = some (.int .i64 (0)) := fun ob oc => ((((Ext.refl w1).alloc ob).alloc oc).cell 0 (by omega)).trans (by assumption)
  have k6 : w1.cell? ⟨w.heap.size + 1 + 1, 1, none⟩ = some (.int .i64 (0)) := (hx1.cell 1 (by first | (simp; done) | (simp; omega) | omega)).trans (by first | assumption | (simp [go_sem]; done) | (simp [go_sem, *]; done))
  have k6a : ∀ ob, (w1.alloc ob).cell? ⟨w.heap.size + 1 + 1, 1, none⟩ = some (.int .i64 (0)) := fun ob => (((Ext.refl w1).alloc ob).cell 1 (by omega)).trans (by assumption)
  have k6b : ∀ ob oc, ((w1.alloc ob).alloc oc).cell? ⟨w.heap.size + 1 + 1, 1, none⟩ = some (.int .i64 (0)) := fun ob oc => ((((Ext.refl w1).alloc ob).alloc oc).cell 1 (by omega)).trans (by assumption)
  have z7 : w1.frozen? ⟨w.heap.size + 1 + 1, 0, none⟩ = false := (hx1.froz 0 (by first | (simp; done) | (simp; omega) | omega)).trans (by first | assumption | exact ((((Ext.refl _).alloc _).alloc _).froz _ (by omega)).trans (by assumption) | (simp [go_sem]; done) | (simp [go_sem, *]; done))
  have z8 : w1.frozen? ⟨w.heap.size + 1 + 1, 1, none⟩ = false := (hx1.froz 1 (by first | (simp; done) | (simp; omega) | omega)).trans (by first | assumption | exact ((((Ext.refl _).alloc _).alloc _).froz _ (by omega)).trans (by assumption) | (simp [go_sem]; done) | (simp [go_sem, *]; done))
  go_wp2_with fail
  all_goals first | go_returns | (refine bodyPost_ret (by simp [results, Try.results59, go_sem, *]; try rfl) rfl ?_) | (go_region <;> first | go_returns | (refine bodyPost_ret (by simp [results, Try.results59, go_sem, *]; try rfl) rfl ?_) | (go_wp2 <;> first | go_returns | (refine bodyPost_ret (by simp [results, Try.results59, go_sem, *]; try rfl) rfl ?_))) | (refine bodyPost_ret (by simp [results, Try.results59, go_sem, *]; try rfl) rfl ?_)
  all_goals exact ⟨by first | rfl | (simp; done), by repeat (first | exact Ext.refl _ | assumption | refine Ext.drewN ?_ _ | refine Ext.drew ?_ | refine Ext.alloc ?_ _ | refine Ext.setCell ?_ (by dsimp only; omega) _ | refine Ext.trans ?_ (by assumption))⟩

set_option maxHeartbeats 8000000 in
theorem spanquo_none (a b : Int) (w : World) (hv : (spB a b && spB 0 0) = true) :
    Calls Try.prog 59 #[.agg #[.int .i64 a, .int .i64 b], .agg #[.int .i64 0, .int .i64 0]] w fun e w' => e = .returned (.tuple #[.agg #[.int .i64 0, .int .i64 0], .bool false, .int .i64 5]) ∧ Ext w w' := by
  have hmf : ∀ (fn : Fn) (first cap : Array Value) (w : World), (Instr.makeFunc fn first cap).run Try.prog w = .ok (.func fn first cap) w := fun _ _ _ _ => rfl
  go_enter Try.func59, Try.ntmps59
  go_wp2_with fail
  refine (bothValidSpans_any _ _ _ _ _).mono ?_
  rintro e w1 ⟨rfl, hx1⟩
  rw [hv]
  have hz := hx1.size
  (try simp at hz)
  have k1 : w1.cell? ⟨w.heap.size, 0, none⟩ = some (.int .i64 a) := (hx1.cell 0 (by first | (simp; done) | (simp; omega) | omega)).trans (by first | assumption | (simp [go_sem]; done) | (simp [go_sem, *]; done))
  have k1a : ∀ ob, (w1.alloc ob).cell? ⟨w.heap.size, 0, none⟩ = some (.int .i64 a) := fun ob => (((Ext.refl w1).alloc ob).cell 0 (by omega)).trans (by assumption)
  have k1b : ∀ ob oc, ((w1.alloc ob).alloc oc).cell? ⟨w.heap.size, 0, none⟩ = some (.int .i64 a) := fun ob oc => ((((Ext.refl w1).alloc ob).alloc oc).cell 0 (by omega)).trans (by assumption)
  have k2 : w1.cell? ⟨w.heap.size, 1, none⟩ = some (.int .i64 b) := (hx1.cell 1 (by first | (simp; done) | (simp; omega) | omega)).trans (by first | assumption | (simp [go_sem]; done) | (simp [go_sem, *]; done))
  have k2a : ∀ ob, (w1.alloc ob).cell? ⟨w.heap.size, 1, none⟩ = some (.int .i64 b) := fun ob => (((Ext.refl w1).alloc ob).cell 1 (by omega)).trans (by assumption)
  have k2b : ∀ ob oc, ((w1.alloc ob).alloc oc).cell? ⟨w.heap.size, 1, none⟩ = some (.int .i64 b) := fun ob oc => ((((Ext.refl w1).alloc ob).alloc oc).cell 1 (by omega)).trans (by assumption)
  have k3 : w1.cell? ⟨w.heap.size + 1, 0, none⟩ = some (.int .i64 (0)) := (hx1.cell 0 (by first | (simp; done) | (simp; omega) | omega)).trans (by first | assumption | (simp [go_sem]; done) | (simp [go_sem, *]; done))
  have k3a : ∀ ob, (w1.alloc ob).cell? ⟨w.heap.size + 1, 0, none⟩ = some (.int .i64 (0)) := fun ob => (((Ext.refl w1).alloc ob).cell 0 (by omega)).trans (by assumption)
  have k3b : ∀ ob oc, ((w1.alloc ob).alloc oc).cell? ⟨w.heap.size + 1, 0, none⟩ = some (.int .i64 (0)) := fun ob oc => ((((Ext.refl w1).alloc ob).alloc oc).cell 0 (by omega)).trans (by assumption)
  have k4 : w1.cell? ⟨w.heap.size + 1, 1, none⟩ = some (.int .i64 (0)) := (hx1.cell 1 (by first | (simp; done) | (simp; omega) | omega)).trans (by first | assumption | (simp [go_sem]; done) | (simp [go_sem, *]; done))
  have k4a : ∀ ob, (w1.alloc ob).cell? ⟨w.heap.size + 1, 1, none⟩ = some (.int .i64 (0)) := fun ob => (((Ext.refl w1).alloc ob).cell 1 (by omega)).trans (by assumption)
  have k4b : ∀ ob oc, ((w1.alloc ob).alloc oc).cell? ⟨w.heap.size + 1, 1, none⟩ = some (.int .i64 (0)) := fun ob oc => ((((Ext.refl w1).alloc ob).alloc oc).cell 1 (by omega)).trans (by assumption)
  have k5 : w1.cell? ⟨w.heap.size + 1 + 1, 0, none⟩ = some (.int .i64 (0)) := (hx1.cell 0 (by first | (simp; done) | (simp; omega) | omega)).trans (by first | assumption | (simp [go_sem]; done) | (simp [go_sem, *]; done))
  have k5a : ∀ ob, (w1.alloc ob).cell? ⟨w.heap.size + 1 + 1, 0, none⟩ = some (.int .i64 (0)) := fun ob => (((Ext.refl w1).alloc ob).cell 0 (by omega)).trans (by assumption)
  have k5b : ∀ ob oc, ((w1.alloc ob).alloc oc).cell? ⟨w.heap.size + 1 + 1, 0, none⟩ = some (.int .i64 (0)) := fun ob oc => ((((Ext.refl w1).alloc ob).alloc oc).cell 0 (by omega)).trans (by assumption)
  have k6 : w1.cell? ⟨w.heap.size + 1 + 1, 1, none⟩ = some (.int .i64 (0)) := (hx1.cell 1 (by first | (simp; done) | (simp; omega) | omega)).trans (by first | assumption | (simp [go_sem]; done) | (simp [go_sem, *]; done))
  have k6a : ∀ ob, (w1.alloc ob).cell? ⟨w.heap.size + 1 + 1, 1, none⟩ = some (.int .i64 (0)) := fun ob => (((Ext.refl w1).alloc ob).cell 1 (by omega)).trans (by assumption)
  have k6b : ∀ ob oc, ((w1.alloc ob).alloc oc).cell? ⟨w.heap.size + 1 + 1, 1, none⟩ = some (.int .i64 (0)) := fun ob oc => ((((Ext.refl w1).alloc ob).alloc oc).cell 1 (by omega)).trans (by assumption)
  have z7 : w1.frozen? ⟨w.heap.size + 1 + 1, 0, none⟩ = false := (hx1.froz 0 (by first | (simp; done) | (simp; omega) | omega)).trans (by first | assumption | exact ((((Ext.refl _).alloc _).alloc _).froz _ (by omega)).trans (by assumption) | (simp [go_sem]; done) | (simp [go_sem, *]; done))
  have z8 : w1.frozen? ⟨w.heap.size + 1 + 1, 1, none⟩ = false := (hx1.froz 1 (by first | (simp; done) | (simp; omega) | omega)).trans (by first | assumption | exact ((((Ext.refl _).alloc _).alloc _).froz _ (by omega)).trans (by assumption) | (simp [go_sem]; done) | (simp [go_sem, *]; done))
  go_wp2_with fail
  all_goals first | go_returns | (refine bodyPost_ret (by simp [results, Try.results59, go_sem, *]; try rfl) rfl ?_) | (go_region <;> first | go_returns | (refine bodyPost_ret (by simp [results, Try.results59, go_sem, *]; try rfl) rfl ?_) | (go_wp2 <;> first | go_returns | (refine bodyPost_ret (by simp [results, Try.results59, go_sem, *]; try rfl) rfl ?_))) | (refine bodyPost_ret (by simp [results, Try.results59, go_sem, *]; try rfl) rfl ?_)
  all_goals exact ⟨by first | rfl | (simp; done), by repeat (first | exact Ext.refl _ | assumption | refine Ext.drewN ?_ _ | refine Ext.drew ?_ | refine Ext.alloc ?_ _ | refine Ext.setCell ?_ (by dsimp only; omega) _ | refine Ext.trans ?_ (by assumption))⟩

theorem spanquo_any (a b c d : Int) (w : World) :
    Calls Try.prog 59 #[.agg #[.int .i64 a, .int .i64 b], .agg #[.int .i64 c, .int .i64 d]] w fun e w' => e = .returned (.tuple #[.agg #[.int .i64 (sqL a b c d), .int .i64 (sqH a b c d)], .bool (sqM a b c d), .int .i64 (sqE a b c d)]) ∧ Ext w w' := by
  rcases Bool.eq_false_or_eq_true (spB a b && spB c d) with hv | hv
  · obtain ⟨v1, v2⟩ := spB_and hv
    have hcd := (spB_t v2).2.2
    by_cases h0 : c = 0 ∧ d = 0
    · obtain ⟨rfl, rfl⟩ := h0
      have e : sqE a b 0 0 = 5 := by simp [sqE, hv]
      simpa [sqL, sqH, sqM, e] using spanquo_none a b w hv
    · have e : sqE a b c d = 0 := by simp only [sqE, if_pos hv, if_neg h0]
      by_cases c0 : 0 < c
      · have m : sqM a b c d = false := by simp [sqM, e]; omega
        rw [m, e, show sqL a b c d = mn4 Int.tdiv a b c d by simp [sqL, e, c0], show sqH a b c d = mx4 Int.tdiv a b c d by simp [sqH, e, c0]]
        exact spanquo_pos a b c d w v1 v2 c0
      · by_cases c1 : c = 0
        · subst c1
          have hd : 0 < d := by omega
          have m : sqM a b 0 d = true := by simp [sqM, e]; omega
          rw [m, e, show sqL a b 0 d = mn4 Int.tdiv a b 1 d by simp [sqL, e], show sqH a b 0 d = mx4 Int.tdiv a b 1 d by simp [sqH, e]]
          exact spanquo_zero a b d w v1 v2 hd
        · by_cases d0 : d < 0
          · have m : sqM a b c d = false := by simp [sqM, e]; omega
            rw [m, e, show sqL a b c d = mn4 Int.tdiv a b c d by simp [sqL, e, c0, c1, d0], show sqH a b c d = mx4 Int.tdiv a b c d by simp [sqH, e, c0, c1, d0]]
            exact spanquo_neg a b c d w v1 v2 d0
          · have m : sqM a b c d = true := by simp [sqM, e]; omega
            by_cases d1 : d = 0
            · subst d1
              rw [m, e, show sqL a b c 0 = mn4 Int.tdiv a b c (-1) by simp [sqL, e, c0, c1], show sqH a b c 0 = mx4 Int.tdiv a b c (-1) by simp [sqH, e, c0, c1]]
              exact spanquo_nought a b c w v1 v2 (by omega)
            · rw [m, e, show sqL a b c d = min (mn4 Int.tdiv a b c (-1)) (mn4 Int.tdiv a b 1 d) by simp [sqL, e, c0, c1, d0, d1], show sqH a b c d = max (mx4 Int.tdiv a b c (-1)) (mx4 Int.tdiv a b 1 d) by simp [sqH, e, c0, c1, d0, d1]]
              exact spanquo_mix a b c d w v1 v2 (by omega) (by omega)
  · have e : sqE a b c d = 1 := by simp [sqE, hv]
    simpa [sqL, sqH, sqM, e] using spanquo_bad a b c d w hv

end Go.Proofs.Ytmcajdfbkhaplaa
