/- Layer 1: integer.SpanQuo. -/
import Derived.Test.YtmcajdfbkhaplaaSd
import Derived.Deep.RegionHeld3
namespace Go.Proofs.Ytmcajdfbkhaplaa
open Go.RowKit

theorem set_two {W : World} {S : Nat} {x y x0 y0 : Value} (h0 : W.cell? ⟨S, 0, none⟩ = some x0) (h1 : W.cell? ⟨S, 1, none⟩ = some y0) :
    ((W.setCell ⟨S, 0, none⟩ x).setCell ⟨S, 1, none⟩ y).cell? ⟨S, 0, none⟩ = some x ∧ ((W.setCell ⟨S, 0, none⟩ x).setCell ⟨S, 1, none⟩ y).cell? ⟨S, 1, none⟩ = some y := by
  have c0 : (W.setCell ⟨S, 0, none⟩ x).cell? ⟨S, 0, none⟩ = some x := World.cell?_setCell_same' _ _ _ (by rw [h0]; rfl)
  have c1 : (W.setCell ⟨S, 0, none⟩ x).cell? ⟨S, 1, none⟩ = some y0 := by rw [World.cell?_setCell_other _ _ _ _ (by simp)]; exact h1
  exact ⟨by rw [World.cell?_setCell_other _ _ _ _ (by simp)]; exact c0, World.cell?_setCell_same' _ _ _ (by rw [c1]; rfl)⟩

set_option maxHeartbeats 8000000 in
theorem spanquo_pos (a b c d : Int) (w : World) (v1 : spB a b = true) (v2 : spB c d = true) (hc : 0 < c) :
    Calls Try.prog 59 #[.agg #[.int .i64 a, .int .i64 b], .agg #[.int .i64 c, .int .i64 d]] w fun e w' => e = .returned (.tuple #[.agg #[.int .i64 (mn4 Int.tdiv a b c d), .int .i64 (mx4 Int.tdiv a b c d)], .bool false, .int .i64 0]) ∧ Ext w w' := by
  obtain ⟨oa, ob, hab⟩ := spB_t v1
  obtain ⟨oc, od, hcd⟩ := spB_t v2
  have hc0 : (c == 0) = false := by (simp; omega)
  have hd0 : (d == 0) = false := by (simp; omega)
  have m1 : min d (-1) = -1 := by omega
  have m2 : max c 1 = c := by omega
  have e1 : spB c (-1) = false := by rw [Bool.eq_false_iff]; intro h; have := (spB_t h).2.2; omega
  have hp1 : c ≠ 0 := by omega
  have hp2 : d ≠ 0 := by omega
  have t1 : decide (c ≤ 0) = false := by (simp; omega)
  have hmf : ∀ (fn : Fn) (first cap : Array Value) (w : World), (Instr.makeFunc fn first cap).run Try.prog w = .ok (.func fn first cap) w := fun _ _ _ _ => rfl
  go_enter Try.func59, Try.ntmps59
  go_wp2_with fail
  refine (bothValidSpans_any _ _ _ _ _).mono ?_
  rintro e w1 ⟨rfl, hx1⟩
  rw [v1, v2]
  have hz := hx1.size
  (try simp at hz)
  have k1 : w1.cell? ⟨w.heap.size, 0, none⟩ = some (.int .i64 a) := (hx1.cell 0 (by first | (simp; done) | (simp; omega) | omega)).trans (by first | assumption | (simp [go_sem]; done) | (simp [go_sem, *]; done))
  have k1a : ∀ ob, (w1.alloc ob).cell? ⟨w.heap.size, 0, none⟩ = some (.int .i64 a) := fun ob => (((Ext.refl w1).alloc ob).cell 0 (by omega)).trans (by assumption)
  have k1b : ∀ ob oc, ((w1.alloc ob).alloc oc).cell? ⟨w.heap.size, 0, none⟩ = some (.int .i64 a) := fun ob oc => ((((Ext.refl w1).alloc ob).alloc oc).cell 0 (by omega)).trans (by assumption)
  have k2 : w1.cell? ⟨w.heap.size, 1, none⟩ = some (.int .i64 b) := (hx1.cell 1 (by first | (simp; done) | (simp; omega) | omega)).trans (by first | assumption | (simp [go_sem]; done) | (simp [go_sem, *]; done))
  have k2a : ∀ ob, (w1.alloc ob).cell? ⟨w.heap.size, 1, none⟩ = some (.int .i64 b) := fun ob => (((Ext.refl w1).alloc ob).cell 1 (by omega)).trans (by assumption)
  have k2b : ∀ ob oc, ((w1.alloc ob).alloc oc).cell? ⟨w.heap.size, 1, none⟩ = some (.int .i64 b) := fun ob oc => ((((Ext.refl w1).alloc ob).alloc oc).cell 1 (by omega)).trans (by assumption)
  have k3 : w1.cell? ⟨w.heap.size + 1, 0, none⟩ = some (.int .i64 c) := (hx1.cell 0 (by first | (simp; done) | (simp; omega) | omega)).trans (by first | assumption | (simp [go_sem]; done) | (simp [go_sem, *]; done))
  have k3a : ∀ ob, (w1.alloc ob).cell? ⟨w.heap.size + 1, 0, none⟩ = some (.int .i64 c) := fun ob => (((Ext.refl w1).alloc ob).cell 0 (by omega)).trans (by assumption)
  have k3b : ∀ ob oc, ((w1.alloc ob).alloc oc).cell? ⟨w.heap.size + 1, 0, none⟩ = some (.int .i64 c) := fun ob oc => ((((Ext.refl w1).alloc ob).alloc oc).cell 0 (by omega)).trans (by assumption)
  have k4 : w1.cell? ⟨w.heap.size + 1, 1, none⟩ = some (.int .i64 d) := (hx1.cell 1 (by first | (simp; done) | (simp; omega) | omega)).trans (by first | assumption | (simp [go_sem]; done) | (simp [go_sem, *]; done))
  have k4a : ∀ ob, (w1.alloc ob).cell? ⟨w.heap.size + 1, 1, none⟩ = some (.int .i64 d) := fun ob => (((Ext.refl w1).alloc ob).cell 1 (by omega)).trans (by assumption)
  have k4b : ∀ ob oc, ((w1.alloc ob).alloc oc).cell? ⟨w.heap.size + 1, 1, none⟩ = some (.int .i64 d) := fun ob oc => ((((Ext.refl w1).alloc ob).alloc oc).cell 1 (by omega)).trans (by assumption)
  have k5 : w1.cell? ⟨w.heap.size + 1 + 1, 0, none⟩ = some (.int .i64 (0)) := (hx1.cell 0 (by first | (simp; done) | (simp; omega) | omega)).trans (by first | assumption | (simp [go_sem]; done) | (simp [go_sem, *]; done))
  have k5a : ∀ ob, (w1.alloc ob).cell? ⟨w.heap.size + 1 + 1, 0, none⟩ = some (.int .i64 (0)) := fun ob => (((Ext.refl w1).alloc ob).cell 0 (by omega)).trans (by assumption)
  have k5b : ∀ ob oc, ((w1.alloc ob).alloc oc).cell? ⟨w.heap.size + 1 + 1, 0, none⟩ = some (.int .i64 (0)) := fun ob oc => ((((Ext.refl w1).alloc ob).alloc oc).cell 0 (by omega)).trans (by assumption)
  have k6 : w1.cell? ⟨w.heap.size + 1 + 1, 1, none⟩ = some (.int .i64 (0)) := (hx1.cell 1 (by first | (simp; done) | (simp; omega) | omega)).trans (by first | assumption | (simp [go_sem]; done) | (simp [go_sem, *]; done))
  have k6a : ∀ ob, (w1.alloc ob).cell? ⟨w.heap.size + 1 + 1, 1, none⟩ = some (.int .i64 (0)) := fun ob => (((Ext.refl w1).alloc ob).cell 1 (by omega)).trans (by assumption)
  have k6b : ∀ ob oc, ((w1.alloc ob).alloc oc).cell? ⟨w.heap.size + 1 + 1, 1, none⟩ = some (.int .i64 (0)) := fun ob oc => ((((Ext.refl w1).alloc ob).alloc oc).cell 1 (by omega)).trans (by assumption)
  have z7 : w1.frozen? ⟨w.heap.size + 1 + 1, 0, none⟩ = false := (hx1.froz 0 (by first | (simp; done) | (simp; omega) | omega)).trans (by first | assumption | exact ((((Ext.refl _).alloc _).alloc _).froz _ (by omega)).trans (by assumption) | (simp [go_sem]; done) | (simp [go_sem, *]; done))
  have z8 : w1.frozen? ⟨w.heap.size + 1 + 1, 1, none⟩ = false := (hx1.froz 1 (by first | (simp; done) | (simp; omega) | omega)).trans (by first | assumption | exact ((((Ext.refl _).alloc _).alloc _).froz _ (by omega)).trans (by assumption) | (simp [go_sem]; done) | (simp [go_sem, *]; done))
  go_wp2_with fail
  refine (validSpan_any _ _ _).mono ?_
  rintro e w2 ⟨rfl, hx2⟩
  rw [e1]
  have hy := hx1.size
  (try simp at hy)
  have hz := hx2.size
  (try simp at hz)
  have k1 : w2.cell? ⟨w.heap.size, 0, none⟩ = some (.int .i64 a) := (hx2.cell 0 (by first | (simp; done) | (simp; omega) | omega)).trans (by first | assumption | (simp [go_sem]; done) | (simp [go_sem, *]; done))
  have k1a : ∀ ob, (w2.alloc ob).cell? ⟨w.heap.size, 0, none⟩ = some (.int .i64 a) := fun ob => (((Ext.refl w2).alloc ob).cell 0 (by omega)).trans (by assumption)
  have k1b : ∀ ob oc, ((w2.alloc ob).alloc oc).cell? ⟨w.heap.size, 0, none⟩ = some (.int .i64 a) := fun ob oc => ((((Ext.refl w2).alloc ob).alloc oc).cell 0 (by omega)).trans (by assumption)
  have k2 : w2.cell? ⟨w.heap.size, 1, none⟩ = some (.int .i64 b) := (hx2.cell 1 (by first | (simp; done) | (simp; omega) | omega)).trans (by first | assumption | (simp [go_sem]; done) | (simp [go_sem, *]; done))
  have k2a : ∀ ob, (w2.alloc ob).cell? ⟨w.heap.size, 1, none⟩ = some (.int .i64 b) := fun ob => (((Ext.refl w2).alloc ob).cell 1 (by omega)).trans (by assumption)
  have k2b : ∀ ob oc, ((w2.alloc ob).alloc oc).cell? ⟨w.heap.size, 1, none⟩ = some (.int .i64 b) := fun ob oc => ((((Ext.refl w2).alloc ob).alloc oc).cell 1 (by omega)).trans (by assumption)
  have k3 : w2.cell? ⟨w.heap.size + 1, 0, none⟩ = some (.int .i64 c) := (hx2.cell 0 (by first | (simp; done) | (simp; omega) | omega)).trans (by first | assumption | (simp [go_sem]; done) | (simp [go_sem, *]; done))
  have k3a : ∀ ob, (w2.alloc ob).cell? ⟨w.heap.size + 1, 0, none⟩ = some (.int .i64 c) := fun ob => (((Ext.refl w2).alloc ob).cell 0 (by omega)).trans (by assumption)
  have k3b : ∀ ob oc, ((w2.alloc ob).alloc oc).cell? ⟨w.heap.size + 1, 0, none⟩ = some (.int .i64 c) := fun ob oc => ((((Ext.refl w2).alloc ob).alloc oc).cell 0 (by omega)).trans (by assumption)
  have k4 : w2.cell? ⟨w.heap.size + 1, 1, none⟩ = some (.int .i64 d) := (hx2.cell 1 (by first | (simp; done) | (simp; omega) | omega)).trans (by first | assumption | (simp [go_sem]; done) | (simp [go_sem, *]; done))
  have k4a : ∀ ob, (w2.alloc ob).cell? ⟨w.heap.size + 1, 1, none⟩ = some (.int .i64 d) := fun ob => (((Ext.refl w2).alloc ob).cell 1 (by omega)).trans (by assumption)
  have k4b : ∀ ob oc, ((w2.alloc ob).alloc oc).cell? ⟨w.heap.size + 1, 1, none⟩ = some (.int .i64 d) := fun ob oc => ((((Ext.refl w2).alloc ob).alloc oc).cell 1 (by omega)).trans (by assumption)
  have k5 : w2.cell? ⟨w.heap.size + 1 + 1, 0, none⟩ = some (.int .i64 (0)) := (hx2.cell 0 (by first | (simp; done) | (simp; omega) | omega)).trans (by first | assumption | (simp [go_sem]; done) | (simp [go_sem, *]; done))
  have k5a : ∀ ob, (w2.alloc ob).cell? ⟨w.heap.size + 1 + 1, 0, none⟩ = some (.int .i64 (0)) := fun ob => (((Ext.refl w2).alloc ob).cell 0 (by omega)).trans (by assumption)
  have k5b : ∀ ob oc, ((w2.alloc ob).alloc oc).cell? ⟨w.heap.size + 1 + 1, 0, none⟩ = some (.int .i64 (0)) := fun ob oc => ((((Ext.refl w2).alloc ob).alloc oc).cell 0 (by omega)).trans (by assumption)
  have k6 : w2.cell? ⟨w.heap.size + 1 + 1, 1, none⟩ = some (.int .i64 (0)) := (hx2.cell 1 (by first | (simp; done) | (simp; omega) | omega)).trans (by first | assumption | (simp [go_sem]; done) | (simp [go_sem, *]; done))
  have k6a : ∀ ob, (w2.alloc ob).cell? ⟨w.heap.size + 1 + 1, 1, none⟩ = some (.int .i64 (0)) := fun ob => (((Ext.refl w2).alloc ob).cell 1 (by omega)).trans (by assumption)
  have k6b : ∀ ob oc, ((w2.alloc ob).alloc oc).cell? ⟨w.heap.size + 1 + 1, 1, none⟩ = some (.int .i64 (0)) := fun ob oc => ((((Ext.refl w2).alloc ob).alloc oc).cell 1 (by omega)).trans (by assumption)
  have k7 : w2.cell? ⟨w1.heap.size, 0, none⟩ = some (.int .i64 c) := (hx2.cell 0 (by first | (simp; done) | (simp; omega) | omega)).trans (by first | assumption | (simp [go_sem]; done) | (simp [go_sem, *]; done))
  have k7a : ∀ ob, (w2.alloc ob).cell? ⟨w1.heap.size, 0, none⟩ = some (.int .i64 c) := fun ob => (((Ext.refl w2).alloc ob).cell 0 (by omega)).trans (by assumption)
  have k7b : ∀ ob oc, ((w2.alloc ob).alloc oc).cell? ⟨w1.heap.size, 0, none⟩ = some (.int .i64 c) := fun ob oc => ((((Ext.refl w2).alloc ob).alloc oc).cell 0 (by omega)).trans (by assumption)
  have k8 : w2.cell? ⟨w1.heap.size, 1, none⟩ = some (.int .i64 (-1)) := (hx2.cell 1 (by first | (simp; done) | (simp; omega) | omega)).trans (by first | assumption | (simp [go_sem]; done) | (simp [go_sem, *]; done))
  have k8a : ∀ ob, (w2.alloc ob).cell? ⟨w1.heap.size, 1, none⟩ = some (.int .i64 (-1)) := fun ob => (((Ext.refl w2).alloc ob).cell 1 (by omega)).trans (by assumption)
  have k8b : ∀ ob oc, ((w2.alloc ob).alloc oc).cell? ⟨w1.heap.size, 1, none⟩ = some (.int .i64 (-1)) := fun ob oc => ((((Ext.refl w2).alloc ob).alloc oc).cell 1 (by omega)).trans (by assumption)
  have k9 : w2.cell? ⟨w1.heap.size + 1, 0, none⟩ = some (.int .i64 c) := (hx2.cell 0 (by first | (simp; done) | (simp; omega) | omega)).trans (by first | assumption | (simp [go_sem]; done) | (simp [go_sem, *]; done))
  have k9a : ∀ ob, (w2.alloc ob).cell? ⟨w1.heap.size + 1, 0, none⟩ = some (.int .i64 c) := fun ob => (((Ext.refl w2).alloc ob).cell 0 (by omega)).trans (by assumption)
  have k9b : ∀ ob oc, ((w2.alloc ob).alloc oc).cell? ⟨w1.heap.size + 1, 0, none⟩ = some (.int .i64 c) := fun ob oc => ((((Ext.refl w2).alloc ob).alloc oc).cell 0 (by omega)).trans (by assumption)
  have k10 : w2.cell? ⟨w1.heap.size + 1, 1, none⟩ = some (.int .i64 d) := (hx2.cell 1 (by first | (simp; done) | (simp; omega) | omega)).trans (by first | assumption | (simp [go_sem]; done) | (simp [go_sem, *]; done))
  have k10a : ∀ ob, (w2.alloc ob).cell? ⟨w1.heap.size + 1, 1, none⟩ = some (.int .i64 d) := fun ob => (((Ext.refl w2).alloc ob).cell 1 (by omega)).trans (by assumption)
  have k10b : ∀ ob oc, ((w2.alloc ob).alloc oc).cell? ⟨w1.heap.size + 1, 1, none⟩ = some (.int .i64 d) := fun ob oc => ((((Ext.refl w2).alloc ob).alloc oc).cell 1 (by omega)).trans (by assumption)
  have z11 : w2.frozen? ⟨w.heap.size + 1 + 1, 0, none⟩ = false := (hx2.froz 0 (by first | (simp; done) | (simp; omega) | omega)).trans (by first | assumption | exact ((((Ext.refl _).alloc _).alloc _).froz _ (by omega)).trans (by assumption) | (simp [go_sem]; done) | (simp [go_sem, *]; done))
  have z12 : w2.frozen? ⟨w.heap.size + 1 + 1, 1, none⟩ = false := (hx2.froz 1 (by first | (simp; done) | (simp; omega) | omega)).trans (by first | assumption | exact ((((Ext.refl _).alloc _).alloc _).froz _ (by omega)).trans (by assumption) | (simp [go_sem]; done) | (simp [go_sem, *]; done))
  go_wp2_with fail
  refine (reach_mn 87 Int.tdiv (fun x y => okB x = true ∧ y ≠ 0) (enters_of Try.func87 (by kernel_rfl) rfl) (fun x y w h => opQuo_any x y w h) _ _ _ _ ⟨oa, hp1⟩ ⟨oa, hp2⟩ ⟨ob, hp1⟩ ⟨ob, hp2⟩ _).mono ?_
  rintro e w3 ⟨rfl, hx3⟩
  have hz := hx3.size
  (try simp at hz)
  have k1 : w3.cell? ⟨w.heap.size, 0, none⟩ = some (.int .i64 a) := (hx3.cell 0 (by first | (simp; done) | (simp; omega) | omega)).trans (by first | assumption | (simp [go_sem]; done) | (simp [go_sem, *]; done))
  have k1a : ∀ ob, (w3.alloc ob).cell? ⟨w.heap.size, 0, none⟩ = some (.int .i64 a) := fun ob => (((Ext.refl w3).alloc ob).cell 0 (by omega)).trans (by assumption)
  have k1b : ∀ ob oc, ((w3.alloc ob).alloc oc).cell? ⟨w.heap.size, 0, none⟩ = some (.int .i64 a) := fun ob oc => ((((Ext.refl w3).alloc ob).alloc oc).cell 0 (by omega)).trans (by assumption)
  have k2 : w3.cell? ⟨w.heap.size, 1, none⟩ = some (.int .i64 b) := (hx3.cell 1 (by first | (simp; done) | (simp; omega) | omega)).trans (by first | assumption | (simp [go_sem]; done) | (simp [go_sem, *]; done))
  have k2a : ∀ ob, (w3.alloc ob).cell? ⟨w.heap.size, 1, none⟩ = some (.int .i64 b) := fun ob => (((Ext.refl w3).alloc ob).cell 1 (by omega)).trans (by assumption)
  have k2b : ∀ ob oc, ((w3.alloc ob).alloc oc).cell? ⟨w.heap.size, 1, none⟩ = some (.int .i64 b) := fun ob oc => ((((Ext.refl w3).alloc ob).alloc oc).cell 1 (by omega)).trans (by assumption)
  have k3 : w3.cell? ⟨w.heap.size + 1, 0, none⟩ = some (.int .i64 c) := (hx3.cell 0 (by first | (simp; done) | (simp; omega) | omega)).trans (by first | assumption | (simp [go_sem]; done) | (simp [go_sem, *]; done))
  have k3a : ∀ ob, (w3.alloc ob).cell? ⟨w.heap.size + 1, 0, none⟩ = some (.int .i64 c) := fun ob => (((Ext.refl w3).alloc ob).cell 0 (by omega)).trans (by assumption)
  have k3b : ∀ ob oc, ((w3.alloc ob).alloc oc).cell? ⟨w.heap.size + 1, 0, none⟩ = some (.int .i64 c) := fun ob oc => ((((Ext.refl w3).alloc ob).alloc oc).cell 0 (by omega)).trans (by assumption)
  have k4 : w3.cell? ⟨w.heap.size + 1, 1, none⟩ = some (.int .i64 d) := (hx3.cell 1 (by first | (simp; done) | (simp; omega) | omega)).trans (by first | assumption | (simp [go_sem]; done) | (simp [go_sem, *]; done))
  have k4a : ∀ ob, (w3.alloc ob).cell? ⟨w.heap.size + 1, 1, none⟩ = some (.int .i64 d) := fun ob => (((Ext.refl w3).alloc ob).cell 1 (by omega)).trans (by assumption)
  have k4b : ∀ ob oc, ((w3.alloc ob).alloc oc).cell? ⟨w.heap.size + 1, 1, none⟩ = some (.int .i64 d) := fun ob oc => ((((Ext.refl w3).alloc ob).alloc oc).cell 1 (by omega)).trans (by assumption)
  have k5 : w3.cell? ⟨w.heap.size + 1 + 1, 0, none⟩ = some (.int .i64 (0)) := (hx3.cell 0 (by first | (simp; done) | (simp; omega) | omega)).trans (by first | assumption | (simp [go_sem]; done) | (simp [go_sem, *]; done))
  have k5a : ∀ ob, (w3.alloc ob).cell? ⟨w.heap.size + 1 + 1, 0, none⟩ = some (.int .i64 (0)) := fun ob => (((Ext.refl w3).alloc ob).cell 0 (by omega)).trans (by assumption)
  have k5b : ∀ ob oc, ((w3.alloc ob).alloc oc).cell? ⟨w.heap.size + 1 + 1, 0, none⟩ = some (.int .i64 (0)) := fun ob oc => ((((Ext.refl w3).alloc ob).alloc oc).cell 0 (by omega)).trans (by assumption)
  have k6 : w3.cell? ⟨w.heap.size + 1 + 1, 1, none⟩ = some (.int .i64 (0)) := (hx3.cell 1 (by first | (simp; done) | (simp; omega) | omega)).trans (by first | assumption | (simp [go_sem]; done) | (simp [go_sem, *]; done))
  have k6a : ∀ ob, (w3.alloc ob).cell? ⟨w.heap.size + 1 + 1, 1, none⟩ = some (.int .i64 (0)) := fun ob => (((Ext.refl w3).alloc ob).cell 1 (by omega)).trans (by assumption)
  have k6b : ∀ ob oc, ((w3.alloc ob).alloc oc).cell? ⟨w.heap.size + 1 + 1, 1, none⟩ = some (.int .i64 (0)) := fun ob oc => ((((Ext.refl w3).alloc ob).alloc oc).cell 1 (by omega)).trans (by assumption)
  have z7 : w3.frozen? ⟨w.heap.size + 1 + 1, 0, none⟩ = false := (hx3.froz 0 (by first | (simp; done) | (simp; omega) | omega)).trans (by first | assumption | exact ((((Ext.refl _).alloc _).alloc _).froz _ (by omega)).trans (by assumption) | (simp [go_sem]; done) | (simp [go_sem, *]; done))
  have z8 : w3.frozen? ⟨w.heap.size + 1 + 1, 1, none⟩ = false := (hx3.froz 1 (by first | (simp; done) | (simp; omega) | omega)).trans (by first | assumption | exact ((((Ext.refl _).alloc _).alloc _).froz _ (by omega)).trans (by assumption) | (simp [go_sem]; done) | (simp [go_sem, *]; done))
  go_wp2_with fail
  go_region
  go_wp2
  obtain ⟨r0, r1⟩ := set_two (x := .int .i64 (mn4 Int.tdiv a b c d)) (y := .int .i64 (mx4 Int.tdiv a b c d)) k5 k6
  obtain ⟨r2, r3⟩ := set_two (x := .int .i64 (mn4 Int.tdiv a b c d)) (y := .int .i64 (mx4 Int.tdiv a b c d)) r0 r1
  refine bodyPost_ret (by simp [results, Try.results59, go_sem, *]; try rfl) rfl ?_
  exact ⟨rfl, by repeat (first | exact Ext.refl _ | assumption | refine Ext.drewN ?_ _ | refine Ext.drew ?_ | refine Ext.alloc ?_ _ | refine Ext.setCell ?_ (by dsimp only; omega) _ | refine Ext.trans ?_ (by assumption))⟩

set_option maxHeartbeats 8000000 in
theorem spanquo_zero (a b d : Int) (w : World) (v1 : spB a b = true) (v2 : spB 0 d = true) (hd : 0 < d) :
    Calls Try.prog 59 #[.agg #[.int .i64 a, .int .i64 b], .agg #[.int .i64 0, .int .i64 d]] w fun e w' => e = .returned (.tuple #[.agg #[.int .i64 (mn4 Int.tdiv a b 1 d), .int .i64 (mx4 Int.tdiv a b 1 d)], .bool true, .int .i64 0]) ∧ Ext w w' := by
  obtain ⟨oa, ob, hab⟩ := spB_t v1
  obtain ⟨oc, od, hcd⟩ := spB_t v2
  have hd0 : (d == 0) = false := by (simp; omega)
  have m1 : min d (-1) = -1 := by omega
  have e1 : spB 0 (-1) = false := by rw [Bool.eq_false_iff]; intro h; have := (spB_t h).2.2; omega
  have hp1 : (1 : Int) ≠ 0 := by omega
  have hp2 : d ≠ 0 := by omega
  have t1 : decide (0 ≤ d) = true := by (simp; omega)
  have hmf : ∀ (fn : Fn) (first cap : Array Value) (w : World), (Instr.makeFunc fn first cap).run Try.prog w = .ok (.func fn first cap) w := fun _ _ _ _ => rfl
  go_enter Try.func59, Try.ntmps59
  go_wp2_with fail
  refine (bothValidSpans_any _ _ _ _ _).mono ?_
  rintro e w1 ⟨rfl, hx1⟩
  rw [v1, v2]
  have hz := hx1.size
  (try simp at hz)
  have k1 : w1.cell? ⟨w.heap.size, 0, none⟩ = some (.int .i64 a) := (hx1.cell 0 (by first | (simp; done) | (simp; omega) | omega)).trans (by first | assumption | (simp [go_sem]; done) | (simp [go_sem, *]; done))
  have k1a : ∀ ob, (w1.alloc ob).cell? ⟨w.heap.size, 0, none⟩ = some (.int .i64 a) := fun ob => (((Ext.refl w1).alloc ob).cell 0 (by omega)).trans (by assumption)
  have k1b : ∀ ob oc, ((w1.alloc ob).alloc oc).cell? ⟨w.heap.size, 0, none⟩ = some (.int .i64 a) := fun ob oc => ((((Ext.refl w1).alloc ob).alloc oc).cell 0 (by omega)).trans (by assumption)
  have k2 : w1.cell? ⟨w.heap.size, 1, none⟩ = some (.int .i64 b) := (hx1.cell 1 (by first | (simp; done) | (simp; omega) | omega)).trans (by first | assumption | (simp [go_sem]; done) | (simp [go_sem, *]; done))
  have k2a : ∀ ob, (w1.alloc ob).cell? ⟨w.heap.size, 1, none⟩ = some (.int .i64 b) := fun ob => (((Ext.refl w1).alloc ob).cell 1 (by omega)).trans (by assumption)
  have k2b : ∀ ob oc, ((w1.alloc ob).alloc oc).cell? ⟨w.heap.size, 1, none⟩ = some (.int .i64 b) := fun ob oc => ((((Ext.refl w1).alloc ob).alloc oc).cell 1 (by omega)).trans (by assumption)
  have k3 : w1.cell? ⟨w.heap.size + 1, 0, none⟩ = some (.int .i64 (0)) := (hx1.cell 0 (by first | (simp; done) | (simp; omega) | omega)).trans (by first | assumption | (simp [go_sem]; done) | (simp [go_sem, *]; done))
  have k3a : ∀ ob, (w1.alloc ob).cell? ⟨w.heap.size + 1, 0, none⟩ = some (.int .i64 (0)) := fun ob => (((Ext.refl w1).alloc ob).cell 0 (by omega)).trans (by assumption)
  have k3b : ∀ ob oc, ((w1.alloc ob).alloc oc).cell? ⟨w.heap.size + 1, 0, none⟩ = some (.int .i64 (0)) := fun ob oc => ((((Ext.refl w1).alloc ob).alloc oc).cell 0 (by omega)).trans (by assumption)
  have k4 : w1.cell? ⟨w.heap.size + 1, 1, none⟩ = some (.int .i64 d) := (hx1.cell 1 (by first | (simp; done) | (simp; omega) | omega)).trans (by first | assumption | (simp [go_sem]; done) | (simp [go_sem, *]; done))
  have k4a : ∀ ob, (w1.alloc ob).cell? ⟨w.heap.size + 1, 1, none⟩ = some (.int .i64 d) := fun ob => (((Ext.refl w1).alloc ob).cell 1 (by omega)).trans (by assumption)
  have k4b : ∀ ob oc, ((w1.alloc ob).alloc oc).cell? ⟨w.heap.size + 1, 1, none⟩ = some (.int .i64 d) := fun ob oc => ((((Ext.refl w1).alloc ob).alloc oc).cell 1 (by omega)).trans (by assumption)
  have k5 : w1.cell? ⟨w.heap.size + 1 + 1, 0, none⟩ = some (.int .i64 (0)) := (hx1.cell 0 (by first | (simp; done) | (simp; omega) | omega)).trans (by first | assumption | (simp [go_sem]; done) | (simp [go_sem, *]; done))
  have k5a : ∀ ob, (w1.alloc ob).cell? ⟨w.heap.size + 1 + 1, 0, none⟩ = some (.int .i64 (0)) := fun ob => (((Ext.refl w1).alloc ob).cell 0 (by omega)).trans (by assumption)
  have k5b : ∀ ob oc, ((w1.alloc ob).alloc oc).cell? ⟨w.heap.size + 1 + 1, 0, none⟩ = some (.int .i64 (0)) := fun ob oc => ((((Ext.refl w1).alloc ob).alloc oc).cell 0 (by omega)).trans (by assumption)
  have k6 : w1.cell? ⟨w.heap.size + 1 + 1, 1, none⟩ = some (.int .i64 (0)) := (hx1.cell 1 (by first | (simp; done) | (simp; omega) | omega)).trans (by first | assumption | (simp [go_sem]; done) | (simp [go_sem, *]; done))
  have k6a : ∀ ob, (w1.alloc ob).cell? ⟨w.heap.size + 1 + 1, 1, none⟩ = some (.int .i64 (0)) := fun ob => (((Ext.refl w1).alloc ob).cell 1 (by omega)).trans (by assumption)
  have k6b : ∀ ob oc, ((w1.alloc ob).alloc oc).cell? ⟨w.heap.size + 1 + 1, 1, none⟩ = some (.int .i64 (0)) := fun ob oc => ((((Ext.refl w1).alloc ob).alloc oc).cell 1 (by omega)).trans (by assumption)
  have z7 : w1.frozen? ⟨w.heap.size + 1 + 1, 0, none⟩ = false := (hx1.froz 0 (by first | (simp; done) | (simp; omega) | omega)).trans (by first | assumption | exact ((((Ext.refl _).alloc _).alloc _).froz _ (by omega)).trans (by assumption) | (simp [go_sem]; done) | (simp [go_sem, *]; done))
  have z8 : w1.frozen? ⟨w.heap.size + 1 + 1, 1, none⟩ = false := (hx1.froz 1 (by first | (simp; done) | (simp; omega) | omega)).trans (by first | assumption | exact ((((Ext.refl _).alloc _).alloc _).froz _ (by omega)).trans (by assumption) | (simp [go_sem]; done) | (simp [go_sem, *]; done))
  go_wp2_with fail
  refine (validSpan_any _ _ _).mono ?_
  rintro e w2 ⟨rfl, hx2⟩
  rw [e1]
  have hy := hx1.size
  (try simp at hy)
  have hz := hx2.size
  (try simp at hz)
  have k1 : w2.cell? ⟨w.heap.size, 0, none⟩ = some (.int .i64 a) := (hx2.cell 0 (by first | (simp; done) | (simp; omega) | omega)).trans (by first | assumption | (simp [go_sem]; done) | (simp [go_sem, *]; done))
  have k1a : ∀ ob, (w2.alloc ob).cell? ⟨w.heap.size, 0, none⟩ = some (.int .i64 a) := fun ob => (((Ext.refl w2).alloc ob).cell 0 (by omega)).trans (by assumption)
  have k1b : ∀ ob oc, ((w2.alloc ob).alloc oc).cell? ⟨w.heap.size, 0, none⟩ = some (.int .i64 a) := fun ob oc => ((((Ext.refl w2).alloc ob).alloc oc).cell 0 (by omega)).trans (by assumption)
  have k2 : w2.cell? ⟨w.heap.size, 1, none⟩ = some (.int .i64 b) := (hx2.cell 1 (by first | (simp; done) | (simp; omega) | omega)).trans (by first | assumption | (simp [go_sem]; done) | (simp [go_sem, *]; done))
  have k2a : ∀ ob, (w2.alloc ob).cell? ⟨w.heap.size, 1, none⟩ = some (.int .i64 b) := fun ob => (((Ext.refl w2).alloc ob).cell 1 (by omega)).trans (by assumption)
  have k2b : ∀ ob oc, ((w2.alloc ob).alloc oc).cell? ⟨w.heap.size, 1, none⟩ = some (.int .i64 b) := fun ob oc => ((((Ext.refl w2).alloc ob).alloc oc).cell 1 (by omega)).trans (by assumption)
  have k3 : w2.cell? ⟨w.heap.size + 1, 0, none⟩ = some (.int .i64 (0)) := (hx2.cell 0 (by first | (simp; done) | (simp; omega) | omega)).trans (by first | assumption | (simp [go_sem]; done) | (simp [go_sem, *]; done))
  have k3a : ∀ ob, (w2.alloc ob).cell? ⟨w.heap.size + 1, 0, none⟩ = some (.int .i64 (0)) := fun ob => (((Ext.refl w2).alloc ob).cell 0 (by omega)).trans (by assumption)
  have k3b : ∀ ob oc, ((w2.alloc ob).alloc oc).cell? ⟨w.heap.size + 1, 0, none⟩ = some (.int .i64 (0)) := fun ob oc => ((((Ext.refl w2).alloc ob).alloc oc).cell 0 (by omega)).trans (by assumption)
  have k4 : w2.cell? ⟨w.heap.size + 1, 1, none⟩ = some (.int .i64 d) := (hx2.cell 1 (by first | (simp; done) | (simp; omega) | omega)).trans (by first | assumption | (simp [go_sem]; done) | (simp [go_sem, *]; done))
  have k4a : ∀ ob, (w2.alloc ob).cell? ⟨w.heap.size + 1, 1, none⟩ = some (.int .i64 d) := fun ob => (((Ext.refl w2).alloc ob).cell 1 (by omega)).trans (by assumption)
  have k4b : ∀ ob oc, ((w2.alloc ob).alloc oc).cell? ⟨w.heap.size + 1, 1, none⟩ = some (.int .i64 d) := fun ob oc => ((((Ext.refl w2).alloc ob).alloc oc).cell 1 (by omega)).trans (by assumption)
  have k5 : w2.cell? ⟨w.heap.size + 1 + 1, 0, none⟩ = some (.int .i64 (0)) := (hx2.cell 0 (by first | (simp; done) | (simp; omega) | omega)).trans (by first | assumption | (simp [go_sem]; done) | (simp [go_sem, *]; done))
  have k5a : ∀ ob, (w2.alloc ob).cell? ⟨w.heap.size + 1 + 1, 0, none⟩ = some (.int .i64 (0)) := fun ob => (((Ext.refl w2).alloc ob).cell 0 (by omega)).trans (by assumption)
  have k5b : ∀ ob oc, ((w2.alloc ob).alloc oc).cell? ⟨w.heap.size + 1 + 1, 0, none⟩ = some (.int .i64 (0)) := fun ob oc => ((((Ext.refl w2).alloc ob).alloc oc).cell 0 (by omega)).trans (by assumption)
  have k6 : w2.cell? ⟨w.heap.size + 1 + 1, 1, none⟩ = some (.int .i64 (0)) := (hx2.cell 1 (by first | (simp; done) | (simp; omega) | omega)).trans (by first | assumption | (simp [go_sem]; done) | (simp [go_sem, *]; done))
  have k6a : ∀ ob, (w2.alloc ob).cell? ⟨w.heap.size + 1 + 1, 1, none⟩ = some (.int .i64 (0)) := fun ob => (((Ext.refl w2).alloc ob).cell 1 (by omega)).trans (by assumption)
  have k6b : ∀ ob oc, ((w2.alloc ob).alloc oc).cell? ⟨w.heap.size + 1 + 1, 1, none⟩ = some (.int .i64 (0)) := fun ob oc => ((((Ext.refl w2).alloc ob).alloc oc).cell 1 (by omega)).trans (by assumption)
  have k7 : w2.cell? ⟨w1.heap.size, 0, none⟩ = some (.int .i64 (0)) := (hx2.cell 0 (by first | (simp; done) | (simp; omega) | omega)).trans (by first | assumption | (simp [go_sem]; done) | (simp [go_sem, *]; done))
  have k7a : ∀ ob, (w2.alloc ob).cell? ⟨w1.heap.size, 0, none⟩ = some (.int .i64 (0)) := fun ob => (((Ext.refl w2).alloc ob).cell 0 (by omega)).trans (by assumption)
  have k7b : ∀ ob oc, ((w2.alloc ob).alloc oc).cell? ⟨w1.heap.size, 0, none⟩ = some (.int .i64 (0)) := fun ob oc => ((((Ext.refl w2).alloc ob).alloc oc).cell 0 (by omega)).trans (by assumption)
  have k8 : w2.cell? ⟨w1.heap.size, 1, none⟩ = some (.int .i64 (-1)) := (hx2.cell 1 (by first | (simp; done) | (simp; omega) | omega)).trans (by first | assumption | (simp [go_sem]; done) | (simp [go_sem, *]; done))
  have k8a : ∀ ob, (w2.alloc ob).cell? ⟨w1.heap.size, 1, none⟩ = some (.int .i64 (-1)) := fun ob => (((Ext.refl w2).alloc ob).cell 1 (by omega)).trans (by assumption)
  have k8b : ∀ ob oc, ((w2.alloc ob).alloc oc).cell? ⟨w1.heap.size, 1, none⟩ = some (.int .i64 (-1)) := fun ob oc => ((((Ext.refl w2).alloc ob).alloc oc).cell 1 (by omega)).trans (by assumption)
  have k9 : w2.cell? ⟨w1.heap.size + 1, 0, none⟩ = some (.int .i64 (1)) := (hx2.cell 0 (by first | (simp; done) | (simp; omega) | omega)).trans (by first | assumption | (simp [go_sem]; done) | (simp [go_sem, *]; done))
  have k9a : ∀ ob, (w2.alloc ob).cell? ⟨w1.heap.size + 1, 0, none⟩ = some (.int .i64 (1)) := fun ob => (((Ext.refl w2).alloc ob).cell 0 (by omega)).trans (by assumption)
  have k9b : ∀ ob oc, ((w2.alloc ob).alloc oc).cell? ⟨w1.heap.size + 1, 0, none⟩ = some (.int .i64 (1)) := fun ob oc => ((((Ext.refl w2).alloc ob).alloc oc).cell 0 (by omega)).trans (by assumption)
  have k10 : w2.cell? ⟨w1.heap.size + 1, 1, none⟩ = some (.int .i64 d) := (hx2.cell 1 (by first | (simp; done) | (simp; omega) | omega)).trans (by first | assumption | (simp [go_sem]; done) | (simp [go_sem, *]; done))
  have k10a : ∀ ob, (w2.alloc ob).cell? ⟨w1.heap.size + 1, 1, none⟩ = some (.int .i64 d) := fun ob => (((Ext.refl w2).alloc ob).cell 1 (by omega)).trans (by assumption)
  have k10b : ∀ ob oc, ((w2.alloc ob).alloc oc).cell? ⟨w1.heap.size + 1, 1, none⟩ = some (.int .i64 d) := fun ob oc => ((((Ext.refl w2).alloc ob).alloc oc).cell 1 (by omega)).trans (by assumption)
  have z11 : w2.frozen? ⟨w.heap.size + 1 + 1, 0, none⟩ = false := (hx2.froz 0 (by first | (simp; done) | (simp; omega) | omega)).trans (by first | assumption | exact ((((Ext.refl _).alloc _).alloc _).froz _ (by omega)).trans (by assumption) | (simp [go_sem]; done) | (simp [go_sem, *]; done))
  have z12 : w2.frozen? ⟨w.heap.size + 1 + 1, 1, none⟩ = false := (hx2.froz 1 (by first | (simp; done) | (simp; omega) | omega)).trans (by first | assumption | exact ((((Ext.refl _).alloc _).alloc _).froz _ (by omega)).trans (by assumption) | (simp [go_sem]; done) | (simp [go_sem, *]; done))
  go_wp2_with fail
  refine (reach_mn 87 Int.tdiv (fun x y => okB x = true ∧ y ≠ 0) (enters_of Try.func87 (by kernel_rfl) rfl) (fun x y w h => opQuo_any x y w h) _ _ _ _ ⟨oa, hp1⟩ ⟨oa, hp2⟩ ⟨ob, hp1⟩ ⟨ob, hp2⟩ _).mono ?_
  rintro e w3 ⟨rfl, hx3⟩
  have hz := hx3.size
  (try simp at hz)
  have k1 : w3.cell? ⟨w.heap.size, 0, none⟩ = some (.int .i64 a) := (hx3.cell 0 (by first | (simp; done) | (simp; omega) | omega)).trans (by first | assumption | (simp [go_sem]; done) | (simp [go_sem, *]; done))
  have k1a : ∀ ob, (w3.alloc ob).cell? ⟨w.heap.size, 0, none⟩ = some (.int .i64 a) := fun ob => (((Ext.refl w3).alloc ob).cell 0 (by omega)).trans (by assumption)
  have k1b : ∀ ob oc, ((w3.alloc ob).alloc oc).cell? ⟨w.heap.size, 0, none⟩ = some (.int .i64 a) := fun ob oc => ((((Ext.refl w3).alloc ob).alloc oc).cell 0 (by omega)).trans (by assumption)
  have k2 : w3.cell? ⟨w.heap.size, 1, none⟩ = some (.int .i64 b) := (hx3.cell 1 (by first | (simp; done) | (simp; omega) | omega)).trans (by first | assumption | (simp [go_sem]; done) | (simp [go_sem, *]; done))
  have k2a : ∀ ob, (w3.alloc ob).cell? ⟨w.heap.size, 1, none⟩ = some (.int .i64 b) := fun ob => (((Ext.refl w3).alloc ob).cell 1 (by omega)).trans (by assumption)
  have k2b : ∀ ob oc, ((w3.alloc ob).alloc oc).cell? ⟨w.heap.size, 1, none⟩ = some (.int .i64 b) := fun ob oc => ((((Ext.refl w3).alloc ob).alloc oc).cell 1 (by omega)).trans (by assumption)
  have k3 : w3.cell? ⟨w.heap.size + 1, 0, none⟩ = some (.int .i64 (0)) := (hx3.cell 0 (by first | (simp; done) | (simp; omega) | omega)).trans (by first | assumption | (simp [go_sem]; done) | (simp [go_sem, *]; done))
  have k3a : ∀ ob, (w3.alloc ob).cell? ⟨w.heap.size + 1, 0, none⟩ = some (.int .i64 (0)) := fun ob => (((Ext.refl w3).alloc ob).cell 0 (by omega)).trans (by assumption)
  have k3b : ∀ ob oc, ((w3.alloc ob).alloc oc).cell? ⟨w.heap.size + 1, 0, none⟩ = some (.int .i64 (0)) := fun ob oc => ((((Ext.refl w3).alloc ob).alloc oc).cell 0 (by omega)).trans (by assumption)
  have k4 : w3.cell? ⟨w.heap.size + 1, 1, none⟩ = some (.int .i64 d) := (hx3.cell 1 (by first | (simp; done) | (simp; omega) | omega)).trans (by first | assumption | (simp [go_sem]; done) | (simp [go_sem, *]; done))
  have k4a : ∀ ob, (w3.alloc ob).cell? ⟨w.heap.size + 1, 1, none⟩ = some (.int .i64 d) := fun ob => (((Ext.refl w3).alloc ob).cell 1 (by omega)).trans (by assumption)
  have k4b : ∀ ob oc, ((w3.alloc ob).alloc oc).cell? ⟨w.heap.size + 1, 1, none⟩ = some (.int .i64 d) := fun ob oc => ((((Ext.refl w3).alloc ob).alloc oc).cell 1 (by omega)).trans (by assumption)
  have k5 : w3.cell? ⟨w.heap.size + 1 + 1, 0, none⟩ = some (.int .i64 (0)) := (hx3.cell 0 (by first | (simp; done) | (simp; omega) | omega)).trans (by first | assumption | (simp [go_sem]; done) | (simp [go_sem, *]; done))
  have k5a : ∀ ob, (w3.alloc ob).cell? ⟨w.heap.size + 1 + 1, 0, none⟩ = some (.int .i64 (0)) := fun ob => (((Ext.refl w3).alloc ob).cell 0 (by omega)).trans (by assumption)
  have k5b : ∀ ob oc, ((w3.alloc ob).alloc oc).cell? ⟨w.heap.size + 1 + 1, 0, none⟩ = some (.int .i64 (0)) := fun ob oc => ((((Ext.refl w3).alloc ob).alloc oc).cell 0 (by omega)).trans (by assumption)
  have k6 : w3.cell? ⟨w.heap.size + 1 + 1, 1, none⟩ = some (.int .i64 (0)) := (hx3.cell 1 (by first | (simp; done) | (simp; omega) | omega)).trans (by first | assumption | (simp [go_sem]; done) | (simp [go_sem, *]; done))
  have k6a : ∀ ob, (w3.alloc ob).cell? ⟨w.heap.size + 1 + 1, 1, none⟩ = some (.int .i64 (0)) := fun ob => (((Ext.refl w3).alloc ob).cell 1 (by omega)).trans (by assumption)
  have k6b : ∀ ob oc, ((w3.alloc ob).alloc oc).cell? ⟨w.heap.size + 1 + 1, 1, none⟩ = some (.int .i64 (0)) := fun ob oc => ((((Ext.refl w3).alloc ob).alloc oc).cell 1 (by omega)).trans (by assumption)
  have z7 : w3.frozen? ⟨w.heap.size + 1 + 1, 0, none⟩ = false := (hx3.froz 0 (by first | (simp; done) | (simp; omega) | omega)).trans (by first | assumption | exact ((((Ext.refl _).alloc _).alloc _).froz _ (by omega)).trans (by assumption) | (simp [go_sem]; done) | (simp [go_sem, *]; done))
  have z8 : w3.frozen? ⟨w.heap.size + 1 + 1, 1, none⟩ = false := (hx3.froz 1 (by first | (simp; done) | (simp; omega) | omega)).trans (by first | assumption | exact ((((Ext.refl _).alloc _).alloc _).froz _ (by omega)).trans (by assumption) | (simp [go_sem]; done) | (simp [go_sem, *]; done))
  go_wp2_with fail
  go_region
  go_wp2
  obtain ⟨r0, r1⟩ := set_two (x := .int .i64 (mn4 Int.tdiv a b 1 d)) (y := .int .i64 (mx4 Int.tdiv a b 1 d)) k5 k6
  obtain ⟨r2, r3⟩ := set_two (x := .int .i64 (mn4 Int.tdiv a b 1 d)) (y := .int .i64 (mx4 Int.tdiv a b 1 d)) r0 r1
  refine bodyPost_ret (by simp [results, Try.results59, go_sem, *]; try rfl) rfl ?_
  exact ⟨rfl, by repeat (first | exact Ext.refl _ | assumption | refine Ext.drewN ?_ _ | refine Ext.drew ?_ | refine Ext.alloc ?_ _ | refine Ext.setCell ?_ (by dsimp only; omega) _ | refine Ext.trans ?_ (by assumption))⟩

set_option maxHeartbeats 8000000 in
theorem spanquo_neg (a b c d : Int) (w : World) (v1 : spB a b = true) (v2 : spB c d = true) (hd : d < 0) :
    Calls Try.prog 59 #[.agg #[.int .i64 a, .int .i64 b], .agg #[.int .i64 c, .int .i64 d]] w fun e w' => e = .returned (.tuple #[.agg #[.int .i64 (mn4 Int.tdiv a b c d), .int .i64 (mx4 Int.tdiv a b c d)], .bool false, .int .i64 0]) ∧ Ext w w' := by
  obtain ⟨oa, ob, hab⟩ := spB_t v1
  obtain ⟨oc, od, hcd⟩ := spB_t v2
  have hc0 : (c == 0) = false := by (simp; omega)
  have hd0 : (d == 0) = false := by (simp; omega)
  have m1 : min d (-1) = d := by omega
  have m2 : max c 1 = 1 := by omega
  have e2 : spB 1 d = false := by rw [Bool.eq_false_iff]; intro h; have := (spB_t h).2.2; omega
  have hn1 : c ≠ 0 := by omega
  have hn2 : d ≠ 0 := by omega
  have t1 : decide (c ≤ 0) = true := by (simp; omega)
  have t2 : decide (0 ≤ d) = false := by (simp; omega)
  have hmf : ∀ (fn : Fn) (first cap : Array Value) (w : World), (Instr.makeFunc fn first cap).run Try.prog w = .ok (.func fn first cap) w := fun _ _ _ _ => rfl
  go_enter Try.func59, Try.ntmps59
  go_wp2_with fail
  refine (bothValidSpans_any _ _ _ _ _).mono ?_
  rintro e w1 ⟨rfl, hx1⟩
  rw [v1, v2]
  have hz := hx1.size
  (try simp at hz)
  have k1 : w1.cell? ⟨w.heap.size, 0, none⟩ = some (.int .i64 a) := (hx1.cell 0 (by first | (simp; done) | (simp; omega) | omega)).trans (by first | assumption | (simp [go_sem]; done) | (simp [go_sem, *]; done))
  have k1a : ∀ ob, (w1.alloc ob).cell? ⟨w.heap.size, 0, none⟩ = some (.int .i64 a) := fun ob => (((Ext.refl w1).alloc ob).cell 0 (by omega)).trans (by assumption)
  have k1b : ∀ ob oc, ((w1.alloc ob).alloc oc).cell? ⟨w.heap.size, 0, none⟩ = some (.int .i64 a) := fun ob oc => ((((Ext.refl w1).alloc ob).alloc oc).cell 0 (by omega)).trans (by assumption)
  have k2 : w1.cell? ⟨w.heap.size, 1, none⟩ = some (.int .i64 b) := (hx1.cell 1 (by first | (simp; done) | (simp; omega) | omega)).trans (by first | assumption | (simp [go_sem]; done) | (simp [go_sem, *]; done))
  have k2a : ∀ ob, (w1.alloc ob).cell? ⟨w.heap.size, 1, none⟩ = some (.int .i64 b) := fun ob => (((Ext.refl w1).alloc ob).cell 1 (by omega)).trans (by assumption)
  have k2b : ∀ ob oc, ((w1.alloc ob).alloc oc).cell? ⟨w.heap.size, 1, none⟩ = some (.int .i64 b) := fun ob oc => ((((Ext.refl w1).alloc ob).alloc oc).cell 1 (by omega)).trans (by assumption)
  have k3 : w1.cell? ⟨w.heap.size + 1, 0, none⟩ = some (.int .i64 c) := (hx1.cell 0 (by first | (simp; done) | (simp; omega) | omega)).trans (by first | assumption | (simp [go_sem]; done) | (simp [go_sem, *]; done))
  have k3a : ∀ ob, (w1.alloc ob).cell? ⟨w.heap.size + 1, 0, none⟩ = some (.int .i64 c) := fun ob => (((Ext.refl w1).alloc ob).cell 0 (by omega)).trans (by assumption)
  have k3b : ∀ ob oc, ((w1.alloc ob).alloc oc).cell? ⟨w.heap.size + 1, 0, none⟩ = some (.int .i64 c) := fun ob oc => ((((Ext.refl w1).alloc ob).alloc oc).cell 0 (by omega)).trans (by assumption)
  have k4 : w1.cell? ⟨w.heap.size + 1, 1, none⟩ = some (.int .i64 d) := (hx1.cell 1 (by first | (simp; done) | (simp; omega) | omega)).trans (by first | assumption | (simp [go_sem]; done) | (simp [go_sem, *]; done))
  have k4a : ∀ ob, (w1.alloc ob).cell? ⟨w.heap.size + 1, 1, none⟩ = some (.int .i64 d) := fun ob => (((Ext.refl w1).alloc ob).cell 1 (by omega)).trans (by assumption)
  have k4b : ∀ ob oc, ((w1.alloc ob).alloc oc).cell? ⟨w.heap.size + 1, 1, none⟩ = some (.int .i64 d) := fun ob oc => ((((Ext.refl w1).alloc ob).alloc oc).cell 1 (by omega)).trans (by assumption)
  have k5 : w1.cell? ⟨w.heap.size + 1 + 1, 0, none⟩ = some (.int .i64 (0)) := (hx1.cell 0 (by first | (simp; done) | (simp; omega) | omega)).trans (by first | assumption | (simp [go_sem]; done) | (simp [go_sem, *]; done))
  have k5a : ∀ ob, (w1.alloc ob).cell? ⟨w.heap.size + 1 + 1, 0, none⟩ = some (.int .i64 (0)) := fun ob => (((Ext.refl w1).alloc ob).cell 0 (by omega)).trans (by assumption)
  have k5b : ∀ ob oc, ((w1.alloc ob).alloc oc).cell? ⟨w.heap.size + 1 + 1, 0, none⟩ = some (.int .i64 (0)) := fun ob oc => ((((Ext.refl w1).alloc ob).alloc oc).cell 0 (by omega)).trans (by assumption)
  have k6 : w1.cell? ⟨w.heap.size + 1 + 1, 1, none⟩ = some (.int .i64 (0)) := (hx1.cell 1 (by first | (simp; done) | (simp; omega) | omega)).trans (by first | assumption | (simp [go_sem]; done) | (simp [go_sem, *]; done))
  have k6a : ∀ ob, (w1.alloc ob).cell? ⟨w.heap.size + 1 + 1, 1, none⟩ = some (.int .i64 (0)) := fun ob => (((Ext.refl w1).alloc ob).cell 1 (by omega)).trans (by assumption)
  have k6b : ∀ ob oc, ((w1.alloc ob).alloc oc).cell? ⟨w.heap.size + 1 + 1, 1, none⟩ = some (.int .i64 (0)) := fun ob oc => ((((Ext.refl w1).alloc ob).alloc oc).cell 1 (by omega)).trans (by assumption)
  have z7 : w1.frozen? ⟨w.heap.size + 1 + 1, 0, none⟩ = false := (hx1.froz 0 (by first | (simp; done) | (simp; omega) | omega)).trans (by first | assumption | exact ((((Ext.refl _).alloc _).alloc _).froz _ (by omega)).trans (by assumption) | (simp [go_sem]; done) | (simp [go_sem, *]; done))
  have z8 : w1.frozen? ⟨w.heap.size + 1 + 1, 1, none⟩ = false := (hx1.froz 1 (by first | (simp; done) | (simp; omega) | omega)).trans (by first | assumption | exact ((((Ext.refl _).alloc _).alloc _).froz _ (by omega)).trans (by assumption) | (simp [go_sem]; done) | (simp [go_sem, *]; done))
  go_wp2_with fail
  refine (validSpan_any _ _ _).mono ?_
  rintro e w2 ⟨rfl, hx2⟩
  rw [v2]
  have hy := hx1.size
  (try simp at hy)
  have hz := hx2.size
  (try simp at hz)
  have k1 : w2.cell? ⟨w.heap.size, 0, none⟩ = some (.int .i64 a) := (hx2.cell 0 (by first | (simp; done) | (simp; omega) | omega)).trans (by first | assumption | (simp [go_sem]; done) | (simp [go_sem, *]; done))
  have k1a : ∀ ob, (w2.alloc ob).cell? ⟨w.heap.size, 0, none⟩ = some (.int .i64 a) := fun ob => (((Ext.refl w2).alloc ob).cell 0 (by omega)).trans (by assumption)
  have k1b : ∀ ob oc, ((w2.alloc ob).alloc oc).cell? ⟨w.heap.size, 0, none⟩ = some (.int .i64 a) := fun ob oc => ((((Ext.refl w2).alloc ob).alloc oc).cell 0 (by omega)).trans (by assumption)
  have k2 : w2.cell? ⟨w.heap.size, 1, none⟩ = some (.int .i64 b) := (hx2.cell 1 (by first | (simp; done) | (simp; omega) | omega)).trans (by first | assumption | (simp [go_sem]; done) | (simp [go_sem, *]; done))
  have k2a : ∀ ob, (w2.alloc ob).cell? ⟨w.heap.size, 1, none⟩ = some (.int .i64 b) := fun ob => (((Ext.refl w2).alloc ob).cell 1 (by omega)).trans (by assumption)
  have k2b : ∀ ob oc, ((w2.alloc ob).alloc oc).cell? ⟨w.heap.size, 1, none⟩ = some (.int .i64 b) := fun ob oc => ((((Ext.refl w2).alloc ob).alloc oc).cell 1 (by omega)).trans (by assumption)
  have k3 : w2.cell? ⟨w.heap.size + 1, 0, none⟩ = some (.int .i64 c) := (hx2.cell 0 (by first | (simp; done) | (simp; omega) | omega)).trans (by first | assumption | (simp [go_sem]; done) | (simp [go_sem, *]; done))
  have k3a : ∀ ob, (w2.alloc ob).cell? ⟨w.heap.size + 1, 0, none⟩ = some (.int .i64 c) := fun ob => (((Ext.refl w2).alloc ob).cell 0 (by omega)).trans (by assumption)
  have k3b : ∀ ob oc, ((w2.alloc ob).alloc oc).cell? ⟨w.heap.size + 1, 0, none⟩ = some (.int .i64 c) := fun ob oc => ((((Ext.refl w2).alloc ob).alloc oc).cell 0 (by omega)).trans (by assumption)
  have k4 : w2.cell? ⟨w.heap.size + 1, 1, none⟩ = some (.int .i64 d) := (hx2.cell 1 (by first | (simp; done) | (simp; omega) | omega)).trans (by first | assumption | (simp [go_sem]; done) | (simp [go_sem, *]; done))
  have k4a : ∀ ob, (w2.alloc ob).cell? ⟨w.heap.size + 1, 1, none⟩ = some (.int .i64 d) := fun ob => (((Ext.refl w2).alloc ob).cell 1 (by omega)).trans (by assumption)
  have k4b : ∀ ob oc, ((w2.alloc ob).alloc oc).cell? ⟨w.heap.size + 1, 1, none⟩ = some (.int .i64 d) := fun ob oc => ((((Ext.refl w2).alloc ob).alloc oc).cell 1 (by omega)).trans (by assumption)
  have k5 : w2.cell? ⟨w.heap.size + 1 + 1, 0, none⟩ = some (.int .i64 (0)) := (hx2.cell 0 (by first | (simp; done) | (simp; omega) | omega)).trans (by first | assumption | (simp [go_sem]; done) | (simp [go_sem, *]; done))
  have k5a : ∀ ob, (w2.alloc ob).cell? ⟨w.heap.size + 1 + 1, 0, none⟩ = some (.int .i64 (0)) := fun ob => (((Ext.refl w2).alloc ob).cell 0 (by omega)).trans (by assumption)
  have k5b : ∀ ob oc, ((w2.alloc ob).alloc oc).cell? ⟨w.heap.size + 1 + 1, 0, none⟩ = some (.int .i64 (0)) := fun ob oc => ((((Ext.refl w2).alloc ob).alloc oc).cell 0 (by omega)).trans (by assumption)
  have k6 : w2.cell? ⟨w.heap.size + 1 + 1, 1, none⟩ = some (.int .i64 (0)) := (hx2.cell 1 (by first | (simp; done) | (simp; omega) | omega)).trans (by first | assumption | (simp [go_sem]; done) | (simp [go_sem, *]; done))
  have k6a : ∀ ob, (w2.alloc ob).cell? ⟨w.heap.size + 1 + 1, 1, none⟩ = some (.int .i64 (0)) := fun ob => (((Ext.refl w2).alloc ob).cell 1 (by omega)).trans (by assumption)
  have k6b : ∀ ob oc, ((w2.alloc ob).alloc oc).cell? ⟨w.heap.size + 1 + 1, 1, none⟩ = some (.int .i64 (0)) := fun ob oc => ((((Ext.refl w2).alloc ob).alloc oc).cell 1 (by omega)).trans (by assumption)
  have k7 : w2.cell? ⟨w1.heap.size, 0, none⟩ = some (.int .i64 c) := (hx2.cell 0 (by first | (simp; done) | (simp; omega) | omega)).trans (by first | assumption | (simp [go_sem]; done) | (simp [go_sem, *]; done))
  have k7a : ∀ ob, (w2.alloc ob).cell? ⟨w1.heap.size, 0, none⟩ = some (.int .i64 c) := fun ob => (((Ext.refl w2).alloc ob).cell 0 (by omega)).trans (by assumption)
  have k7b : ∀ ob oc, ((w2.alloc ob).alloc oc).cell? ⟨w1.heap.size, 0, none⟩ = some (.int .i64 c) := fun ob oc => ((((Ext.refl w2).alloc ob).alloc oc).cell 0 (by omega)).trans (by assumption)
  have k8 : w2.cell? ⟨w1.heap.size, 1, none⟩ = some (.int .i64 d) := (hx2.cell 1 (by first | (simp; done) | (simp; omega) | omega)).trans (by first | assumption | (simp [go_sem]; done) | (simp [go_sem, *]; done))
  have k8a : ∀ ob, (w2.alloc ob).cell? ⟨w1.heap.size, 1, none⟩ = some (.int .i64 d) := fun ob => (((Ext.refl w2).alloc ob).cell 1 (by omega)).trans (by assumption)
  have k8b : ∀ ob oc, ((w2.alloc ob).alloc oc).cell? ⟨w1.heap.size, 1, none⟩ = some (.int .i64 d) := fun ob oc => ((((Ext.refl w2).alloc ob).alloc oc).cell 1 (by omega)).trans (by assumption)
  have k9 : w2.cell? ⟨w1.heap.size + 1, 0, none⟩ = some (.int .i64 (1)) := (hx2.cell 0 (by first | (simp; done) | (simp; omega) | omega)).trans (by first | assumption | (simp [go_sem]; done) | (simp [go_sem, *]; done))
  have k9a : ∀ ob, (w2.alloc ob).cell? ⟨w1.heap.size + 1, 0, none⟩ = some (.int .i64 (1)) := fun ob => (((Ext.refl w2).alloc ob).cell 0 (by omega)).trans (by assumption)
  have k9b : ∀ ob oc, ((w2.alloc ob).alloc oc).cell? ⟨w1.heap.size + 1, 0, none⟩ = some (.int .i64 (1)) := fun ob oc => ((((Ext.refl w2).alloc ob).alloc oc).cell 0 (by omega)).trans (by assumption)
  have k10 : w2.cell? ⟨w1.heap.size + 1, 1, none⟩ = some (.int .i64 d) := (hx2.cell 1 (by first | (simp; done) | (simp; omega) | omega)).trans (by first | assumption | (simp [go_sem]; done) | (simp [go_sem, *]; done))
  have k10a : ∀ ob, (w2.alloc ob).cell? ⟨w1.heap.size + 1, 1, none⟩ = some (.int .i64 d) := fun ob => (((Ext.refl w2).alloc ob).cell 1 (by omega)).trans (by assumption)
  have k10b : ∀ ob oc, ((w2.alloc ob).alloc oc).cell? ⟨w1.heap.size + 1, 1, none⟩ = some (.int .i64 d) := fun ob oc => ((((Ext.refl w2).alloc ob).alloc oc).cell 1 (by omega)).trans (by assumption)
  have z11 : w2.frozen? ⟨w.heap.size + 1 + 1, 0, none⟩ = false := (hx2.froz 0 (by first | (simp; done) | (simp; omega) | omega)).trans (by first | assumption | exact ((((Ext.refl _).alloc _).alloc _).froz _ (by omega)).trans (by assumption) | (simp [go_sem]; done) | (simp [go_sem, *]; done))
  have z12 : w2.frozen? ⟨w.heap.size + 1 + 1, 1, none⟩ = false := (hx2.froz 1 (by first | (simp; done) | (simp; omega) | omega)).trans (by first | assumption | exact ((((Ext.refl _).alloc _).alloc _).froz _ (by omega)).trans (by assumption) | (simp [go_sem]; done) | (simp [go_sem, *]; done))
  go_wp2_with fail
  refine (validSpan_any _ _ _).mono ?_
  rintro e w3 ⟨rfl, hx3⟩
  rw [e2]
  have hz := hx3.size
  (try simp at hz)
  have k1 : w3.cell? ⟨w.heap.size, 0, none⟩ = some (.int .i64 a) := (hx3.cell 0 (by first | (simp; done) | (simp; omega) | omega)).trans (by first | assumption | (simp [go_sem]; done) | (simp [go_sem, *]; done))
  have k1a : ∀ ob, (w3.alloc ob).cell? ⟨w.heap.size, 0, none⟩ = some (.int .i64 a) := fun ob => (((Ext.refl w3).alloc ob).cell 0 (by omega)).trans (by assumption)
  have k1b : ∀ ob oc, ((w3.alloc ob).alloc oc).cell? ⟨w.heap.size, 0, none⟩ = some (.int .i64 a) := fun ob oc => ((((Ext.refl w3).alloc ob).alloc oc).cell 0 (by omega)).trans (by assumption)
  have k2 : w3.cell? ⟨w.heap.size, 1, none⟩ = some (.int .i64 b) := (hx3.cell 1 (by first | (simp; done) | (simp; omega) | omega)).trans (by first | assumption | (simp [go_sem]; done) | (simp [go_sem, *]; done))
  have k2a : ∀ ob, (w3.alloc ob).cell? ⟨w.heap.size, 1, none⟩ = some (.int .i64 b) := fun ob => (((Ext.refl w3).alloc ob).cell 1 (by omega)).trans (by assumption)
  have k2b : ∀ ob oc, ((w3.alloc ob).alloc oc).cell? ⟨w.heap.size, 1, none⟩ = some (.int .i64 b) := fun ob oc => ((((Ext.refl w3).alloc ob).alloc oc).cell 1 (by omega)).trans (by assumption)
  have k3 : w3.cell? ⟨w.heap.size + 1, 0, none⟩ = some (.int .i64 c) := (hx3.cell 0 (by first | (simp; done) | (simp; omega) | omega)).trans (by first | assumption | (simp [go_sem]; done) | (simp [go_sem, *]; done))
  have k3a : ∀ ob, (w3.alloc ob).cell? ⟨w.heap.size + 1, 0, none⟩ = some (.int .i64 c) := fun ob => (((Ext.refl w3).alloc ob).cell 0 (by omega)).trans (by assumption)
  have k3b : ∀ ob oc, ((w3.alloc ob).alloc oc).cell? ⟨w.heap.size + 1, 0, none⟩ = some (.int .i64 c) := fun ob oc => ((((Ext.refl w3).alloc ob).alloc oc).cell 0 (by omega)).trans (by assumption)
  have k4 : w3.cell? ⟨w.heap.size + 1, 1, none⟩ = some (.int .i64 d) := (hx3.cell 1 (by first | (simp; done) | (simp; omega) | omega)).trans (by first | assumption | (simp [go_sem]; done) | (simp [go_sem, *]; done))
  have k4a : ∀ ob, (w3.alloc ob).cell? ⟨w.heap.size + 1, 1, none⟩ = some (.int .i64 d) := fun ob => (((Ext.refl w3).alloc ob).cell 1 (by omega)).trans (by assumption)
  have k4b : ∀ ob oc, ((w3.alloc ob).alloc oc).cell? ⟨w.heap.size + 1, 1, none⟩ = some (.int .i64 d) := fun ob oc => ((((Ext.refl w3).alloc ob).alloc oc).cell 1 (by omega)).trans (by assumption)
  have k5 : w3.cell? ⟨w.heap.size + 1 + 1, 0, none⟩ = some (.int .i64 (0)) := (hx3.cell 0 (by first | (simp; done) | (simp; omega) | omega)).trans (by first | assumption | (simp [go_sem]; done) | (simp [go_sem, *]; done))
  have k5a : ∀ ob, (w3.alloc ob).cell? ⟨w.heap.size + 1 + 1, 0, none⟩ = some (.int .i64 (0)) := fun ob => (((Ext.refl w3).alloc ob).cell 0 (by omega)).trans (by assumption)
  have k5b : ∀ ob oc, ((w3.alloc ob).alloc oc).cell? ⟨w.heap.size + 1 + 1, 0, none⟩ = some (.int .i64 (0)) := fun ob oc => ((((Ext.refl w3).alloc ob).alloc oc).cell 0 (by omega)).trans (by assumption)
  have k6 : w3.cell? ⟨w.heap.size + 1 + 1, 1, none⟩ = some (.int .i64 (0)) := (hx3.cell 1 (by first | (simp; done) | (simp; omega) | omega)).trans (by first | assumption | (simp [go_sem]; done) | (simp [go_sem, *]; done))
  have k6a : ∀ ob, (w3.alloc ob).cell? ⟨w.heap.size + 1 + 1, 1, none⟩ = some (.int .i64 (0)) := fun ob => (((Ext.refl w3).alloc ob).cell 1 (by omega)).trans (by assumption)
  have k6b : ∀ ob oc, ((w3.alloc ob).alloc oc).cell? ⟨w.heap.size + 1 + 1, 1, none⟩ = some (.int .i64 (0)) := fun ob oc => ((((Ext.refl w3).alloc ob).alloc oc).cell 1 (by omega)).trans (by assumption)
  have k7 : w3.cell? ⟨w1.heap.size, 0, none⟩ = some (.int .i64 c) := (hx3.cell 0 (by first | (simp; done) | (simp; omega) | omega)).trans (by first | assumption | (simp [go_sem]; done) | (simp [go_sem, *]; done))
  have k7a : ∀ ob, (w3.alloc ob).cell? ⟨w1.heap.size, 0, none⟩ = some (.int .i64 c) := fun ob => (((Ext.refl w3).alloc ob).cell 0 (by omega)).trans (by assumption)
  have k7b : ∀ ob oc, ((w3.alloc ob).alloc oc).cell? ⟨w1.heap.size, 0, none⟩ = some (.int .i64 c) := fun ob oc => ((((Ext.refl w3).alloc ob).alloc oc).cell 0 (by omega)).trans (by assumption)
  have k8 : w3.cell? ⟨w1.heap.size, 1, none⟩ = some (.int .i64 d) := (hx3.cell 1 (by first | (simp; done) | (simp; omega) | omega)).trans (by first | assumption | (simp [go_sem]; done) | (simp [go_sem, *]; done))
  have k8a : ∀ ob, (w3.alloc ob).cell? ⟨w1.heap.size, 1, none⟩ = some (.int .i64 d) := fun ob => (((Ext.refl w3).alloc ob).cell 1 (by omega)).trans (by assumption)
  have k8b : ∀ ob oc, ((w3.alloc ob).alloc oc).cell? ⟨w1.heap.size, 1, none⟩ = some (.int .i64 d) := fun ob oc => ((((Ext.refl w3).alloc ob).alloc oc).cell 1 (by omega)).trans (by assumption)
  have k9 : w3.cell? ⟨w1.heap.size + 1, 0, none⟩ = some (.int .i64 (1)) := (hx3.cell 0 (by first | (simp; done) | (simp; omega) | omega)).trans (by first | assumption | (simp [go_sem]; done) | (simp [go_sem, *]; done))
  have k9a : ∀ ob, (w3.alloc ob).cell? ⟨w1.heap.size + 1, 0, none⟩ = some (.int .i64 (1)) := fun ob => (((Ext.refl w3).alloc ob).cell 0 (by omega)).trans (by assumption)
  have k9b : ∀ ob oc, ((w3.alloc ob).alloc oc).cell? ⟨w1.heap.size + 1, 0, none⟩ = some (.int .i64 (1)) := fun ob oc => ((((Ext.refl w3).alloc ob).alloc oc).cell 0 (by omega)).trans (by assumption)
  have k10 : w3.cell? ⟨w1.heap.size + 1, 1, none⟩ = some (.int .i64 d) := (hx3.cell 1 (by first | (simp; done) | (simp; omega) | omega)).trans (by first | assumption | (simp [go_sem]; done) | (simp [go_sem, *]; done))
  have k10a : ∀ ob, (w3.alloc ob).cell? ⟨w1.heap.size + 1, 1, none⟩ = some (.int .i64 d) := fun ob => (((Ext.refl w3).alloc ob).cell 1 (by omega)).trans (by assumption)
  have k10b : ∀ ob oc, ((w3.alloc ob).alloc oc).cell? ⟨w1.heap.size + 1, 1, none⟩ = some (.int .i64 d) := fun ob oc => ((((Ext.refl w3).alloc ob).alloc oc).cell 1 (by omega)).trans (by assumption)
  have z11 : w3.frozen? ⟨w.heap.size + 1 + 1, 0, none⟩ = false := (hx3.froz 0 (by first | (simp; done) | (simp; omega) | omega)).trans (by first | assumption | exact ((((Ext.refl _).alloc _).alloc _).froz _ (by omega)).trans (by assumption) | (simp [go_sem]; done) | (simp [go_sem, *]; done))
  have z12 : w3.frozen? ⟨w.heap.size + 1 + 1, 1, none⟩ = false := (hx3.froz 1 (by first | (simp; done) | (simp; omega) | omega)).trans (by first | assumption | exact ((((Ext.refl _).alloc _).alloc _).froz _ (by omega)).trans (by assumption) | (simp [go_sem]; done) | (simp [go_sem, *]; done))
  go_wp2_with fail
  refine (reach_mn 87 Int.tdiv (fun x y => okB x = true ∧ y ≠ 0) (enters_of Try.func87 (by kernel_rfl) rfl) (fun x y w h => opQuo_any x y w h) _ _ _ _ ⟨oa, hn1⟩ ⟨oa, hn2⟩ ⟨ob, hn1⟩ ⟨ob, hn2⟩ _).mono ?_
  rintro e w4 ⟨rfl, hx4⟩
  have hz := hx4.size
  (try simp at hz)
  have k1 : w4.cell? ⟨w.heap.size, 0, none⟩ = some (.int .i64 a) := (hx4.cell 0 (by first | (simp; done) | (simp; omega) | omega)).trans (by first | assumption | (simp [go_sem]; done) | (simp [go_sem, *]; done))
  have k1a : ∀ ob, (w4.alloc ob).cell? ⟨w.heap.size, 0, none⟩ = some (.int .i64 a) := fun ob => (((Ext.refl w4).alloc ob).cell 0 (by omega)).trans (by assumption)
  have k1b : ∀ ob oc, ((w4.alloc ob).alloc oc).cell? ⟨w.heap.size, 0, none⟩ = some (.int .i64 a) := fun ob oc => ((((Ext.refl w4).alloc ob).alloc oc).cell 0 (by omega)).trans (by assumption)
  have k2 : w4.cell? ⟨w.heap.size, 1, none⟩ = some (.int .i64 b) := (hx4.cell 1 (by first | (simp; done) | (simp; omega) | omega)).trans (by first | assumption | (simp [go_sem]; done) | (simp [go_sem, *]; done))
  have k2a : ∀ ob, (w4.alloc ob).cell? ⟨w.heap.size, 1, none⟩ = some (.int .i64 b) := fun ob => (((Ext.refl w4).alloc ob).cell 1 (by omega)).trans (by assumption)
  have k2b : ∀ ob oc, ((w4.alloc ob).alloc oc).cell? ⟨w.heap.size, 1, none⟩ = some (.int .i64 b) := fun ob oc => ((((Ext.refl w4).alloc ob).alloc oc).cell 1 (by omega)).trans (by assumption)
  have k3 : w4.cell? ⟨w.heap.size + 1, 0, none⟩ = some (.int .i64 c) := (hx4.cell 0 (by first | (simp; done) | (simp; omega) | omega)).trans (by first | assumption | (simp [go_sem]; done) | (simp [go_sem, *]; done))
  have k3a : ∀ ob, (w4.alloc ob).cell? ⟨w.heap.size + 1, 0, none⟩ = some (.int .i64 c) := fun ob => (((Ext.refl w4).alloc ob).cell 0 (by omega)).trans (by assumption)
  have k3b : ∀ ob oc, ((w4.alloc ob).alloc oc).cell? ⟨w.heap.size + 1, 0, none⟩ = some (.int .i64 c) := fun ob oc => ((((Ext.refl w4).alloc ob).alloc oc).cell 0 (by omega)).trans (by assumption)
  have k4 : w4.cell? ⟨w.heap.size + 1, 1, none⟩ = some (.int .i64 d) := (hx4.cell 1 (by first | (simp; done) | (simp; omega) | omega)).trans (by first | assumption | (simp [go_sem]; done) | (simp [go_sem, *]; done))
  have k4a : ∀ ob, (w4.alloc ob).cell? ⟨w.heap.size + 1, 1, none⟩ = some (.int .i64 d) := fun ob => (((Ext.refl w4).alloc ob).cell 1 (by omega)).trans (by assumption)
  have k4b : ∀ ob oc, ((w4.alloc ob).alloc oc).cell? ⟨w.heap.size + 1, 1, none⟩ = some (.int .i64 d) := fun ob oc => ((((Ext.refl w4).alloc ob).alloc oc).cell 1 (by omega)).trans (by assumption)
  have k5 : w4.cell? ⟨w.heap.size + 1 + 1, 0, none⟩ = some (.int .i64 (0)) := (hx4.cell 0 (by first | (simp; done) | (simp; omega) | omega)).trans (by first | assumption | (simp [go_sem]; done) | (simp [go_sem, *]; done))
  have k5a : ∀ ob, (w4.alloc ob).cell? ⟨w.heap.size + 1 + 1, 0, none⟩ = some (.int .i64 (0)) := fun ob => (((Ext.refl w4).alloc ob).cell 0 (by omega)).trans (by assumption)
  have k5b : ∀ ob oc, ((w4.alloc ob).alloc oc).cell? ⟨w.heap.size + 1 + 1, 0, none⟩ = some (.int .i64 (0)) := fun ob oc => ((((Ext.refl w4).alloc ob).alloc oc).cell 0 (by omega)).trans (by assumption)
  have k6 : w4.cell? ⟨w.heap.size + 1 + 1, 1, none⟩ = some (.int .i64 (0)) := (hx4.cell 1 (by first | (simp; done) | (simp; omega) | omega)).trans (by first | assumption | (simp [go_sem]; done) | (simp [go_sem, *]; done))
  have k6a : ∀ ob, (w4.alloc ob).cell? ⟨w.heap.size + 1 + 1, 1, none⟩ = some (.int .i64 (0)) := fun ob => (((Ext.refl w4).alloc ob).cell 1 (by omega)).trans (by assumption)
  have k6b : ∀ ob oc, ((w4.alloc ob).alloc oc).cell? ⟨w.heap.size + 1 + 1, 1, none⟩ = some (.int .i64 (0)) := fun ob oc => ((((Ext.refl w4).alloc ob).alloc oc).cell 1 (by omega)).trans (by assumption)
  have z7 : w4.frozen? ⟨w.heap.size + 1 + 1, 0, none⟩ = false := (hx4.froz 0 (by first | (simp; done) | (simp; omega) | omega)).trans (by first | assumption | exact ((((Ext.refl _).alloc _).alloc _).froz _ (by omega)).trans (by assumption) | (simp [go_sem]; done) | (simp [go_sem, *]; done))
  have z8 : w4.frozen? ⟨w.heap.size + 1 + 1, 1, none⟩ = false := (hx4.froz 1 (by first | (simp; done) | (simp; omega) | omega)).trans (by first | assumption | exact ((((Ext.refl _).alloc _).alloc _).froz _ (by omega)).trans (by assumption) | (simp [go_sem]; done) | (simp [go_sem, *]; done))
  go_wp2_with fail
  go_region
  go_wp2
  obtain ⟨r0, r1⟩ := set_two (x := .int .i64 (mn4 Int.tdiv a b c d)) (y := .int .i64 (mx4 Int.tdiv a b c d)) k5 k6
  obtain ⟨r2, r3⟩ := set_two (x := .int .i64 (mn4 Int.tdiv a b c d)) (y := .int .i64 (mx4 Int.tdiv a b c d)) r0 r1
  refine bodyPost_ret (by simp [results, Try.results59, go_sem, *]; try rfl) rfl ?_
  exact ⟨rfl, by repeat (first | exact Ext.refl _ | assumption | refine Ext.drewN ?_ _ | refine Ext.drew ?_ | refine Ext.alloc ?_ _ | refine Ext.setCell ?_ (by dsimp only; omega) _ | refine Ext.trans ?_ (by assumption))⟩

set_option maxHeartbeats 8000000 in
theorem spanquo_nought (a b c : Int) (w : World) (v1 : spB a b = true) (v2 : spB c 0 = true) (hc : c < 0) :
    Calls Try.prog 59 #[.agg #[.int .i64 a, .int .i64 b], .agg #[.int .i64 c, .int .i64 0]] w fun e w' => e = .returned (.tuple #[.agg #[.int .i64 (mn4 Int.tdiv a b c (-1)), .int .i64 (mx4 Int.tdiv a b c (-1))], .bool true, .int .i64 0]) ∧ Ext w w' := by
  obtain ⟨oa, ob, hab⟩ := spB_t v1
  obtain ⟨oc, od, hcd⟩ := spB_t v2
  have hc0 : (c == 0) = false := by (simp; omega)
  have m2 : max c 1 = 1 := by omega
  have e1 : spB c (-1) = true := spB_mk oc (by decide) (by omega)
  have e2 : spB 1 0 = false := by decide
  have hn1 : c ≠ 0 := by omega
  have hn2 : (-1 : Int) ≠ 0 := by omega
  have t1 : decide (c ≤ 0) = true := by (simp; omega)
  have hmf : ∀ (fn : Fn) (first cap : Array Value) (w : World), (Instr.makeFunc fn first cap).run Try.prog w = .ok (.func fn first cap) w := fun _ _ _ _ => rfl
  go_enter Try.func59, Try.ntmps59
  go_wp2_with fail
  refine (bothValidSpans_any _ _ _ _ _).mono ?_
  rintro e w1 ⟨rfl, hx1⟩
  rw [v1, v2]
  have hz := hx1.size
  (try simp at hz)
  have k1 : w1.cell? ⟨w.heap.size, 0, none⟩ = some (.int .i64 a) := (hx1.cell 0 (by first | (simp; done) | (simp; omega) | omega)).trans (by first | assumption | (simp [go_sem]; done) | (simp [go_sem, *]; done))
  have k1a : ∀ ob, (w1.alloc ob).cell? ⟨w.heap.size, 0, none⟩ = some (.int .i64 a) := fun ob => (((Ext.refl w1).alloc ob).cell 0 (by omega)).trans (by assumption)
  have k1b : ∀ ob oc, ((w1.alloc ob).alloc oc).cell? ⟨w.heap.size, 0, none⟩ = some (.int .i64 a) := fun ob oc => ((((Ext.refl w1).alloc ob).alloc oc).cell 0 (by omega)).trans (by assumption)
  have k2 : w1.cell? ⟨w.heap.size, 1, none⟩ = some (.int .i64 b) := (hx1.cell 1 (by first | (simp; done) | (simp; omega) | omega)).trans (by first | assumption | (simp [go_sem]; done) | (simp [go_sem, *]; done))
  have k2a : ∀ ob, (w1.alloc ob).cell? ⟨w.heap.size, 1, none⟩ = some (.int .i64 b) := fun ob => (((Ext.refl w1).alloc ob).cell 1 (by omega)).trans (by assumption)
  have k2b : ∀ ob oc, ((w1.alloc ob).alloc oc).cell? ⟨w.heap.size, 1, none⟩ = some (.int .i64 b) := fun ob oc => ((((Ext.refl w1).alloc ob).alloc oc).cell 1 (by omega)).trans (by assumption)
  have k3 : w1.cell? ⟨w.heap.size + 1, 0, none⟩ = some (.int .i64 c) := (hx1.cell 0 (by first | (simp; done) | (simp; omega) | omega)).trans (by first | assumption | (simp [go_sem]; done) | (simp [go_sem, *]; done))
  have k3a : ∀ ob, (w1.alloc ob).cell? ⟨w.heap.size + 1, 0, none⟩ = some (.int .i64 c) := fun ob => (((Ext.refl w1).alloc ob).cell 0 (by omega)).trans (by assumption)
  have k3b : ∀ ob oc, ((w1.alloc ob).alloc oc).cell? ⟨w.heap.size + 1, 0, none⟩ = some (.int .i64 c) := fun ob oc => ((((Ext.refl w1).alloc ob).alloc oc).cell 0 (by omega)).trans (by assumption)
  have k4 : w1.cell? ⟨w.heap.size + 1, 1, none⟩ = some (.int .i64 (0)) := (hx1.cell 1 (by first | (simp; done) | (simp; omega) | omega)).trans (by first | assumption | (simp [go_sem]; done) | (simp [go_sem, *]; done))
  have k4a : ∀ ob, (w1.alloc ob).cell? ⟨w.heap.size + 1, 1, none⟩ = some (.int .i64 (0)) := fun ob => (((Ext.refl w1).alloc ob).cell 1 (by omega)).trans (by assumption)
  have k4b : ∀ ob oc, ((w1.alloc ob).alloc oc).cell? ⟨w.heap.size + 1, 1, none⟩ = some (.int .i64 (0)) := fun ob oc => ((((Ext.refl w1).alloc ob).alloc oc).cell 1 (by omega)).trans (by assumption)
  have k5 : w1.cell? ⟨w.heap.size + 1 + 1, 0, none⟩ = some (.int .i64 (0)) := (hx1.cell 0 (by first | (simp; done) | (simp; omega) | omega)).trans (by first | assumption | (simp [go_sem]; done) | (simp [go_sem, *]; done))
  have k5a : ∀ ob, (w1.alloc ob).cell? ⟨w.heap.size + 1 + 1, 0, none⟩ = some (.int .i64 (0)) := fun ob => (((Ext.refl w1).alloc ob).cell 0 (by omega)).trans (by assumption)
  have k5b : ∀ ob oc, ((w1.alloc ob).alloc oc).cell? ⟨w.heap.size + 1 + 1, 0, none⟩ = some (.int .i64 (0)) := fun ob oc => ((((Ext.refl w1).alloc ob).alloc oc).cell 0 (by omega)).trans (by assumption)
  have k6 : w1.cell? ⟨w.heap.size + 1 + 1, 1, none⟩ = some (.int .i64 (0)) := (hx1.cell 1 (by first | (simp; done) | (simp; omega) | omega)).trans (by first | assumption | (simp [go_sem]; done) | (simp [go_sem, *]; done))
  have k6a : ∀ ob, (w1.alloc ob).cell? ⟨w.heap.size + 1 + 1, 1, none⟩ = some (.int .i64 (0)) := fun ob => (((Ext.refl w1).alloc ob).cell 1 (by omega)).trans (by assumption)
  have k6b : ∀ ob oc, ((w1.alloc ob).alloc oc).cell? ⟨w.heap.size + 1 + 1, 1, none⟩ = some (.int .i64 (0)) := fun ob oc => ((((Ext.refl w1).alloc ob).alloc oc).cell 1 (by omega)).trans (by assumption)
  have z7 : w1.frozen? ⟨w.heap.size + 1 + 1, 0, none⟩ = false := (hx1.froz 0 (by first | (simp; done) | (simp; omega) | omega)).trans (by first | assumption | exact ((((Ext.refl _).alloc _).alloc _).froz _ (by omega)).trans (by assumption) | (simp [go_sem]; done) | (simp [go_sem, *]; done))
  have z8 : w1.frozen? ⟨w.heap.size + 1 + 1, 1, none⟩ = false := (hx1.froz 1 (by first | (simp; done) | (simp; omega) | omega)).trans (by first | assumption | exact ((((Ext.refl _).alloc _).alloc _).froz _ (by omega)).trans (by assumption) | (simp [go_sem]; done) | (simp [go_sem, *]; done))
  go_wp2_with fail
  refine (validSpan_any _ _ _).mono ?_
  rintro e w2 ⟨rfl, hx2⟩
  rw [e1]
  have hy := hx1.size
  (try simp at hy)
  have hz := hx2.size
  (try simp at hz)
  have k1 : w2.cell? ⟨w.heap.size, 0, none⟩ = some (.int .i64 a) := (hx2.cell 0 (by first | (simp; done) | (simp; omega) | omega)).trans (by first | assumption | (simp [go_sem]; done) | (simp [go_sem, *]; done))
  have k1a : ∀ ob, (w2.alloc ob).cell? ⟨w.heap.size, 0, none⟩ = some (.int .i64 a) := fun ob => (((Ext.refl w2).alloc ob).cell 0 (by omega)).trans (by assumption)
  have k1b : ∀ ob oc, ((w2.alloc ob).alloc oc).cell? ⟨w.heap.size, 0, none⟩ = some (.int .i64 a) := fun ob oc => ((((Ext.refl w2).alloc ob).alloc oc).cell 0 (by omega)).trans (by assumption)
  have k2 : w2.cell? ⟨w.heap.size, 1, none⟩ = some (.int .i64 b) := (hx2.cell 1 (by first | (simp; done) | (simp; omega) | omega)).trans (by first | assumption | (simp [go_sem]; done) | (simp [go_sem, *]; done))
  have k2a : ∀ ob, (w2.alloc ob).cell? ⟨w.heap.size, 1, none⟩ = some (.int .i64 b) := fun ob => (((Ext.refl w2).alloc ob).cell 1 (by omega)).trans (by assumption)
  have k2b : ∀ ob oc, ((w2.alloc ob).alloc oc).cell? ⟨w.heap.size, 1, none⟩ = some (.int .i64 b) := fun ob oc => ((((Ext.refl w2).alloc ob).alloc oc).cell 1 (by omega)).trans (by assumption)
  have k3 : w2.cell? ⟨w.heap.size + 1, 0, none⟩ = some (.int .i64 c) := (hx2.cell 0 (by first | (simp; done) | (simp; omega) | omega)).trans (by first | assumption | (simp [go_sem]; done) | (simp [go_sem, *]; done))
  have k3a : ∀ ob, (w2.alloc ob).cell? ⟨w.heap.size + 1, 0, none⟩ = some (.int .i64 c) := fun ob => (((Ext.refl w2).alloc ob).cell 0 (by omega)).trans (by assumption)
  have k3b : ∀ ob oc, ((w2.alloc ob).alloc oc).cell? ⟨w.heap.size + 1, 0, none⟩ = some (.int .i64 c) := fun ob oc => ((((Ext.refl w2).alloc ob).alloc oc).cell 0 (by omega)).trans (by assumption)
  have k4 : w2.cell? ⟨w.heap.size + 1, 1, none⟩ = some (.int .i64 (0)) := (hx2.cell 1 (by first | (simp; done) | (simp; omega) | omega)).trans (by first | assumption | (simp [go_sem]; done) | (simp [go_sem, *]; done))
  have k4a : ∀ ob, (w2.alloc ob).cell? ⟨w.heap.size + 1, 1, none⟩ = some (.int .i64 (0)) := fun ob => (((Ext.refl w2).alloc ob).cell 1 (by omega)).trans (by assumption)
  have k4b : ∀ ob oc, ((w2.alloc ob).alloc oc).cell? ⟨w.heap.size + 1, 1, none⟩ = some (.int .i64 (0)) := fun ob oc => ((((Ext.refl w2).alloc ob).alloc oc).cell 1 (by omega)).trans (by assumption)
  have k5 : w2.cell? ⟨w.heap.size + 1 + 1, 0, none⟩ = some (.int .i64 (0)) := (hx2.cell 0 (by first | (simp; done) | (simp; omega) | omega)).trans (by first | assumption | (simp [go_sem]; done) | (simp [go_sem, *]; done))
  have k5a : ∀ ob, (w2.alloc ob).cell? ⟨w.heap.size + 1 + 1, 0, none⟩ = some (.int .i64 (0)) := fun ob => (((Ext.refl w2).alloc ob).cell 0 (by omega)).trans (by assumption)
  have k5b : ∀ ob oc, ((w2.alloc ob).alloc oc).cell? ⟨w.heap.size + 1 + 1, 0, none⟩ = some (.int .i64 (0)) := fun ob oc => ((((Ext.refl w2).alloc ob).alloc oc).cell 0 (by omega)).trans (by assumption)
  have k6 : w2.cell? ⟨w.heap.size + 1 + 1, 1, none⟩ = some (.int .i64 (0)) := (hx2.cell 1 (by first | (simp; done) | (simp; omega) | omega)).trans (by first | assumption | (simp [go_sem]; done) | (simp [go_sem, *]; done))
  have k6a : ∀ ob, (w2.alloc ob).cell? ⟨w.heap.size + 1 + 1, 1, none⟩ = some (.int .i64 (0)) := fun ob => (((Ext.refl w2).alloc ob).cell 1 (by omega)).trans (by assumption)
  have k6b : ∀ ob oc, ((w2.alloc ob).alloc oc).cell? ⟨w.heap.size + 1 + 1, 1, none⟩ = some (.int .i64 (0)) := fun ob oc => ((((Ext.refl w2).alloc ob).alloc oc).cell 1 (by omega)).trans (by assumption)
  have k7 : w2.cell? ⟨w1.heap.size, 0, none⟩ = some (.int .i64 c) := (hx2.cell 0 (by first | (simp; done) | (simp; omega) | omega)).trans (by first | assumption | (simp [go_sem]; done) | (simp [go_sem, *]; done))
  have k7a : ∀ ob, (w2.alloc ob).cell? ⟨w1.heap.size, 0, none⟩ = some (.int .i64 c) := fun ob => (((Ext.refl w2).alloc ob).cell 0 (by omega)).trans (by assumption)
  have k7b : ∀ ob oc, ((w2.alloc ob).alloc oc).cell? ⟨w1.heap.size, 0, none⟩ = some (.int .i64 c) := fun ob oc => ((((Ext.refl w2).alloc ob).alloc oc).cell 0 (by omega)).trans (by assumption)
  have k8 : w2.cell? ⟨w1.heap.size, 1, none⟩ = some (.int .i64 (-1)) := (hx2.cell 1 (by first | (simp; done) | (simp; omega) | omega)).trans (by first | assumption | (simp [go_sem]; done) | (simp [go_sem, *]; done))
  have k8a : ∀ ob, (w2.alloc ob).cell? ⟨w1.heap.size, 1, none⟩ = some (.int .i64 (-1)) := fun ob => (((Ext.refl w2).alloc ob).cell 1 (by omega)).trans (by assumption)
  have k8b : ∀ ob oc, ((w2.alloc ob).alloc oc).cell? ⟨w1.heap.size, 1, none⟩ = some (.int .i64 (-1)) := fun ob oc => ((((Ext.refl w2).alloc ob).alloc oc).cell 1 (by omega)).trans (by assumption)
  have k9 : w2.cell? ⟨w1.heap.size + 1, 0, none⟩ = some (.int .i64 (1)) := (hx2.cell 0 (by first | (simp; done) | (simp; omega) | omega)).trans (by first | assumption | (simp [go_sem]; done) | (simp [go_sem, *]; done))
  have k9a : ∀ ob, (w2.alloc ob).cell? ⟨w1.heap.size + 1, 0, none⟩ = some (.int .i64 (1)) := fun ob => (((Ext.refl w2).alloc ob).cell 0 (by omega)).trans (by assumption)
  have k9b : ∀ ob oc, ((w2.alloc ob).alloc oc).cell? ⟨w1.heap.size + 1, 0, none⟩ = some (.int .i64 (1)) := fun ob oc => ((((Ext.refl w2).alloc ob).alloc oc).cell 0 (by omega)).trans (by assumption)
  have k10 : w2.cell? ⟨w1.heap.size + 1, 1, none⟩ = some (.int .i64 (0)) := (hx2.cell 1 (by first | (simp; done) | (simp; omega) | omega)).trans (by first | assumption | (simp [go_sem]; done) | (simp [go_sem, *]; done))
  have k10a : ∀ ob, (w2.alloc ob).cell? ⟨w1.heap.size + 1, 1, none⟩ = some (.int .i64 (0)) := fun ob => (((Ext.refl w2).alloc ob).cell 1 (by omega)).trans (by assumption)
  have k10b : ∀ ob oc, ((w2.alloc ob).alloc oc).cell? ⟨w1.heap.size + 1, 1, none⟩ = some (.int .i64 (0)) := fun ob oc => ((((Ext.refl w2).alloc ob).alloc oc).cell 1 (by omega)).trans (by assumption)
  have z11 : w2.frozen? ⟨w.heap.size + 1 + 1, 0, none⟩ = false := (hx2.froz 0 (by first | (simp; done) | (simp; omega) | omega)).trans (by first | assumption | exact ((((Ext.refl _).alloc _).alloc _).froz _ (by omega)).trans (by assumption) | (simp [go_sem]; done) | (simp [go_sem, *]; done))
  have z12 : w2.frozen? ⟨w.heap.size + 1 + 1, 1, none⟩ = false := (hx2.froz 1 (by first | (simp; done) | (simp; omega) | omega)).trans (by first | assumption | exact ((((Ext.refl _).alloc _).alloc _).froz _ (by omega)).trans (by assumption) | (simp [go_sem]; done) | (simp [go_sem, *]; done))
  go_wp2_with fail
  refine (validSpan_any _ _ _).mono ?_
  rintro e w3 ⟨rfl, hx3⟩
  rw [e2]
  have hz := hx3.size
  (try simp at hz)
  have k1 : w3.cell? ⟨w.heap.size, 0, none⟩ = some (.int .i64 a) := (hx3.cell 0 (by first | (simp; done) | (simp; omega) | omega)).trans (by first | assumption | (simp [go_sem]; done) | (simp [go_sem, *]; done))
  have k1a : ∀ ob, (w3.alloc ob).cell? ⟨w.heap.size, 0, none⟩ = some (.int .i64 a) := fun ob => (((Ext.refl w3).alloc ob).cell 0 (by omega)).trans (by assumption)
  have k1b : ∀ ob oc, ((w3.alloc ob).alloc oc).cell? ⟨w.heap.size, 0, none⟩ = some (.int .i64 a) := fun ob oc => ((((Ext.refl w3).alloc ob).alloc oc).cell 0 (by omega)).trans (by assumption)
  have k2 : w3.cell? ⟨w.heap.size, 1, none⟩ = some (.int .i64 b) := (hx3.cell 1 (by first | (simp; done) | (simp; omega) | omega)).trans (by first | assumption | (simp [go_sem]; done) | (simp [go_sem, *]; done))
  have k2a : ∀ ob, (w3.alloc ob).cell? ⟨w.heap.size, 1, none⟩ = some (.int .i64 b) := fun ob => (((Ext.refl w3).alloc ob).cell 1 (by omega)).trans (by assumption)
  have k2b : ∀ ob oc, ((w3.alloc ob).alloc oc).cell? ⟨w.heap.size, 1, none⟩ = some (.int .i64 b) := fun ob oc => ((((Ext.refl w3).alloc ob).alloc oc).cell 1 (by omega)).trans (by assumption)
  have k3 : w3.cell? ⟨w.heap.size + 1, 0, none⟩ = some (.int .i64 c) := (hx3.cell 0 (by first | (simp; done) | (simp; omega) | omega)).trans (by first | assumption | (simp [go_sem]; done) | (simp [go_sem, *]; done))
  have k3a : ∀ ob, (w3.alloc ob).cell? ⟨w.heap.size + 1, 0, none⟩ = some (.int .i64 c) := fun ob => (((Ext.refl w3).alloc ob).cell 0 (by omega)).trans (by assumption)
  have k3b : ∀ ob oc, ((w3.alloc ob).alloc oc).cell? ⟨w.heap.size + 1, 0, none⟩ = some (.int .i64 c) := fun ob oc => ((((Ext.refl w3).alloc ob).alloc oc).cell 0 (by omega)).trans (by assumption)
  have k4 : w3.cell? ⟨w.heap.size + 1, 1, none⟩ = some (.int .i64 (0)) := (hx3.cell 1 (by first | (simp; done) | (simp; omega) | omega)).trans (by first | assumption | (simp [go_sem]; done) | (simp [go_sem, *]; done))
  have k4a : ∀ ob, (w3.alloc ob).cell? ⟨w.heap.size + 1, 1, none⟩ = some (.int .i64 (0)) := fun ob => (((Ext.refl w3).alloc ob).cell 1 (by omega)).trans (by assumption)
  have k4b : ∀ ob oc, ((w3.alloc ob).alloc oc).cell? ⟨w.heap.size + 1, 1, none⟩ = some (.int .i64 (0)) := fun ob oc => ((((Ext.refl w3).alloc ob).alloc oc).cell 1 (by omega)).trans (by assumption)
  have k5 : w3.cell? ⟨w.heap.size + 1 + 1, 0, none⟩ = some (.int .i64 (0)) := (hx3.cell 0 (by first | (simp; done) | (simp; omega) | omega)).trans (by first | assumption | (simp [go_sem]; done) | (simp [go_sem, *]; done))
  have k5a : ∀ ob, (w3.alloc ob).cell? ⟨w.heap.size + 1 + 1, 0, none⟩ = some (.int .i64 (0)) := fun ob => (((Ext.refl w3).alloc ob).cell 0 (by omega)).trans (by assumption)
  have k5b : ∀ ob oc, ((w3.alloc ob).alloc oc).cell? ⟨w.heap.size + 1 + 1, 0, none⟩ = some (.int .i64 (0)) := fun ob oc => ((((Ext.refl w3).alloc ob).alloc oc).cell 0 (by omega)).trans (by assumption)
  have k6 : w3.cell? ⟨w.heap.size + 1 + 1, 1, none⟩ = some (.int .i64 (0)) := (hx3.cell 1 (by first | (simp; done) | (simp; omega) | omega)).trans (by first | assumption | (simp [go_sem]; done) | (simp [go_sem, *]; done))
  have k6a : ∀ ob, (w3.alloc ob).cell? ⟨w.heap.size + 1 + 1, 1, none⟩ = some (.int .i64 (0)) := fun ob => (((Ext.refl w3).alloc ob).cell 1 (by omega)).trans (by assumption)
  have k6b : ∀ ob oc, ((w3.alloc ob).alloc oc).cell? ⟨w.heap.size + 1 + 1, 1, none⟩ = some (.int .i64 (0)) := fun ob oc => ((((Ext.refl w3).alloc ob).alloc oc).cell 1 (by omega)).trans (by assumption)
  have k7 : w3.cell? ⟨w1.heap.size, 0, none⟩ = some (.int .i64 c) := (hx3.cell 0 (by first | (simp; done) | (simp; omega) | omega)).trans (by first | assumption | (simp [go_sem]; done) | (simp [go_sem, *]; done))
  have k7a : ∀ ob, (w3.alloc ob).cell? ⟨w1.heap.size, 0, none⟩ = some (.int .i64 c) := fun ob => (((Ext.refl w3).alloc ob).cell 0 (by omega)).trans (by assumption)
  have k7b : ∀ ob oc, ((w3.alloc ob).alloc oc).cell? ⟨w1.heap.size, 0, none⟩ = some (.int .i64 c) := fun ob oc => ((((Ext.refl w3).alloc ob).alloc oc).cell 0 (by omega)).trans (by assumption)
  have k8 : w3.cell? ⟨w1.heap.size, 1, none⟩ = some (.int .i64 (-1)) := (hx3.cell 1 (by first | (simp; done) | (simp; omega) | omega)).trans (by first | assumption | (simp [go_sem]; done) | (simp [go_sem, *]; done))
  have k8a : ∀ ob, (w3.alloc ob).cell? ⟨w1.heap.size, 1, none⟩ = some (.int .i64 (-1)) := fun ob => (((Ext.refl w3).alloc ob).cell 1 (by omega)).trans (by assumption)
  have k8b : ∀ ob oc, ((w3.alloc ob).alloc oc).cell? ⟨w1.heap.size, 1, none⟩ = some (.int .i64 (-1)) := fun ob oc => ((((Ext.refl w3).alloc ob).alloc oc).cell 1 (by omega)).trans (by assumption)
  have k9 : w3.cell? ⟨w1.heap.size + 1, 0, none⟩ = some (.int .i64 (1)) := (hx3.cell 0 (by first | (simp; done) | (simp; omega) | omega)).trans (by first | assumption | (simp [go_sem]; done) | (simp [go_sem, *]; done))
  have k9a : ∀ ob, (w3.alloc ob).cell? ⟨w1.heap.size + 1, 0, none⟩ = some (.int .i64 (1)) := fun ob => (((Ext.refl w3).alloc ob).cell 0 (by omega)).trans (by assumption)
  have k9b : ∀ ob oc, ((w3.alloc ob).alloc oc).cell? ⟨w1.heap.size + 1, 0, none⟩ = some (.int .i64 (1)) := fun ob oc => ((((Ext.refl w3).alloc ob).alloc oc).cell 0 (by omega)).trans (by assumption)
  have k10 : w3.cell? ⟨w1.heap.size + 1, 1, none⟩ = some (.int .i64 (0)) := (hx3.cell 1 (by first | (simp; done) | (simp; omega) | omega)).trans (by first | assumption | (simp [go_sem]; done) | (simp [go_sem, *]; done))
  have k10a : ∀ ob, (w3.alloc ob).cell? ⟨w1.heap.size + 1, 1, none⟩ = some (.int .i64 (0)) := fun ob => (((Ext.refl w3).alloc ob).cell 1 (by omega)).trans (by assumption)
  have k10b : ∀ ob oc, ((w3.alloc ob).alloc oc).cell? ⟨w1.heap.size + 1, 1, none⟩ = some (.int .i64 (0)) := fun ob oc => ((((Ext.refl w3).alloc ob).alloc oc).cell 1 (by omega)).trans (by assumption)
  have z11 : w3.frozen? ⟨w.heap.size + 1 + 1, 0, none⟩ = false := (hx3.froz 0 (by first | (simp; done) | (simp; omega) | omega)).trans (by first | assumption | exact ((((Ext.refl _).alloc _).alloc _).froz _ (by omega)).trans (by assumption) | (simp [go_sem]; done) | (simp [go_sem, *]; done))
  have z12 : w3.frozen? ⟨w.heap.size + 1 + 1, 1, none⟩ = false := (hx3.froz 1 (by first | (simp; done) | (simp; omega) | omega)).trans (by first | assumption | exact ((((Ext.refl _).alloc _).alloc _).froz _ (by omega)).trans (by assumption) | (simp [go_sem]; done) | (simp [go_sem, *]; done))
  go_wp2_with fail
  refine (reach_mn 87 Int.tdiv (fun x y => okB x = true ∧ y ≠ 0) (enters_of Try.func87 (by kernel_rfl) rfl) (fun x y w h => opQuo_any x y w h) _ _ _ _ ⟨oa, hn1⟩ ⟨oa, hn2⟩ ⟨ob, hn1⟩ ⟨ob, hn2⟩ _).mono ?_
  rintro e w4 ⟨rfl, hx4⟩
  have hz := hx4.size
  (try simp at hz)
  have k1 : w4.cell? ⟨w.heap.size, 0, none⟩ = some (.int .i64 a) := (hx4.cell 0 (by first | (simp; done) | (simp; omega) | omega)).trans (by first | assumption | (simp [go_sem]; done) | (simp [go_sem, *]; done))
  have k1a : ∀ ob, (w4.alloc ob).cell? ⟨w.heap.size, 0, none⟩ = some (.int .i64 a) := fun ob => (((Ext.refl w4).alloc ob).cell 0 (by omega)).trans (by assumption)
  have k1b : ∀ ob oc, ((w4.alloc ob).alloc oc).cell? ⟨w.heap.size, 0, none⟩ = some (.int .i64 a) := fun ob oc => ((((Ext.refl w4).alloc ob).alloc oc).cell 0 (by omega)).trans (by assumption)
  have k2 : w4.cell? ⟨w.heap.size, 1, none⟩ = some (.int .i64 b) := (hx4.cell 1 (by first | (simp; done) | (simp; omega) | omega)).trans (by first | assumption | (simp [go_sem]; done) | (simp [go_sem, *]; done))
  have k2a : ∀ ob, (w4.alloc ob).cell? ⟨w.heap.size, 1, none⟩ = some (.int .i64 b) := fun ob => (((Ext.refl w4).alloc ob).cell 1 (by omega)).trans (by assumption)
  have k2b : ∀ ob oc, ((w4.alloc ob).alloc oc).cell? ⟨w.heap.size, 1, none⟩ = some (.int .i64 b) := fun ob oc => ((((Ext.refl w4).alloc ob).alloc oc).cell 1 (by omega)).trans (by assumption)
  have k3 : w4.cell? ⟨w.heap.size + 1, 0, none⟩ = some (.int .i64 c) := (hx4.cell 0 (by first | (simp; done) | (simp; omega) | omega)).trans (by first | assumption | (simp [go_sem]; done) | (simp [go_sem, *]; done))
  have k3a : ∀ ob, (w4.alloc ob).cell? ⟨w.heap.size + 1, 0, none⟩ = some (.int .i64 c) := fun ob => (((Ext.refl w4).alloc ob).cell 0 (by omega)).trans (by assumption)
  have k3b : ∀ ob oc, ((w4.alloc ob).alloc oc).cell? ⟨w.heap.size + 1, 0, none⟩ = some (.int .i64 c) := fun ob oc => ((((Ext.refl w4).alloc ob).alloc oc).cell 0 (by omega)).trans (by assumption)
  have k4 : w4.cell? ⟨w.heap.size + 1, 1, none⟩ = some (.int .i64 (0)) := (hx4.cell 1 (by first | (simp; done) | (simp; omega) | omega)).trans (by first | assumption | (simp [go_sem]; done) | (simp [go_sem, *]; done))
  have k4a : ∀ ob, (w4.alloc ob).cell? ⟨w.heap.size + 1, 1, none⟩ = some (.int .i64 (0)) := fun ob => (((Ext.refl w4).alloc ob).cell 1 (by omega)).trans (by assumption)
  have k4b : ∀ ob oc, ((w4.alloc ob).alloc oc).cell? ⟨w.heap.size + 1, 1, none⟩ = some (.int .i64 (0)) := fun ob oc => ((((Ext.refl w4).alloc ob).alloc oc).cell 1 (by omega)).trans (by assumption)
  have k5 : w4.cell? ⟨w.heap.size + 1 + 1, 0, none⟩ = some (.int .i64 (0)) := (hx4.cell 0 (by first | (simp; done) | (simp; omega) | omega)).trans (by first | assumption | (simp [go_sem]; done) | (simp [go_sem, *]; done))
  have k5a : ∀ ob, (w4.alloc ob).cell? ⟨w.heap.size + 1 + 1, 0, none⟩ = some (.int .i64 (0)) := fun ob => (((Ext.refl w4).alloc ob).cell 0 (by omega)).trans (by assumption)
  have k5b : ∀ ob oc, ((w4.alloc ob).alloc oc).cell? ⟨w.heap.size + 1 + 1, 0, none⟩ = some (.int .i64 (0)) := fun ob oc => ((((Ext.refl w4).alloc ob).alloc oc).cell 0 (by omega)).trans (by assumption)
  have k6 : w4.cell? ⟨w.heap.size + 1 + 1, 1, none⟩ = some (.int .i64 (0)) := (hx4.cell 1 (by first | (simp; done) | (simp; omega) | omega)).trans (by first | assumption | (simp [go_sem]; done) | (simp [go_sem, *]; done))
  have k6a : ∀ ob, (w4.alloc ob).cell? ⟨w.heap.size + 1 + 1, 1, none⟩ = some (.int .i64 (0)) := fun ob => (((Ext.refl w4).alloc ob).cell 1 (by omega)).trans (by assumption)
  have k6b : ∀ ob oc, ((w4.alloc ob).alloc oc).cell? ⟨w.heap.size + 1 + 1, 1, none⟩ = some (.int .i64 (0)) := fun ob oc => ((((Ext.refl w4).alloc ob).alloc oc).cell 1 (by omega)).trans (by assumption)
  have z7 : w4.frozen? ⟨w.heap.size + 1 + 1, 0, none⟩ = false := (hx4.froz 0 (by first | (simp; done) | (simp; omega) | omega)).trans (by first | assumption | exact ((((Ext.refl _).alloc _).alloc _).froz _ (by omega)).trans (by assumption) | (simp [go_sem]; done) | (simp [go_sem, *]; done))
  have z8 : w4.frozen? ⟨w.heap.size + 1 + 1, 1, none⟩ = false := (hx4.froz 1 (by first | (simp; done) | (simp; omega) | omega)).trans (by first | assumption | exact ((((Ext.refl _).alloc _).alloc _).froz _ (by omega)).trans (by assumption) | (simp [go_sem]; done) | (simp [go_sem, *]; done))
  go_wp2_with fail
  go_region
  go_wp2
  obtain ⟨r0, r1⟩ := set_two (x := .int .i64 (mn4 Int.tdiv a b c (-1))) (y := .int .i64 (mx4 Int.tdiv a b c (-1))) k5 k6
  obtain ⟨r2, r3⟩ := set_two (x := .int .i64 (mn4 Int.tdiv a b c (-1))) (y := .int .i64 (mx4 Int.tdiv a b c (-1))) r0 r1
  refine bodyPost_ret (by simp [results, Try.results59, go_sem, *]; try rfl) rfl ?_
  exact ⟨rfl, by repeat (first | exact Ext.refl _ | assumption | refine Ext.drewN ?_ _ | refine Ext.drew ?_ | refine Ext.alloc ?_ _ | refine Ext.setCell ?_ (by dsimp only; omega) _ | refine Ext.trans ?_ (by assumption))⟩

set_option maxHeartbeats 8000000 in
theorem spanquo_mix (a b c d : Int) (w : World) (v1 : spB a b = true) (v2 : spB c d = true) (hc : c < 0) (hd : 0 < d) :
    Calls Try.prog 59 #[.agg #[.int .i64 a, .int .i64 b], .agg #[.int .i64 c, .int .i64 d]] w fun e w' => e = .returned (.tuple #[.agg #[.int .i64 (min (mn4 Int.tdiv a b c (-1)) (mn4 Int.tdiv a b 1 d)), .int .i64 (max (mx4 Int.tdiv a b c (-1)) (mx4 Int.tdiv a b 1 d))], .bool true, .int .i64 0]) ∧ Ext w w' := by
  obtain ⟨oa, ob, hab⟩ := spB_t v1
  obtain ⟨oc, od, hcd⟩ := spB_t v2
  have hc0 : (c == 0) = false := by (simp; omega)
  have hd0 : (d == 0) = false := by (simp; omega)
  have m1 : min d (-1) = -1 := by omega
  have m2 : max c 1 = 1 := by omega
  have e1 : spB c (-1) = true := spB_mk oc (by decide) (by omega)
  have e2 : spB 1 d = true := spB_mk (by decide) od (by omega)
  have hn1 : c ≠ 0 := by omega
  have hn2 : (-1 : Int) ≠ 0 := by omega
  have hp1 : (1 : Int) ≠ 0 := by omega
  have hp2 : d ≠ 0 := by omega
  have t1 : decide (c ≤ 0) = true := by (simp; omega)
  have t2 : decide (0 ≤ d) = true := by (simp; omega)
  have hmf : ∀ (fn : Fn) (first cap : Array Value) (w : World), (Instr.makeFunc fn first cap).run Try.prog w = .ok (.func fn first cap) w := fun _ _ _ _ => rfl
  go_enter Try.func59, Try.ntmps59
  go_wp2_with fail
  refine (bothValidSpans_any _ _ _ _ _).mono ?_
  rintro e w1 ⟨rfl, hx1⟩
  rw [v1, v2]
  have hz := hx1.size
  (try simp at hz)
  have k1 : w1.cell? ⟨w.heap.size, 0, none⟩ = some (.int .i64 a) := (hx1.cell 0 (by first | (simp; done) | (simp; omega) | omega)).trans (by first | assumption | (simp [go_sem]; done) | (simp [go_sem, *]; done))
  have k1a : ∀ ob, (w1.alloc ob).cell? ⟨w.heap.size, 0, none⟩ = some (.int .i64 a) := fun ob => (((Ext.refl w1).alloc ob).cell 0 (by omega)).trans (by assumption)
  have k1b : ∀ ob oc, ((w1.alloc ob).alloc oc).cell? ⟨w.heap.size, 0, none⟩ = some (.int .i64 a) := fun ob oc => ((((Ext.refl w1).alloc ob).alloc oc).cell 0 (by omega)).trans (by assumption)
  have k2 : w1.cell? ⟨w.heap.size, 1, none⟩ = some (.int .i64 b) := (hx1.cell 1 (by first | (simp; done) | (simp; omega) | omega)).trans (by first | assumption | (simp [go_sem]; done) | (simp [go_sem, *]; done))
  have k2a : ∀ ob, (w1.alloc ob).cell? ⟨w.heap.size, 1, none⟩ = some (.int .i64 b) := fun ob => (((Ext.refl w1).alloc ob).cell 1 (by omega)).trans (by assumption)
  have k2b : ∀ ob oc, ((w1.alloc ob).alloc oc).cell? ⟨w.heap.size, 1, none⟩ = some (.int .i64 b) := fun ob oc => ((((Ext.refl w1).alloc ob).alloc oc).cell 1 (by omega)).trans (by assumption)
  have k3 : w1.cell? ⟨w.heap.size + 1, 0, none⟩ = some (.int .i64 c) := (hx1.cell 0 (by first | (simp; done) | (simp; omega) | omega)).trans (by first | assumption | (simp [go_sem]; done) | (simp [go_sem, *]; done))
  have k3a : ∀ ob, (w1.alloc ob).cell? ⟨w.heap.size + 1, 0, none⟩ = some (.int .i64 c) := fun ob => (((Ext.refl w1).alloc ob).cell 0 (by omega)).trans (by assumption)
  have k3b : ∀ ob oc, ((w1.alloc ob).alloc oc).cell? ⟨w.heap.size + 1, 0, none⟩ = some (.int .i64 c) := fun ob oc => ((((Ext.refl w1).alloc ob).alloc oc).cell 0 (by omega)).trans (by assumption)
  have k4 : w1.cell? ⟨w.heap.size + 1, 1, none⟩ = some (.int .i64 d) := (hx1.cell 1 (by first | (simp; done) | (simp; omega) | omega)).trans (by first | assumption | (simp [go_sem]; done) | (simp [go_sem, *]; done))
  have k4a : ∀ ob, (w1.alloc ob).cell? ⟨w.heap.size + 1, 1, none⟩ = some (.int .i64 d) := fun ob => (((Ext.refl w1).alloc ob).cell 1 (by omega)).trans (by assumption)
  have k4b : ∀ ob oc, ((w1.alloc ob).alloc oc).cell? ⟨w.heap.size + 1, 1, none⟩ = some (.int .i64 d) := fun ob oc => ((((Ext.refl w1).alloc ob).alloc oc).cell 1 (by omega)).trans (by assumption)
  have k5 : w1.cell? ⟨w.heap.size + 1 + 1, 0, none⟩ = some (.int .i64 (0)) := (hx1.cell 0 (by first | (simp; done) | (simp; omega) | omega)).trans (by first | assumption | (simp [go_sem]; done) | (simp [go_sem, *]; done))
  have k5a : ∀ ob, (w1.alloc ob).cell? ⟨w.heap.size + 1 + 1, 0, none⟩ = some (.int .i64 (0)) := fun ob => (((Ext.refl w1).alloc ob).cell 0 (by omega)).trans (by assumption)
  have k5b : ∀ ob oc, ((w1.alloc ob).alloc oc).cell? ⟨w.heap.size + 1 + 1, 0, none⟩ = some (.int .i64 (0)) := fun ob oc => ((((Ext.refl w1).alloc ob).alloc oc).cell 0 (by omega)).trans (by assumption)
  have k6 : w1.cell? ⟨w.heap.size + 1 + 1, 1, none⟩ = some (.int .i64 (0)) := (hx1.cell 1 (by first | (simp; done) | (simp; omega) | omega)).trans (by first | assumption | (simp [go_sem]; done) | (simp [go_sem, *]; done))
  have k6a : ∀ ob, (w1.alloc ob).cell? ⟨w.heap.size + 1 + 1, 1, none⟩ = some (.int .i64 (0)) := fun ob => (((Ext.refl w1).alloc ob).cell 1 (by omega)).trans (by assumption)
  have k6b : ∀ ob oc, ((w1.alloc ob).alloc oc).cell? ⟨w.heap.size + 1 + 1, 1, none⟩ = some (.int .i64 (0)) := fun ob oc => ((((Ext.refl w1).alloc ob).alloc oc).cell 1 (by omega)).trans (by assumption)
  have z7 : w1.frozen? ⟨w.heap.size + 1 + 1, 0, none⟩ = false := (hx1.froz 0 (by first | (simp; done) | (simp; omega) | omega)).trans (by first | assumption | exact ((((Ext.refl _).alloc _).alloc _).froz _ (by omega)).trans (by assumption) | (simp [go_sem]; done) | (simp [go_sem, *]; done))
  have z8 : w1.frozen? ⟨w.heap.size + 1 + 1, 1, none⟩ = false := (hx1.froz 1 (by first | (simp; done) | (simp; omega) | omega)).trans (by first | assumption | exact ((((Ext.refl _).alloc _).alloc _).froz _ (by omega)).trans (by assumption) | (simp [go_sem]; done) | (simp [go_sem, *]; done))
  go_wp2_with fail
  refine (validSpan_any _ _ _).mono ?_
  rintro e w2 ⟨rfl, hx2⟩
  rw [e1]
  have hy := hx1.size
  (try simp at hy)
  have hz := hx2.size
  (try simp at hz)
  have k1 : w2.cell? ⟨w.heap.size, 0, none⟩ = some (.int .i64 a) := (hx2.cell 0 (by first | (simp; done) | (simp; omega) | omega)).trans (by first | assumption | (simp [go_sem]; done) | (simp [go_sem, *]; done))
  have k1a : ∀ ob, (w2.alloc ob).cell? ⟨w.heap.size, 0, none⟩ = some (.int .i64 a) := fun ob => (((Ext.refl w2).alloc ob).cell 0 (by omega)).trans (by assumption)
  have k1b : ∀ ob oc, ((w2.alloc ob).alloc oc).cell? ⟨w.heap.size, 0, none⟩ = some (.int .i64 a) := fun ob oc => ((((Ext.refl w2).alloc ob).alloc oc).cell 0 (by omega)).trans (by assumption)
  have k2 : w2.cell? ⟨w.heap.size, 1, none⟩ = some (.int .i64 b) := (hx2.cell 1 (by first | (simp; done) | (simp; omega) | omega)).trans (by first | assumption | (simp [go_sem]; done) | (simp [go_sem, *]; done))
  have k2a : ∀ ob, (w2.alloc ob).cell? ⟨w.heap.size, 1, none⟩ = some (.int .i64 b) := fun ob => (((Ext.refl w2).alloc ob).cell 1 (by omega)).trans (by assumption)
  have k2b : ∀ ob oc, ((w2.alloc ob).alloc oc).cell? ⟨w.heap.size, 1, none⟩ = some (.int .i64 b) := fun ob oc => ((((Ext.refl w2).alloc ob).alloc oc).cell 1 (by omega)).trans (by assumption)
  have k3 : w2.cell? ⟨w.heap.size + 1, 0, none⟩ = some (.int .i64 c) := (hx2.cell 0 (by first | (simp; done) | (simp; omega) | omega)).trans (by first | assumption | (simp [go_sem]; done) | (simp [go_sem, *]; done))
  have k3a : ∀ ob, (w2.alloc ob).cell? ⟨w.heap.size + 1, 0, none⟩ = some (.int .i64 c) := fun ob => (((Ext.refl w2).alloc ob).cell 0 (by omega)).trans (by assumption)
  have k3b : ∀ ob oc, ((w2.alloc ob).alloc oc).cell? ⟨w.heap.size + 1, 0, none⟩ = some (.int .i64 c) := fun ob oc => ((((Ext.refl w2).alloc ob).alloc oc).cell 0 (by omega)).trans (by assumption)
  have k4 : w2.cell? ⟨w.heap.size + 1, 1, none⟩ = some (.int .i64 d) := (hx2.cell 1 (by first | (simp; done) | (simp; omega) | omega)).trans (by first | assumption | (simp [go_sem]; done) | (simp [go_sem, *]; done))
  have k4a : ∀ ob, (w2.alloc ob).cell? ⟨w.heap.size + 1, 1, none⟩ = some (.int .i64 d) := fun ob => (((Ext.refl w2).alloc ob).cell 1 (by omega)).trans (by assumption)
  have k4b : ∀ ob oc, ((w2.alloc ob).alloc oc).cell? ⟨w.heap.size + 1, 1, none⟩ = some (.int .i64 d) := fun ob oc => ((((Ext.refl w2).alloc ob).alloc oc).cell 1 (by omega)).trans (by assumption)
  have k5 : w2.cell? ⟨w.heap.size + 1 + 1, 0, none⟩ = some (.int .i64 (0)) := (hx2.cell 0 (by first | (simp; done) | (simp; omega) | omega)).trans (by first | assumption | (simp [go_sem]; done) | (simp [go_sem, *]; done))
  have k5a : ∀ ob, (w2.alloc ob).cell? ⟨w.heap.size + 1 + 1, 0, none⟩ = some (.int .i64 (0)) := fun ob => (((Ext.refl w2).alloc ob).cell 0 (by omega)).trans (by assumption)
  have k5b : ∀ ob oc, ((w2.alloc ob).alloc oc).cell? ⟨w.heap.size + 1 + 1, 0, none⟩ = some (.int .i64 (0)) := fun ob oc => ((((Ext.refl w2).alloc ob).alloc oc).cell 0 (by omega)).trans (by assumption)
  have k6 : w2.cell? ⟨w.heap.size + 1 + 1, 1, none⟩ = some (.int .i64 (0)) := (hx2.cell 1 (by first | (simp; done) | (simp; omega) | omega)).trans (by first | assumption | (simp [go_sem]; done) | (simp [go_sem, *]; done))
  have k6a : ∀ ob, (w2.alloc ob).cell? ⟨w.heap.size + 1 + 1, 1, none⟩ = some (.int .i64 (0)) := fun ob => (((Ext.refl w2).alloc ob).cell 1 (by omega)).trans (by assumption)
  have k6b : ∀ ob oc, ((w2.alloc ob).alloc oc).cell? ⟨w.heap.size + 1 + 1, 1, none⟩ = some (.int .i64 (0)) := fun ob oc => ((((Ext.refl w2).alloc ob).alloc oc).cell 1 (by omega)).trans (by assumption)
  have k7 : w2.cell? ⟨w1.heap.size, 0, none⟩ = some (.int .i64 c) := (hx2.cell 0 (by first | (simp; done) | (simp; omega) | omega)).trans (by first | assumption | (simp [go_sem]; done) | (simp [go_sem, *]; done))
  have k7a : ∀ ob, (w2.alloc ob).cell? ⟨w1.heap.size, 0, none⟩ = some (.int .i64 c) := fun ob => (((Ext.refl w2).alloc ob).cell 0 (by omega)).trans (by assumption)
  have k7b : ∀ ob oc, ((w2.alloc ob).alloc oc).cell? ⟨w1.heap.size, 0, none⟩ = some (.int .i64 c) := fun ob oc => ((((Ext.refl w2).alloc ob).alloc oc).cell 0 (by omega)).trans (by assumption)
  have k8 : w2.cell? ⟨w1.heap.size, 1, none⟩ = some (.int .i64 (-1)) := (hx2.cell 1 (by first | (simp; done) | (simp; omega) | omega)).trans (by first | assumption | (simp [go_sem]; done) | (simp [go_sem, *]; done))
  have k8a : ∀ ob, (w2.alloc ob).cell? ⟨w1.heap.size, 1, none⟩ = some (.int .i64 (-1)) := fun ob => (((Ext.refl w2).alloc ob).cell 1 (by omega)).trans (by assumption)
  have k8b : ∀ ob oc, ((w2.alloc ob).alloc oc).cell? ⟨w1.heap.size, 1, none⟩ = some (.int .i64 (-1)) := fun ob oc => ((((Ext.refl w2).alloc ob).alloc oc).cell 1 (by omega)).trans (by assumption)
  have k9 : w2.cell? ⟨w1.heap.size + 1, 0, none⟩ = some (.int .i64 (1)) := (hx2.cell 0 (by first | (simp; done) | (simp; omega) | omega)).trans (by first | assumption | (simp [go_sem]; done) | (simp [go_sem, *]; done))
  have k9a : ∀ ob, (w2.alloc ob).cell? ⟨w1.heap.size + 1, 0, none⟩ = some (.int .i64 (1)) := fun ob => (((Ext.refl w2).alloc ob).cell 0 (by omega)).trans (by assumption)
  have k9b : ∀ ob oc, ((w2.alloc ob).alloc oc).cell? ⟨w1.heap.size + 1, 0, none⟩ = some (.int .i64 (1)) := fun ob oc => ((((Ext.refl w2).alloc ob).alloc oc).cell 0 (by omega)).trans (by assumption)
  have k10 : w2.cell? ⟨w1.heap.size + 1, 1, none⟩ = some (.int .i64 d) := (hx2.cell 1 (by first | (simp; done) | (simp; omega) | omega)).trans (by first | assumption | (simp [go_sem]; done) | (simp [go_sem, *]; done))
  have k10a : ∀ ob, (w2.alloc ob).cell? ⟨w1.heap.size + 1, 1, none⟩ = some (.int .i64 d) := fun ob => (((Ext.refl w2).alloc ob).cell 1 (by omega)).trans (by assumption)
  have k10b : ∀ ob oc, ((w2.alloc ob).alloc oc).cell? ⟨w1.heap.size + 1, 1, none⟩ = some (.int .i64 d) := fun ob oc => ((((Ext.refl w2).alloc ob).alloc oc).cell 1 (by omega)).trans (by assumption)
  have z11 : w2.frozen? ⟨w.heap.size + 1 + 1, 0, none⟩ = false := (hx2.froz 0 (by first | (simp; done) | (simp; omega) | omega)).trans (by first | assumption | exact ((((Ext.refl _).alloc _).alloc _).froz _ (by omega)).trans (by assumption) | (simp [go_sem]; done) | (simp [go_sem, *]; done))
  have z12 : w2.frozen? ⟨w.heap.size + 1 + 1, 1, none⟩ = false := (hx2.froz 1 (by first | (simp; done) | (simp; omega) | omega)).trans (by first | assumption | exact ((((Ext.refl _).alloc _).alloc _).froz _ (by omega)).trans (by assumption) | (simp [go_sem]; done) | (simp [go_sem, *]; done))
  go_wp2_with fail
  refine (validSpan_any _ _ _).mono ?_
  rintro e w3 ⟨rfl, hx3⟩
  rw [e2]
  have hz := hx3.size
  (try simp at hz)
  have k1 : w3.cell? ⟨w.heap.size, 0, none⟩ = some (.int .i64 a) := (hx3.cell 0 (by first | (simp; done) | (simp; omega) | omega)).trans (by first | assumption | (simp [go_sem]; done) | (simp [go_sem, *]; done))
  have k1a : ∀ ob, (w3.alloc ob).cell? ⟨w.heap.size, 0, none⟩ = some (.int .i64 a) := fun ob => (((Ext.refl w3).alloc ob).cell 0 (by omega)).trans (by assumption)
  have k1b : ∀ ob oc, ((w3.alloc ob).alloc oc).cell? ⟨w.heap.size, 0, none⟩ = some (.int .i64 a) := fun ob oc => ((((Ext.refl w3).alloc ob).alloc oc).cell 0 (by omega)).trans (by assumption)
  have k2 : w3.cell? ⟨w.heap.size, 1, none⟩ = some (.int .i64 b) := (hx3.cell 1 (by first | (simp; done) | (simp; omega) | omega)).trans (by first | assumption | (simp [go_sem]; done) | (simp [go_sem, *]; done))
  have k2a : ∀ ob, (w3.alloc ob).cell? ⟨w.heap.size, 1, none⟩ = some (.int .i64 b) := fun ob => (((Ext.refl w3).alloc ob).cell 1 (by omega)).trans (by assumption)
  have k2b : ∀ ob oc, ((w3.alloc ob).alloc oc).cell? ⟨w.heap.size, 1, none⟩ = some (.int .i64 b) := fun ob oc => ((((Ext.refl w3).alloc ob).alloc oc).cell 1 (by omega)).trans (by assumption)
  have k3 : w3.cell? ⟨w.heap.size + 1, 0, none⟩ = some (.int .i64 c) := (hx3.cell 0 (by first | (simp; done) | (simp; omega) | omega)).trans (by first | assumption | (simp [go_sem]; done) | (simp [go_sem, *]; done))
  have k3a : ∀ ob, (w3.alloc ob).cell? ⟨w.heap.size + 1, 0, none⟩ = some (.int .i64 c) := fun ob => (((Ext.refl w3).alloc ob).cell 0 (by omega)).trans (by assumption)
  have k3b : ∀ ob oc, ((w3.alloc ob).alloc oc).cell? ⟨w.heap.size + 1, 0, none⟩ = some (.int .i64 c) := fun ob oc => ((((Ext.refl w3).alloc ob).alloc oc).cell 0 (by omega)).trans (by assumption)
  have k4 : w3.cell? ⟨w.heap.size + 1, 1, none⟩ = some (.int .i64 d) := (hx3.cell 1 (by first | (simp; done) | (simp; omega) | omega)).trans (by first | assumption | (simp [go_sem]; done) | (simp [go_sem, *]; done))
  have k4a : ∀ ob, (w3.alloc ob).cell? ⟨w.heap.size + 1, 1, none⟩ = some (.int .i64 d) := fun ob => (((Ext.refl w3).alloc ob).cell 1 (by omega)).trans (by assumption)
  have k4b : ∀ ob oc, ((w3.alloc ob).alloc oc).cell? ⟨w.heap.size + 1, 1, none⟩ = some (.int .i64 d) := fun ob oc => ((((Ext.refl w3).alloc ob).alloc oc).cell 1 (by omega)).trans (by assumption)
  have k5 : w3.cell? ⟨w.heap.size + 1 + 1, 0, none⟩ = some (.int .i64 (0)) := (hx3.cell 0 (by first | (simp; done) | (simp; omega) | omega)).trans (by first | assumption | (simp [go_sem]; done) | (simp [go_sem, *]; done))
  have k5a : ∀ ob, (w3.alloc ob).cell? ⟨w.heap.size + 1 + 1, 0, none⟩ = some (.int .i64 (0)) := fun ob => (((Ext.refl w3).alloc ob).cell 0 (by omega)).trans (by assumption)
  have k5b : ∀ ob oc, ((w3.alloc ob).alloc oc).cell? ⟨w.heap.size + 1 + 1, 0, none⟩ = some (.int .i64 (0)) := fun ob oc => ((((Ext.refl w3).alloc ob).alloc oc).cell 0 (by omega)).trans (by assumption)
  have k6 : w3.cell? ⟨w.heap.size + 1 + 1, 1, none⟩ = some (.int .i64 (0)) := (hx3.cell 1 (by first | (simp; done) | (simp; omega) | omega)).trans (by first | assumption | (simp [go_sem]; done) | (simp [go_sem, *]; done))
  have k6a : ∀ ob, (w3.alloc ob).cell? ⟨w.heap.size + 1 + 1, 1, none⟩ = some (.int .i64 (0)) := fun ob => (((Ext.refl w3).alloc ob).cell 1 (by omega)).trans (by assumption)
  have k6b : ∀ ob oc, ((w3.alloc ob).alloc oc).cell? ⟨w.heap.size + 1 + 1, 1, none⟩ = some (.int .i64 (0)) := fun ob oc => ((((Ext.refl w3).alloc ob).alloc oc).cell 1 (by omega)).trans (by assumption)
  have k7 : w3.cell? ⟨w1.heap.size, 0, none⟩ = some (.int .i64 c) := (hx3.cell 0 (by first | (simp; done) | (simp; omega) | omega)).trans (by first | assumption | (simp [go_sem]; done) | (simp [go_sem, *]; done))
  have k7a : ∀ ob, (w3.alloc ob).cell? ⟨w1.heap.size, 0, none⟩ = some (.int .i64 c) := fun ob => (((Ext.refl w3).alloc ob).cell 0 (by omega)).trans (by assumption)
  have k7b : ∀ ob oc, ((w3.alloc ob).alloc oc).cell? ⟨w1.heap.size, 0, none⟩ = some (.int .i64 c) := fun ob oc => ((((Ext.refl w3).alloc ob).alloc oc).cell 0 (by omega)).trans (by assumption)
  have k8 : w3.cell? ⟨w1.heap.size, 1, none⟩ = some (.int .i64 (-1)) := (hx3.cell 1 (by first | (simp; done) | (simp; omega) | omega)).trans (by first | assumption | (simp [go_sem]; done) | (simp [go_sem, *]; done))
  have k8a : ∀ ob, (w3.alloc ob).cell? ⟨w1.heap.size, 1, none⟩ = some (.int .i64 (-1)) := fun ob => (((Ext.refl w3).alloc ob).cell 1 (by omega)).trans (by assumption)
  have k8b : ∀ ob oc, ((w3.alloc ob).alloc oc).cell? ⟨w1.heap.size, 1, none⟩ = some (.int .i64 (-1)) := fun ob oc => ((((Ext.refl w3).alloc ob).alloc oc).cell 1 (by omega)).trans (by assumption)
  have k9 : w3.cell? ⟨w1.heap.size + 1, 0, none⟩ = some (.int .i64 (1)) := (hx3.cell 0 (by first | (simp; done) | (simp; omega) | omega)).trans (by first | assumption | (simp [go_sem]; done) | (simp [go_sem, *]; done))
  have k9a : ∀ ob, (w3.alloc ob).cell? ⟨w1.heap.size + 1, 0, none⟩ = some (.int .i64 (1)) := fun ob => (((Ext.refl w3).alloc ob).cell 0 (by omega)).trans (by assumption)
  have k9b : ∀ ob oc, ((w3.alloc ob).alloc oc).cell? ⟨w1.heap.size + 1, 0, none⟩ = some (.int .i64 (1)) := fun ob oc => ((((Ext.refl w3).alloc ob).alloc oc).cell 0 (by omega)).trans (by assumption)
  have k10 : w3.cell? ⟨w1.heap.size + 1, 1, none⟩ = some (.int .i64 d) := (hx3.cell 1 (by first | (simp; done) | (simp; omega) | omega)).trans (by first | assumption | (simp [go_sem]; done) | (simp [go_sem, *]; done))
  have k10a : ∀ ob, (w3.alloc ob).cell? ⟨w1.heap.size + 1, 1, none⟩ = some (.int .i64 d) := fun ob => (((Ext.refl w3).alloc ob).cell 1 (by omega)).trans (by assumption)
  have k10b : ∀ ob oc, ((w3.alloc ob).alloc oc).cell? ⟨w1.heap.size + 1, 1, none⟩ = some (.int .i64 d) := fun ob oc => ((((Ext.refl w3).alloc ob).alloc oc).cell 1 (by omega)).trans (by assumption)
  have z11 : w3.frozen? ⟨w.heap.size + 1 + 1, 0, none⟩ = false := (hx3.froz 0 (by first | (simp; done) | (simp; omega) | omega)).trans (by first | assumption | exact ((((Ext.refl _).alloc _).alloc _).froz _ (by omega)).trans (by assumption) | (simp [go_sem]; done) | (simp [go_sem, *]; done))
  have z12 : w3.frozen? ⟨w.heap.size + 1 + 1, 1, none⟩ = false := (hx3.froz 1 (by first | (simp; done) | (simp; omega) | omega)).trans (by first | assumption | exact ((((Ext.refl _).alloc _).alloc _).froz _ (by omega)).trans (by assumption) | (simp [go_sem]; done) | (simp [go_sem, *]; done))
  obtain ⟨sv0, hsv0⟩ : ∃ sv : World → Value, ∀ u : World, sv u = (u.cell? ⟨w.heap.size + 1 + 1, 0, none⟩).getD undef := ⟨_, fun _ => rfl⟩
  obtain ⟨sv1, hsv1⟩ : ∃ sv : World → Value, ∀ u : World, sv u = (u.cell? ⟨w.heap.size + 1 + 1, 1, none⟩).getD undef := ⟨_, fun _ => rfl⟩
  obtain ⟨EE, hEE⟩ : ∃ EE : World → Prop, ∀ u, EE u ↔ Ext w u := ⟨_, fun _ => Iff.rfl⟩
  have keepE : ∀ u u' : World, (fun w' : World => (w'.cell? ⟨w.heap.size, 0, none⟩ = some (.int .i64 a) ∧ w'.cell? ⟨w.heap.size, 1, none⟩ = some (.int .i64 b) ∧ w'.cell? ⟨w.heap.size + 1, 0, none⟩ = some (.int .i64 c) ∧ w'.cell? ⟨w.heap.size + 1, 1, none⟩ = some (.int .i64 d) ∧ w'.cell? ⟨w1.heap.size, 0, none⟩ = some (.int .i64 c) ∧ w'.cell? ⟨w1.heap.size, 1, none⟩ = some (.int .i64 (-1)) ∧ w'.cell? ⟨w1.heap.size + 1, 0, none⟩ = some (.int .i64 (1)) ∧ w'.cell? ⟨w1.heap.size + 1, 1, none⟩ = some (.int .i64 d) ∧ w'.cell? ⟨w.heap.size + 1 + 1, 0, none⟩ = some (sv0 w') ∧ w'.cell? ⟨w.heap.size + 1 + 1, 1, none⟩ = some (sv1 w') ∧ w'.frozen? ⟨w.heap.size + 1 + 1, 0, none⟩ = false ∧ w'.frozen? ⟨w.heap.size + 1 + 1, 1, none⟩ = false ∧ EE w')) u → Ext u u' → (fun w' : World => (w'.cell? ⟨w.heap.size, 0, none⟩ = some (.int .i64 a) ∧ w'.cell? ⟨w.heap.size, 1, none⟩ = some (.int .i64 b) ∧ w'.cell? ⟨w.heap.size + 1, 0, none⟩ = some (.int .i64 c) ∧ w'.cell? ⟨w.heap.size + 1, 1, none⟩ = some (.int .i64 d) ∧ w'.cell? ⟨w1.heap.size, 0, none⟩ = some (.int .i64 c) ∧ w'.cell? ⟨w1.heap.size, 1, none⟩ = some (.int .i64 (-1)) ∧ w'.cell? ⟨w1.heap.size + 1, 0, none⟩ = some (.int .i64 (1)) ∧ w'.cell? ⟨w1.heap.size + 1, 1, none⟩ = some (.int .i64 d) ∧ w'.cell? ⟨w.heap.size + 1 + 1, 0, none⟩ = some (sv0 w') ∧ w'.cell? ⟨w.heap.size + 1 + 1, 1, none⟩ = some (sv1 w') ∧ w'.frozen? ⟨w.heap.size + 1 + 1, 0, none⟩ = false ∧ w'.frozen? ⟨w.heap.size + 1 + 1, 1, none⟩ = false ∧ EE w')) u' := by
    rintro u u' ⟨g0, g1, g2, g3, g4, g5, g6, g7, s0, s1, f0, f1, hE⟩ hx
    have b0 := World.block_lt_of_cell? u _ s0
    have q0 := (hx.cell 0 b0).trans s0
    have q1 := (hx.cell 1 b0).trans s1
    exact ⟨(hx.cell 0 (World.block_lt_of_cell? u _ g0)).trans g0, (hx.cell 1 (World.block_lt_of_cell? u _ g1)).trans g1, (hx.cell 0 (World.block_lt_of_cell? u _ g2)).trans g2, (hx.cell 1 (World.block_lt_of_cell? u _ g3)).trans g3, (hx.cell 0 (World.block_lt_of_cell? u _ g4)).trans g4, (hx.cell 1 (World.block_lt_of_cell? u _ g5)).trans g5, (hx.cell 0 (World.block_lt_of_cell? u _ g6)).trans g6, (hx.cell 1 (World.block_lt_of_cell? u _ g7)).trans g7, by rw [hsv0, q0]; rfl, by rw [hsv1, q1]; rfl, (hx.froz 0 b0).trans f0, (hx.froz 1 b0).trans f1, (hEE _).2 (((hEE _).1 hE).trans hx)⟩
  have keepS : ∀ (u : World) (x y : Value), (fun w' : World => (w'.cell? ⟨w.heap.size, 0, none⟩ = some (.int .i64 a) ∧ w'.cell? ⟨w.heap.size, 1, none⟩ = some (.int .i64 b) ∧ w'.cell? ⟨w.heap.size + 1, 0, none⟩ = some (.int .i64 c) ∧ w'.cell? ⟨w.heap.size + 1, 1, none⟩ = some (.int .i64 d) ∧ w'.cell? ⟨w1.heap.size, 0, none⟩ = some (.int .i64 c) ∧ w'.cell? ⟨w1.heap.size, 1, none⟩ = some (.int .i64 (-1)) ∧ w'.cell? ⟨w1.heap.size + 1, 0, none⟩ = some (.int .i64 (1)) ∧ w'.cell? ⟨w1.heap.size + 1, 1, none⟩ = some (.int .i64 d) ∧ w'.cell? ⟨w.heap.size + 1 + 1, 0, none⟩ = some (sv0 w') ∧ w'.cell? ⟨w.heap.size + 1 + 1, 1, none⟩ = some (sv1 w') ∧ w'.frozen? ⟨w.heap.size + 1 + 1, 0, none⟩ = false ∧ w'.frozen? ⟨w.heap.size + 1 + 1, 1, none⟩ = false ∧ EE w')) u → (fun w' : World => (w'.cell? ⟨w.heap.size, 0, none⟩ = some (.int .i64 a) ∧ w'.cell? ⟨w.heap.size, 1, none⟩ = some (.int .i64 b) ∧ w'.cell? ⟨w.heap.size + 1, 0, none⟩ = some (.int .i64 c) ∧ w'.cell? ⟨w.heap.size + 1, 1, none⟩ = some (.int .i64 d) ∧ w'.cell? ⟨w1.heap.size, 0, none⟩ = some (.int .i64 c) ∧ w'.cell? ⟨w1.heap.size, 1, none⟩ = some (.int .i64 (-1)) ∧ w'.cell? ⟨w1.heap.size + 1, 0, none⟩ = some (.int .i64 (1)) ∧ w'.cell? ⟨w1.heap.size + 1, 1, none⟩ = some (.int .i64 d) ∧ w'.cell? ⟨w.heap.size + 1 + 1, 0, none⟩ = some (sv0 w') ∧ w'.cell? ⟨w.heap.size + 1 + 1, 1, none⟩ = some (sv1 w') ∧ w'.frozen? ⟨w.heap.size + 1 + 1, 0, none⟩ = false ∧ w'.frozen? ⟨w.heap.size + 1 + 1, 1, none⟩ = false ∧ EE w')) ((u.setCell ⟨w.heap.size + 1 + 1, 0, none⟩ x).setCell ⟨w.heap.size + 1 + 1, 1, none⟩ y) := by
    rintro u x y ⟨g0, g1, g2, g3, g4, g5, g6, g7, s0, s1, f0, f1, hE⟩
    obtain ⟨q0, q1⟩ := set_two (x := x) (y := y) s0 s1
    exact ⟨by rw [World.cell?_setCell_other _ _ _ _ (by first | (simp; done) | (simp; omega)), World.cell?_setCell_other _ _ _ _ (by first | (simp; done) | (simp; omega))]; exact g0, by rw [World.cell?_setCell_other _ _ _ _ (by first | (simp; done) | (simp; omega)), World.cell?_setCell_other _ _ _ _ (by first | (simp; done) | (simp; omega))]; exact g1, by rw [World.cell?_setCell_other _ _ _ _ (by first | (simp; done) | (simp; omega)), World.cell?_setCell_other _ _ _ _ (by first | (simp; done) | (simp; omega))]; exact g2, by rw [World.cell?_setCell_other _ _ _ _ (by first | (simp; done) | (simp; omega)), World.cell?_setCell_other _ _ _ _ (by first | (simp; done) | (simp; omega))]; exact g3, by rw [World.cell?_setCell_other _ _ _ _ (by first | (simp; done) | (simp; omega)), World.cell?_setCell_other _ _ _ _ (by first | (simp; done) | (simp; omega))]; exact g4, by rw [World.cell?_setCell_other _ _ _ _ (by first | (simp; done) | (simp; omega)), World.cell?_setCell_other _ _ _ _ (by first | (simp; done) | (simp; omega))]; exact g5, by rw [World.cell?_setCell_other _ _ _ _ (by first | (simp; done) | (simp; omega)), World.cell?_setCell_other _ _ _ _ (by first | (simp; done) | (simp; omega))]; exact g6, by rw [World.cell?_setCell_other _ _ _ _ (by first | (simp; done) | (simp; omega)), World.cell?_setCell_other _ _ _ _ (by first | (simp; done) | (simp; omega))]; exact g7, by rw [hsv0, q0]; rfl, by rw [hsv1, q1]; rfl, by rw [World.frozen?_setCell, World.frozen?_setCell]; exact f0, by rw [World.frozen?_setCell, World.frozen?_setCell]; exact f1, (hEE _).2 ((((hEE _).1 hE).setCell (by dsimp only; omega) _).setCell (by dsimp only; omega) _)⟩
  have keep0 : (fun w' : World => (w'.cell? ⟨w.heap.size, 0, none⟩ = some (.int .i64 a) ∧ w'.cell? ⟨w.heap.size, 1, none⟩ = some (.int .i64 b) ∧ w'.cell? ⟨w.heap.size + 1, 0, none⟩ = some (.int .i64 c) ∧ w'.cell? ⟨w.heap.size + 1, 1, none⟩ = some (.int .i64 d) ∧ w'.cell? ⟨w1.heap.size, 0, none⟩ = some (.int .i64 c) ∧ w'.cell? ⟨w1.heap.size, 1, none⟩ = some (.int .i64 (-1)) ∧ w'.cell? ⟨w1.heap.size + 1, 0, none⟩ = some (.int .i64 (1)) ∧ w'.cell? ⟨w1.heap.size + 1, 1, none⟩ = some (.int .i64 d) ∧ w'.cell? ⟨w.heap.size + 1 + 1, 0, none⟩ = some (sv0 w') ∧ w'.cell? ⟨w.heap.size + 1 + 1, 1, none⟩ = some (sv1 w') ∧ w'.frozen? ⟨w.heap.size + 1 + 1, 0, none⟩ = false ∧ w'.frozen? ⟨w.heap.size + 1 + 1, 1, none⟩ = false ∧ EE w')) w3 := by
    exact ⟨by assumption, by assumption, by assumption, by assumption, by assumption, by assumption, by assumption, by assumption, by rw [hsv0, k5]; rfl, by rw [hsv1, k6]; rfl, by assumption, by assumption, (hEE _).2 (by repeat (first | exact Ext.refl _ | assumption | refine Ext.drewN ?_ _ | refine Ext.drew ?_ | refine Ext.alloc ?_ _ | refine Ext.setCell ?_ (by dsimp only; omega) _ | refine Ext.trans ?_ (by assumption)))⟩
  have KE := Lib.hid keepE
  have KS := Lib.hid keepS
  have K0 := Lib.hid keep0
  have HEE := Lib.hid hEE
  have HS0 := Lib.hid hsv0
  have HS1 := Lib.hid hsv1
  clear keepE keepS keep0 hsv0 hsv1 hEE
  go_wp2_with fail
  go_region_held3 (fun w' : World => (w'.cell? ⟨w.heap.size, 0, none⟩ = some (.int .i64 a) ∧ w'.cell? ⟨w.heap.size, 1, none⟩ = some (.int .i64 b) ∧ w'.cell? ⟨w.heap.size + 1, 0, none⟩ = some (.int .i64 c) ∧ w'.cell? ⟨w.heap.size + 1, 1, none⟩ = some (.int .i64 d) ∧ w'.cell? ⟨w1.heap.size, 0, none⟩ = some (.int .i64 c) ∧ w'.cell? ⟨w1.heap.size, 1, none⟩ = some (.int .i64 (-1)) ∧ w'.cell? ⟨w1.heap.size + 1, 0, none⟩ = some (.int .i64 (1)) ∧ w'.cell? ⟨w1.heap.size + 1, 1, none⟩ = some (.int .i64 d) ∧ w'.cell? ⟨w.heap.size + 1 + 1, 0, none⟩ = some (sv0 w') ∧ w'.cell? ⟨w.heap.size + 1 + 1, 1, none⟩ = some (sv1 w') ∧ w'.frozen? ⟨w.heap.size + 1 + 1, 0, none⟩ = false ∧ w'.frozen? ⟨w.heap.size + 1 + 1, 1, none⟩ = false ∧ EE w')) (first | (refine KE.out _ _ K0.out ?_; (repeat (first | exact Ext.refl _ | assumption | refine Ext.drew ?_ | refine Ext.trans ?_ (by assumption))); done) | (refine KS.out _ _ _ ?_; refine KE.out _ _ K0.out ?_; (repeat (first | exact Ext.refl _ | assumption | refine Ext.drew ?_ | refine Ext.trans ?_ (by assumption))); done)) (first | (go_at_call 88; refine (reach_mn 87 Int.tdiv (fun x y => okB x = true ∧ y ≠ 0) (enters_of Try.func87 (by kernel_rfl) rfl) (fun x y w h => opQuo_any x y w h) _ _ _ _ ?_ ?_ ?_ ?_ _).mono ?_; exact ⟨oa, (by assumption)⟩; exact ⟨oa, (by assumption)⟩; exact ⟨ob, (by assumption)⟩; exact ⟨ob, (by assumption)⟩; rintro e w' ⟨rfl, hx⟩) | (go_at_call 89; refine (join_any _ _ _ _ _).mono ?_; rintro e w' ⟨rfl, hx⟩))
  have hE3 : Ext w3 w' := by (repeat (first | exact Ext.refl _ | assumption | refine Ext.drew ?_ | refine Ext.trans ?_ (by assumption)))
  obtain ⟨g0, g1, g2, g3, g4, g5, g6, g7, s0, s1, f0, f1, hE⟩ := KE.out _ _ K0.out hE3
  have hEw := (HEE.out _).1 hE
  obtain ⟨r0, r1⟩ := set_two (x := .int .i64 (min (mn4 Int.tdiv a b c (-1)) (mn4 Int.tdiv a b 1 d))) (y := .int .i64 (max (mx4 Int.tdiv a b c (-1)) (mx4 Int.tdiv a b 1 d))) s0 s1
  obtain ⟨r2, r3⟩ := set_two (x := .int .i64 (min (mn4 Int.tdiv a b c (-1)) (mn4 Int.tdiv a b 1 d))) (y := .int .i64 (max (mx4 Int.tdiv a b c (-1)) (mx4 Int.tdiv a b 1 d))) r0 r1
  have y0 : sv0 ((w'.setCell ⟨w.heap.size + 1 + 1, 0, none⟩ (.int .i64 (min (mn4 Int.tdiv a b c (-1)) (mn4 Int.tdiv a b 1 d)))).setCell ⟨w.heap.size + 1 + 1, 1, none⟩ (.int .i64 (max (mx4 Int.tdiv a b c (-1)) (mx4 Int.tdiv a b 1 d)))) = .int .i64 (min (mn4 Int.tdiv a b c (-1)) (mn4 Int.tdiv a b 1 d)) := by rw [HS0.out, r0]; rfl
  have y1 : sv1 ((w'.setCell ⟨w.heap.size + 1 + 1, 0, none⟩ (.int .i64 (min (mn4 Int.tdiv a b c (-1)) (mn4 Int.tdiv a b 1 d)))).setCell ⟨w.heap.size + 1 + 1, 1, none⟩ (.int .i64 (max (mx4 Int.tdiv a b c (-1)) (mx4 Int.tdiv a b 1 d)))) = .int .i64 (max (mx4 Int.tdiv a b c (-1)) (mx4 Int.tdiv a b 1 d)) := by rw [HS1.out, r1]; rfl
  go_wp2
  go_region
  go_wp2
  clear hE3
  refine bodyPost_ret (by simp [results, Try.results59, go_sem, *]; try rfl) rfl ?_
  exact ⟨rfl, (((((hEw.setCell (by dsimp only; omega) _).setCell (by dsimp only; omega) _).setCell (by dsimp only; omega) _).setCell (by dsimp only; omega) _)).drew⟩

end Go.Proofs.Ytmcajdfbkhaplaa
