/- The walk of IntegerLattice. -/
import Derived.Test.YtmcajdfbkhaplaaSf
import Derived.Test.YtmcajdfbkhaplaaMh
import Derived.Deep.RegionHeld3
import Derived.Deep.DeepCutAuto
namespace Go.Proofs.Ytmcajdfbkhaplaa.integerLattice
open Go.RowKit
set_option maxRecDepth 100000 in
set_option maxHeartbeats 8000000 in
theorem walk (a0 a0' : Int) (w0 : (Lit.int .i64 a0).wf = true) (w0' : (Lit.int .i64 a0').wf = true) (a1 a1' : Int) (w1 : (Lit.int .i64 a1).wf = true) (w1' : (Lit.int .i64 a1').wf = true) (a2 a2' : Int) (w2 : (Lit.int .i64 a2).wf = true) (w2' : (Lit.int .i64 a2').wf = true) (a3 : Int) (w3 : (Lit.int .i64 a3).wf = true) (w : World) :
    Calls Try.prog 16 #[.agg #[.int .i64 a0, .int .i64 a0'], .agg #[.int .i64 a1, .int .i64 a1'], .agg #[.int .i64 a2, .int .i64 a2'], .int .i64 a3] w fun e w' => e = .returned (.bool true) ∧ Ext w w' := by
  have : True := (fun _ _ _ _ _ _ _ => trivial) w0 w0' w1 w1' w2 w2' w3
  clear this w0 w0' w1 w1' w2 w2' w3
  rcases (Bool.eq_false_or_eq_true (spB a0 a0')).symm with v1 | v1
  · go_enter Try.func16, Try.ntmps16
    go_wp2_with fail
    refine (wide_any _).mono ?_
    rintro e w1 ⟨rfl, hx1⟩
    have s1 := hx1.size
    try simp at s1
    have c1 : w1.cell? ⟨w.heap.size, 0, none⟩ = some (.int .i64 a0) := (hx1.cell 0 (by first | (simp; done) | (simp; omega) | omega)).trans (by first | assumption | (simp [go_sem]; done) | exact ((((Ext.refl _).alloc _).cell _ (by omega)).trans (by assumption)) | (simp [go_sem, *]; done))
    have c2 : w1.cell? ⟨w.heap.size, 1, none⟩ = some (.int .i64 a0') := (hx1.cell 1 (by first | (simp; done) | (simp; omega) | omega)).trans (by first | assumption | (simp [go_sem]; done) | exact ((((Ext.refl _).alloc _).cell _ (by omega)).trans (by assumption)) | (simp [go_sem, *]; done))
    have c3 : w1.cell? ⟨w.heap.size + 1, 0, none⟩ = some (.int .i64 a1) := (hx1.cell 0 (by first | (simp; done) | (simp; omega) | omega)).trans (by first | assumption | (simp [go_sem]; done) | exact ((((Ext.refl _).alloc _).cell _ (by omega)).trans (by assumption)) | (simp [go_sem, *]; done))
    have c4 : w1.cell? ⟨w.heap.size + 1, 1, none⟩ = some (.int .i64 a1') := (hx1.cell 1 (by first | (simp; done) | (simp; omega) | omega)).trans (by first | assumption | (simp [go_sem]; done) | exact ((((Ext.refl _).alloc _).cell _ (by omega)).trans (by assumption)) | (simp [go_sem, *]; done))
    have c5 : w1.cell? ⟨w.heap.size + 1 + 1, 0, none⟩ = some (.int .i64 a2) := (hx1.cell 0 (by first | (simp; done) | (simp; omega) | omega)).trans (by first | assumption | (simp [go_sem]; done) | exact ((((Ext.refl _).alloc _).cell _ (by omega)).trans (by assumption)) | (simp [go_sem, *]; done))
    have c6 : w1.cell? ⟨w.heap.size + 1 + 1, 1, none⟩ = some (.int .i64 a2') := (hx1.cell 1 (by first | (simp; done) | (simp; omega) | omega)).trans (by first | assumption | (simp [go_sem]; done) | exact ((((Ext.refl _).alloc _).cell _ (by omega)).trans (by assumption)) | (simp [go_sem, *]; done))
    have d7 : ∀ ob, (w1.alloc ob).cell? ⟨w.heap.size, 0, none⟩ = some (.int .i64 a0) := fun ob => (((Ext.refl w1).alloc ob).cell 0 (by omega)).trans (by assumption)
    have d8 : ∀ ob, (w1.alloc ob).cell? ⟨w.heap.size, 1, none⟩ = some (.int .i64 a0') := fun ob => (((Ext.refl w1).alloc ob).cell 1 (by omega)).trans (by assumption)
    have d9 : ∀ ob, (w1.alloc ob).cell? ⟨w.heap.size + 1, 0, none⟩ = some (.int .i64 a1) := fun ob => (((Ext.refl w1).alloc ob).cell 0 (by omega)).trans (by assumption)
    have d10 : ∀ ob, (w1.alloc ob).cell? ⟨w.heap.size + 1, 1, none⟩ = some (.int .i64 a1') := fun ob => (((Ext.refl w1).alloc ob).cell 1 (by omega)).trans (by assumption)
    have d11 : ∀ ob, (w1.alloc ob).cell? ⟨w.heap.size + 1 + 1, 0, none⟩ = some (.int .i64 a2) := fun ob => (((Ext.refl w1).alloc ob).cell 0 (by omega)).trans (by assumption)
    have d12 : ∀ ob, (w1.alloc ob).cell? ⟨w.heap.size + 1 + 1, 1, none⟩ = some (.int .i64 a2') := fun ob => (((Ext.refl w1).alloc ob).cell 1 (by omega)).trans (by assumption)
    go_wp2_with fail
    refine (validSpan_any a0 a0' _).mono ?_
    rintro e w2 ⟨rfl, hx2⟩
    rw [v1]
    have s2 := hx2.size
    try simp at s2
    have c13 : w2.cell? ⟨w.heap.size, 0, none⟩ = some (.int .i64 a0) := (hx2.cell 0 (by first | (simp; done) | (simp; omega) | omega)).trans (by first | assumption | (simp [go_sem]; done) | exact ((((Ext.refl _).alloc _).cell _ (by omega)).trans (by assumption)) | (simp [go_sem, *]; done))
    have c14 : w2.cell? ⟨w.heap.size, 1, none⟩ = some (.int .i64 a0') := (hx2.cell 1 (by first | (simp; done) | (simp; omega) | omega)).trans (by first | assumption | (simp [go_sem]; done) | exact ((((Ext.refl _).alloc _).cell _ (by omega)).trans (by assumption)) | (simp [go_sem, *]; done))
    have c15 : w2.cell? ⟨w.heap.size + 1, 0, none⟩ = some (.int .i64 a1) := (hx2.cell 0 (by first | (simp; done) | (simp; omega) | omega)).trans (by first | assumption | (simp [go_sem]; done) | exact ((((Ext.refl _).alloc _).cell _ (by omega)).trans (by assumption)) | (simp [go_sem, *]; done))
    have c16 : w2.cell? ⟨w.heap.size + 1, 1, none⟩ = some (.int .i64 a1') := (hx2.cell 1 (by first | (simp; done) | (simp; omega) | omega)).trans (by first | assumption | (simp [go_sem]; done) | exact ((((Ext.refl _).alloc _).cell _ (by omega)).trans (by assumption)) | (simp [go_sem, *]; done))
    have c17 : w2.cell? ⟨w.heap.size + 1 + 1, 0, none⟩ = some (.int .i64 a2) := (hx2.cell 0 (by first | (simp; done) | (simp; omega) | omega)).trans (by first | assumption | (simp [go_sem]; done) | exact ((((Ext.refl _).alloc _).cell _ (by omega)).trans (by assumption)) | (simp [go_sem, *]; done))
    have c18 : w2.cell? ⟨w.heap.size + 1 + 1, 1, none⟩ = some (.int .i64 a2') := (hx2.cell 1 (by first | (simp; done) | (simp; omega) | omega)).trans (by first | assumption | (simp [go_sem]; done) | exact ((((Ext.refl _).alloc _).cell _ (by omega)).trans (by assumption)) | (simp [go_sem, *]; done))
    clear c1 c2 c3 c4 c5 c6 d7 d8 d9 d10 d11 d12
    have d19 : ∀ ob, (w2.alloc ob).cell? ⟨w.heap.size, 0, none⟩ = some (.int .i64 a0) := fun ob => (((Ext.refl w2).alloc ob).cell 0 (by omega)).trans (by assumption)
    have d20 : ∀ ob, (w2.alloc ob).cell? ⟨w.heap.size, 1, none⟩ = some (.int .i64 a0') := fun ob => (((Ext.refl w2).alloc ob).cell 1 (by omega)).trans (by assumption)
    have d21 : ∀ ob, (w2.alloc ob).cell? ⟨w.heap.size + 1, 0, none⟩ = some (.int .i64 a1) := fun ob => (((Ext.refl w2).alloc ob).cell 0 (by omega)).trans (by assumption)
    have d22 : ∀ ob, (w2.alloc ob).cell? ⟨w.heap.size + 1, 1, none⟩ = some (.int .i64 a1') := fun ob => (((Ext.refl w2).alloc ob).cell 1 (by omega)).trans (by assumption)
    have d23 : ∀ ob, (w2.alloc ob).cell? ⟨w.heap.size + 1 + 1, 0, none⟩ = some (.int .i64 a2) := fun ob => (((Ext.refl w2).alloc ob).cell 0 (by omega)).trans (by assumption)
    have d24 : ∀ ob, (w2.alloc ob).cell? ⟨w.heap.size + 1 + 1, 1, none⟩ = some (.int .i64 a2') := fun ob => (((Ext.refl w2).alloc ob).cell 1 (by omega)).trans (by assumption)
    go_wp2
    go_ret
    exact ⟨by first | rfl | (simp; done), by repeat (first | exact Ext.refl _ | assumption | refine Ext.drewN ?_ _ | refine Ext.drew ?_ | refine Ext.alloc ?_ _ | refine Ext.setCell ?_ (by dsimp only; omega) _ | refine Ext.trans ?_ (by assumption))⟩
  rcases (Bool.eq_false_or_eq_true (spB a1 a1')).symm with v2 | v2
  · go_enter Try.func16, Try.ntmps16
    go_wp2_with fail
    refine (wide_any _).mono ?_
    rintro e w1 ⟨rfl, hx1⟩
    have s1 := hx1.size
    try simp at s1
    have c1 : w1.cell? ⟨w.heap.size, 0, none⟩ = some (.int .i64 a0) := (hx1.cell 0 (by first | (simp; done) | (simp; omega) | omega)).trans (by first | assumption | (simp [go_sem]; done) | exact ((((Ext.refl _).alloc _).cell _ (by omega)).trans (by assumption)) | (simp [go_sem, *]; done))
    have c2 : w1.cell? ⟨w.heap.size, 1, none⟩ = some (.int .i64 a0') := (hx1.cell 1 (by first | (simp; done) | (simp; omega) | omega)).trans (by first | assumption | (simp [go_sem]; done) | exact ((((Ext.refl _).alloc _).cell _ (by omega)).trans (by assumption)) | (simp [go_sem, *]; done))
    have c3 : w1.cell? ⟨w.heap.size + 1, 0, none⟩ = some (.int .i64 a1) := (hx1.cell 0 (by first | (simp; done) | (simp; omega) | omega)).trans (by first | assumption | (simp [go_sem]; done) | exact ((((Ext.refl _).alloc _).cell _ (by omega)).trans (by assumption)) | (simp [go_sem, *]; done))
    have c4 : w1.cell? ⟨w.heap.size + 1, 1, none⟩ = some (.int .i64 a1') := (hx1.cell 1 (by first | (simp; done) | (simp; omega) | omega)).trans (by first | assumption | (simp [go_sem]; done) | exact ((((Ext.refl _).alloc _).cell _ (by omega)).trans (by assumption)) | (simp [go_sem, *]; done))
    have c5 : w1.cell? ⟨w.heap.size + 1 + 1, 0, none⟩ = some (.int .i64 a2) := (hx1.cell 0 (by first | (simp; done) | (simp; omega) | omega)).trans (by first | assumption | (simp [go_sem]; done) | exact ((((Ext.refl _).alloc _).cell _ (by omega)).trans (by assumption)) | (simp [go_sem, *]; done))
    have c6 : w1.cell? ⟨w.heap.size + 1 + 1, 1, none⟩ = some (.int .i64 a2') := (hx1.cell 1 (by first | (simp; done) | (simp; omega) | omega)).trans (by first | assumption | (simp [go_sem]; done) | exact ((((Ext.refl _).alloc _).cell _ (by omega)).trans (by assumption)) | (simp [go_sem, *]; done))
    have d7 : ∀ ob, (w1.alloc ob).cell? ⟨w.heap.size, 0, none⟩ = some (.int .i64 a0) := fun ob => (((Ext.refl w1).alloc ob).cell 0 (by omega)).trans (by assumption)
    have d8 : ∀ ob, (w1.alloc ob).cell? ⟨w.heap.size, 1, none⟩ = some (.int .i64 a0') := fun ob => (((Ext.refl w1).alloc ob).cell 1 (by omega)).trans (by assumption)
    have d9 : ∀ ob, (w1.alloc ob).cell? ⟨w.heap.size + 1, 0, none⟩ = some (.int .i64 a1) := fun ob => (((Ext.refl w1).alloc ob).cell 0 (by omega)).trans (by assumption)
    have d10 : ∀ ob, (w1.alloc ob).cell? ⟨w.heap.size + 1, 1, none⟩ = some (.int .i64 a1') := fun ob => (((Ext.refl w1).alloc ob).cell 1 (by omega)).trans (by assumption)
    have d11 : ∀ ob, (w1.alloc ob).cell? ⟨w.heap.size + 1 + 1, 0, none⟩ = some (.int .i64 a2) := fun ob => (((Ext.refl w1).alloc ob).cell 0 (by omega)).trans (by assumption)
    have d12 : ∀ ob, (w1.alloc ob).cell? ⟨w.heap.size + 1 + 1, 1, none⟩ = some (.int .i64 a2') := fun ob => (((Ext.refl w1).alloc ob).cell 1 (by omega)).trans (by assumption)
    go_wp2_with fail
    refine (validSpan_any a0 a0' _).mono ?_
    rintro e w2 ⟨rfl, hx2⟩
    rw [v1]
    have s2 := hx2.size
    try simp at s2
    have c13 : w2.cell? ⟨w.heap.size, 0, none⟩ = some (.int .i64 a0) := (hx2.cell 0 (by first | (simp; done) | (simp; omega) | omega)).trans (by first | assumption | (simp [go_sem]; done) | exact ((((Ext.refl _).alloc _).cell _ (by omega)).trans (by assumption)) | (simp [go_sem, *]; done))
    have c14 : w2.cell? ⟨w.heap.size, 1, none⟩ = some (.int .i64 a0') := (hx2.cell 1 (by first | (simp; done) | (simp; omega) | omega)).trans (by first | assumption | (simp [go_sem]; done) | exact ((((Ext.refl _).alloc _).cell _ (by omega)).trans (by assumption)) | (simp [go_sem, *]; done))
    have c15 : w2.cell? ⟨w.heap.size + 1, 0, none⟩ = some (.int .i64 a1) := (hx2.cell 0 (by first | (simp; done) | (simp; omega) | omega)).trans (by first | assumption | (simp [go_sem]; done) | exact ((((Ext.refl _).alloc _).cell _ (by omega)).trans (by assumption)) | (simp [go_sem, *]; done))
    have c16 : w2.cell? ⟨w.heap.size + 1, 1, none⟩ = some (.int .i64 a1') := (hx2.cell 1 (by first | (simp; done) | (simp; omega) | omega)).trans (by first | assumption | (simp [go_sem]; done) | exact ((((Ext.refl _).alloc _).cell _ (by omega)).trans (by assumption)) | (simp [go_sem, *]; done))
    have c17 : w2.cell? ⟨w.heap.size + 1 + 1, 0, none⟩ = some (.int .i64 a2) := (hx2.cell 0 (by first | (simp; done) | (simp; omega) | omega)).trans (by first | assumption | (simp [go_sem]; done) | exact ((((Ext.refl _).alloc _).cell _ (by omega)).trans (by assumption)) | (simp [go_sem, *]; done))
    have c18 : w2.cell? ⟨w.heap.size + 1 + 1, 1, none⟩ = some (.int .i64 a2') := (hx2.cell 1 (by first | (simp; done) | (simp; omega) | omega)).trans (by first | assumption | (simp [go_sem]; done) | exact ((((Ext.refl _).alloc _).cell _ (by omega)).trans (by assumption)) | (simp [go_sem, *]; done))
    clear c1 c2 c3 c4 c5 c6 d7 d8 d9 d10 d11 d12
    have d19 : ∀ ob, (w2.alloc ob).cell? ⟨w.heap.size, 0, none⟩ = some (.int .i64 a0) := fun ob => (((Ext.refl w2).alloc ob).cell 0 (by omega)).trans (by assumption)
    have d20 : ∀ ob, (w2.alloc ob).cell? ⟨w.heap.size, 1, none⟩ = some (.int .i64 a0') := fun ob => (((Ext.refl w2).alloc ob).cell 1 (by omega)).trans (by assumption)
    have d21 : ∀ ob, (w2.alloc ob).cell? ⟨w.heap.size + 1, 0, none⟩ = some (.int .i64 a1) := fun ob => (((Ext.refl w2).alloc ob).cell 0 (by omega)).trans (by assumption)
    have d22 : ∀ ob, (w2.alloc ob).cell? ⟨w.heap.size + 1, 1, none⟩ = some (.int .i64 a1') := fun ob => (((Ext.refl w2).alloc ob).cell 1 (by omega)).trans (by assumption)
    have d23 : ∀ ob, (w2.alloc ob).cell? ⟨w.heap.size + 1 + 1, 0, none⟩ = some (.int .i64 a2) := fun ob => (((Ext.refl w2).alloc ob).cell 0 (by omega)).trans (by assumption)
    have d24 : ∀ ob, (w2.alloc ob).cell? ⟨w.heap.size + 1 + 1, 1, none⟩ = some (.int .i64 a2') := fun ob => (((Ext.refl w2).alloc ob).cell 1 (by omega)).trans (by assumption)
    go_wp2_with fail
    refine (validSpan_any a1 a1' _).mono ?_
    rintro e w3 ⟨rfl, hx3⟩
    rw [v2]
    have s3 := hx3.size
    try simp at s3
    have c25 : w3.cell? ⟨w.heap.size, 0, none⟩ = some (.int .i64 a0) := (hx3.cell 0 (by first | (simp; done) | (simp; omega) | omega)).trans (by first | assumption | (simp [go_sem]; done) | exact ((((Ext.refl _).alloc _).cell _ (by omega)).trans (by assumption)) | (simp [go_sem, *]; done))
    have c26 : w3.cell? ⟨w.heap.size, 1, none⟩ = some (.int .i64 a0') := (hx3.cell 1 (by first | (simp; done) | (simp; omega) | omega)).trans (by first | assumption | (simp [go_sem]; done) | exact ((((Ext.refl _).alloc _).cell _ (by omega)).trans (by assumption)) | (simp [go_sem, *]; done))
    have c27 : w3.cell? ⟨w.heap.size + 1, 0, none⟩ = some (.int .i64 a1) := (hx3.cell 0 (by first | (simp; done) | (simp; omega) | omega)).trans (by first | assumption | (simp [go_sem]; done) | exact ((((Ext.refl _).alloc _).cell _ (by omega)).trans (by assumption)) | (simp [go_sem, *]; done))
    have c28 : w3.cell? ⟨w.heap.size + 1, 1, none⟩ = some (.int .i64 a1') := (hx3.cell 1 (by first | (simp; done) | (simp; omega) | omega)).trans (by first | assumption | (simp [go_sem]; done) | exact ((((Ext.refl _).alloc _).cell _ (by omega)).trans (by assumption)) | (simp [go_sem, *]; done))
    have c29 : w3.cell? ⟨w.heap.size + 1 + 1, 0, none⟩ = some (.int .i64 a2) := (hx3.cell 0 (by first | (simp; done) | (simp; omega) | omega)).trans (by first | assumption | (simp [go_sem]; done) | exact ((((Ext.refl _).alloc _).cell _ (by omega)).trans (by assumption)) | (simp [go_sem, *]; done))
    have c30 : w3.cell? ⟨w.heap.size + 1 + 1, 1, none⟩ = some (.int .i64 a2') := (hx3.cell 1 (by first | (simp; done) | (simp; omega) | omega)).trans (by first | assumption | (simp [go_sem]; done) | exact ((((Ext.refl _).alloc _).cell _ (by omega)).trans (by assumption)) | (simp [go_sem, *]; done))
    clear c13 c14 c15 c16 c17 c18 d19 d20 d21 d22 d23 d24
    have d31 : ∀ ob, (w3.alloc ob).cell? ⟨w.heap.size, 0, none⟩ = some (.int .i64 a0) := fun ob => (((Ext.refl w3).alloc ob).cell 0 (by omega)).trans (by assumption)
    have d32 : ∀ ob, (w3.alloc ob).cell? ⟨w.heap.size, 1, none⟩ = some (.int .i64 a0') := fun ob => (((Ext.refl w3).alloc ob).cell 1 (by omega)).trans (by assumption)
    have d33 : ∀ ob, (w3.alloc ob).cell? ⟨w.heap.size + 1, 0, none⟩ = some (.int .i64 a1) := fun ob => (((Ext.refl w3).alloc ob).cell 0 (by omega)).trans (by assumption)
    have d34 : ∀ ob, (w3.alloc ob).cell? ⟨w.heap.size + 1, 1, none⟩ = some (.int .i64 a1') := fun ob => (((Ext.refl w3).alloc ob).cell 1 (by omega)).trans (by assumption)
    have d35 : ∀ ob, (w3.alloc ob).cell? ⟨w.heap.size + 1 + 1, 0, none⟩ = some (.int .i64 a2) := fun ob => (((Ext.refl w3).alloc ob).cell 0 (by omega)).trans (by assumption)
    have d36 : ∀ ob, (w3.alloc ob).cell? ⟨w.heap.size + 1 + 1, 1, none⟩ = some (.int .i64 a2') := fun ob => (((Ext.refl w3).alloc ob).cell 1 (by omega)).trans (by assumption)
    go_wp2
    go_ret
    exact ⟨by first | rfl | (simp; done), by repeat (first | exact Ext.refl _ | assumption | refine Ext.drewN ?_ _ | refine Ext.drew ?_ | refine Ext.alloc ?_ _ | refine Ext.setCell ?_ (by dsimp only; omega) _ | refine Ext.trans ?_ (by assumption))⟩
  rcases (Bool.eq_false_or_eq_true (spB a2 a2')).symm with v3 | v3
  · go_enter Try.func16, Try.ntmps16
    go_wp2_with fail
    refine (wide_any _).mono ?_
    rintro e w1 ⟨rfl, hx1⟩
    have s1 := hx1.size
    try simp at s1
    have c1 : w1.cell? ⟨w.heap.size, 0, none⟩ = some (.int .i64 a0) := (hx1.cell 0 (by first | (simp; done) | (simp; omega) | omega)).trans (by first | assumption | (simp [go_sem]; done) | exact ((((Ext.refl _).alloc _).cell _ (by omega)).trans (by assumption)) | (simp [go_sem, *]; done))
    have c2 : w1.cell? ⟨w.heap.size, 1, none⟩ = some (.int .i64 a0') := (hx1.cell 1 (by first | (simp; done) | (simp; omega) | omega)).trans (by first | assumption | (simp [go_sem]; done) | exact ((((Ext.refl _).alloc _).cell _ (by omega)).trans (by assumption)) | (simp [go_sem, *]; done))
    have c3 : w1.cell? ⟨w.heap.size + 1, 0, none⟩ = some (.int .i64 a1) := (hx1.cell 0 (by first | (simp; done) | (simp; omega) | omega)).trans (by first | assumption | (simp [go_sem]; done) | exact ((((Ext.refl _).alloc _).cell _ (by omega)).trans (by assumption)) | (simp [go_sem, *]; done))
    have c4 : w1.cell? ⟨w.heap.size + 1, 1, none⟩ = some (.int .i64 a1') := (hx1.cell 1 (by first | (simp; done) | (simp; omega) | omega)).trans (by first | assumption | (simp [go_sem]; done) | exact ((((Ext.refl _).alloc _).cell _ (by omega)).trans (by assumption)) | (simp [go_sem, *]; done))
    have c5 : w1.cell? ⟨w.heap.size + 1 + 1, 0, none⟩ = some (.int .i64 a2) := (hx1.cell 0 (by first | (simp; done) | (simp; omega) | omega)).trans (by first | assumption | (simp [go_sem]; done) | exact ((((Ext.refl _).alloc _).cell _ (by omega)).trans (by assumption)) | (simp [go_sem, *]; done))
    have c6 : w1.cell? ⟨w.heap.size + 1 + 1, 1, none⟩ = some (.int .i64 a2') := (hx1.cell 1 (by first | (simp; done) | (simp; omega) | omega)).trans (by first | assumption | (simp [go_sem]; done) | exact ((((Ext.refl _).alloc _).cell _ (by omega)).trans (by assumption)) | (simp [go_sem, *]; done))
    have d7 : ∀ ob, (w1.alloc ob).cell? ⟨w.heap.size, 0, none⟩ = some (.int .i64 a0) := fun ob => (((Ext.refl w1).alloc ob).cell 0 (by omega)).trans (by assumption)
    have d8 : ∀ ob, (w1.alloc ob).cell? ⟨w.heap.size, 1, none⟩ = some (.int .i64 a0') := fun ob => (((Ext.refl w1).alloc ob).cell 1 (by omega)).trans (by assumption)
    have d9 : ∀ ob, (w1.alloc ob).cell? ⟨w.heap.size + 1, 0, none⟩ = some (.int .i64 a1) := fun ob => (((Ext.refl w1).alloc ob).cell 0 (by omega)).trans (by assumption)
    have d10 : ∀ ob, (w1.alloc ob).cell? ⟨w.heap.size + 1, 1, none⟩ = some (.int .i64 a1') := fun ob => (((Ext.refl w1).alloc ob).cell 1 (by omega)).trans (by assumption)
    have d11 : ∀ ob, (w1.alloc ob).cell? ⟨w.heap.size + 1 + 1, 0, none⟩ = some (.int .i64 a2) := fun ob => (((Ext.refl w1).alloc ob).cell 0 (by omega)).trans (by assumption)
    have d12 : ∀ ob, (w1.alloc ob).cell? ⟨w.heap.size + 1 + 1, 1, none⟩ = some (.int .i64 a2') := fun ob => (((Ext.refl w1).alloc ob).cell 1 (by omega)).trans (by assumption)
    go_wp2_with fail
    refine (validSpan_any a0 a0' _).mono ?_
    rintro e w2 ⟨rfl, hx2⟩
    rw [v1]
    have s2 := hx2.size
    try simp at s2
    have c13 : w2.cell? ⟨w.heap.size, 0, none⟩ = some (.int .i64 a0) := (hx2.cell 0 (by first | (simp; done) | (simp; omega) | omega)).trans (by first | assumption | (simp [go_sem]; done) | exact ((((Ext.refl _).alloc _).cell _ (by omega)).trans (by assumption)) | (simp [go_sem, *]; done))
    have c14 : w2.cell? ⟨w.heap.size, 1, none⟩ = some (.int .i64 a0') := (hx2.cell 1 (by first | (simp; done) | (simp; omega) | omega)).trans (by first | assumption | (simp [go_sem]; done) | exact ((((Ext.refl _).alloc _).cell _ (by omega)).trans (by assumption)) | (simp [go_sem, *]; done))
    have c15 : w2.cell? ⟨w.heap.size + 1, 0, none⟩ = some (.int .i64 a1) := (hx2.cell 0 (by first | (simp; done) | (simp; omega) | omega)).trans (by first | assumption | (simp [go_sem]; done) | exact ((((Ext.refl _).alloc _).cell _ (by omega)).trans (by assumption)) | (simp [go_sem, *]; done))
    have c16 : w2.cell? ⟨w.heap.size + 1, 1, none⟩ = some (.int .i64 a1') := (hx2.cell 1 (by first | (simp; done) | (simp; omega) | omega)).trans (by first | assumption | (simp [go_sem]; done) | exact ((((Ext.refl _).alloc _).cell _ (by omega)).trans (by assumption)) | (simp [go_sem, *]; done))
    have c17 : w2.cell? ⟨w.heap.size + 1 + 1, 0, none⟩ = some (.int .i64 a2) := (hx2.cell 0 (by first | (simp; done) | (simp; omega) | omega)).trans (by first | assumption | (simp [go_sem]; done) | exact ((((Ext.refl _).alloc _).cell _ (by omega)).trans (by assumption)) | (simp [go_sem, *]; done))
    have c18 : w2.cell? ⟨w.heap.size + 1 + 1, 1, none⟩ = some (.int .i64 a2') := (hx2.cell 1 (by first | (simp; done) | (simp; omega) | omega)).trans (by first | assumption | (simp [go_sem]; done) | exact ((((Ext.refl _).alloc _).cell _ (by omega)).trans (by assumption)) | (simp [go_sem, *]; done))
    clear c1 c2 c3 c4 c5 c6 d7 d8 d9 d10 d11 d12
    have d19 : ∀ ob, (w2.alloc ob).cell? ⟨w.heap.size, 0, none⟩ = some (.int .i64 a0) := fun ob => (((Ext.refl w2).alloc ob).cell 0 (by omega)).trans (by assumption)
    have d20 : ∀ ob, (w2.alloc ob).cell? ⟨w.heap.size, 1, none⟩ = some (.int .i64 a0') := fun ob => (((Ext.refl w2).alloc ob).cell 1 (by omega)).trans (by assumption)
    have d21 : ∀ ob, (w2.alloc ob).cell? ⟨w.heap.size + 1, 0, none⟩ = some (.int .i64 a1) := fun ob => (((Ext.refl w2).alloc ob).cell 0 (by omega)).trans (by assumption)
    have d22 : ∀ ob, (w2.alloc ob).cell? ⟨w.heap.size + 1, 1, none⟩ = some (.int .i64 a1') := fun ob => (((Ext.refl w2).alloc ob).cell 1 (by omega)).trans (by assumption)
    have d23 : ∀ ob, (w2.alloc ob).cell? ⟨w.heap.size + 1 + 1, 0, none⟩ = some (.int .i64 a2) := fun ob => (((Ext.refl w2).alloc ob).cell 0 (by omega)).trans (by assumption)
    have d24 : ∀ ob, (w2.alloc ob).cell? ⟨w.heap.size + 1 + 1, 1, none⟩ = some (.int .i64 a2') := fun ob => (((Ext.refl w2).alloc ob).cell 1 (by omega)).trans (by assumption)
    go_wp2_with fail
    refine (validSpan_any a1 a1' _).mono ?_
    rintro e w3 ⟨rfl, hx3⟩
    rw [v2]
    have s3 := hx3.size
    try simp at s3
    have c25 : w3.cell? ⟨w.heap.size, 0, none⟩ = some (.int .i64 a0) := (hx3.cell 0 (by first | (simp; done) | (simp; omega) | omega)).trans (by first | assumption | (simp [go_sem]; done) | exact ((((Ext.refl _).alloc _).cell _ (by omega)).trans (by assumption)) | (simp [go_sem, *]; done))
    have c26 : w3.cell? ⟨w.heap.size, 1, none⟩ = some (.int .i64 a0') := (hx3.cell 1 (by first | (simp; done) | (simp; omega) | omega)).trans (by first | assumption | (simp [go_sem]; done) | exact ((((Ext.refl _).alloc _).cell _ (by omega)).trans (by assumption)) | (simp [go_sem, *]; done))
    have c27 : w3.cell? ⟨w.heap.size + 1, 0, none⟩ = some (.int .i64 a1) := (hx3.cell 0 (by first | (simp; done) | (simp; omega) | omega)).trans (by first | assumption | (simp [go_sem]; done) | exact ((((Ext.refl _).alloc _).cell _ (by omega)).trans (by assumption)) | (simp [go_sem, *]; done))
    have c28 : w3.cell? ⟨w.heap.size + 1, 1, none⟩ = some (.int .i64 a1') := (hx3.cell 1 (by first | (simp; done) | (simp; omega) | omega)).trans (by first | assumption | (simp [go_sem]; done) | exact ((((Ext.refl _).alloc _).cell _ (by omega)).trans (by assumption)) | (simp [go_sem, *]; done))
    have c29 : w3.cell? ⟨w.heap.size + 1 + 1, 0, none⟩ = some (.int .i64 a2) := (hx3.cell 0 (by first | (simp; done) | (simp; omega) | omega)).trans (by first | assumption | (simp [go_sem]; done) | exact ((((Ext.refl _).alloc _).cell _ (by omega)).trans (by assumption)) | (simp [go_sem, *]; done))
    have c30 : w3.cell? ⟨w.heap.size + 1 + 1, 1, none⟩ = some (.int .i64 a2') := (hx3.cell 1 (by first | (simp; done) | (simp; omega) | omega)).trans (by first | assumption | (simp [go_sem]; done) | exact ((((Ext.refl _).alloc _).cell _ (by omega)).trans (by assumption)) | (simp [go_sem, *]; done))
    clear c13 c14 c15 c16 c17 c18 d19 d20 d21 d22 d23 d24
    have d31 : ∀ ob, (w3.alloc ob).cell? ⟨w.heap.size, 0, none⟩ = some (.int .i64 a0) := fun ob => (((Ext.refl w3).alloc ob).cell 0 (by omega)).trans (by assumption)
    have d32 : ∀ ob, (w3.alloc ob).cell? ⟨w.heap.size, 1, none⟩ = some (.int .i64 a0') := fun ob => (((Ext.refl w3).alloc ob).cell 1 (by omega)).trans (by assumption)
    have d33 : ∀ ob, (w3.alloc ob).cell? ⟨w.heap.size + 1, 0, none⟩ = some (.int .i64 a1) := fun ob => (((Ext.refl w3).alloc ob).cell 0 (by omega)).trans (by assumption)
    have d34 : ∀ ob, (w3.alloc ob).cell? ⟨w.heap.size + 1, 1, none⟩ = some (.int .i64 a1') := fun ob => (((Ext.refl w3).alloc ob).cell 1 (by omega)).trans (by assumption)
    have d35 : ∀ ob, (w3.alloc ob).cell? ⟨w.heap.size + 1 + 1, 0, none⟩ = some (.int .i64 a2) := fun ob => (((Ext.refl w3).alloc ob).cell 0 (by omega)).trans (by assumption)
    have d36 : ∀ ob, (w3.alloc ob).cell? ⟨w.heap.size + 1 + 1, 1, none⟩ = some (.int .i64 a2') := fun ob => (((Ext.refl w3).alloc ob).cell 1 (by omega)).trans (by assumption)
    go_wp2_with fail
    refine (validSpan_any a2 a2' _).mono ?_
    rintro e w4 ⟨rfl, hx4⟩
    rw [v3]
    have s4 := hx4.size
    try simp at s4
    have c37 : w4.cell? ⟨w.heap.size, 0, none⟩ = some (.int .i64 a0) := (hx4.cell 0 (by first | (simp; done) | (simp; omega) | omega)).trans (by first | assumption | (simp [go_sem]; done) | exact ((((Ext.refl _).alloc _).cell _ (by omega)).trans (by assumption)) | (simp [go_sem, *]; done))
    have c38 : w4.cell? ⟨w.heap.size, 1, none⟩ = some (.int .i64 a0') := (hx4.cell 1 (by first | (simp; done) | (simp; omega) | omega)).trans (by first | assumption | (simp [go_sem]; done) | exact ((((Ext.refl _).alloc _).cell _ (by omega)).trans (by assumption)) | (simp [go_sem, *]; done))
    have c39 : w4.cell? ⟨w.heap.size + 1, 0, none⟩ = some (.int .i64 a1) := (hx4.cell 0 (by first | (simp; done) | (simp; omega) | omega)).trans (by first | assumption | (simp [go_sem]; done) | exact ((((Ext.refl _).alloc _).cell _ (by omega)).trans (by assumption)) | (simp [go_sem, *]; done))
    have c40 : w4.cell? ⟨w.heap.size + 1, 1, none⟩ = some (.int .i64 a1') := (hx4.cell 1 (by first | (simp; done) | (simp; omega) | omega)).trans (by first | assumption | (simp [go_sem]; done) | exact ((((Ext.refl _).alloc _).cell _ (by omega)).trans (by assumption)) | (simp [go_sem, *]; done))
    have c41 : w4.cell? ⟨w.heap.size + 1 + 1, 0, none⟩ = some (.int .i64 a2) := (hx4.cell 0 (by first | (simp; done) | (simp; omega) | omega)).trans (by first | assumption | (simp [go_sem]; done) | exact ((((Ext.refl _).alloc _).cell _ (by omega)).trans (by assumption)) | (simp [go_sem, *]; done))
    have c42 : w4.cell? ⟨w.heap.size + 1 + 1, 1, none⟩ = some (.int .i64 a2') := (hx4.cell 1 (by first | (simp; done) | (simp; omega) | omega)).trans (by first | assumption | (simp [go_sem]; done) | exact ((((Ext.refl _).alloc _).cell _ (by omega)).trans (by assumption)) | (simp [go_sem, *]; done))
    clear c25 c26 c27 c28 c29 c30 d31 d32 d33 d34 d35 d36
    have d43 : ∀ ob, (w4.alloc ob).cell? ⟨w.heap.size, 0, none⟩ = some (.int .i64 a0) := fun ob => (((Ext.refl w4).alloc ob).cell 0 (by omega)).trans (by assumption)
    have d44 : ∀ ob, (w4.alloc ob).cell? ⟨w.heap.size, 1, none⟩ = some (.int .i64 a0') := fun ob => (((Ext.refl w4).alloc ob).cell 1 (by omega)).trans (by assumption)
    have d45 : ∀ ob, (w4.alloc ob).cell? ⟨w.heap.size + 1, 0, none⟩ = some (.int .i64 a1) := fun ob => (((Ext.refl w4).alloc ob).cell 0 (by omega)).trans (by assumption)
    have d46 : ∀ ob, (w4.alloc ob).cell? ⟨w.heap.size + 1, 1, none⟩ = some (.int .i64 a1') := fun ob => (((Ext.refl w4).alloc ob).cell 1 (by omega)).trans (by assumption)
    have d47 : ∀ ob, (w4.alloc ob).cell? ⟨w.heap.size + 1 + 1, 0, none⟩ = some (.int .i64 a2) := fun ob => (((Ext.refl w4).alloc ob).cell 0 (by omega)).trans (by assumption)
    have d48 : ∀ ob, (w4.alloc ob).cell? ⟨w.heap.size + 1 + 1, 1, none⟩ = some (.int .i64 a2') := fun ob => (((Ext.refl w4).alloc ob).cell 1 (by omega)).trans (by assumption)
    go_wp2
    go_ret
    exact ⟨by first | rfl | (simp; done), by repeat (first | exact Ext.refl _ | assumption | refine Ext.drewN ?_ _ | refine Ext.drew ?_ | refine Ext.alloc ?_ _ | refine Ext.setCell ?_ (by dsimp only; omega) _ | refine Ext.trans ?_ (by assumption))⟩
  have q1 : witB a0 a0' (twoS (spB a0 a0' && spB a1 a1') (min a0 a1)) (twoS (spB a0 a0' && spB a1 a1') (max a0' a1')) = true := by simp [witB, twoS, v1, v2]; omega
  have q2 : witB a1 a1' (twoS (spB a0 a0' && spB a1 a1') (min a0 a1)) (twoS (spB a0 a0' && spB a1 a1') (max a0' a1')) = true := by simp [witB, twoS, v1, v2]; omega
  have q3 : witB a0 a0' a2 a2' = true → witB a1 a1' a2 a2' = true → witB (twoS (spB a0 a0' && spB a1 a1') (min a0 a1)) (twoS (spB a0 a0' && spB a1 a1') (max a0' a1')) a2 a2' = true := by simp [witB, twoS, v1, v2]; omega
  have vj : spB (twoS (spB a0 a0' && spB a1 a1') (min a0 a1)) (twoS (spB a0 a0' && spB a1 a1') (max a0' a1')) = true := by simp only [twoS, v1, v2, Bool.and_self, if_true]; obtain ⟨x1, x2, x3⟩ := spB_t v1; obtain ⟨y1, y2, y3⟩ := spB_t v2; have := okB_t.1 x1; have := okB_t.1 x2; have := okB_t.1 y1; have := okB_t.1 y2; exact spB_mk (okB_t.2 (by omega)) (okB_t.2 (by omega)) (by omega)
  have q4 : mtE a0 a0' (twoS (spB a0 a0' && spB a1 a1') (min a0 a1)) (twoS (spB a0 a0' && spB a1 a1') (max a0' a1')) = 0 ∧ mtL a0 a0' (twoS (spB a0 a0' && spB a1 a1') (min a0 a1)) (twoS (spB a0 a0' && spB a1 a1') (max a0' a1')) = a0 ∧ mtH a0 a0' (twoS (spB a0 a0' && spB a1 a1') (min a0 a1)) (twoS (spB a0 a0' && spB a1 a1') (max a0' a1')) = a0' := by
    have hE : mtE a0 a0' (twoS (spB a0 a0' && spB a1 a1') (min a0 a1)) (twoS (spB a0 a0' && spB a1 a1') (max a0' a1')) = 0 := by rw [mtE, vj, v1]; simp only [Bool.and_self, if_true, twoS, v1, v2]; rw [if_neg (by have := (spB_t v1).2.2; omega)]
    refine ⟨hE, ?_, ?_⟩
    · rw [mtL, if_pos hE]; simp only [twoS, v1, v2, Bool.and_self, if_true]; omega
    · rw [mtH, if_pos hE]; simp only [twoS, v1, v2, Bool.and_self, if_true]; omega
  have q5 : oneS (spB a0 a0' && spB a1 a1') = 0 := by simp [oneS, v1, v2]
  have q6 : (mtE a0 a0' a1 a1' = 0 ∧ inB a3 (mtL a0 a0' a1 a1') (mtH a0 a0' a1 a1') = (inB a3 a0 a0' && inB a3 a1 a1')) ∨ (mtE a0 a0' a1 a1' = 5 ∧ (inB a3 a0 a0' && inB a3 a1 a1') = false) := by
    by_cases hm : a0' < a1 ∨ a1' < a0
    · refine Or.inr ⟨by simp [mtE, v1, v2, hm], ?_⟩
      rw [Bool.eq_false_iff]; intro h; rw [Bool.and_eq_true] at h; have := inB_t.1 h.1; have := inB_t.1 h.2; omega
    · have hE : mtE a0 a0' a1 a1' = 0 := by simp [mtE, v1, v2, hm]
      refine Or.inl ⟨hE, ?_⟩
      rw [mtL, if_pos hE, mtH, if_pos hE, Bool.eq_iff_iff, Bool.and_eq_true, inB_t, inB_t, inB_t]; omega
  have Q1 := Lib.hid q1
  have Q2 := Lib.hid q2
  have Q3 := Lib.hid q3
  have Q4 := Lib.hid q4
  have Q5 := Lib.hid q5
  have V1 := Lib.hid v1
  have V2 := Lib.hid v2
  have V3 := Lib.hid v3
  clear q1 q2 q3 q4 q5 v1 v2 v3 vj
  obtain ⟨jl, hjl⟩ : ∃ x, twoS (spB a0 a0' && spB a1 a1') (min a0 a1) = x := ⟨_, rfl⟩
  obtain ⟨jh, hjh⟩ : ∃ x, twoS (spB a0 a0' && spB a1 a1') (max a0' a1') = x := ⟨_, rfl⟩
  rw [hjl, hjh] at Q1 Q2 Q3 Q4
  have HJL := Lib.hid hjl
  have HJH := Lib.hid hjh
  clear hjl hjh
  rcases q6 with ⟨hE, hI⟩ | ⟨hE, hI⟩
  · have HE := Lib.hid hE
    have HI := Lib.hid hI
    clear hE hI
    go_enter Try.func16, Try.ntmps16
    go_wp2_with fail
    refine (wide_any _).mono ?_
    rintro e w1 ⟨rfl, hx1⟩
    have s1 := hx1.size
    try simp at s1
    have c1 : w1.cell? ⟨w.heap.size, 0, none⟩ = some (.int .i64 a0) := (hx1.cell 0 (by first | (simp; done) | (simp; omega) | omega)).trans (by first | assumption | (simp [go_sem]; done) | exact ((((Ext.refl _).alloc _).cell _ (by omega)).trans (by assumption)) | (simp [go_sem, *]; done))
    have c2 : w1.cell? ⟨w.heap.size, 1, none⟩ = some (.int .i64 a0') := (hx1.cell 1 (by first | (simp; done) | (simp; omega) | omega)).trans (by first | assumption | (simp [go_sem]; done) | exact ((((Ext.refl _).alloc _).cell _ (by omega)).trans (by assumption)) | (simp [go_sem, *]; done))
    have c3 : w1.cell? ⟨w.heap.size + 1, 0, none⟩ = some (.int .i64 a1) := (hx1.cell 0 (by first | (simp; done) | (simp; omega) | omega)).trans (by first | assumption | (simp [go_sem]; done) | exact ((((Ext.refl _).alloc _).cell _ (by omega)).trans (by assumption)) | (simp [go_sem, *]; done))
    have c4 : w1.cell? ⟨w.heap.size + 1, 1, none⟩ = some (.int .i64 a1') := (hx1.cell 1 (by first | (simp; done) | (simp; omega) | omega)).trans (by first | assumption | (simp [go_sem]; done) | exact ((((Ext.refl _).alloc _).cell _ (by omega)).trans (by assumption)) | (simp [go_sem, *]; done))
    have c5 : w1.cell? ⟨w.heap.size + 1 + 1, 0, none⟩ = some (.int .i64 a2) := (hx1.cell 0 (by first | (simp; done) | (simp; omega) | omega)).trans (by first | assumption | (simp [go_sem]; done) | exact ((((Ext.refl _).alloc _).cell _ (by omega)).trans (by assumption)) | (simp [go_sem, *]; done))
    have c6 : w1.cell? ⟨w.heap.size + 1 + 1, 1, none⟩ = some (.int .i64 a2') := (hx1.cell 1 (by first | (simp; done) | (simp; omega) | omega)).trans (by first | assumption | (simp [go_sem]; done) | exact ((((Ext.refl _).alloc _).cell _ (by omega)).trans (by assumption)) | (simp [go_sem, *]; done))
    have d7 : ∀ ob, (w1.alloc ob).cell? ⟨w.heap.size, 0, none⟩ = some (.int .i64 a0) := fun ob => (((Ext.refl w1).alloc ob).cell 0 (by omega)).trans (by assumption)
    have d8 : ∀ ob, (w1.alloc ob).cell? ⟨w.heap.size, 1, none⟩ = some (.int .i64 a0') := fun ob => (((Ext.refl w1).alloc ob).cell 1 (by omega)).trans (by assumption)
    have d9 : ∀ ob, (w1.alloc ob).cell? ⟨w.heap.size + 1, 0, none⟩ = some (.int .i64 a1) := fun ob => (((Ext.refl w1).alloc ob).cell 0 (by omega)).trans (by assumption)
    have d10 : ∀ ob, (w1.alloc ob).cell? ⟨w.heap.size + 1, 1, none⟩ = some (.int .i64 a1') := fun ob => (((Ext.refl w1).alloc ob).cell 1 (by omega)).trans (by assumption)
    have d11 : ∀ ob, (w1.alloc ob).cell? ⟨w.heap.size + 1 + 1, 0, none⟩ = some (.int .i64 a2) := fun ob => (((Ext.refl w1).alloc ob).cell 0 (by omega)).trans (by assumption)
    have d12 : ∀ ob, (w1.alloc ob).cell? ⟨w.heap.size + 1 + 1, 1, none⟩ = some (.int .i64 a2') := fun ob => (((Ext.refl w1).alloc ob).cell 1 (by omega)).trans (by assumption)
    go_wp2_with fail
    refine (validSpan_any a0 a0' _).mono ?_
    rintro e w2 ⟨rfl, hx2⟩
    rw [V1.out]
    have s2 := hx2.size
    try simp at s2
    have c13 : w2.cell? ⟨w.heap.size, 0, none⟩ = some (.int .i64 a0) := (hx2.cell 0 (by first | (simp; done) | (simp; omega) | omega)).trans (by first | assumption | (simp [go_sem]; done) | exact ((((Ext.refl _).alloc _).cell _ (by omega)).trans (by assumption)) | (simp [go_sem, *]; done))
    have c14 : w2.cell? ⟨w.heap.size, 1, none⟩ = some (.int .i64 a0') := (hx2.cell 1 (by first | (simp; done) | (simp; omega) | omega)).trans (by first | assumption | (simp [go_sem]; done) | exact ((((Ext.refl _).alloc _).cell _ (by omega)).trans (by assumption)) | (simp [go_sem, *]; done))
    have c15 : w2.cell? ⟨w.heap.size + 1, 0, none⟩ = some (.int .i64 a1) := (hx2.cell 0 (by first | (simp; done) | (simp; omega) | omega)).trans (by first | assumption | (simp [go_sem]; done) | exact ((((Ext.refl _).alloc _).cell _ (by omega)).trans (by assumption)) | (simp [go_sem, *]; done))
    have c16 : w2.cell? ⟨w.heap.size + 1, 1, none⟩ = some (.int .i64 a1') := (hx2.cell 1 (by first | (simp; done) | (simp; omega) | omega)).trans (by first | assumption | (simp [go_sem]; done) | exact ((((Ext.refl _).alloc _).cell _ (by omega)).trans (by assumption)) | (simp [go_sem, *]; done))
    have c17 : w2.cell? ⟨w.heap.size + 1 + 1, 0, none⟩ = some (.int .i64 a2) := (hx2.cell 0 (by first | (simp; done) | (simp; omega) | omega)).trans (by first | assumption | (simp [go_sem]; done) | exact ((((Ext.refl _).alloc _).cell _ (by omega)).trans (by assumption)) | (simp [go_sem, *]; done))
    have c18 : w2.cell? ⟨w.heap.size + 1 + 1, 1, none⟩ = some (.int .i64 a2') := (hx2.cell 1 (by first | (simp; done) | (simp; omega) | omega)).trans (by first | assumption | (simp [go_sem]; done) | exact ((((Ext.refl _).alloc _).cell _ (by omega)).trans (by assumption)) | (simp [go_sem, *]; done))
    clear c1 c2 c3 c4 c5 c6 d7 d8 d9 d10 d11 d12
    have d19 : ∀ ob, (w2.alloc ob).cell? ⟨w.heap.size, 0, none⟩ = some (.int .i64 a0) := fun ob => (((Ext.refl w2).alloc ob).cell 0 (by omega)).trans (by assumption)
    have d20 : ∀ ob, (w2.alloc ob).cell? ⟨w.heap.size, 1, none⟩ = some (.int .i64 a0') := fun ob => (((Ext.refl w2).alloc ob).cell 1 (by omega)).trans (by assumption)
    have d21 : ∀ ob, (w2.alloc ob).cell? ⟨w.heap.size + 1, 0, none⟩ = some (.int .i64 a1) := fun ob => (((Ext.refl w2).alloc ob).cell 0 (by omega)).trans (by assumption)
    have d22 : ∀ ob, (w2.alloc ob).cell? ⟨w.heap.size + 1, 1, none⟩ = some (.int .i64 a1') := fun ob => (((Ext.refl w2).alloc ob).cell 1 (by omega)).trans (by assumption)
    have d23 : ∀ ob, (w2.alloc ob).cell? ⟨w.heap.size + 1 + 1, 0, none⟩ = some (.int .i64 a2) := fun ob => (((Ext.refl w2).alloc ob).cell 0 (by omega)).trans (by assumption)
    have d24 : ∀ ob, (w2.alloc ob).cell? ⟨w.heap.size + 1 + 1, 1, none⟩ = some (.int .i64 a2') := fun ob => (((Ext.refl w2).alloc ob).cell 1 (by omega)).trans (by assumption)
    go_wp2_with fail
    refine (validSpan_any a1 a1' _).mono ?_
    rintro e w3 ⟨rfl, hx3⟩
    rw [V2.out]
    have s3 := hx3.size
    try simp at s3
    have c25 : w3.cell? ⟨w.heap.size, 0, none⟩ = some (.int .i64 a0) := (hx3.cell 0 (by first | (simp; done) | (simp; omega) | omega)).trans (by first | assumption | (simp [go_sem]; done) | exact ((((Ext.refl _).alloc _).cell _ (by omega)).trans (by assumption)) | (simp [go_sem, *]; done))
    have c26 : w3.cell? ⟨w.heap.size, 1, none⟩ = some (.int .i64 a0') := (hx3.cell 1 (by first | (simp; done) | (simp; omega) | omega)).trans (by first | assumption | (simp [go_sem]; done) | exact ((((Ext.refl _).alloc _).cell _ (by omega)).trans (by assumption)) | (simp [go_sem, *]; done))
    have c27 : w3.cell? ⟨w.heap.size + 1, 0, none⟩ = some (.int .i64 a1) := (hx3.cell 0 (by first | (simp; done) | (simp; omega) | omega)).trans (by first | assumption | (simp [go_sem]; done) | exact ((((Ext.refl _).alloc _).cell _ (by omega)).trans (by assumption)) | (simp [go_sem, *]; done))
    have c28 : w3.cell? ⟨w.heap.size + 1, 1, none⟩ = some (.int .i64 a1') := (hx3.cell 1 (by first | (simp; done) | (simp; omega) | omega)).trans (by first | assumption | (simp [go_sem]; done) | exact ((((Ext.refl _).alloc _).cell _ (by omega)).trans (by assumption)) | (simp [go_sem, *]; done))
    have c29 : w3.cell? ⟨w.heap.size + 1 + 1, 0, none⟩ = some (.int .i64 a2) := (hx3.cell 0 (by first | (simp; done) | (simp; omega) | omega)).trans (by first | assumption | (simp [go_sem]; done) | exact ((((Ext.refl _).alloc _).cell _ (by omega)).trans (by assumption)) | (simp [go_sem, *]; done))
    have c30 : w3.cell? ⟨w.heap.size + 1 + 1, 1, none⟩ = some (.int .i64 a2') := (hx3.cell 1 (by first | (simp; done) | (simp; omega) | omega)).trans (by first | assumption | (simp [go_sem]; done) | exact ((((Ext.refl _).alloc _).cell _ (by omega)).trans (by assumption)) | (simp [go_sem, *]; done))
    clear c13 c14 c15 c16 c17 c18 d19 d20 d21 d22 d23 d24
    have d31 : ∀ ob, (w3.alloc ob).cell? ⟨w.heap.size, 0, none⟩ = some (.int .i64 a0) := fun ob => (((Ext.refl w3).alloc ob).cell 0 (by omega)).trans (by assumption)
    have d32 : ∀ ob, (w3.alloc ob).cell? ⟨w.heap.size, 1, none⟩ = some (.int .i64 a0') := fun ob => (((Ext.refl w3).alloc ob).cell 1 (by omega)).trans (by assumption)
    have d33 : ∀ ob, (w3.alloc ob).cell? ⟨w.heap.size + 1, 0, none⟩ = some (.int .i64 a1) := fun ob => (((Ext.refl w3).alloc ob).cell 0 (by omega)).trans (by assumption)
    have d34 : ∀ ob, (w3.alloc ob).cell? ⟨w.heap.size + 1, 1, none⟩ = some (.int .i64 a1') := fun ob => (((Ext.refl w3).alloc ob).cell 1 (by omega)).trans (by assumption)
    have d35 : ∀ ob, (w3.alloc ob).cell? ⟨w.heap.size + 1 + 1, 0, none⟩ = some (.int .i64 a2) := fun ob => (((Ext.refl w3).alloc ob).cell 0 (by omega)).trans (by assumption)
    have d36 : ∀ ob, (w3.alloc ob).cell? ⟨w.heap.size + 1 + 1, 1, none⟩ = some (.int .i64 a2') := fun ob => (((Ext.refl w3).alloc ob).cell 1 (by omega)).trans (by assumption)
    go_wp2_with fail
    refine (validSpan_any a2 a2' _).mono ?_
    rintro e w4 ⟨rfl, hx4⟩
    rw [V3.out]
    have s4 := hx4.size
    try simp at s4
    have c37 : w4.cell? ⟨w.heap.size, 0, none⟩ = some (.int .i64 a0) := (hx4.cell 0 (by first | (simp; done) | (simp; omega) | omega)).trans (by first | assumption | (simp [go_sem]; done) | exact ((((Ext.refl _).alloc _).cell _ (by omega)).trans (by assumption)) | (simp [go_sem, *]; done))
    have c38 : w4.cell? ⟨w.heap.size, 1, none⟩ = some (.int .i64 a0') := (hx4.cell 1 (by first | (simp; done) | (simp; omega) | omega)).trans (by first | assumption | (simp [go_sem]; done) | exact ((((Ext.refl _).alloc _).cell _ (by omega)).trans (by assumption)) | (simp [go_sem, *]; done))
    have c39 : w4.cell? ⟨w.heap.size + 1, 0, none⟩ = some (.int .i64 a1) := (hx4.cell 0 (by first | (simp; done) | (simp; omega) | omega)).trans (by first | assumption | (simp [go_sem]; done) | exact ((((Ext.refl _).alloc _).cell _ (by omega)).trans (by assumption)) | (simp [go_sem, *]; done))
    have c40 : w4.cell? ⟨w.heap.size + 1, 1, none⟩ = some (.int .i64 a1') := (hx4.cell 1 (by first | (simp; done) | (simp; omega) | omega)).trans (by first | assumption | (simp [go_sem]; done) | exact ((((Ext.refl _).alloc _).cell _ (by omega)).trans (by assumption)) | (simp [go_sem, *]; done))
    have c41 : w4.cell? ⟨w.heap.size + 1 + 1, 0, none⟩ = some (.int .i64 a2) := (hx4.cell 0 (by first | (simp; done) | (simp; omega) | omega)).trans (by first | assumption | (simp [go_sem]; done) | exact ((((Ext.refl _).alloc _).cell _ (by omega)).trans (by assumption)) | (simp [go_sem, *]; done))
    have c42 : w4.cell? ⟨w.heap.size + 1 + 1, 1, none⟩ = some (.int .i64 a2') := (hx4.cell 1 (by first | (simp; done) | (simp; omega) | omega)).trans (by first | assumption | (simp [go_sem]; done) | exact ((((Ext.refl _).alloc _).cell _ (by omega)).trans (by assumption)) | (simp [go_sem, *]; done))
    clear c25 c26 c27 c28 c29 c30 d31 d32 d33 d34 d35 d36
    have d43 : ∀ ob, (w4.alloc ob).cell? ⟨w.heap.size, 0, none⟩ = some (.int .i64 a0) := fun ob => (((Ext.refl w4).alloc ob).cell 0 (by omega)).trans (by assumption)
    have d44 : ∀ ob, (w4.alloc ob).cell? ⟨w.heap.size, 1, none⟩ = some (.int .i64 a0') := fun ob => (((Ext.refl w4).alloc ob).cell 1 (by omega)).trans (by assumption)
    have d45 : ∀ ob, (w4.alloc ob).cell? ⟨w.heap.size + 1, 0, none⟩ = some (.int .i64 a1) := fun ob => (((Ext.refl w4).alloc ob).cell 0 (by omega)).trans (by assumption)
    have d46 : ∀ ob, (w4.alloc ob).cell? ⟨w.heap.size + 1, 1, none⟩ = some (.int .i64 a1') := fun ob => (((Ext.refl w4).alloc ob).cell 1 (by omega)).trans (by assumption)
    have d47 : ∀ ob, (w4.alloc ob).cell? ⟨w.heap.size + 1 + 1, 0, none⟩ = some (.int .i64 a2) := fun ob => (((Ext.refl w4).alloc ob).cell 0 (by omega)).trans (by assumption)
    have d48 : ∀ ob, (w4.alloc ob).cell? ⟨w.heap.size + 1 + 1, 1, none⟩ = some (.int .i64 a2') := fun ob => (((Ext.refl w4).alloc ob).cell 1 (by omega)).trans (by assumption)
    go_wp2_with fail
    refine (spanmeet_any a0 a0' a1 a1' _).mono ?_
    rintro e w5 ⟨rfl, hx5⟩
    rw [HE.out]
    have s5 := hx5.size
    try simp at s5
    have c49 : w5.cell? ⟨w.heap.size, 0, none⟩ = some (.int .i64 a0) := (hx5.cell 0 (by first | (simp; done) | (simp; omega) | omega)).trans (by first | assumption | (simp [go_sem]; done) | exact ((((Ext.refl _).alloc _).cell _ (by omega)).trans (by assumption)) | (simp [go_sem, *]; done))
    have c50 : w5.cell? ⟨w.heap.size, 1, none⟩ = some (.int .i64 a0') := (hx5.cell 1 (by first | (simp; done) | (simp; omega) | omega)).trans (by first | assumption | (simp [go_sem]; done) | exact ((((Ext.refl _).alloc _).cell _ (by omega)).trans (by assumption)) | (simp [go_sem, *]; done))
    have c51 : w5.cell? ⟨w.heap.size + 1, 0, none⟩ = some (.int .i64 a1) := (hx5.cell 0 (by first | (simp; done) | (simp; omega) | omega)).trans (by first | assumption | (simp [go_sem]; done) | exact ((((Ext.refl _).alloc _).cell _ (by omega)).trans (by assumption)) | (simp [go_sem, *]; done))
    have c52 : w5.cell? ⟨w.heap.size + 1, 1, none⟩ = some (.int .i64 a1') := (hx5.cell 1 (by first | (simp; done) | (simp; omega) | omega)).trans (by first | assumption | (simp [go_sem]; done) | exact ((((Ext.refl _).alloc _).cell _ (by omega)).trans (by assumption)) | (simp [go_sem, *]; done))
    have c53 : w5.cell? ⟨w.heap.size + 1 + 1, 0, none⟩ = some (.int .i64 a2) := (hx5.cell 0 (by first | (simp; done) | (simp; omega) | omega)).trans (by first | assumption | (simp [go_sem]; done) | exact ((((Ext.refl _).alloc _).cell _ (by omega)).trans (by assumption)) | (simp [go_sem, *]; done))
    have c54 : w5.cell? ⟨w.heap.size + 1 + 1, 1, none⟩ = some (.int .i64 a2') := (hx5.cell 1 (by first | (simp; done) | (simp; omega) | omega)).trans (by first | assumption | (simp [go_sem]; done) | exact ((((Ext.refl _).alloc _).cell _ (by omega)).trans (by assumption)) | (simp [go_sem, *]; done))
    clear c37 c38 c39 c40 c41 c42 d43 d44 d45 d46 d47 d48
    have d55 : ∀ ob, (w5.alloc ob).cell? ⟨w.heap.size, 0, none⟩ = some (.int .i64 a0) := fun ob => (((Ext.refl w5).alloc ob).cell 0 (by omega)).trans (by assumption)
    have d56 : ∀ ob, (w5.alloc ob).cell? ⟨w.heap.size, 1, none⟩ = some (.int .i64 a0') := fun ob => (((Ext.refl w5).alloc ob).cell 1 (by omega)).trans (by assumption)
    have d57 : ∀ ob, (w5.alloc ob).cell? ⟨w.heap.size + 1, 0, none⟩ = some (.int .i64 a1) := fun ob => (((Ext.refl w5).alloc ob).cell 0 (by omega)).trans (by assumption)
    have d58 : ∀ ob, (w5.alloc ob).cell? ⟨w.heap.size + 1, 1, none⟩ = some (.int .i64 a1') := fun ob => (((Ext.refl w5).alloc ob).cell 1 (by omega)).trans (by assumption)
    have d59 : ∀ ob, (w5.alloc ob).cell? ⟨w.heap.size + 1 + 1, 0, none⟩ = some (.int .i64 a2) := fun ob => (((Ext.refl w5).alloc ob).cell 0 (by omega)).trans (by assumption)
    have d60 : ∀ ob, (w5.alloc ob).cell? ⟨w.heap.size + 1 + 1, 1, none⟩ = some (.int .i64 a2') := fun ob => (((Ext.refl w5).alloc ob).cell 1 (by omega)).trans (by assumption)
    go_upto_region 7 with (fail)
    have keepE : ∀ u u' : World, (fun w' : World => (w'.cell? ⟨w.heap.size, 0, none⟩ = some (.int .i64 a0) ∧ w'.cell? ⟨w.heap.size, 1, none⟩ = some (.int .i64 a0') ∧ w'.cell? ⟨w.heap.size + 1, 0, none⟩ = some (.int .i64 a1) ∧ w'.cell? ⟨w.heap.size + 1, 1, none⟩ = some (.int .i64 a1') ∧ w'.cell? ⟨w.heap.size + 1 + 1, 0, none⟩ = some (.int .i64 a2) ∧ w'.cell? ⟨w.heap.size + 1 + 1, 1, none⟩ = some (.int .i64 a2') ∧ w'.cell? ⟨w5.heap.size, 0, none⟩ = some (.int .i64 (mtL a0 a0' a1 a1')) ∧ w'.cell? ⟨w5.heap.size, 1, none⟩ = some (.int .i64 (mtH a0 a0' a1 a1')))) u → Ext u u' → (fun w' : World => (w'.cell? ⟨w.heap.size, 0, none⟩ = some (.int .i64 a0) ∧ w'.cell? ⟨w.heap.size, 1, none⟩ = some (.int .i64 a0') ∧ w'.cell? ⟨w.heap.size + 1, 0, none⟩ = some (.int .i64 a1) ∧ w'.cell? ⟨w.heap.size + 1, 1, none⟩ = some (.int .i64 a1') ∧ w'.cell? ⟨w.heap.size + 1 + 1, 0, none⟩ = some (.int .i64 a2) ∧ w'.cell? ⟨w.heap.size + 1 + 1, 1, none⟩ = some (.int .i64 a2') ∧ w'.cell? ⟨w5.heap.size, 0, none⟩ = some (.int .i64 (mtL a0 a0' a1 a1')) ∧ w'.cell? ⟨w5.heap.size, 1, none⟩ = some (.int .i64 (mtH a0 a0' a1 a1')))) u' := by
      rintro u u' ⟨g0, g1, g2, g3, g4, g5, g6, g7⟩ hx
      exact ⟨(hx.cell 0 (World.block_lt_of_cell? u _ g0)).trans g0, (hx.cell 1 (World.block_lt_of_cell? u _ g1)).trans g1, (hx.cell 0 (World.block_lt_of_cell? u _ g2)).trans g2, (hx.cell 1 (World.block_lt_of_cell? u _ g3)).trans g3, (hx.cell 0 (World.block_lt_of_cell? u _ g4)).trans g4, (hx.cell 1 (World.block_lt_of_cell? u _ g5)).trans g5, (hx.cell 0 (World.block_lt_of_cell? u _ g6)).trans g6, (hx.cell 1 (World.block_lt_of_cell? u _ g7)).trans g7⟩
    obtain ⟨u0, hu0⟩ : ∃ u : World, u = w5.alloc (.cells #[.int .i64 (mtL a0 a0' a1 a1'), .int .i64 (mtH a0 a0' a1 a1')] 35) := ⟨_, rfl⟩
    have keep0 : (fun w' : World => (w'.cell? ⟨w.heap.size, 0, none⟩ = some (.int .i64 a0) ∧ w'.cell? ⟨w.heap.size, 1, none⟩ = some (.int .i64 a0') ∧ w'.cell? ⟨w.heap.size + 1, 0, none⟩ = some (.int .i64 a1) ∧ w'.cell? ⟨w.heap.size + 1, 1, none⟩ = some (.int .i64 a1') ∧ w'.cell? ⟨w.heap.size + 1 + 1, 0, none⟩ = some (.int .i64 a2) ∧ w'.cell? ⟨w.heap.size + 1 + 1, 1, none⟩ = some (.int .i64 a2') ∧ w'.cell? ⟨w5.heap.size, 0, none⟩ = some (.int .i64 (mtL a0 a0' a1 a1')) ∧ w'.cell? ⟨w5.heap.size, 1, none⟩ = some (.int .i64 (mtH a0 a0' a1 a1')))) (w5.alloc (.cells #[.int .i64 (mtL a0 a0' a1 a1'), .int .i64 (mtH a0 a0' a1 a1')] 35)) := ⟨(by first | assumption | (simp [go_sem]; done) | (simp [go_sem, *]; done)), (by first | assumption | (simp [go_sem]; done) | (simp [go_sem, *]; done)), (by first | assumption | (simp [go_sem]; done) | (simp [go_sem, *]; done)), (by first | assumption | (simp [go_sem]; done) | (simp [go_sem, *]; done)), (by first | assumption | (simp [go_sem]; done) | (simp [go_sem, *]; done)), (by first | assumption | (simp [go_sem]; done) | (simp [go_sem, *]; done)), (by first | assumption | (simp [go_sem]; done) | (simp [go_sem, *]; done)), (by first | assumption | (simp [go_sem]; done) | (simp [go_sem, *]; done))⟩
    have KE := Lib.hid keepE
    rw [← hu0] at keep0 ⊢
    have K0 := Lib.hid keep0
    have HU := Lib.hid hu0
    clear keepE keep0 hu0 c49 c50 c51 c52 c53 c54 d55 d56 d57 d58 d59 d60
    go_cut [58] (fun s58 wx => s58 = .bool false ∧ (fun w' : World => (w'.cell? ⟨w.heap.size, 0, none⟩ = some (.int .i64 a0) ∧ w'.cell? ⟨w.heap.size, 1, none⟩ = some (.int .i64 a0') ∧ w'.cell? ⟨w.heap.size + 1, 0, none⟩ = some (.int .i64 a1) ∧ w'.cell? ⟨w.heap.size + 1, 1, none⟩ = some (.int .i64 a1') ∧ w'.cell? ⟨w.heap.size + 1 + 1, 0, none⟩ = some (.int .i64 a2) ∧ w'.cell? ⟨w.heap.size + 1 + 1, 1, none⟩ = some (.int .i64 a2') ∧ w'.cell? ⟨w5.heap.size, 0, none⟩ = some (.int .i64 (mtL a0 a0' a1 a1')) ∧ w'.cell? ⟨w5.heap.size, 1, none⟩ = some (.int .i64 (mtH a0 a0' a1 a1')))) wx ∧ Ext u0 wx)
    case first =>
      rcases Bool.eq_false_or_eq_true (inB a3 a0 a0') with n1 | n1
      · rcases Bool.eq_false_or_eq_true (inB a3 a1 a1') with n2 | n2
        · have n3 : inB a3 (mtL a0 a0' a1 a1') (mtH a0 a0' a1 a1') = true := by rw [HI.out, n1, n2]; rfl
          have i1 : ∀ W, Calls Try.prog 69 #[.int .i64 a3, .agg #[.int .i64 (a0), .int .i64 (a0')]] W fun e w' => e = .returned (.bool true) ∧ Ext W w' := fun W => by have := in_any a3 (a0) (a0') W; rw [n1] at this; exact this
          have I1 := Lib.hid i1
          have i2 : ∀ W, Calls Try.prog 69 #[.int .i64 a3, .agg #[.int .i64 (a1), .int .i64 (a1')]] W fun e w' => e = .returned (.bool true) ∧ Ext W w' := fun W => by have := in_any a3 (a1) (a1') W; rw [n2] at this; exact this
          have I2 := Lib.hid i2
          have i3 : ∀ W, Calls Try.prog 69 #[.int .i64 a3, .agg #[.int .i64 (mtL a0 a0' a1 a1'), .int .i64 (mtH a0 a0' a1 a1')]] W fun e w' => e = .returned (.bool true) ∧ Ext W w' := fun W => by have := in_any a3 (mtL a0 a0' a1 a1') (mtH a0 a0' a1 a1') W; rw [n3] at this; exact this
          have I3 := Lib.hid i3
          clear n1 i1 n2 i2 n3 i3
          go_region_held3 (fun w' : World => (w'.cell? ⟨w.heap.size, 0, none⟩ = some (.int .i64 a0) ∧ w'.cell? ⟨w.heap.size, 1, none⟩ = some (.int .i64 a0') ∧ w'.cell? ⟨w.heap.size + 1, 0, none⟩ = some (.int .i64 a1) ∧ w'.cell? ⟨w.heap.size + 1, 1, none⟩ = some (.int .i64 a1') ∧ w'.cell? ⟨w.heap.size + 1 + 1, 0, none⟩ = some (.int .i64 a2) ∧ w'.cell? ⟨w.heap.size + 1 + 1, 1, none⟩ = some (.int .i64 a2') ∧ w'.cell? ⟨w5.heap.size, 0, none⟩ = some (.int .i64 (mtL a0 a0' a1 a1')) ∧ w'.cell? ⟨w5.heap.size, 1, none⟩ = some (.int .i64 (mtH a0 a0' a1 a1')))) ((refine KE.out _ _ K0.out ?_; (repeat (first | exact Ext.refl _ | assumption | refine Ext.drew ?_ | refine Ext.drewN ?_ _ | refine Ext.trans ?_ (by assumption))); done)) (first | (go_at_call 69; (with_reducible refine (I3.out _).mono ?_); rintro e w6 ⟨rfl, hx⟩) | (go_at_call 69; (with_reducible refine (I1.out _).mono ?_); rintro e w6 ⟨rfl, hx⟩) | (go_at_call 69; (with_reducible refine (I2.out _).mono ?_); rintro e w6 ⟨rfl, hx⟩))
          all_goals (go_wp2_with fail; go_meet; exact ⟨by first | rfl | (simp; done), KE.out _ _ K0.out (by (repeat (first | exact Ext.refl _ | assumption | refine Ext.drew ?_ | refine Ext.drewN ?_ _ | refine Ext.trans ?_ (by assumption)))), by (repeat (first | exact Ext.refl _ | assumption | refine Ext.drew ?_ | refine Ext.drewN ?_ _ | refine Ext.trans ?_ (by assumption)))⟩)
        · have n3 : inB a3 (mtL a0 a0' a1 a1') (mtH a0 a0' a1 a1') = false := by rw [HI.out, n1, n2]; rfl
          have i1 : ∀ W, Calls Try.prog 69 #[.int .i64 a3, .agg #[.int .i64 (a0), .int .i64 (a0')]] W fun e w' => e = .returned (.bool true) ∧ Ext W w' := fun W => by have := in_any a3 (a0) (a0') W; rw [n1] at this; exact this
          have I1 := Lib.hid i1
          have i2 : ∀ W, Calls Try.prog 69 #[.int .i64 a3, .agg #[.int .i64 (a1), .int .i64 (a1')]] W fun e w' => e = .returned (.bool false) ∧ Ext W w' := fun W => by have := in_any a3 (a1) (a1') W; rw [n2] at this; exact this
          have I2 := Lib.hid i2
          have i3 : ∀ W, Calls Try.prog 69 #[.int .i64 a3, .agg #[.int .i64 (mtL a0 a0' a1 a1'), .int .i64 (mtH a0 a0' a1 a1')]] W fun e w' => e = .returned (.bool false) ∧ Ext W w' := fun W => by have := in_any a3 (mtL a0 a0' a1 a1') (mtH a0 a0' a1 a1') W; rw [n3] at this; exact this
          have I3 := Lib.hid i3
          clear n1 i1 n2 i2 n3 i3
          go_region_held3 (fun w' : World => (w'.cell? ⟨w.heap.size, 0, none⟩ = some (.int .i64 a0) ∧ w'.cell? ⟨w.heap.size, 1, none⟩ = some (.int .i64 a0') ∧ w'.cell? ⟨w.heap.size + 1, 0, none⟩ = some (.int .i64 a1) ∧ w'.cell? ⟨w.heap.size + 1, 1, none⟩ = some (.int .i64 a1') ∧ w'.cell? ⟨w.heap.size + 1 + 1, 0, none⟩ = some (.int .i64 a2) ∧ w'.cell? ⟨w.heap.size + 1 + 1, 1, none⟩ = some (.int .i64 a2') ∧ w'.cell? ⟨w5.heap.size, 0, none⟩ = some (.int .i64 (mtL a0 a0' a1 a1')) ∧ w'.cell? ⟨w5.heap.size, 1, none⟩ = some (.int .i64 (mtH a0 a0' a1 a1')))) ((refine KE.out _ _ K0.out ?_; (repeat (first | exact Ext.refl _ | assumption | refine Ext.drew ?_ | refine Ext.drewN ?_ _ | refine Ext.trans ?_ (by assumption))); done)) (first | (go_at_call 69; (with_reducible refine (I3.out _).mono ?_); rintro e w6 ⟨rfl, hx⟩) | (go_at_call 69; (with_reducible refine (I1.out _).mono ?_); rintro e w6 ⟨rfl, hx⟩) | (go_at_call 69; (with_reducible refine (I2.out _).mono ?_); rintro e w6 ⟨rfl, hx⟩))
          all_goals (go_wp2_with fail; go_meet; exact ⟨by first | rfl | (simp; done), KE.out _ _ K0.out (by (repeat (first | exact Ext.refl _ | assumption | refine Ext.drew ?_ | refine Ext.drewN ?_ _ | refine Ext.trans ?_ (by assumption)))), by (repeat (first | exact Ext.refl _ | assumption | refine Ext.drew ?_ | refine Ext.drewN ?_ _ | refine Ext.trans ?_ (by assumption)))⟩)
      · have n3 : inB a3 (mtL a0 a0' a1 a1') (mtH a0 a0' a1 a1') = false := by rw [HI.out, n1]; rfl
        have i1 : ∀ W, Calls Try.prog 69 #[.int .i64 a3, .agg #[.int .i64 (a0), .int .i64 (a0')]] W fun e w' => e = .returned (.bool false) ∧ Ext W w' := fun W => by have := in_any a3 (a0) (a0') W; rw [n1] at this; exact this
        have I1 := Lib.hid i1
        have i3 : ∀ W, Calls Try.prog 69 #[.int .i64 a3, .agg #[.int .i64 (mtL a0 a0' a1 a1'), .int .i64 (mtH a0 a0' a1 a1')]] W fun e w' => e = .returned (.bool false) ∧ Ext W w' := fun W => by have := in_any a3 (mtL a0 a0' a1 a1') (mtH a0 a0' a1 a1') W; rw [n3] at this; exact this
        have I3 := Lib.hid i3
        clear n1 i1 n3 i3
        refine wp_region_held_drew (S := (fun w' : World => (w'.cell? ⟨w.heap.size, 0, none⟩ = some (.int .i64 a0) ∧ w'.cell? ⟨w.heap.size, 1, none⟩ = some (.int .i64 a0') ∧ w'.cell? ⟨w.heap.size + 1, 0, none⟩ = some (.int .i64 a1) ∧ w'.cell? ⟨w.heap.size + 1, 1, none⟩ = some (.int .i64 a1') ∧ w'.cell? ⟨w.heap.size + 1 + 1, 0, none⟩ = some (.int .i64 a2) ∧ w'.cell? ⟨w.heap.size + 1 + 1, 1, none⟩ = some (.int .i64 a2') ∧ w'.cell? ⟨w5.heap.size, 0, none⟩ = some (.int .i64 (mtL a0 a0' a1 a1')) ∧ w'.cell? ⟨w5.heap.size, 1, none⟩ = some (.int .i64 (mtH a0 a0' a1 a1'))))) (by kernel_rfl) ?hS0a0 (fun hHeld => ?_)
        case hS0a0 => ((try dsimp only); (refine KE.out _ _ K0.out ?_; (repeat (first | exact Ext.refl _ | assumption | refine Ext.drew ?_ | refine Ext.drewN ?_ _ | refine Ext.trans ?_ (by assumption))); done))
        refine wpAnyH_take (i := 0) (v := ?_) rfl (by kernel_rfl) (by kernel_rfl) (by kernel_rfl) (fun _ _ _ h => h) (Or.inl ⟨by rfl, ?hy1⟩) (by assumption) ?_
        case hy1 => ((intro w hSw; (try dsimp only at hSw); go_simp); try with_reducible rfl)
        try simp only [List.getElem_toArray, List.getElem_cons_succ, List.getElem_cons_zero, Act.put, List.setIfInBounds_toArray, List.set_cons_zero, List.set_cons_succ]
        refine wpAnyH_take (i := 1) (v := ?_) rfl (by kernel_rfl) (by kernel_rfl) (by kernel_rfl) (fun _ _ _ h => h) (Or.inl ⟨by rfl, ?hy2⟩) (by assumption) ?_
        case hy2 => ((intro w hSw; (try dsimp only at hSw); go_simp); try with_reducible rfl)
        try simp only [List.getElem_toArray, List.getElem_cons_succ, List.getElem_cons_zero, Act.put, List.setIfInBounds_toArray, List.set_cons_zero, List.set_cons_succ]
        refine wpAnyH_take (i := 2) (v := ?_) rfl (by kernel_rfl) (by kernel_rfl) (by kernel_rfl) (fun _ _ _ h => h) (Or.inl ⟨by rfl, ?hy3⟩) (by assumption) ?_
        case hy3 => ((intro w hSw; (try dsimp only at hSw); go_simp); try with_reducible rfl)
        try simp only [List.getElem_toArray, List.getElem_cons_succ, List.getElem_cons_zero, Act.put, List.setIfInBounds_toArray, List.set_cons_zero, List.set_cons_succ]
        refine wpAnyH_take (i := 3) (v := ?_) rfl (by kernel_rfl) (by kernel_rfl) (by kernel_rfl) (fun _ _ _ h => h) (Or.inl ⟨by rfl, ?hy4⟩) (by assumption) ?_
        case hy4 => ((intro w hSw; (try dsimp only at hSw); go_simp); try with_reducible rfl)
        try simp only [List.getElem_toArray, List.getElem_cons_succ, List.getElem_cons_zero, Act.put, List.setIfInBounds_toArray, List.set_cons_zero, List.set_cons_succ]
        refine wpAnyH_take (i := 4) (v := ?_) rfl (by kernel_rfl) (by kernel_rfl) (by kernel_rfl) (fun _ _ _ h => h) (Or.inl ⟨by rfl, ?hy5⟩) (by assumption) ?_
        case hy5 => ((intro w hSw; (try dsimp only at hSw); go_simp); try with_reducible rfl)
        try simp only [List.getElem_toArray, List.getElem_cons_succ, List.getElem_cons_zero, Act.put, List.setIfInBounds_toArray, List.set_cons_zero, List.set_cons_succ]
        refine wpAnyH_take (i := 7) (v := ?_) rfl (by kernel_rfl) (by kernel_rfl) (by kernel_rfl) (fun _ _ _ h => h) (Or.inl ⟨by rfl, ?hy6⟩) (by assumption) ?_
        case hy6 => ((intro w hSw; (try dsimp only at hSw); go_simp); try with_reducible rfl)
        try simp only [List.getElem_toArray, List.getElem_cons_succ, List.getElem_cons_zero, Act.put, List.setIfInBounds_toArray, List.set_cons_zero, List.set_cons_succ]
        refine wpAnyH_take (i := 8) (v := ?_) rfl (by kernel_rfl) (by kernel_rfl) (by kernel_rfl) (fun _ _ _ h => h) (Or.inl ⟨by rfl, ?hy7⟩) (by assumption) ?_
        case hy7 => ((intro w hSw; (try dsimp only at hSw); go_simp); try with_reducible rfl)
        try simp only [List.getElem_toArray, List.getElem_cons_succ, List.getElem_cons_zero, Act.put, List.setIfInBounds_toArray, List.set_cons_zero, List.set_cons_succ]
        refine wpAnyH_ready (rs := [5]) (by kernel_rfl) (by simp) ?_
        refine AllReadyH.cons rfl (fun K hK => ?_) AllReadyH.nil
        go_simp
        go_at_call 69
        (with_reducible refine (I3.out _).mono ?_)
        rintro e w6 ⟨rfl, hx⟩
        go_wp2_with fail
        refine hK.out _ _ ?hS8 (fun hHeld => ?_)
        case hS8 => ((try dsimp only); (refine KE.out _ _ K0.out ?_; (repeat (first | exact Ext.refl _ | assumption | refine Ext.drew ?_ | refine Ext.drewN ?_ _ | refine Ext.trans ?_ (by assumption))); done))
        clear hK K
        try simp only [List.getElem_toArray, List.getElem_cons_succ, List.getElem_cons_zero, Act.put, List.setIfInBounds_toArray, List.set_cons_zero, List.set_cons_succ]
        refine wpAnyH_take (i := 6) (v := ?_) rfl (by kernel_rfl) (by kernel_rfl) (by kernel_rfl) (fun _ _ _ h => h) (Or.inl ⟨by rfl, ?hy9⟩) (by assumption) ?_
        case hy9 => ((intro w hSw; (try dsimp only at hSw); go_simp); try with_reducible rfl)
        try simp only [List.getElem_toArray, List.getElem_cons_succ, List.getElem_cons_zero, Act.put, List.setIfInBounds_toArray, List.set_cons_zero, List.set_cons_succ]
        refine wpAnyH_ready (rs := [9]) (by kernel_rfl) (by simp) ?_
        refine AllReadyH.cons rfl (fun K hK => ?_) AllReadyH.nil
        go_simp
        go_at_call 69
        (with_reducible refine (I1.out _).mono ?_)
        rintro e w6 ⟨rfl, hx⟩
        go_wp2_with fail
        refine hK.out _ _ ?hS10 (fun hHeld => ?_)
        case hS10 => ((try dsimp only); (refine KE.out _ _ K0.out ?_; (repeat (first | exact Ext.refl _ | assumption | refine Ext.drew ?_ | refine Ext.drewN ?_ _ | refine Ext.trans ?_ (by assumption))); done))
        clear hK K
        try simp only [List.getElem_toArray, List.getElem_cons_succ, List.getElem_cons_zero, Act.put, List.setIfInBounds_toArray, List.set_cons_zero, List.set_cons_succ]
        refine wpAnyH_take (i := 10) (v := ?_) rfl (by kernel_rfl) (by kernel_rfl) (by kernel_rfl) (fun _ _ _ h => h) (Or.inl ⟨by rfl, ?hy11⟩) (by assumption) ?_
        case hy11 => ((intro w hSw; (try dsimp only at hSw); go_simp); try with_reducible rfl)
        try simp only [List.getElem_toArray, List.getElem_cons_succ, List.getElem_cons_zero, Act.put, List.setIfInBounds_toArray, List.set_cons_zero, List.set_cons_succ]
        refine wpAnyH_take (i := 11) (v := undef) rfl (by kernel_rfl) (by kernel_rfl) (by kernel_rfl) (fun _ _ _ h => h) (Or.inr ⟨by rfl, rfl⟩) (by assumption) ?_
        try simp only [List.getElem_toArray, List.getElem_cons_succ, List.getElem_cons_zero, Act.put, List.setIfInBounds_toArray, List.set_cons_zero, List.set_cons_succ]
        refine wpAnyH_take (i := 12) (v := undef) rfl (by kernel_rfl) (by kernel_rfl) (by kernel_rfl) (fun _ _ _ h => h) (Or.inr ⟨by rfl, rfl⟩) (by assumption) ?_
        try simp only [List.getElem_toArray, List.getElem_cons_succ, List.getElem_cons_zero, Act.put, List.setIfInBounds_toArray, List.set_cons_zero, List.set_cons_succ]
        refine wpAnyH_take (i := 13) (v := undef) rfl (by kernel_rfl) (by kernel_rfl) (by kernel_rfl) (fun _ _ _ h => h) (Or.inr ⟨by rfl, rfl⟩) (by assumption) ?_
        try simp only [List.getElem_toArray, List.getElem_cons_succ, List.getElem_cons_zero, Act.put, List.setIfInBounds_toArray, List.set_cons_zero, List.set_cons_succ]
        refine wpAnyH_take (i := 14) (v := ?_) rfl (by kernel_rfl) (by kernel_rfl) (by kernel_rfl) (fun _ _ _ h => h) (Or.inl ⟨by rfl, ?hy15⟩) (by assumption) ?_
        case hy15 => ((intro w hSw; (try dsimp only at hSw); go_simp); try with_reducible rfl)
        try simp only [List.getElem_toArray, List.getElem_cons_succ, List.getElem_cons_zero, Act.put, List.setIfInBounds_toArray, List.set_cons_zero, List.set_cons_succ]
        refine wpAnyH_take (i := 15) (v := ?_) rfl (by kernel_rfl) (by kernel_rfl) (by kernel_rfl) (fun _ _ _ h => h) (Or.inl ⟨by rfl, ?hy16⟩) (by assumption) ?_
        case hy16 => ((intro w hSw; (try dsimp only at hSw); go_simp); try with_reducible rfl)
        try simp only [List.getElem_toArray, List.getElem_cons_succ, List.getElem_cons_zero, Act.put, List.setIfInBounds_toArray, List.set_cons_zero, List.set_cons_succ]
        refine wpAnyH_done (by kernel_rfl) ?_ _
        (go_wp2_with fail; go_meet; exact ⟨by first | rfl | (simp; done), KE.out _ _ K0.out (by (repeat (first | exact Ext.refl _ | assumption | refine Ext.drew ?_ | refine Ext.drewN ?_ _ | refine Ext.trans ?_ (by assumption)))), by (repeat (first | exact Ext.refl _ | assumption | refine Ext.drew ?_ | refine Ext.drewN ?_ _ | refine Ext.trans ?_ (by assumption)))⟩)
    case rest =>
      obtain ⟨rfl, hS, hxc⟩ := hcut
      obtain ⟨w6, hw6⟩ : ∃ x : World, x = wc := ⟨_, rfl⟩
      subst hw6
      have hx6 : Ext (w5.alloc (.cells #[.int .i64 (mtL a0 a0' a1 a1'), .int .i64 (mtH a0 a0' a1 a1')] 35)) w6 := by rw [← HU.out]; exact hxc
      clear hxc KE K0 HU
      have s6 := hx6.size
      try simp at s6
      obtain ⟨c61, c62, c63, c64, c65, c66, c67, c68⟩ := hS
      go_wp2_with fail
      refine (spanjoin_any a0 a0' a1 a1' _).mono ?_
      rintro e w7 ⟨rfl, hx7⟩
      rw [HJL.out, HJH.out, Q5.out]
      have s7 := hx7.size
      try simp at s7
      have c69 : w7.cell? ⟨w.heap.size, 0, none⟩ = some (.int .i64 a0) := (hx7.cell 0 (by first | (simp; done) | (simp; omega) | omega)).trans (by first | assumption | (simp [go_sem]; done) | exact ((((Ext.refl _).alloc _).cell _ (by omega)).trans (by assumption)) | (simp [go_sem, *]; done))
      have c70 : w7.cell? ⟨w.heap.size, 1, none⟩ = some (.int .i64 a0') := (hx7.cell 1 (by first | (simp; done) | (simp; omega) | omega)).trans (by first | assumption | (simp [go_sem]; done) | exact ((((Ext.refl _).alloc _).cell _ (by omega)).trans (by assumption)) | (simp [go_sem, *]; done))
      have c71 : w7.cell? ⟨w.heap.size + 1, 0, none⟩ = some (.int .i64 a1) := (hx7.cell 0 (by first | (simp; done) | (simp; omega) | omega)).trans (by first | assumption | (simp [go_sem]; done) | exact ((((Ext.refl _).alloc _).cell _ (by omega)).trans (by assumption)) | (simp [go_sem, *]; done))
      have c72 : w7.cell? ⟨w.heap.size + 1, 1, none⟩ = some (.int .i64 a1') := (hx7.cell 1 (by first | (simp; done) | (simp; omega) | omega)).trans (by first | assumption | (simp [go_sem]; done) | exact ((((Ext.refl _).alloc _).cell _ (by omega)).trans (by assumption)) | (simp [go_sem, *]; done))
      have c73 : w7.cell? ⟨w.heap.size + 1 + 1, 0, none⟩ = some (.int .i64 a2) := (hx7.cell 0 (by first | (simp; done) | (simp; omega) | omega)).trans (by first | assumption | (simp [go_sem]; done) | exact ((((Ext.refl _).alloc _).cell _ (by omega)).trans (by assumption)) | (simp [go_sem, *]; done))
      have c74 : w7.cell? ⟨w.heap.size + 1 + 1, 1, none⟩ = some (.int .i64 a2') := (hx7.cell 1 (by first | (simp; done) | (simp; omega) | omega)).trans (by first | assumption | (simp [go_sem]; done) | exact ((((Ext.refl _).alloc _).cell _ (by omega)).trans (by assumption)) | (simp [go_sem, *]; done))
      have c75 : w7.cell? ⟨w5.heap.size, 0, none⟩ = some (.int .i64 (mtL a0 a0' a1 a1')) := (hx7.cell 0 (by first | (simp; done) | (simp; omega) | omega)).trans (by first | assumption | (simp [go_sem]; done) | exact ((((Ext.refl _).alloc _).cell _ (by omega)).trans (by assumption)) | (simp [go_sem, *]; done))
      have c76 : w7.cell? ⟨w5.heap.size, 1, none⟩ = some (.int .i64 (mtH a0 a0' a1 a1')) := (hx7.cell 1 (by first | (simp; done) | (simp; omega) | omega)).trans (by first | assumption | (simp [go_sem]; done) | exact ((((Ext.refl _).alloc _).cell _ (by omega)).trans (by assumption)) | (simp [go_sem, *]; done))
      clear c61 c62 c63 c64 c65 c66 c67 c68
      have d77 : ∀ ob, (w7.alloc ob).cell? ⟨w.heap.size, 0, none⟩ = some (.int .i64 a0) := fun ob => (((Ext.refl w7).alloc ob).cell 0 (by omega)).trans (by assumption)
      have d78 : ∀ ob, (w7.alloc ob).cell? ⟨w.heap.size, 1, none⟩ = some (.int .i64 a0') := fun ob => (((Ext.refl w7).alloc ob).cell 1 (by omega)).trans (by assumption)
      have d79 : ∀ ob, (w7.alloc ob).cell? ⟨w.heap.size + 1, 0, none⟩ = some (.int .i64 a1) := fun ob => (((Ext.refl w7).alloc ob).cell 0 (by omega)).trans (by assumption)
      have d80 : ∀ ob, (w7.alloc ob).cell? ⟨w.heap.size + 1, 1, none⟩ = some (.int .i64 a1') := fun ob => (((Ext.refl w7).alloc ob).cell 1 (by omega)).trans (by assumption)
      have d81 : ∀ ob, (w7.alloc ob).cell? ⟨w.heap.size + 1 + 1, 0, none⟩ = some (.int .i64 a2) := fun ob => (((Ext.refl w7).alloc ob).cell 0 (by omega)).trans (by assumption)
      have d82 : ∀ ob, (w7.alloc ob).cell? ⟨w.heap.size + 1 + 1, 1, none⟩ = some (.int .i64 a2') := fun ob => (((Ext.refl w7).alloc ob).cell 1 (by omega)).trans (by assumption)
      have d83 : ∀ ob, (w7.alloc ob).cell? ⟨w5.heap.size, 0, none⟩ = some (.int .i64 (mtL a0 a0' a1 a1')) := fun ob => (((Ext.refl w7).alloc ob).cell 0 (by omega)).trans (by assumption)
      have d84 : ∀ ob, (w7.alloc ob).cell? ⟨w5.heap.size, 1, none⟩ = some (.int .i64 (mtH a0 a0' a1 a1')) := fun ob => (((Ext.refl w7).alloc ob).cell 1 (by omega)).trans (by assumption)
      go_wp2_with fail
      refine (lwithin_any a0 a0' jl jh _).mono ?_
      rintro e w8 ⟨rfl, hx8⟩
      rw [Q1.out]
      have s8 := hx8.size
      try simp at s8
      have c85 : w8.cell? ⟨w.heap.size, 0, none⟩ = some (.int .i64 a0) := (hx8.cell 0 (by first | (simp; done) | (simp; omega) | omega)).trans (by first | assumption | (simp [go_sem]; done) | exact ((((Ext.refl _).alloc _).cell _ (by omega)).trans (by assumption)) | (simp [go_sem, *]; done))
      have c86 : w8.cell? ⟨w.heap.size, 1, none⟩ = some (.int .i64 a0') := (hx8.cell 1 (by first | (simp; done) | (simp; omega) | omega)).trans (by first | assumption | (simp [go_sem]; done) | exact ((((Ext.refl _).alloc _).cell _ (by omega)).trans (by assumption)) | (simp [go_sem, *]; done))
      have c87 : w8.cell? ⟨w.heap.size + 1, 0, none⟩ = some (.int .i64 a1) := (hx8.cell 0 (by first | (simp; done) | (simp; omega) | omega)).trans (by first | assumption | (simp [go_sem]; done) | exact ((((Ext.refl _).alloc _).cell _ (by omega)).trans (by assumption)) | (simp [go_sem, *]; done))
      have c88 : w8.cell? ⟨w.heap.size + 1, 1, none⟩ = some (.int .i64 a1') := (hx8.cell 1 (by first | (simp; done) | (simp; omega) | omega)).trans (by first | assumption | (simp [go_sem]; done) | exact ((((Ext.refl _).alloc _).cell _ (by omega)).trans (by assumption)) | (simp [go_sem, *]; done))
      have c89 : w8.cell? ⟨w.heap.size + 1 + 1, 0, none⟩ = some (.int .i64 a2) := (hx8.cell 0 (by first | (simp; done) | (simp; omega) | omega)).trans (by first | assumption | (simp [go_sem]; done) | exact ((((Ext.refl _).alloc _).cell _ (by omega)).trans (by assumption)) | (simp [go_sem, *]; done))
      have c90 : w8.cell? ⟨w.heap.size + 1 + 1, 1, none⟩ = some (.int .i64 a2') := (hx8.cell 1 (by first | (simp; done) | (simp; omega) | omega)).trans (by first | assumption | (simp [go_sem]; done) | exact ((((Ext.refl _).alloc _).cell _ (by omega)).trans (by assumption)) | (simp [go_sem, *]; done))
      have c91 : w8.cell? ⟨w5.heap.size, 0, none⟩ = some (.int .i64 (mtL a0 a0' a1 a1')) := (hx8.cell 0 (by first | (simp; done) | (simp; omega) | omega)).trans (by first | assumption | (simp [go_sem]; done) | exact ((((Ext.refl _).alloc _).cell _ (by omega)).trans (by assumption)) | (simp [go_sem, *]; done))
      have c92 : w8.cell? ⟨w5.heap.size, 1, none⟩ = some (.int .i64 (mtH a0 a0' a1 a1')) := (hx8.cell 1 (by first | (simp; done) | (simp; omega) | omega)).trans (by first | assumption | (simp [go_sem]; done) | exact ((((Ext.refl _).alloc _).cell _ (by omega)).trans (by assumption)) | (simp [go_sem, *]; done))
      have c93 : w8.cell? ⟨w7.heap.size, 0, none⟩ = some (.int .i64 jl) := (hx8.cell 0 (by first | (simp; done) | (simp; omega) | omega)).trans (by first | assumption | (simp [go_sem]; done) | exact ((((Ext.refl _).alloc _).cell _ (by omega)).trans (by assumption)) | (simp [go_sem, *]; done))
      have c94 : w8.cell? ⟨w7.heap.size, 1, none⟩ = some (.int .i64 jh) := (hx8.cell 1 (by first | (simp; done) | (simp; omega) | omega)).trans (by first | assumption | (simp [go_sem]; done) | exact ((((Ext.refl _).alloc _).cell _ (by omega)).trans (by assumption)) | (simp [go_sem, *]; done))
      clear c69 c70 c71 c72 c73 c74 c75 c76 d77 d78 d79 d80 d81 d82 d83 d84
      have d95 : ∀ ob, (w8.alloc ob).cell? ⟨w.heap.size, 0, none⟩ = some (.int .i64 a0) := fun ob => (((Ext.refl w8).alloc ob).cell 0 (by omega)).trans (by assumption)
      have d96 : ∀ ob, (w8.alloc ob).cell? ⟨w.heap.size, 1, none⟩ = some (.int .i64 a0') := fun ob => (((Ext.refl w8).alloc ob).cell 1 (by omega)).trans (by assumption)
      have d97 : ∀ ob, (w8.alloc ob).cell? ⟨w.heap.size + 1, 0, none⟩ = some (.int .i64 a1) := fun ob => (((Ext.refl w8).alloc ob).cell 0 (by omega)).trans (by assumption)
      have d98 : ∀ ob, (w8.alloc ob).cell? ⟨w.heap.size + 1, 1, none⟩ = some (.int .i64 a1') := fun ob => (((Ext.refl w8).alloc ob).cell 1 (by omega)).trans (by assumption)
      have d99 : ∀ ob, (w8.alloc ob).cell? ⟨w.heap.size + 1 + 1, 0, none⟩ = some (.int .i64 a2) := fun ob => (((Ext.refl w8).alloc ob).cell 0 (by omega)).trans (by assumption)
      have d100 : ∀ ob, (w8.alloc ob).cell? ⟨w.heap.size + 1 + 1, 1, none⟩ = some (.int .i64 a2') := fun ob => (((Ext.refl w8).alloc ob).cell 1 (by omega)).trans (by assumption)
      have d101 : ∀ ob, (w8.alloc ob).cell? ⟨w5.heap.size, 0, none⟩ = some (.int .i64 (mtL a0 a0' a1 a1')) := fun ob => (((Ext.refl w8).alloc ob).cell 0 (by omega)).trans (by assumption)
      have d102 : ∀ ob, (w8.alloc ob).cell? ⟨w5.heap.size, 1, none⟩ = some (.int .i64 (mtH a0 a0' a1 a1')) := fun ob => (((Ext.refl w8).alloc ob).cell 1 (by omega)).trans (by assumption)
      have d103 : ∀ ob, (w8.alloc ob).cell? ⟨w7.heap.size, 0, none⟩ = some (.int .i64 jl) := fun ob => (((Ext.refl w8).alloc ob).cell 0 (by omega)).trans (by assumption)
      have d104 : ∀ ob, (w8.alloc ob).cell? ⟨w7.heap.size, 1, none⟩ = some (.int .i64 jh) := fun ob => (((Ext.refl w8).alloc ob).cell 1 (by omega)).trans (by assumption)
      go_wp2_with fail
      refine (lwithin_any a1 a1' jl jh _).mono ?_
      rintro e w9 ⟨rfl, hx9⟩
      rw [Q2.out]
      have s9 := hx9.size
      try simp at s9
      have c105 : w9.cell? ⟨w.heap.size, 0, none⟩ = some (.int .i64 a0) := (hx9.cell 0 (by first | (simp; done) | (simp; omega) | omega)).trans (by first | assumption | (simp [go_sem]; done) | exact ((((Ext.refl _).alloc _).cell _ (by omega)).trans (by assumption)) | (simp [go_sem, *]; done))
      have c106 : w9.cell? ⟨w.heap.size, 1, none⟩ = some (.int .i64 a0') := (hx9.cell 1 (by first | (simp; done) | (simp; omega) | omega)).trans (by first | assumption | (simp [go_sem]; done) | exact ((((Ext.refl _).alloc _).cell _ (by omega)).trans (by assumption)) | (simp [go_sem, *]; done))
      have c107 : w9.cell? ⟨w.heap.size + 1, 0, none⟩ = some (.int .i64 a1) := (hx9.cell 0 (by first | (simp; done) | (simp; omega) | omega)).trans (by first | assumption | (simp [go_sem]; done) | exact ((((Ext.refl _).alloc _).cell _ (by omega)).trans (by assumption)) | (simp [go_sem, *]; done))
      have c108 : w9.cell? ⟨w.heap.size + 1, 1, none⟩ = some (.int .i64 a1') := (hx9.cell 1 (by first | (simp; done) | (simp; omega) | omega)).trans (by first | assumption | (simp [go_sem]; done) | exact ((((Ext.refl _).alloc _).cell _ (by omega)).trans (by assumption)) | (simp [go_sem, *]; done))
      have c109 : w9.cell? ⟨w.heap.size + 1 + 1, 0, none⟩ = some (.int .i64 a2) := (hx9.cell 0 (by first | (simp; done) | (simp; omega) | omega)).trans (by first | assumption | (simp [go_sem]; done) | exact ((((Ext.refl _).alloc _).cell _ (by omega)).trans (by assumption)) | (simp [go_sem, *]; done))
      have c110 : w9.cell? ⟨w.heap.size + 1 + 1, 1, none⟩ = some (.int .i64 a2') := (hx9.cell 1 (by first | (simp; done) | (simp; omega) | omega)).trans (by first | assumption | (simp [go_sem]; done) | exact ((((Ext.refl _).alloc _).cell _ (by omega)).trans (by assumption)) | (simp [go_sem, *]; done))
      have c111 : w9.cell? ⟨w5.heap.size, 0, none⟩ = some (.int .i64 (mtL a0 a0' a1 a1')) := (hx9.cell 0 (by first | (simp; done) | (simp; omega) | omega)).trans (by first | assumption | (simp [go_sem]; done) | exact ((((Ext.refl _).alloc _).cell _ (by omega)).trans (by assumption)) | (simp [go_sem, *]; done))
      have c112 : w9.cell? ⟨w5.heap.size, 1, none⟩ = some (.int .i64 (mtH a0 a0' a1 a1')) := (hx9.cell 1 (by first | (simp; done) | (simp; omega) | omega)).trans (by first | assumption | (simp [go_sem]; done) | exact ((((Ext.refl _).alloc _).cell _ (by omega)).trans (by assumption)) | (simp [go_sem, *]; done))
      have c113 : w9.cell? ⟨w7.heap.size, 0, none⟩ = some (.int .i64 jl) := (hx9.cell 0 (by first | (simp; done) | (simp; omega) | omega)).trans (by first | assumption | (simp [go_sem]; done) | exact ((((Ext.refl _).alloc _).cell _ (by omega)).trans (by assumption)) | (simp [go_sem, *]; done))
      have c114 : w9.cell? ⟨w7.heap.size, 1, none⟩ = some (.int .i64 jh) := (hx9.cell 1 (by first | (simp; done) | (simp; omega) | omega)).trans (by first | assumption | (simp [go_sem]; done) | exact ((((Ext.refl _).alloc _).cell _ (by omega)).trans (by assumption)) | (simp [go_sem, *]; done))
      clear c85 c86 c87 c88 c89 c90 c91 c92 c93 c94 d95 d96 d97 d98 d99 d100 d101 d102 d103 d104
      have d115 : ∀ ob, (w9.alloc ob).cell? ⟨w.heap.size, 0, none⟩ = some (.int .i64 a0) := fun ob => (((Ext.refl w9).alloc ob).cell 0 (by omega)).trans (by assumption)
      have d116 : ∀ ob, (w9.alloc ob).cell? ⟨w.heap.size, 1, none⟩ = some (.int .i64 a0') := fun ob => (((Ext.refl w9).alloc ob).cell 1 (by omega)).trans (by assumption)
      have d117 : ∀ ob, (w9.alloc ob).cell? ⟨w.heap.size + 1, 0, none⟩ = some (.int .i64 a1) := fun ob => (((Ext.refl w9).alloc ob).cell 0 (by omega)).trans (by assumption)
      have d118 : ∀ ob, (w9.alloc ob).cell? ⟨w.heap.size + 1, 1, none⟩ = some (.int .i64 a1') := fun ob => (((Ext.refl w9).alloc ob).cell 1 (by omega)).trans (by assumption)
      have d119 : ∀ ob, (w9.alloc ob).cell? ⟨w.heap.size + 1 + 1, 0, none⟩ = some (.int .i64 a2) := fun ob => (((Ext.refl w9).alloc ob).cell 0 (by omega)).trans (by assumption)
      have d120 : ∀ ob, (w9.alloc ob).cell? ⟨w.heap.size + 1 + 1, 1, none⟩ = some (.int .i64 a2') := fun ob => (((Ext.refl w9).alloc ob).cell 1 (by omega)).trans (by assumption)
      have d121 : ∀ ob, (w9.alloc ob).cell? ⟨w5.heap.size, 0, none⟩ = some (.int .i64 (mtL a0 a0' a1 a1')) := fun ob => (((Ext.refl w9).alloc ob).cell 0 (by omega)).trans (by assumption)
      have d122 : ∀ ob, (w9.alloc ob).cell? ⟨w5.heap.size, 1, none⟩ = some (.int .i64 (mtH a0 a0' a1 a1')) := fun ob => (((Ext.refl w9).alloc ob).cell 1 (by omega)).trans (by assumption)
      have d123 : ∀ ob, (w9.alloc ob).cell? ⟨w7.heap.size, 0, none⟩ = some (.int .i64 jl) := fun ob => (((Ext.refl w9).alloc ob).cell 0 (by omega)).trans (by assumption)
      have d124 : ∀ ob, (w9.alloc ob).cell? ⟨w7.heap.size, 1, none⟩ = some (.int .i64 jh) := fun ob => (((Ext.refl w9).alloc ob).cell 1 (by omega)).trans (by assumption)
      rcases Bool.eq_false_or_eq_true (witB a0 a0' a2 a2') with y1 | y1
      · rcases Bool.eq_false_or_eq_true (witB a1 a1' a2 a2') with y2 | y2
        · have Y1 := Lib.hid y1
          clear y1
          have Y2 := Lib.hid y2
          clear y2
          go_wp2_with fail
          refine (lwithin_any a0 a0' a2 a2' _).mono ?_
          rintro e w10 ⟨rfl, hx10⟩
          rw [Y1.out]
          have s10 := hx10.size
          try simp at s10
          have c125 : w10.cell? ⟨w.heap.size, 0, none⟩ = some (.int .i64 a0) := (hx10.cell 0 (by first | (simp; done) | (simp; omega) | omega)).trans (by first | assumption | (simp [go_sem]; done) | exact ((((Ext.refl _).alloc _).cell _ (by omega)).trans (by assumption)) | (simp [go_sem, *]; done))
          have c126 : w10.cell? ⟨w.heap.size, 1, none⟩ = some (.int .i64 a0') := (hx10.cell 1 (by first | (simp; done) | (simp; omega) | omega)).trans (by first | assumption | (simp [go_sem]; done) | exact ((((Ext.refl _).alloc _).cell _ (by omega)).trans (by assumption)) | (simp [go_sem, *]; done))
          have c127 : w10.cell? ⟨w.heap.size + 1, 0, none⟩ = some (.int .i64 a1) := (hx10.cell 0 (by first | (simp; done) | (simp; omega) | omega)).trans (by first | assumption | (simp [go_sem]; done) | exact ((((Ext.refl _).alloc _).cell _ (by omega)).trans (by assumption)) | (simp [go_sem, *]; done))
          have c128 : w10.cell? ⟨w.heap.size + 1, 1, none⟩ = some (.int .i64 a1') := (hx10.cell 1 (by first | (simp; done) | (simp; omega) | omega)).trans (by first | assumption | (simp [go_sem]; done) | exact ((((Ext.refl _).alloc _).cell _ (by omega)).trans (by assumption)) | (simp [go_sem, *]; done))
          have c129 : w10.cell? ⟨w.heap.size + 1 + 1, 0, none⟩ = some (.int .i64 a2) := (hx10.cell 0 (by first | (simp; done) | (simp; omega) | omega)).trans (by first | assumption | (simp [go_sem]; done) | exact ((((Ext.refl _).alloc _).cell _ (by omega)).trans (by assumption)) | (simp [go_sem, *]; done))
          have c130 : w10.cell? ⟨w.heap.size + 1 + 1, 1, none⟩ = some (.int .i64 a2') := (hx10.cell 1 (by first | (simp; done) | (simp; omega) | omega)).trans (by first | assumption | (simp [go_sem]; done) | exact ((((Ext.refl _).alloc _).cell _ (by omega)).trans (by assumption)) | (simp [go_sem, *]; done))
          have c131 : w10.cell? ⟨w5.heap.size, 0, none⟩ = some (.int .i64 (mtL a0 a0' a1 a1')) := (hx10.cell 0 (by first | (simp; done) | (simp; omega) | omega)).trans (by first | assumption | (simp [go_sem]; done) | exact ((((Ext.refl _).alloc _).cell _ (by omega)).trans (by assumption)) | (simp [go_sem, *]; done))
          have c132 : w10.cell? ⟨w5.heap.size, 1, none⟩ = some (.int .i64 (mtH a0 a0' a1 a1')) := (hx10.cell 1 (by first | (simp; done) | (simp; omega) | omega)).trans (by first | assumption | (simp [go_sem]; done) | exact ((((Ext.refl _).alloc _).cell _ (by omega)).trans (by assumption)) | (simp [go_sem, *]; done))
          have c133 : w10.cell? ⟨w7.heap.size, 0, none⟩ = some (.int .i64 jl) := (hx10.cell 0 (by first | (simp; done) | (simp; omega) | omega)).trans (by first | assumption | (simp [go_sem]; done) | exact ((((Ext.refl _).alloc _).cell _ (by omega)).trans (by assumption)) | (simp [go_sem, *]; done))
          have c134 : w10.cell? ⟨w7.heap.size, 1, none⟩ = some (.int .i64 jh) := (hx10.cell 1 (by first | (simp; done) | (simp; omega) | omega)).trans (by first | assumption | (simp [go_sem]; done) | exact ((((Ext.refl _).alloc _).cell _ (by omega)).trans (by assumption)) | (simp [go_sem, *]; done))
          clear c105 c106 c107 c108 c109 c110 c111 c112 c113 c114 d115 d116 d117 d118 d119 d120 d121 d122 d123 d124
          have d135 : ∀ ob, (w10.alloc ob).cell? ⟨w.heap.size, 0, none⟩ = some (.int .i64 a0) := fun ob => (((Ext.refl w10).alloc ob).cell 0 (by omega)).trans (by assumption)
          have d136 : ∀ ob, (w10.alloc ob).cell? ⟨w.heap.size, 1, none⟩ = some (.int .i64 a0') := fun ob => (((Ext.refl w10).alloc ob).cell 1 (by omega)).trans (by assumption)
          have d137 : ∀ ob, (w10.alloc ob).cell? ⟨w.heap.size + 1, 0, none⟩ = some (.int .i64 a1) := fun ob => (((Ext.refl w10).alloc ob).cell 0 (by omega)).trans (by assumption)
          have d138 : ∀ ob, (w10.alloc ob).cell? ⟨w.heap.size + 1, 1, none⟩ = some (.int .i64 a1') := fun ob => (((Ext.refl w10).alloc ob).cell 1 (by omega)).trans (by assumption)
          have d139 : ∀ ob, (w10.alloc ob).cell? ⟨w.heap.size + 1 + 1, 0, none⟩ = some (.int .i64 a2) := fun ob => (((Ext.refl w10).alloc ob).cell 0 (by omega)).trans (by assumption)
          have d140 : ∀ ob, (w10.alloc ob).cell? ⟨w.heap.size + 1 + 1, 1, none⟩ = some (.int .i64 a2') := fun ob => (((Ext.refl w10).alloc ob).cell 1 (by omega)).trans (by assumption)
          have d141 : ∀ ob, (w10.alloc ob).cell? ⟨w5.heap.size, 0, none⟩ = some (.int .i64 (mtL a0 a0' a1 a1')) := fun ob => (((Ext.refl w10).alloc ob).cell 0 (by omega)).trans (by assumption)
          have d142 : ∀ ob, (w10.alloc ob).cell? ⟨w5.heap.size, 1, none⟩ = some (.int .i64 (mtH a0 a0' a1 a1')) := fun ob => (((Ext.refl w10).alloc ob).cell 1 (by omega)).trans (by assumption)
          have d143 : ∀ ob, (w10.alloc ob).cell? ⟨w7.heap.size, 0, none⟩ = some (.int .i64 jl) := fun ob => (((Ext.refl w10).alloc ob).cell 0 (by omega)).trans (by assumption)
          have d144 : ∀ ob, (w10.alloc ob).cell? ⟨w7.heap.size, 1, none⟩ = some (.int .i64 jh) := fun ob => (((Ext.refl w10).alloc ob).cell 1 (by omega)).trans (by assumption)
          go_wp2_with fail
          refine (lwithin_any a1 a1' a2 a2' _).mono ?_
          rintro e w11 ⟨rfl, hx11⟩
          rw [Y2.out]
          have s11 := hx11.size
          try simp at s11
          have c145 : w11.cell? ⟨w.heap.size, 0, none⟩ = some (.int .i64 a0) := (hx11.cell 0 (by first | (simp; done) | (simp; omega) | omega)).trans (by first | assumption | (simp [go_sem]; done) | exact ((((Ext.refl _).alloc _).cell _ (by omega)).trans (by assumption)) | (simp [go_sem, *]; done))
          have c146 : w11.cell? ⟨w.heap.size, 1, none⟩ = some (.int .i64 a0') := (hx11.cell 1 (by first | (simp; done) | (simp; omega) | omega)).trans (by first | assumption | (simp [go_sem]; done) | exact ((((Ext.refl _).alloc _).cell _ (by omega)).trans (by assumption)) | (simp [go_sem, *]; done))
          have c147 : w11.cell? ⟨w.heap.size + 1, 0, none⟩ = some (.int .i64 a1) := (hx11.cell 0 (by first | (simp; done) | (simp; omega) | omega)).trans (by first | assumption | (simp [go_sem]; done) | exact ((((Ext.refl _).alloc _).cell _ (by omega)).trans (by assumption)) | (simp [go_sem, *]; done))
          have c148 : w11.cell? ⟨w.heap.size + 1, 1, none⟩ = some (.int .i64 a1') := (hx11.cell 1 (by first | (simp; done) | (simp; omega) | omega)).trans (by first | assumption | (simp [go_sem]; done) | exact ((((Ext.refl _).alloc _).cell _ (by omega)).trans (by assumption)) | (simp [go_sem, *]; done))
          have c149 : w11.cell? ⟨w.heap.size + 1 + 1, 0, none⟩ = some (.int .i64 a2) := (hx11.cell 0 (by first | (simp; done) | (simp; omega) | omega)).trans (by first | assumption | (simp [go_sem]; done) | exact ((((Ext.refl _).alloc _).cell _ (by omega)).trans (by assumption)) | (simp [go_sem, *]; done))
          have c150 : w11.cell? ⟨w.heap.size + 1 + 1, 1, none⟩ = some (.int .i64 a2') := (hx11.cell 1 (by first | (simp; done) | (simp; omega) | omega)).trans (by first | assumption | (simp [go_sem]; done) | exact ((((Ext.refl _).alloc _).cell _ (by omega)).trans (by assumption)) | (simp [go_sem, *]; done))
          have c151 : w11.cell? ⟨w5.heap.size, 0, none⟩ = some (.int .i64 (mtL a0 a0' a1 a1')) := (hx11.cell 0 (by first | (simp; done) | (simp; omega) | omega)).trans (by first | assumption | (simp [go_sem]; done) | exact ((((Ext.refl _).alloc _).cell _ (by omega)).trans (by assumption)) | (simp [go_sem, *]; done))
          have c152 : w11.cell? ⟨w5.heap.size, 1, none⟩ = some (.int .i64 (mtH a0 a0' a1 a1')) := (hx11.cell 1 (by first | (simp; done) | (simp; omega) | omega)).trans (by first | assumption | (simp [go_sem]; done) | exact ((((Ext.refl _).alloc _).cell _ (by omega)).trans (by assumption)) | (simp [go_sem, *]; done))
          have c153 : w11.cell? ⟨w7.heap.size, 0, none⟩ = some (.int .i64 jl) := (hx11.cell 0 (by first | (simp; done) | (simp; omega) | omega)).trans (by first | assumption | (simp [go_sem]; done) | exact ((((Ext.refl _).alloc _).cell _ (by omega)).trans (by assumption)) | (simp [go_sem, *]; done))
          have c154 : w11.cell? ⟨w7.heap.size, 1, none⟩ = some (.int .i64 jh) := (hx11.cell 1 (by first | (simp; done) | (simp; omega) | omega)).trans (by first | assumption | (simp [go_sem]; done) | exact ((((Ext.refl _).alloc _).cell _ (by omega)).trans (by assumption)) | (simp [go_sem, *]; done))
          clear c125 c126 c127 c128 c129 c130 c131 c132 c133 c134 d135 d136 d137 d138 d139 d140 d141 d142 d143 d144
          have d155 : ∀ ob, (w11.alloc ob).cell? ⟨w.heap.size, 0, none⟩ = some (.int .i64 a0) := fun ob => (((Ext.refl w11).alloc ob).cell 0 (by omega)).trans (by assumption)
          have d156 : ∀ ob, (w11.alloc ob).cell? ⟨w.heap.size, 1, none⟩ = some (.int .i64 a0') := fun ob => (((Ext.refl w11).alloc ob).cell 1 (by omega)).trans (by assumption)
          have d157 : ∀ ob, (w11.alloc ob).cell? ⟨w.heap.size + 1, 0, none⟩ = some (.int .i64 a1) := fun ob => (((Ext.refl w11).alloc ob).cell 0 (by omega)).trans (by assumption)
          have d158 : ∀ ob, (w11.alloc ob).cell? ⟨w.heap.size + 1, 1, none⟩ = some (.int .i64 a1') := fun ob => (((Ext.refl w11).alloc ob).cell 1 (by omega)).trans (by assumption)
          have d159 : ∀ ob, (w11.alloc ob).cell? ⟨w.heap.size + 1 + 1, 0, none⟩ = some (.int .i64 a2) := fun ob => (((Ext.refl w11).alloc ob).cell 0 (by omega)).trans (by assumption)
          have d160 : ∀ ob, (w11.alloc ob).cell? ⟨w.heap.size + 1 + 1, 1, none⟩ = some (.int .i64 a2') := fun ob => (((Ext.refl w11).alloc ob).cell 1 (by omega)).trans (by assumption)
          have d161 : ∀ ob, (w11.alloc ob).cell? ⟨w5.heap.size, 0, none⟩ = some (.int .i64 (mtL a0 a0' a1 a1')) := fun ob => (((Ext.refl w11).alloc ob).cell 0 (by omega)).trans (by assumption)
          have d162 : ∀ ob, (w11.alloc ob).cell? ⟨w5.heap.size, 1, none⟩ = some (.int .i64 (mtH a0 a0' a1 a1')) := fun ob => (((Ext.refl w11).alloc ob).cell 1 (by omega)).trans (by assumption)
          have d163 : ∀ ob, (w11.alloc ob).cell? ⟨w7.heap.size, 0, none⟩ = some (.int .i64 jl) := fun ob => (((Ext.refl w11).alloc ob).cell 0 (by omega)).trans (by assumption)
          have d164 : ∀ ob, (w11.alloc ob).cell? ⟨w7.heap.size, 1, none⟩ = some (.int .i64 jh) := fun ob => (((Ext.refl w11).alloc ob).cell 1 (by omega)).trans (by assumption)
          go_wp2_with fail
          refine (lwithin_any jl jh a2 a2' _).mono ?_
          rintro e w12 ⟨rfl, hx12⟩
          rw [Q3.out Y1.out Y2.out]
          have s12 := hx12.size
          try simp at s12
          have c165 : w12.cell? ⟨w.heap.size, 0, none⟩ = some (.int .i64 a0) := (hx12.cell 0 (by first | (simp; done) | (simp; omega) | omega)).trans (by first | assumption | (simp [go_sem]; done) | exact ((((Ext.refl _).alloc _).cell _ (by omega)).trans (by assumption)) | (simp [go_sem, *]; done))
          have c166 : w12.cell? ⟨w.heap.size, 1, none⟩ = some (.int .i64 a0') := (hx12.cell 1 (by first | (simp; done) | (simp; omega) | omega)).trans (by first | assumption | (simp [go_sem]; done) | exact ((((Ext.refl _).alloc _).cell _ (by omega)).trans (by assumption)) | (simp [go_sem, *]; done))
          have c167 : w12.cell? ⟨w.heap.size + 1, 0, none⟩ = some (.int .i64 a1) := (hx12.cell 0 (by first | (simp; done) | (simp; omega) | omega)).trans (by first | assumption | (simp [go_sem]; done) | exact ((((Ext.refl _).alloc _).cell _ (by omega)).trans (by assumption)) | (simp [go_sem, *]; done))
          have c168 : w12.cell? ⟨w.heap.size + 1, 1, none⟩ = some (.int .i64 a1') := (hx12.cell 1 (by first | (simp; done) | (simp; omega) | omega)).trans (by first | assumption | (simp [go_sem]; done) | exact ((((Ext.refl _).alloc _).cell _ (by omega)).trans (by assumption)) | (simp [go_sem, *]; done))
          have c169 : w12.cell? ⟨w.heap.size + 1 + 1, 0, none⟩ = some (.int .i64 a2) := (hx12.cell 0 (by first | (simp; done) | (simp; omega) | omega)).trans (by first | assumption | (simp [go_sem]; done) | exact ((((Ext.refl _).alloc _).cell _ (by omega)).trans (by assumption)) | (simp [go_sem, *]; done))
          have c170 : w12.cell? ⟨w.heap.size + 1 + 1, 1, none⟩ = some (.int .i64 a2') := (hx12.cell 1 (by first | (simp; done) | (simp; omega) | omega)).trans (by first | assumption | (simp [go_sem]; done) | exact ((((Ext.refl _).alloc _).cell _ (by omega)).trans (by assumption)) | (simp [go_sem, *]; done))
          have c171 : w12.cell? ⟨w5.heap.size, 0, none⟩ = some (.int .i64 (mtL a0 a0' a1 a1')) := (hx12.cell 0 (by first | (simp; done) | (simp; omega) | omega)).trans (by first | assumption | (simp [go_sem]; done) | exact ((((Ext.refl _).alloc _).cell _ (by omega)).trans (by assumption)) | (simp [go_sem, *]; done))
          have c172 : w12.cell? ⟨w5.heap.size, 1, none⟩ = some (.int .i64 (mtH a0 a0' a1 a1')) := (hx12.cell 1 (by first | (simp; done) | (simp; omega) | omega)).trans (by first | assumption | (simp [go_sem]; done) | exact ((((Ext.refl _).alloc _).cell _ (by omega)).trans (by assumption)) | (simp [go_sem, *]; done))
          have c173 : w12.cell? ⟨w7.heap.size, 0, none⟩ = some (.int .i64 jl) := (hx12.cell 0 (by first | (simp; done) | (simp; omega) | omega)).trans (by first | assumption | (simp [go_sem]; done) | exact ((((Ext.refl _).alloc _).cell _ (by omega)).trans (by assumption)) | (simp [go_sem, *]; done))
          have c174 : w12.cell? ⟨w7.heap.size, 1, none⟩ = some (.int .i64 jh) := (hx12.cell 1 (by first | (simp; done) | (simp; omega) | omega)).trans (by first | assumption | (simp [go_sem]; done) | exact ((((Ext.refl _).alloc _).cell _ (by omega)).trans (by assumption)) | (simp [go_sem, *]; done))
          clear c145 c146 c147 c148 c149 c150 c151 c152 c153 c154 d155 d156 d157 d158 d159 d160 d161 d162 d163 d164
          have d175 : ∀ ob, (w12.alloc ob).cell? ⟨w.heap.size, 0, none⟩ = some (.int .i64 a0) := fun ob => (((Ext.refl w12).alloc ob).cell 0 (by omega)).trans (by assumption)
          have d176 : ∀ ob, (w12.alloc ob).cell? ⟨w.heap.size, 1, none⟩ = some (.int .i64 a0') := fun ob => (((Ext.refl w12).alloc ob).cell 1 (by omega)).trans (by assumption)
          have d177 : ∀ ob, (w12.alloc ob).cell? ⟨w.heap.size + 1, 0, none⟩ = some (.int .i64 a1) := fun ob => (((Ext.refl w12).alloc ob).cell 0 (by omega)).trans (by assumption)
          have d178 : ∀ ob, (w12.alloc ob).cell? ⟨w.heap.size + 1, 1, none⟩ = some (.int .i64 a1') := fun ob => (((Ext.refl w12).alloc ob).cell 1 (by omega)).trans (by assumption)
          have d179 : ∀ ob, (w12.alloc ob).cell? ⟨w.heap.size + 1 + 1, 0, none⟩ = some (.int .i64 a2) := fun ob => (((Ext.refl w12).alloc ob).cell 0 (by omega)).trans (by assumption)
          have d180 : ∀ ob, (w12.alloc ob).cell? ⟨w.heap.size + 1 + 1, 1, none⟩ = some (.int .i64 a2') := fun ob => (((Ext.refl w12).alloc ob).cell 1 (by omega)).trans (by assumption)
          have d181 : ∀ ob, (w12.alloc ob).cell? ⟨w5.heap.size, 0, none⟩ = some (.int .i64 (mtL a0 a0' a1 a1')) := fun ob => (((Ext.refl w12).alloc ob).cell 0 (by omega)).trans (by assumption)
          have d182 : ∀ ob, (w12.alloc ob).cell? ⟨w5.heap.size, 1, none⟩ = some (.int .i64 (mtH a0 a0' a1 a1')) := fun ob => (((Ext.refl w12).alloc ob).cell 1 (by omega)).trans (by assumption)
          have d183 : ∀ ob, (w12.alloc ob).cell? ⟨w7.heap.size, 0, none⟩ = some (.int .i64 jl) := fun ob => (((Ext.refl w12).alloc ob).cell 0 (by omega)).trans (by assumption)
          have d184 : ∀ ob, (w12.alloc ob).cell? ⟨w7.heap.size, 1, none⟩ = some (.int .i64 jh) := fun ob => (((Ext.refl w12).alloc ob).cell 1 (by omega)).trans (by assumption)
          go_wp2_with fail
          refine (spanmeet_any a0 a0' jl jh _).mono ?_
          rintro e w13 ⟨rfl, hx13⟩
          rw [Q4.out.1, Q4.out.2.1, Q4.out.2.2]
          have s13 := hx13.size
          try simp at s13
          have c185 : w13.cell? ⟨w.heap.size, 0, none⟩ = some (.int .i64 a0) := (hx13.cell 0 (by first | (simp; done) | (simp; omega) | omega)).trans (by first | assumption | (simp [go_sem]; done) | exact ((((Ext.refl _).alloc _).cell _ (by omega)).trans (by assumption)) | (simp [go_sem, *]; done))
          have c186 : w13.cell? ⟨w.heap.size, 1, none⟩ = some (.int .i64 a0') := (hx13.cell 1 (by first | (simp; done) | (simp; omega) | omega)).trans (by first | assumption | (simp [go_sem]; done) | exact ((((Ext.refl _).alloc _).cell _ (by omega)).trans (by assumption)) | (simp [go_sem, *]; done))
          have c187 : w13.cell? ⟨w.heap.size + 1, 0, none⟩ = some (.int .i64 a1) := (hx13.cell 0 (by first | (simp; done) | (simp; omega) | omega)).trans (by first | assumption | (simp [go_sem]; done) | exact ((((Ext.refl _).alloc _).cell _ (by omega)).trans (by assumption)) | (simp [go_sem, *]; done))
          have c188 : w13.cell? ⟨w.heap.size + 1, 1, none⟩ = some (.int .i64 a1') := (hx13.cell 1 (by first | (simp; done) | (simp; omega) | omega)).trans (by first | assumption | (simp [go_sem]; done) | exact ((((Ext.refl _).alloc _).cell _ (by omega)).trans (by assumption)) | (simp [go_sem, *]; done))
          have c189 : w13.cell? ⟨w.heap.size + 1 + 1, 0, none⟩ = some (.int .i64 a2) := (hx13.cell 0 (by first | (simp; done) | (simp; omega) | omega)).trans (by first | assumption | (simp [go_sem]; done) | exact ((((Ext.refl _).alloc _).cell _ (by omega)).trans (by assumption)) | (simp [go_sem, *]; done))
          have c190 : w13.cell? ⟨w.heap.size + 1 + 1, 1, none⟩ = some (.int .i64 a2') := (hx13.cell 1 (by first | (simp; done) | (simp; omega) | omega)).trans (by first | assumption | (simp [go_sem]; done) | exact ((((Ext.refl _).alloc _).cell _ (by omega)).trans (by assumption)) | (simp [go_sem, *]; done))
          have c191 : w13.cell? ⟨w5.heap.size, 0, none⟩ = some (.int .i64 (mtL a0 a0' a1 a1')) := (hx13.cell 0 (by first | (simp; done) | (simp; omega) | omega)).trans (by first | assumption | (simp [go_sem]; done) | exact ((((Ext.refl _).alloc _).cell _ (by omega)).trans (by assumption)) | (simp [go_sem, *]; done))
          have c192 : w13.cell? ⟨w5.heap.size, 1, none⟩ = some (.int .i64 (mtH a0 a0' a1 a1')) := (hx13.cell 1 (by first | (simp; done) | (simp; omega) | omega)).trans (by first | assumption | (simp [go_sem]; done) | exact ((((Ext.refl _).alloc _).cell _ (by omega)).trans (by assumption)) | (simp [go_sem, *]; done))
          have c193 : w13.cell? ⟨w7.heap.size, 0, none⟩ = some (.int .i64 jl) := (hx13.cell 0 (by first | (simp; done) | (simp; omega) | omega)).trans (by first | assumption | (simp [go_sem]; done) | exact ((((Ext.refl _).alloc _).cell _ (by omega)).trans (by assumption)) | (simp [go_sem, *]; done))
          have c194 : w13.cell? ⟨w7.heap.size, 1, none⟩ = some (.int .i64 jh) := (hx13.cell 1 (by first | (simp; done) | (simp; omega) | omega)).trans (by first | assumption | (simp [go_sem]; done) | exact ((((Ext.refl _).alloc _).cell _ (by omega)).trans (by assumption)) | (simp [go_sem, *]; done))
          clear c165 c166 c167 c168 c169 c170 c171 c172 c173 c174 d175 d176 d177 d178 d179 d180 d181 d182 d183 d184
          have d195 : ∀ ob, (w13.alloc ob).cell? ⟨w.heap.size, 0, none⟩ = some (.int .i64 a0) := fun ob => (((Ext.refl w13).alloc ob).cell 0 (by omega)).trans (by assumption)
          have d196 : ∀ ob, (w13.alloc ob).cell? ⟨w.heap.size, 1, none⟩ = some (.int .i64 a0') := fun ob => (((Ext.refl w13).alloc ob).cell 1 (by omega)).trans (by assumption)
          have d197 : ∀ ob, (w13.alloc ob).cell? ⟨w.heap.size + 1, 0, none⟩ = some (.int .i64 a1) := fun ob => (((Ext.refl w13).alloc ob).cell 0 (by omega)).trans (by assumption)
          have d198 : ∀ ob, (w13.alloc ob).cell? ⟨w.heap.size + 1, 1, none⟩ = some (.int .i64 a1') := fun ob => (((Ext.refl w13).alloc ob).cell 1 (by omega)).trans (by assumption)
          have d199 : ∀ ob, (w13.alloc ob).cell? ⟨w.heap.size + 1 + 1, 0, none⟩ = some (.int .i64 a2) := fun ob => (((Ext.refl w13).alloc ob).cell 0 (by omega)).trans (by assumption)
          have d200 : ∀ ob, (w13.alloc ob).cell? ⟨w.heap.size + 1 + 1, 1, none⟩ = some (.int .i64 a2') := fun ob => (((Ext.refl w13).alloc ob).cell 1 (by omega)).trans (by assumption)
          have d201 : ∀ ob, (w13.alloc ob).cell? ⟨w5.heap.size, 0, none⟩ = some (.int .i64 (mtL a0 a0' a1 a1')) := fun ob => (((Ext.refl w13).alloc ob).cell 0 (by omega)).trans (by assumption)
          have d202 : ∀ ob, (w13.alloc ob).cell? ⟨w5.heap.size, 1, none⟩ = some (.int .i64 (mtH a0 a0' a1 a1')) := fun ob => (((Ext.refl w13).alloc ob).cell 1 (by omega)).trans (by assumption)
          have d203 : ∀ ob, (w13.alloc ob).cell? ⟨w7.heap.size, 0, none⟩ = some (.int .i64 jl) := fun ob => (((Ext.refl w13).alloc ob).cell 0 (by omega)).trans (by assumption)
          have d204 : ∀ ob, (w13.alloc ob).cell? ⟨w7.heap.size, 1, none⟩ = some (.int .i64 jh) := fun ob => (((Ext.refl w13).alloc ob).cell 1 (by omega)).trans (by assumption)
          go_wp2
          go_ret
          exact ⟨by first | rfl | (simp; done), by repeat (first | exact Ext.refl _ | assumption | refine Ext.drewN ?_ _ | refine Ext.drew ?_ | refine Ext.alloc ?_ _ | refine Ext.setCell ?_ (by dsimp only; omega) _ | refine Ext.trans ?_ (by assumption))⟩
        · have Y1 := Lib.hid y1
          clear y1
          have Y2 := Lib.hid y2
          clear y2
          go_wp2_with fail
          refine (lwithin_any a0 a0' a2 a2' _).mono ?_
          rintro e w10 ⟨rfl, hx10⟩
          rw [Y1.out]
          have s10 := hx10.size
          try simp at s10
          have c125 : w10.cell? ⟨w.heap.size, 0, none⟩ = some (.int .i64 a0) := (hx10.cell 0 (by first | (simp; done) | (simp; omega) | omega)).trans (by first | assumption | (simp [go_sem]; done) | exact ((((Ext.refl _).alloc _).cell _ (by omega)).trans (by assumption)) | (simp [go_sem, *]; done))
          have c126 : w10.cell? ⟨w.heap.size, 1, none⟩ = some (.int .i64 a0') := (hx10.cell 1 (by first | (simp; done) | (simp; omega) | omega)).trans (by first | assumption | (simp [go_sem]; done) | exact ((((Ext.refl _).alloc _).cell _ (by omega)).trans (by assumption)) | (simp [go_sem, *]; done))
          have c127 : w10.cell? ⟨w.heap.size + 1, 0, none⟩ = some (.int .i64 a1) := (hx10.cell 0 (by first | (simp; done) | (simp; omega) | omega)).trans (by first | assumption | (simp [go_sem]; done) | exact ((((Ext.refl _).alloc _).cell _ (by omega)).trans (by assumption)) | (simp [go_sem, *]; done))
          have c128 : w10.cell? ⟨w.heap.size + 1, 1, none⟩ = some (.int .i64 a1') := (hx10.cell 1 (by first | (simp; done) | (simp; omega) | omega)).trans (by first | assumption | (simp [go_sem]; done) | exact ((((Ext.refl _).alloc _).cell _ (by omega)).trans (by assumption)) | (simp [go_sem, *]; done))
          have c129 : w10.cell? ⟨w.heap.size + 1 + 1, 0, none⟩ = some (.int .i64 a2) := (hx10.cell 0 (by first | (simp; done) | (simp; omega) | omega)).trans (by first | assumption | (simp [go_sem]; done) | exact ((((Ext.refl _).alloc _).cell _ (by omega)).trans (by assumption)) | (simp [go_sem, *]; done))
          have c130 : w10.cell? ⟨w.heap.size + 1 + 1, 1, none⟩ = some (.int .i64 a2') := (hx10.cell 1 (by first | (simp; done) | (simp; omega) | omega)).trans (by first | assumption | (simp [go_sem]; done) | exact ((((Ext.refl _).alloc _).cell _ (by omega)).trans (by assumption)) | (simp [go_sem, *]; done))
          have c131 : w10.cell? ⟨w5.heap.size, 0, none⟩ = some (.int .i64 (mtL a0 a0' a1 a1')) := (hx10.cell 0 (by first | (simp; done) | (simp; omega) | omega)).trans (by first | assumption | (simp [go_sem]; done) | exact ((((Ext.refl _).alloc _).cell _ (by omega)).trans (by assumption)) | (simp [go_sem, *]; done))
          have c132 : w10.cell? ⟨w5.heap.size, 1, none⟩ = some (.int .i64 (mtH a0 a0' a1 a1')) := (hx10.cell 1 (by first | (simp; done) | (simp; omega) | omega)).trans (by first | assumption | (simp [go_sem]; done) | exact ((((Ext.refl _).alloc _).cell _ (by omega)).trans (by assumption)) | (simp [go_sem, *]; done))
          have c133 : w10.cell? ⟨w7.heap.size, 0, none⟩ = some (.int .i64 jl) := (hx10.cell 0 (by first | (simp; done) | (simp; omega) | omega)).trans (by first | assumption | (simp [go_sem]; done) | exact ((((Ext.refl _).alloc _).cell _ (by omega)).trans (by assumption)) | (simp [go_sem, *]; done))
          have c134 : w10.cell? ⟨w7.heap.size, 1, none⟩ = some (.int .i64 jh) := (hx10.cell 1 (by first | (simp; done) | (simp; omega) | omega)).trans (by first | assumption | (simp [go_sem]; done) | exact ((((Ext.refl _).alloc _).cell _ (by omega)).trans (by assumption)) | (simp [go_sem, *]; done))
          clear c105 c106 c107 c108 c109 c110 c111 c112 c113 c114 d115 d116 d117 d118 d119 d120 d121 d122 d123 d124
          have d135 : ∀ ob, (w10.alloc ob).cell? ⟨w.heap.size, 0, none⟩ = some (.int .i64 a0) := fun ob => (((Ext.refl w10).alloc ob).cell 0 (by omega)).trans (by assumption)
          have d136 : ∀ ob, (w10.alloc ob).cell? ⟨w.heap.size, 1, none⟩ = some (.int .i64 a0') := fun ob => (((Ext.refl w10).alloc ob).cell 1 (by omega)).trans (by assumption)
          have d137 : ∀ ob, (w10.alloc ob).cell? ⟨w.heap.size + 1, 0, none⟩ = some (.int .i64 a1) := fun ob => (((Ext.refl w10).alloc ob).cell 0 (by omega)).trans (by assumption)
          have d138 : ∀ ob, (w10.alloc ob).cell? ⟨w.heap.size + 1, 1, none⟩ = some (.int .i64 a1') := fun ob => (((Ext.refl w10).alloc ob).cell 1 (by omega)).trans (by assumption)
          have d139 : ∀ ob, (w10.alloc ob).cell? ⟨w.heap.size + 1 + 1, 0, none⟩ = some (.int .i64 a2) := fun ob => (((Ext.refl w10).alloc ob).cell 0 (by omega)).trans (by assumption)
          have d140 : ∀ ob, (w10.alloc ob).cell? ⟨w.heap.size + 1 + 1, 1, none⟩ = some (.int .i64 a2') := fun ob => (((Ext.refl w10).alloc ob).cell 1 (by omega)).trans (by assumption)
          have d141 : ∀ ob, (w10.alloc ob).cell? ⟨w5.heap.size, 0, none⟩ = some (.int .i64 (mtL a0 a0' a1 a1')) := fun ob => (((Ext.refl w10).alloc ob).cell 0 (by omega)).trans (by assumption)
          have d142 : ∀ ob, (w10.alloc ob).cell? ⟨w5.heap.size, 1, none⟩ = some (.int .i64 (mtH a0 a0' a1 a1')) := fun ob => (((Ext.refl w10).alloc ob).cell 1 (by omega)).trans (by assumption)
          have d143 : ∀ ob, (w10.alloc ob).cell? ⟨w7.heap.size, 0, none⟩ = some (.int .i64 jl) := fun ob => (((Ext.refl w10).alloc ob).cell 0 (by omega)).trans (by assumption)
          have d144 : ∀ ob, (w10.alloc ob).cell? ⟨w7.heap.size, 1, none⟩ = some (.int .i64 jh) := fun ob => (((Ext.refl w10).alloc ob).cell 1 (by omega)).trans (by assumption)
          go_wp2_with fail
          refine (lwithin_any a1 a1' a2 a2' _).mono ?_
          rintro e w11 ⟨rfl, hx11⟩
          rw [Y2.out]
          have s11 := hx11.size
          try simp at s11
          have c145 : w11.cell? ⟨w.heap.size, 0, none⟩ = some (.int .i64 a0) := (hx11.cell 0 (by first | (simp; done) | (simp; omega) | omega)).trans (by first | assumption | (simp [go_sem]; done) | exact ((((Ext.refl _).alloc _).cell _ (by omega)).trans (by assumption)) | (simp [go_sem, *]; done))
          have c146 : w11.cell? ⟨w.heap.size, 1, none⟩ = some (.int .i64 a0') := (hx11.cell 1 (by first | (simp; done) | (simp; omega) | omega)).trans (by first | assumption | (simp [go_sem]; done) | exact ((((Ext.refl _).alloc _).cell _ (by omega)).trans (by assumption)) | (simp [go_sem, *]; done))
          have c147 : w11.cell? ⟨w.heap.size + 1, 0, none⟩ = some (.int .i64 a1) := (hx11.cell 0 (by first | (simp; done) | (simp; omega) | omega)).trans (by first | assumption | (simp [go_sem]; done) | exact ((((Ext.refl _).alloc _).cell _ (by omega)).trans (by assumption)) | (simp [go_sem, *]; done))
          have c148 : w11.cell? ⟨w.heap.size + 1, 1, none⟩ = some (.int .i64 a1') := (hx11.cell 1 (by first | (simp; done) | (simp; omega) | omega)).trans (by first | assumption | (simp [go_sem]; done) | exact ((((Ext.refl _).alloc _).cell _ (by omega)).trans (by assumption)) | (simp [go_sem, *]; done))
          have c149 : w11.cell? ⟨w.heap.size + 1 + 1, 0, none⟩ = some (.int .i64 a2) := (hx11.cell 0 (by first | (simp; done) | (simp; omega) | omega)).trans (by first | assumption | (simp [go_sem]; done) | exact ((((Ext.refl _).alloc _).cell _ (by omega)).trans (by assumption)) | (simp [go_sem, *]; done))
          have c150 : w11.cell? ⟨w.heap.size + 1 + 1, 1, none⟩ = some (.int .i64 a2') := (hx11.cell 1 (by first | (simp; done) | (simp; omega) | omega)).trans (by first | assumption | (simp [go_sem]; done) | exact ((((Ext.refl _).alloc _).cell _ (by omega)).trans (by assumption)) | (simp [go_sem, *]; done))
          have c151 : w11.cell? ⟨w5.heap.size, 0, none⟩ = some (.int .i64 (mtL a0 a0' a1 a1')) := (hx11.cell 0 (by first | (simp; done) | (simp; omega) | omega)).trans (by first | assumption | (simp [go_sem]; done) | exact ((((Ext.refl _).alloc _).cell _ (by omega)).trans (by assumption)) | (simp [go_sem, *]; done))
          have c152 : w11.cell? ⟨w5.heap.size, 1, none⟩ = some (.int .i64 (mtH a0 a0' a1 a1')) := (hx11.cell 1 (by first | (simp; done) | (simp; omega) | omega)).trans (by first | assumption | (simp [go_sem]; done) | exact ((((Ext.refl _).alloc _).cell _ (by omega)).trans (by assumption)) | (simp [go_sem, *]; done))
          have c153 : w11.cell? ⟨w7.heap.size, 0, none⟩ = some (.int .i64 jl) := (hx11.cell 0 (by first | (simp; done) | (simp; omega) | omega)).trans (by first | assumption | (simp [go_sem]; done) | exact ((((Ext.refl _).alloc _).cell _ (by omega)).trans (by assumption)) | (simp [go_sem, *]; done))
          have c154 : w11.cell? ⟨w7.heap.size, 1, none⟩ = some (.int .i64 jh) := (hx11.cell 1 (by first | (simp; done) | (simp; omega) | omega)).trans (by first | assumption | (simp [go_sem]; done) | exact ((((Ext.refl _).alloc _).cell _ (by omega)).trans (by assumption)) | (simp [go_sem, *]; done))
          clear c125 c126 c127 c128 c129 c130 c131 c132 c133 c134 d135 d136 d137 d138 d139 d140 d141 d142 d143 d144
          have d155 : ∀ ob, (w11.alloc ob).cell? ⟨w.heap.size, 0, none⟩ = some (.int .i64 a0) := fun ob => (((Ext.refl w11).alloc ob).cell 0 (by omega)).trans (by assumption)
          have d156 : ∀ ob, (w11.alloc ob).cell? ⟨w.heap.size, 1, none⟩ = some (.int .i64 a0') := fun ob => (((Ext.refl w11).alloc ob).cell 1 (by omega)).trans (by assumption)
          have d157 : ∀ ob, (w11.alloc ob).cell? ⟨w.heap.size + 1, 0, none⟩ = some (.int .i64 a1) := fun ob => (((Ext.refl w11).alloc ob).cell 0 (by omega)).trans (by assumption)
          have d158 : ∀ ob, (w11.alloc ob).cell? ⟨w.heap.size + 1, 1, none⟩ = some (.int .i64 a1') := fun ob => (((Ext.refl w11).alloc ob).cell 1 (by omega)).trans (by assumption)
          have d159 : ∀ ob, (w11.alloc ob).cell? ⟨w.heap.size + 1 + 1, 0, none⟩ = some (.int .i64 a2) := fun ob => (((Ext.refl w11).alloc ob).cell 0 (by omega)).trans (by assumption)
          have d160 : ∀ ob, (w11.alloc ob).cell? ⟨w.heap.size + 1 + 1, 1, none⟩ = some (.int .i64 a2') := fun ob => (((Ext.refl w11).alloc ob).cell 1 (by omega)).trans (by assumption)
          have d161 : ∀ ob, (w11.alloc ob).cell? ⟨w5.heap.size, 0, none⟩ = some (.int .i64 (mtL a0 a0' a1 a1')) := fun ob => (((Ext.refl w11).alloc ob).cell 0 (by omega)).trans (by assumption)
          have d162 : ∀ ob, (w11.alloc ob).cell? ⟨w5.heap.size, 1, none⟩ = some (.int .i64 (mtH a0 a0' a1 a1')) := fun ob => (((Ext.refl w11).alloc ob).cell 1 (by omega)).trans (by assumption)
          have d163 : ∀ ob, (w11.alloc ob).cell? ⟨w7.heap.size, 0, none⟩ = some (.int .i64 jl) := fun ob => (((Ext.refl w11).alloc ob).cell 0 (by omega)).trans (by assumption)
          have d164 : ∀ ob, (w11.alloc ob).cell? ⟨w7.heap.size, 1, none⟩ = some (.int .i64 jh) := fun ob => (((Ext.refl w11).alloc ob).cell 1 (by omega)).trans (by assumption)
          go_wp2_with fail
          refine (spanmeet_any a0 a0' jl jh _).mono ?_
          rintro e w12 ⟨rfl, hx12⟩
          rw [Q4.out.1, Q4.out.2.1, Q4.out.2.2]
          have s12 := hx12.size
          try simp at s12
          have c165 : w12.cell? ⟨w.heap.size, 0, none⟩ = some (.int .i64 a0) := (hx12.cell 0 (by first | (simp; done) | (simp; omega) | omega)).trans (by first | assumption | (simp [go_sem]; done) | exact ((((Ext.refl _).alloc _).cell _ (by omega)).trans (by assumption)) | (simp [go_sem, *]; done))
          have c166 : w12.cell? ⟨w.heap.size, 1, none⟩ = some (.int .i64 a0') := (hx12.cell 1 (by first | (simp; done) | (simp; omega) | omega)).trans (by first | assumption | (simp [go_sem]; done) | exact ((((Ext.refl _).alloc _).cell _ (by omega)).trans (by assumption)) | (simp [go_sem, *]; done))
          have c167 : w12.cell? ⟨w.heap.size + 1, 0, none⟩ = some (.int .i64 a1) := (hx12.cell 0 (by first | (simp; done) | (simp; omega) | omega)).trans (by first | assumption | (simp [go_sem]; done) | exact ((((Ext.refl _).alloc _).cell _ (by omega)).trans (by assumption)) | (simp [go_sem, *]; done))
          have c168 : w12.cell? ⟨w.heap.size + 1, 1, none⟩ = some (.int .i64 a1') := (hx12.cell 1 (by first | (simp; done) | (simp; omega) | omega)).trans (by first | assumption | (simp [go_sem]; done) | exact ((((Ext.refl _).alloc _).cell _ (by omega)).trans (by assumption)) | (simp [go_sem, *]; done))
          have c169 : w12.cell? ⟨w.heap.size + 1 + 1, 0, none⟩ = some (.int .i64 a2) := (hx12.cell 0 (by first | (simp; done) | (simp; omega) | omega)).trans (by first | assumption | (simp [go_sem]; done) | exact ((((Ext.refl _).alloc _).cell _ (by omega)).trans (by assumption)) | (simp [go_sem, *]; done))
          have c170 : w12.cell? ⟨w.heap.size + 1 + 1, 1, none⟩ = some (.int .i64 a2') := (hx12.cell 1 (by first | (simp; done) | (simp; omega) | omega)).trans (by first | assumption | (simp [go_sem]; done) | exact ((((Ext.refl _).alloc _).cell _ (by omega)).trans (by assumption)) | (simp [go_sem, *]; done))
          have c171 : w12.cell? ⟨w5.heap.size, 0, none⟩ = some (.int .i64 (mtL a0 a0' a1 a1')) := (hx12.cell 0 (by first | (simp; done) | (simp; omega) | omega)).trans (by first | assumption | (simp [go_sem]; done) | exact ((((Ext.refl _).alloc _).cell _ (by omega)).trans (by assumption)) | (simp [go_sem, *]; done))
          have c172 : w12.cell? ⟨w5.heap.size, 1, none⟩ = some (.int .i64 (mtH a0 a0' a1 a1')) := (hx12.cell 1 (by first | (simp; done) | (simp; omega) | omega)).trans (by first | assumption | (simp [go_sem]; done) | exact ((((Ext.refl _).alloc _).cell _ (by omega)).trans (by assumption)) | (simp [go_sem, *]; done))
          have c173 : w12.cell? ⟨w7.heap.size, 0, none⟩ = some (.int .i64 jl) := (hx12.cell 0 (by first | (simp; done) | (simp; omega) | omega)).trans (by first | assumption | (simp [go_sem]; done) | exact ((((Ext.refl _).alloc _).cell _ (by omega)).trans (by assumption)) | (simp [go_sem, *]; done))
          have c174 : w12.cell? ⟨w7.heap.size, 1, none⟩ = some (.int .i64 jh) := (hx12.cell 1 (by first | (simp; done) | (simp; omega) | omega)).trans (by first | assumption | (simp [go_sem]; done) | exact ((((Ext.refl _).alloc _).cell _ (by omega)).trans (by assumption)) | (simp [go_sem, *]; done))
          clear c145 c146 c147 c148 c149 c150 c151 c152 c153 c154 d155 d156 d157 d158 d159 d160 d161 d162 d163 d164
          have d175 : ∀ ob, (w12.alloc ob).cell? ⟨w.heap.size, 0, none⟩ = some (.int .i64 a0) := fun ob => (((Ext.refl w12).alloc ob).cell 0 (by omega)).trans (by assumption)
          have d176 : ∀ ob, (w12.alloc ob).cell? ⟨w.heap.size, 1, none⟩ = some (.int .i64 a0') := fun ob => (((Ext.refl w12).alloc ob).cell 1 (by omega)).trans (by assumption)
          have d177 : ∀ ob, (w12.alloc ob).cell? ⟨w.heap.size + 1, 0, none⟩ = some (.int .i64 a1) := fun ob => (((Ext.refl w12).alloc ob).cell 0 (by omega)).trans (by assumption)
          have d178 : ∀ ob, (w12.alloc ob).cell? ⟨w.heap.size + 1, 1, none⟩ = some (.int .i64 a1') := fun ob => (((Ext.refl w12).alloc ob).cell 1 (by omega)).trans (by assumption)
          have d179 : ∀ ob, (w12.alloc ob).cell? ⟨w.heap.size + 1 + 1, 0, none⟩ = some (.int .i64 a2) := fun ob => (((Ext.refl w12).alloc ob).cell 0 (by omega)).trans (by assumption)
          have d180 : ∀ ob, (w12.alloc ob).cell? ⟨w.heap.size + 1 + 1, 1, none⟩ = some (.int .i64 a2') := fun ob => (((Ext.refl w12).alloc ob).cell 1 (by omega)).trans (by assumption)
          have d181 : ∀ ob, (w12.alloc ob).cell? ⟨w5.heap.size, 0, none⟩ = some (.int .i64 (mtL a0 a0' a1 a1')) := fun ob => (((Ext.refl w12).alloc ob).cell 0 (by omega)).trans (by assumption)
          have d182 : ∀ ob, (w12.alloc ob).cell? ⟨w5.heap.size, 1, none⟩ = some (.int .i64 (mtH a0 a0' a1 a1')) := fun ob => (((Ext.refl w12).alloc ob).cell 1 (by omega)).trans (by assumption)
          have d183 : ∀ ob, (w12.alloc ob).cell? ⟨w7.heap.size, 0, none⟩ = some (.int .i64 jl) := fun ob => (((Ext.refl w12).alloc ob).cell 0 (by omega)).trans (by assumption)
          have d184 : ∀ ob, (w12.alloc ob).cell? ⟨w7.heap.size, 1, none⟩ = some (.int .i64 jh) := fun ob => (((Ext.refl w12).alloc ob).cell 1 (by omega)).trans (by assumption)
          go_wp2
          go_ret
          exact ⟨by first | rfl | (simp; done), by repeat (first | exact Ext.refl _ | assumption | refine Ext.drewN ?_ _ | refine Ext.drew ?_ | refine Ext.alloc ?_ _ | refine Ext.setCell ?_ (by dsimp only; omega) _ | refine Ext.trans ?_ (by assumption))⟩
      · have Y1 := Lib.hid y1
        clear y1
        go_wp2_with fail
        refine (lwithin_any a0 a0' a2 a2' _).mono ?_
        rintro e w10 ⟨rfl, hx10⟩
        rw [Y1.out]
        have s10 := hx10.size
        try simp at s10
        have c125 : w10.cell? ⟨w.heap.size, 0, none⟩ = some (.int .i64 a0) := (hx10.cell 0 (by first | (simp; done) | (simp; omega) | omega)).trans (by first | assumption | (simp [go_sem]; done) | exact ((((Ext.refl _).alloc _).cell _ (by omega)).trans (by assumption)) | (simp [go_sem, *]; done))
        have c126 : w10.cell? ⟨w.heap.size, 1, none⟩ = some (.int .i64 a0') := (hx10.cell 1 (by first | (simp; done) | (simp; omega) | omega)).trans (by first | assumption | (simp [go_sem]; done) | exact ((((Ext.refl _).alloc _).cell _ (by omega)).trans (by assumption)) | (simp [go_sem, *]; done))
        have c127 : w10.cell? ⟨w.heap.size + 1, 0, none⟩ = some (.int .i64 a1) := (hx10.cell 0 (by first | (simp; done) | (simp; omega) | omega)).trans (by first | assumption | (simp [go_sem]; done) | exact ((((Ext.refl _).alloc _).cell _ (by omega)).trans (by assumption)) | (simp [go_sem, *]; done))
        have c128 : w10.cell? ⟨w.heap.size + 1, 1, none⟩ = some (.int .i64 a1') := (hx10.cell 1 (by first | (simp; done) | (simp; omega) | omega)).trans (by first | assumption | (simp [go_sem]; done) | exact ((((Ext.refl _).alloc _).cell _ (by omega)).trans (by assumption)) | (simp [go_sem, *]; done))
        have c129 : w10.cell? ⟨w.heap.size + 1 + 1, 0, none⟩ = some (.int .i64 a2) := (hx10.cell 0 (by first | (simp; done) | (simp; omega) | omega)).trans (by first | assumption | (simp [go_sem]; done) | exact ((((Ext.refl _).alloc _).cell _ (by omega)).trans (by assumption)) | (simp [go_sem, *]; done))
        have c130 : w10.cell? ⟨w.heap.size + 1 + 1, 1, none⟩ = some (.int .i64 a2') := (hx10.cell 1 (by first | (simp; done) | (simp; omega) | omega)).trans (by first | assumption | (simp [go_sem]; done) | exact ((((Ext.refl _).alloc _).cell _ (by omega)).trans (by assumption)) | (simp [go_sem, *]; done))
        have c131 : w10.cell? ⟨w5.heap.size, 0, none⟩ = some (.int .i64 (mtL a0 a0' a1 a1')) := (hx10.cell 0 (by first | (simp; done) | (simp; omega) | omega)).trans (by first | assumption | (simp [go_sem]; done) | exact ((((Ext.refl _).alloc _).cell _ (by omega)).trans (by assumption)) | (simp [go_sem, *]; done))
        have c132 : w10.cell? ⟨w5.heap.size, 1, none⟩ = some (.int .i64 (mtH a0 a0' a1 a1')) := (hx10.cell 1 (by first | (simp; done) | (simp; omega) | omega)).trans (by first | assumption | (simp [go_sem]; done) | exact ((((Ext.refl _).alloc _).cell _ (by omega)).trans (by assumption)) | (simp [go_sem, *]; done))
        have c133 : w10.cell? ⟨w7.heap.size, 0, none⟩ = some (.int .i64 jl) := (hx10.cell 0 (by first | (simp; done) | (simp; omega) | omega)).trans (by first | assumption | (simp [go_sem]; done) | exact ((((Ext.refl _).alloc _).cell _ (by omega)).trans (by assumption)) | (simp [go_sem, *]; done))
        have c134 : w10.cell? ⟨w7.heap.size, 1, none⟩ = some (.int .i64 jh) := (hx10.cell 1 (by first | (simp; done) | (simp; omega) | omega)).trans (by first | assumption | (simp [go_sem]; done) | exact ((((Ext.refl _).alloc _).cell _ (by omega)).trans (by assumption)) | (simp [go_sem, *]; done))
        clear c105 c106 c107 c108 c109 c110 c111 c112 c113 c114 d115 d116 d117 d118 d119 d120 d121 d122 d123 d124
        have d135 : ∀ ob, (w10.alloc ob).cell? ⟨w.heap.size, 0, none⟩ = some (.int .i64 a0) := fun ob => (((Ext.refl w10).alloc ob).cell 0 (by omega)).trans (by assumption)
        have d136 : ∀ ob, (w10.alloc ob).cell? ⟨w.heap.size, 1, none⟩ = some (.int .i64 a0') := fun ob => (((Ext.refl w10).alloc ob).cell 1 (by omega)).trans (by assumption)
        have d137 : ∀ ob, (w10.alloc ob).cell? ⟨w.heap.size + 1, 0, none⟩ = some (.int .i64 a1) := fun ob => (((Ext.refl w10).alloc ob).cell 0 (by omega)).trans (by assumption)
        have d138 : ∀ ob, (w10.alloc ob).cell? ⟨w.heap.size + 1, 1, none⟩ = some (.int .i64 a1') := fun ob => (((Ext.refl w10).alloc ob).cell 1 (by omega)).trans (by assumption)
        have d139 : ∀ ob, (w10.alloc ob).cell? ⟨w.heap.size + 1 + 1, 0, none⟩ = some (.int .i64 a2) := fun ob => (((Ext.refl w10).alloc ob).cell 0 (by omega)).trans (by assumption)
        have d140 : ∀ ob, (w10.alloc ob).cell? ⟨w.heap.size + 1 + 1, 1, none⟩ = some (.int .i64 a2') := fun ob => (((Ext.refl w10).alloc ob).cell 1 (by omega)).trans (by assumption)
        have d141 : ∀ ob, (w10.alloc ob).cell? ⟨w5.heap.size, 0, none⟩ = some (.int .i64 (mtL a0 a0' a1 a1')) := fun ob => (((Ext.refl w10).alloc ob).cell 0 (by omega)).trans (by assumption)
        have d142 : ∀ ob, (w10.alloc ob).cell? ⟨w5.heap.size, 1, none⟩ = some (.int .i64 (mtH a0 a0' a1 a1')) := fun ob => (((Ext.refl w10).alloc ob).cell 1 (by omega)).trans (by assumption)
        have d143 : ∀ ob, (w10.alloc ob).cell? ⟨w7.heap.size, 0, none⟩ = some (.int .i64 jl) := fun ob => (((Ext.refl w10).alloc ob).cell 0 (by omega)).trans (by assumption)
        have d144 : ∀ ob, (w10.alloc ob).cell? ⟨w7.heap.size, 1, none⟩ = some (.int .i64 jh) := fun ob => (((Ext.refl w10).alloc ob).cell 1 (by omega)).trans (by assumption)
        go_wp2_with fail
        refine (spanmeet_any a0 a0' jl jh _).mono ?_
        rintro e w11 ⟨rfl, hx11⟩
        rw [Q4.out.1, Q4.out.2.1, Q4.out.2.2]
        have s11 := hx11.size
        try simp at s11
        have c145 : w11.cell? ⟨w.heap.size, 0, none⟩ = some (.int .i64 a0) := (hx11.cell 0 (by first | (simp; done) | (simp; omega) | omega)).trans (by first | assumption | (simp [go_sem]; done) | exact ((((Ext.refl _).alloc _).cell _ (by omega)).trans (by assumption)) | (simp [go_sem, *]; done))
        have c146 : w11.cell? ⟨w.heap.size, 1, none⟩ = some (.int .i64 a0') := (hx11.cell 1 (by first | (simp; done) | (simp; omega) | omega)).trans (by first | assumption | (simp [go_sem]; done) | exact ((((Ext.refl _).alloc _).cell _ (by omega)).trans (by assumption)) | (simp [go_sem, *]; done))
        have c147 : w11.cell? ⟨w.heap.size + 1, 0, none⟩ = some (.int .i64 a1) := (hx11.cell 0 (by first | (simp; done) | (simp; omega) | omega)).trans (by first | assumption | (simp [go_sem]; done) | exact ((((Ext.refl _).alloc _).cell _ (by omega)).trans (by assumption)) | (simp [go_sem, *]; done))
        have c148 : w11.cell? ⟨w.heap.size + 1, 1, none⟩ = some (.int .i64 a1') := (hx11.cell 1 (by first | (simp; done) | (simp; omega) | omega)).trans (by first | assumption | (simp [go_sem]; done) | exact ((((Ext.refl _).alloc _).cell _ (by omega)).trans (by assumption)) | (simp [go_sem, *]; done))
        have c149 : w11.cell? ⟨w.heap.size + 1 + 1, 0, none⟩ = some (.int .i64 a2) := (hx11.cell 0 (by first | (simp; done) | (simp; omega) | omega)).trans (by first | assumption | (simp [go_sem]; done) | exact ((((Ext.refl _).alloc _).cell _ (by omega)).trans (by assumption)) | (simp [go_sem, *]; done))
        have c150 : w11.cell? ⟨w.heap.size + 1 + 1, 1, none⟩ = some (.int .i64 a2') := (hx11.cell 1 (by first | (simp; done) | (simp; omega) | omega)).trans (by first | assumption | (simp [go_sem]; done) | exact ((((Ext.refl _).alloc _).cell _ (by omega)).trans (by assumption)) | (simp [go_sem, *]; done))
        have c151 : w11.cell? ⟨w5.heap.size, 0, none⟩ = some (.int .i64 (mtL a0 a0' a1 a1')) := (hx11.cell 0 (by first | (simp; done) | (simp; omega) | omega)).trans (by first | assumption | (simp [go_sem]; done) | exact ((((Ext.refl _).alloc _).cell _ (by omega)).trans (by assumption)) | (simp [go_sem, *]; done))
        have c152 : w11.cell? ⟨w5.heap.size, 1, none⟩ = some (.int .i64 (mtH a0 a0' a1 a1')) := (hx11.cell 1 (by first | (simp; done) | (simp; omega) | omega)).trans (by first | assumption | (simp [go_sem]; done) | exact ((((Ext.refl _).alloc _).cell _ (by omega)).trans (by assumption)) | (simp [go_sem, *]; done))
        have c153 : w11.cell? ⟨w7.heap.size, 0, none⟩ = some (.int .i64 jl) := (hx11.cell 0 (by first | (simp; done) | (simp; omega) | omega)).trans (by first | assumption | (simp [go_sem]; done) | exact ((((Ext.refl _).alloc _).cell _ (by omega)).trans (by assumption)) | (simp [go_sem, *]; done))
        have c154 : w11.cell? ⟨w7.heap.size, 1, none⟩ = some (.int .i64 jh) := (hx11.cell 1 (by first | (simp; done) | (simp; omega) | omega)).trans (by first | assumption | (simp [go_sem]; done) | exact ((((Ext.refl _).alloc _).cell _ (by omega)).trans (by assumption)) | (simp [go_sem, *]; done))
        clear c125 c126 c127 c128 c129 c130 c131 c132 c133 c134 d135 d136 d137 d138 d139 d140 d141 d142 d143 d144
        have d155 : ∀ ob, (w11.alloc ob).cell? ⟨w.heap.size, 0, none⟩ = some (.int .i64 a0) := fun ob => (((Ext.refl w11).alloc ob).cell 0 (by omega)).trans (by assumption)
        have d156 : ∀ ob, (w11.alloc ob).cell? ⟨w.heap.size, 1, none⟩ = some (.int .i64 a0') := fun ob => (((Ext.refl w11).alloc ob).cell 1 (by omega)).trans (by assumption)
        have d157 : ∀ ob, (w11.alloc ob).cell? ⟨w.heap.size + 1, 0, none⟩ = some (.int .i64 a1) := fun ob => (((Ext.refl w11).alloc ob).cell 0 (by omega)).trans (by assumption)
        have d158 : ∀ ob, (w11.alloc ob).cell? ⟨w.heap.size + 1, 1, none⟩ = some (.int .i64 a1') := fun ob => (((Ext.refl w11).alloc ob).cell 1 (by omega)).trans (by assumption)
        have d159 : ∀ ob, (w11.alloc ob).cell? ⟨w.heap.size + 1 + 1, 0, none⟩ = some (.int .i64 a2) := fun ob => (((Ext.refl w11).alloc ob).cell 0 (by omega)).trans (by assumption)
        have d160 : ∀ ob, (w11.alloc ob).cell? ⟨w.heap.size + 1 + 1, 1, none⟩ = some (.int .i64 a2') := fun ob => (((Ext.refl w11).alloc ob).cell 1 (by omega)).trans (by assumption)
        have d161 : ∀ ob, (w11.alloc ob).cell? ⟨w5.heap.size, 0, none⟩ = some (.int .i64 (mtL a0 a0' a1 a1')) := fun ob => (((Ext.refl w11).alloc ob).cell 0 (by omega)).trans (by assumption)
        have d162 : ∀ ob, (w11.alloc ob).cell? ⟨w5.heap.size, 1, none⟩ = some (.int .i64 (mtH a0 a0' a1 a1')) := fun ob => (((Ext.refl w11).alloc ob).cell 1 (by omega)).trans (by assumption)
        have d163 : ∀ ob, (w11.alloc ob).cell? ⟨w7.heap.size, 0, none⟩ = some (.int .i64 jl) := fun ob => (((Ext.refl w11).alloc ob).cell 0 (by omega)).trans (by assumption)
        have d164 : ∀ ob, (w11.alloc ob).cell? ⟨w7.heap.size, 1, none⟩ = some (.int .i64 jh) := fun ob => (((Ext.refl w11).alloc ob).cell 1 (by omega)).trans (by assumption)
        go_wp2
        go_ret
        exact ⟨by first | rfl | (simp; done), by repeat (first | exact Ext.refl _ | assumption | refine Ext.drewN ?_ _ | refine Ext.drew ?_ | refine Ext.alloc ?_ _ | refine Ext.setCell ?_ (by dsimp only; omega) _ | refine Ext.trans ?_ (by assumption))⟩
  · have HE := Lib.hid hE
    have HI := Lib.hid hI
    clear hE hI
    go_enter Try.func16, Try.ntmps16
    go_wp2_with fail
    refine (wide_any _).mono ?_
    rintro e w1 ⟨rfl, hx1⟩
    have s1 := hx1.size
    try simp at s1
    have c1 : w1.cell? ⟨w.heap.size, 0, none⟩ = some (.int .i64 a0) := (hx1.cell 0 (by first | (simp; done) | (simp; omega) | omega)).trans (by first | assumption | (simp [go_sem]; done) | exact ((((Ext.refl _).alloc _).cell _ (by omega)).trans (by assumption)) | (simp [go_sem, *]; done))
    have c2 : w1.cell? ⟨w.heap.size, 1, none⟩ = some (.int .i64 a0') := (hx1.cell 1 (by first | (simp; done) | (simp; omega) | omega)).trans (by first | assumption | (simp [go_sem]; done) | exact ((((Ext.refl _).alloc _).cell _ (by omega)).trans (by assumption)) | (simp [go_sem, *]; done))
    have c3 : w1.cell? ⟨w.heap.size + 1, 0, none⟩ = some (.int .i64 a1) := (hx1.cell 0 (by first | (simp; done) | (simp; omega) | omega)).trans (by first | assumption | (simp [go_sem]; done) | exact ((((Ext.refl _).alloc _).cell _ (by omega)).trans (by assumption)) | (simp [go_sem, *]; done))
    have c4 : w1.cell? ⟨w.heap.size + 1, 1, none⟩ = some (.int .i64 a1') := (hx1.cell 1 (by first | (simp; done) | (simp; omega) | omega)).trans (by first | assumption | (simp [go_sem]; done) | exact ((((Ext.refl _).alloc _).cell _ (by omega)).trans (by assumption)) | (simp [go_sem, *]; done))
    have c5 : w1.cell? ⟨w.heap.size + 1 + 1, 0, none⟩ = some (.int .i64 a2) := (hx1.cell 0 (by first | (simp; done) | (simp; omega) | omega)).trans (by first | assumption | (simp [go_sem]; done) | exact ((((Ext.refl _).alloc _).cell _ (by omega)).trans (by assumption)) | (simp [go_sem, *]; done))
    have c6 : w1.cell? ⟨w.heap.size + 1 + 1, 1, none⟩ = some (.int .i64 a2') := (hx1.cell 1 (by first | (simp; done) | (simp; omega) | omega)).trans (by first | assumption | (simp [go_sem]; done) | exact ((((Ext.refl _).alloc _).cell _ (by omega)).trans (by assumption)) | (simp [go_sem, *]; done))
    have d7 : ∀ ob, (w1.alloc ob).cell? ⟨w.heap.size, 0, none⟩ = some (.int .i64 a0) := fun ob => (((Ext.refl w1).alloc ob).cell 0 (by omega)).trans (by assumption)
    have d8 : ∀ ob, (w1.alloc ob).cell? ⟨w.heap.size, 1, none⟩ = some (.int .i64 a0') := fun ob => (((Ext.refl w1).alloc ob).cell 1 (by omega)).trans (by assumption)
    have d9 : ∀ ob, (w1.alloc ob).cell? ⟨w.heap.size + 1, 0, none⟩ = some (.int .i64 a1) := fun ob => (((Ext.refl w1).alloc ob).cell 0 (by omega)).trans (by assumption)
    have d10 : ∀ ob, (w1.alloc ob).cell? ⟨w.heap.size + 1, 1, none⟩ = some (.int .i64 a1') := fun ob => (((Ext.refl w1).alloc ob).cell 1 (by omega)).trans (by assumption)
    have d11 : ∀ ob, (w1.alloc ob).cell? ⟨w.heap.size + 1 + 1, 0, none⟩ = some (.int .i64 a2) := fun ob => (((Ext.refl w1).alloc ob).cell 0 (by omega)).trans (by assumption)
    have d12 : ∀ ob, (w1.alloc ob).cell? ⟨w.heap.size + 1 + 1, 1, none⟩ = some (.int .i64 a2') := fun ob => (((Ext.refl w1).alloc ob).cell 1 (by omega)).trans (by assumption)
    go_wp2_with fail
    refine (validSpan_any a0 a0' _).mono ?_
    rintro e w2 ⟨rfl, hx2⟩
    rw [V1.out]
    have s2 := hx2.size
    try simp at s2
    have c13 : w2.cell? ⟨w.heap.size, 0, none⟩ = some (.int .i64 a0) := (hx2.cell 0 (by first | (simp; done) | (simp; omega) | omega)).trans (by first | assumption | (simp [go_sem]; done) | exact ((((Ext.refl _).alloc _).cell _ (by omega)).trans (by assumption)) | (simp [go_sem, *]; done))
    have c14 : w2.cell? ⟨w.heap.size, 1, none⟩ = some (.int .i64 a0') := (hx2.cell 1 (by first | (simp; done) | (simp; omega) | omega)).trans (by first | assumption | (simp [go_sem]; done) | exact ((((Ext.refl _).alloc _).cell _ (by omega)).trans (by assumption)) | (simp [go_sem, *]; done))
    have c15 : w2.cell? ⟨w.heap.size + 1, 0, none⟩ = some (.int .i64 a1) := (hx2.cell 0 (by first | (simp; done) | (simp; omega) | omega)).trans (by first | assumption | (simp [go_sem]; done) | exact ((((Ext.refl _).alloc _).cell _ (by omega)).trans (by assumption)) | (simp [go_sem, *]; done))
    have c16 : w2.cell? ⟨w.heap.size + 1, 1, none⟩ = some (.int .i64 a1') := (hx2.cell 1 (by first | (simp; done) | (simp; omega) | omega)).trans (by first | assumption | (simp [go_sem]; done) | exact ((((Ext.refl _).alloc _).cell _ (by omega)).trans (by assumption)) | (simp [go_sem, *]; done))
    have c17 : w2.cell? ⟨w.heap.size + 1 + 1, 0, none⟩ = some (.int .i64 a2) := (hx2.cell 0 (by first | (simp; done) | (simp; omega) | omega)).trans (by first | assumption | (simp [go_sem]; done) | exact ((((Ext.refl _).alloc _).cell _ (by omega)).trans (by assumption)) | (simp [go_sem, *]; done))
    have c18 : w2.cell? ⟨w.heap.size + 1 + 1, 1, none⟩ = some (.int .i64 a2') := (hx2.cell 1 (by first | (simp; done) | (simp; omega) | omega)).trans (by first | assumption | (simp [go_sem]; done) | exact ((((Ext.refl _).alloc _).cell _ (by omega)).trans (by assumption)) | (simp [go_sem, *]; done))
    clear c1 c2 c3 c4 c5 c6 d7 d8 d9 d10 d11 d12
    have d19 : ∀ ob, (w2.alloc ob).cell? ⟨w.heap.size, 0, none⟩ = some (.int .i64 a0) := fun ob => (((Ext.refl w2).alloc ob).cell 0 (by omega)).trans (by assumption)
    have d20 : ∀ ob, (w2.alloc ob).cell? ⟨w.heap.size, 1, none⟩ = some (.int .i64 a0') := fun ob => (((Ext.refl w2).alloc ob).cell 1 (by omega)).trans (by assumption)
    have d21 : ∀ ob, (w2.alloc ob).cell? ⟨w.heap.size + 1, 0, none⟩ = some (.int .i64 a1) := fun ob => (((Ext.refl w2).alloc ob).cell 0 (by omega)).trans (by assumption)
    have d22 : ∀ ob, (w2.alloc ob).cell? ⟨w.heap.size + 1, 1, none⟩ = some (.int .i64 a1') := fun ob => (((Ext.refl w2).alloc ob).cell 1 (by omega)).trans (by assumption)
    have d23 : ∀ ob, (w2.alloc ob).cell? ⟨w.heap.size + 1 + 1, 0, none⟩ = some (.int .i64 a2) := fun ob => (((Ext.refl w2).alloc ob).cell 0 (by omega)).trans (by assumption)
    have d24 : ∀ ob, (w2.alloc ob).cell? ⟨w.heap.size + 1 + 1, 1, none⟩ = some (.int .i64 a2') := fun ob => (((Ext.refl w2).alloc ob).cell 1 (by omega)).trans (by assumption)
    go_wp2_with fail
    refine (validSpan_any a1 a1' _).mono ?_
    rintro e w3 ⟨rfl, hx3⟩
    rw [V2.out]
    have s3 := hx3.size
    try simp at s3
    have c25 : w3.cell? ⟨w.heap.size, 0, none⟩ = some (.int .i64 a0) := (hx3.cell 0 (by first | (simp; done) | (simp; omega) | omega)).trans (by first | assumption | (simp [go_sem]; done) | exact ((((Ext.refl _).alloc _).cell _ (by omega)).trans (by assumption)) | (simp [go_sem, *]; done))
    have c26 : w3.cell? ⟨w.heap.size, 1, none⟩ = some (.int .i64 a0') := (hx3.cell 1 (by first | (simp; done) | (simp; omega) | omega)).trans (by first | assumption | (simp [go_sem]; done) | exact ((((Ext.refl _).alloc _).cell _ (by omega)).trans (by assumption)) | (simp [go_sem, *]; done))
    have c27 : w3.cell? ⟨w.heap.size + 1, 0, none⟩ = some (.int .i64 a1) := (hx3.cell 0 (by first | (simp; done) | (simp; omega) | omega)).trans (by first | assumption | (simp [go_sem]; done) | exact ((((Ext.refl _).alloc _).cell _ (by omega)).trans (by assumption)) | (simp [go_sem, *]; done))
    have c28 : w3.cell? ⟨w.heap.size + 1, 1, none⟩ = some (.int .i64 a1') := (hx3.cell 1 (by first | (simp; done) | (simp; omega) | omega)).trans (by first | assumption | (simp [go_sem]; done) | exact ((((Ext.refl _).alloc _).cell _ (by omega)).trans (by assumption)) | (simp [go_sem, *]; done))
    have c29 : w3.cell? ⟨w.heap.size + 1 + 1, 0, none⟩ = some (.int .i64 a2) := (hx3.cell 0 (by first | (simp; done) | (simp; omega) | omega)).trans (by first | assumption | (simp [go_sem]; done) | exact ((((Ext.refl _).alloc _).cell _ (by omega)).trans (by assumption)) | (simp [go_sem, *]; done))
    have c30 : w3.cell? ⟨w.heap.size + 1 + 1, 1, none⟩ = some (.int .i64 a2') := (hx3.cell 1 (by first | (simp; done) | (simp; omega) | omega)).trans (by first | assumption | (simp [go_sem]; done) | exact ((((Ext.refl _).alloc _).cell _ (by omega)).trans (by assumption)) | (simp [go_sem, *]; done))
    clear c13 c14 c15 c16 c17 c18 d19 d20 d21 d22 d23 d24
    have d31 : ∀ ob, (w3.alloc ob).cell? ⟨w.heap.size, 0, none⟩ = some (.int .i64 a0) := fun ob => (((Ext.refl w3).alloc ob).cell 0 (by omega)).trans (by assumption)
    have d32 : ∀ ob, (w3.alloc ob).cell? ⟨w.heap.size, 1, none⟩ = some (.int .i64 a0') := fun ob => (((Ext.refl w3).alloc ob).cell 1 (by omega)).trans (by assumption)
    have d33 : ∀ ob, (w3.alloc ob).cell? ⟨w.heap.size + 1, 0, none⟩ = some (.int .i64 a1) := fun ob => (((Ext.refl w3).alloc ob).cell 0 (by omega)).trans (by assumption)
    have d34 : ∀ ob, (w3.alloc ob).cell? ⟨w.heap.size + 1, 1, none⟩ = some (.int .i64 a1') := fun ob => (((Ext.refl w3).alloc ob).cell 1 (by omega)).trans (by assumption)
    have d35 : ∀ ob, (w3.alloc ob).cell? ⟨w.heap.size + 1 + 1, 0, none⟩ = some (.int .i64 a2) := fun ob => (((Ext.refl w3).alloc ob).cell 0 (by omega)).trans (by assumption)
    have d36 : ∀ ob, (w3.alloc ob).cell? ⟨w.heap.size + 1 + 1, 1, none⟩ = some (.int .i64 a2') := fun ob => (((Ext.refl w3).alloc ob).cell 1 (by omega)).trans (by assumption)
    go_wp2_with fail
    refine (validSpan_any a2 a2' _).mono ?_
    rintro e w4 ⟨rfl, hx4⟩
    rw [V3.out]
    have s4 := hx4.size
    try simp at s4
    have c37 : w4.cell? ⟨w.heap.size, 0, none⟩ = some (.int .i64 a0) := (hx4.cell 0 (by first | (simp; done) | (simp; omega) | omega)).trans (by first | assumption | (simp [go_sem]; done) | exact ((((Ext.refl _).alloc _).cell _ (by omega)).trans (by assumption)) | (simp [go_sem, *]; done))
    have c38 : w4.cell? ⟨w.heap.size, 1, none⟩ = some (.int .i64 a0') := (hx4.cell 1 (by first | (simp; done) | (simp; omega) | omega)).trans (by first | assumption | (simp [go_sem]; done) | exact ((((Ext.refl _).alloc _).cell _ (by omega)).trans (by assumption)) | (simp [go_sem, *]; done))
    have c39 : w4.cell? ⟨w.heap.size + 1, 0, none⟩ = some (.int .i64 a1) := (hx4.cell 0 (by first | (simp; done) | (simp; omega) | omega)).trans (by first | assumption | (simp [go_sem]; done) | exact ((((Ext.refl _).alloc _).cell _ (by omega)).trans (by assumption)) | (simp [go_sem, *]; done))
    have c40 : w4.cell? ⟨w.heap.size + 1, 1, none⟩ = some (.int .i64 a1') := (hx4.cell 1 (by first | (simp; done) | (simp; omega) | omega)).trans (by first | assumption | (simp [go_sem]; done) | exact ((((Ext.refl _).alloc _).cell _ (by omega)).trans (by assumption)) | (simp [go_sem, *]; done))
    have c41 : w4.cell? ⟨w.heap.size + 1 + 1, 0, none⟩ = some (.int .i64 a2) := (hx4.cell 0 (by first | (simp; done) | (simp; omega) | omega)).trans (by first | assumption | (simp [go_sem]; done) | exact ((((Ext.refl _).alloc _).cell _ (by omega)).trans (by assumption)) | (simp [go_sem, *]; done))
    have c42 : w4.cell? ⟨w.heap.size + 1 + 1, 1, none⟩ = some (.int .i64 a2') := (hx4.cell 1 (by first | (simp; done) | (simp; omega) | omega)).trans (by first | assumption | (simp [go_sem]; done) | exact ((((Ext.refl _).alloc _).cell _ (by omega)).trans (by assumption)) | (simp [go_sem, *]; done))
    clear c25 c26 c27 c28 c29 c30 d31 d32 d33 d34 d35 d36
    have d43 : ∀ ob, (w4.alloc ob).cell? ⟨w.heap.size, 0, none⟩ = some (.int .i64 a0) := fun ob => (((Ext.refl w4).alloc ob).cell 0 (by omega)).trans (by assumption)
    have d44 : ∀ ob, (w4.alloc ob).cell? ⟨w.heap.size, 1, none⟩ = some (.int .i64 a0') := fun ob => (((Ext.refl w4).alloc ob).cell 1 (by omega)).trans (by assumption)
    have d45 : ∀ ob, (w4.alloc ob).cell? ⟨w.heap.size + 1, 0, none⟩ = some (.int .i64 a1) := fun ob => (((Ext.refl w4).alloc ob).cell 0 (by omega)).trans (by assumption)
    have d46 : ∀ ob, (w4.alloc ob).cell? ⟨w.heap.size + 1, 1, none⟩ = some (.int .i64 a1') := fun ob => (((Ext.refl w4).alloc ob).cell 1 (by omega)).trans (by assumption)
    have d47 : ∀ ob, (w4.alloc ob).cell? ⟨w.heap.size + 1 + 1, 0, none⟩ = some (.int .i64 a2) := fun ob => (((Ext.refl w4).alloc ob).cell 0 (by omega)).trans (by assumption)
    have d48 : ∀ ob, (w4.alloc ob).cell? ⟨w.heap.size + 1 + 1, 1, none⟩ = some (.int .i64 a2') := fun ob => (((Ext.refl w4).alloc ob).cell 1 (by omega)).trans (by assumption)
    go_wp2_with fail
    refine (spanmeet_any a0 a0' a1 a1' _).mono ?_
    rintro e w5 ⟨rfl, hx5⟩
    rw [HE.out]
    have s5 := hx5.size
    try simp at s5
    have c49 : w5.cell? ⟨w.heap.size, 0, none⟩ = some (.int .i64 a0) := (hx5.cell 0 (by first | (simp; done) | (simp; omega) | omega)).trans (by first | assumption | (simp [go_sem]; done) | exact ((((Ext.refl _).alloc _).cell _ (by omega)).trans (by assumption)) | (simp [go_sem, *]; done))
    have c50 : w5.cell? ⟨w.heap.size, 1, none⟩ = some (.int .i64 a0') := (hx5.cell 1 (by first | (simp; done) | (simp; omega) | omega)).trans (by first | assumption | (simp [go_sem]; done) | exact ((((Ext.refl _).alloc _).cell _ (by omega)).trans (by assumption)) | (simp [go_sem, *]; done))
    have c51 : w5.cell? ⟨w.heap.size + 1, 0, none⟩ = some (.int .i64 a1) := (hx5.cell 0 (by first | (simp; done) | (simp; omega) | omega)).trans (by first | assumption | (simp [go_sem]; done) | exact ((((Ext.refl _).alloc _).cell _ (by omega)).trans (by assumption)) | (simp [go_sem, *]; done))
    have c52 : w5.cell? ⟨w.heap.size + 1, 1, none⟩ = some (.int .i64 a1') := (hx5.cell 1 (by first | (simp; done) | (simp; omega) | omega)).trans (by first | assumption | (simp [go_sem]; done) | exact ((((Ext.refl _).alloc _).cell _ (by omega)).trans (by assumption)) | (simp [go_sem, *]; done))
    have c53 : w5.cell? ⟨w.heap.size + 1 + 1, 0, none⟩ = some (.int .i64 a2) := (hx5.cell 0 (by first | (simp; done) | (simp; omega) | omega)).trans (by first | assumption | (simp [go_sem]; done) | exact ((((Ext.refl _).alloc _).cell _ (by omega)).trans (by assumption)) | (simp [go_sem, *]; done))
    have c54 : w5.cell? ⟨w.heap.size + 1 + 1, 1, none⟩ = some (.int .i64 a2') := (hx5.cell 1 (by first | (simp; done) | (simp; omega) | omega)).trans (by first | assumption | (simp [go_sem]; done) | exact ((((Ext.refl _).alloc _).cell _ (by omega)).trans (by assumption)) | (simp [go_sem, *]; done))
    clear c37 c38 c39 c40 c41 c42 d43 d44 d45 d46 d47 d48
    have d55 : ∀ ob, (w5.alloc ob).cell? ⟨w.heap.size, 0, none⟩ = some (.int .i64 a0) := fun ob => (((Ext.refl w5).alloc ob).cell 0 (by omega)).trans (by assumption)
    have d56 : ∀ ob, (w5.alloc ob).cell? ⟨w.heap.size, 1, none⟩ = some (.int .i64 a0') := fun ob => (((Ext.refl w5).alloc ob).cell 1 (by omega)).trans (by assumption)
    have d57 : ∀ ob, (w5.alloc ob).cell? ⟨w.heap.size + 1, 0, none⟩ = some (.int .i64 a1) := fun ob => (((Ext.refl w5).alloc ob).cell 0 (by omega)).trans (by assumption)
    have d58 : ∀ ob, (w5.alloc ob).cell? ⟨w.heap.size + 1, 1, none⟩ = some (.int .i64 a1') := fun ob => (((Ext.refl w5).alloc ob).cell 1 (by omega)).trans (by assumption)
    have d59 : ∀ ob, (w5.alloc ob).cell? ⟨w.heap.size + 1 + 1, 0, none⟩ = some (.int .i64 a2) := fun ob => (((Ext.refl w5).alloc ob).cell 0 (by omega)).trans (by assumption)
    have d60 : ∀ ob, (w5.alloc ob).cell? ⟨w.heap.size + 1 + 1, 1, none⟩ = some (.int .i64 a2') := fun ob => (((Ext.refl w5).alloc ob).cell 1 (by omega)).trans (by assumption)
    go_upto_region 7 with (fail)
    have keepE : ∀ u u' : World, (fun w' : World => (w'.cell? ⟨w.heap.size, 0, none⟩ = some (.int .i64 a0) ∧ w'.cell? ⟨w.heap.size, 1, none⟩ = some (.int .i64 a0') ∧ w'.cell? ⟨w.heap.size + 1, 0, none⟩ = some (.int .i64 a1) ∧ w'.cell? ⟨w.heap.size + 1, 1, none⟩ = some (.int .i64 a1') ∧ w'.cell? ⟨w.heap.size + 1 + 1, 0, none⟩ = some (.int .i64 a2) ∧ w'.cell? ⟨w.heap.size + 1 + 1, 1, none⟩ = some (.int .i64 a2') ∧ w'.cell? ⟨w5.heap.size, 0, none⟩ = some (.int .i64 (mtL a0 a0' a1 a1')) ∧ w'.cell? ⟨w5.heap.size, 1, none⟩ = some (.int .i64 (mtH a0 a0' a1 a1')))) u → Ext u u' → (fun w' : World => (w'.cell? ⟨w.heap.size, 0, none⟩ = some (.int .i64 a0) ∧ w'.cell? ⟨w.heap.size, 1, none⟩ = some (.int .i64 a0') ∧ w'.cell? ⟨w.heap.size + 1, 0, none⟩ = some (.int .i64 a1) ∧ w'.cell? ⟨w.heap.size + 1, 1, none⟩ = some (.int .i64 a1') ∧ w'.cell? ⟨w.heap.size + 1 + 1, 0, none⟩ = some (.int .i64 a2) ∧ w'.cell? ⟨w.heap.size + 1 + 1, 1, none⟩ = some (.int .i64 a2') ∧ w'.cell? ⟨w5.heap.size, 0, none⟩ = some (.int .i64 (mtL a0 a0' a1 a1')) ∧ w'.cell? ⟨w5.heap.size, 1, none⟩ = some (.int .i64 (mtH a0 a0' a1 a1')))) u' := by
      rintro u u' ⟨g0, g1, g2, g3, g4, g5, g6, g7⟩ hx
      exact ⟨(hx.cell 0 (World.block_lt_of_cell? u _ g0)).trans g0, (hx.cell 1 (World.block_lt_of_cell? u _ g1)).trans g1, (hx.cell 0 (World.block_lt_of_cell? u _ g2)).trans g2, (hx.cell 1 (World.block_lt_of_cell? u _ g3)).trans g3, (hx.cell 0 (World.block_lt_of_cell? u _ g4)).trans g4, (hx.cell 1 (World.block_lt_of_cell? u _ g5)).trans g5, (hx.cell 0 (World.block_lt_of_cell? u _ g6)).trans g6, (hx.cell 1 (World.block_lt_of_cell? u _ g7)).trans g7⟩
    obtain ⟨u0, hu0⟩ : ∃ u : World, u = w5.alloc (.cells #[.int .i64 (mtL a0 a0' a1 a1'), .int .i64 (mtH a0 a0' a1 a1')] 35) := ⟨_, rfl⟩
    have keep0 : (fun w' : World => (w'.cell? ⟨w.heap.size, 0, none⟩ = some (.int .i64 a0) ∧ w'.cell? ⟨w.heap.size, 1, none⟩ = some (.int .i64 a0') ∧ w'.cell? ⟨w.heap.size + 1, 0, none⟩ = some (.int .i64 a1) ∧ w'.cell? ⟨w.heap.size + 1, 1, none⟩ = some (.int .i64 a1') ∧ w'.cell? ⟨w.heap.size + 1 + 1, 0, none⟩ = some (.int .i64 a2) ∧ w'.cell? ⟨w.heap.size + 1 + 1, 1, none⟩ = some (.int .i64 a2') ∧ w'.cell? ⟨w5.heap.size, 0, none⟩ = some (.int .i64 (mtL a0 a0' a1 a1')) ∧ w'.cell? ⟨w5.heap.size, 1, none⟩ = some (.int .i64 (mtH a0 a0' a1 a1')))) (w5.alloc (.cells #[.int .i64 (mtL a0 a0' a1 a1'), .int .i64 (mtH a0 a0' a1 a1')] 35)) := ⟨(by first | assumption | (simp [go_sem]; done) | (simp [go_sem, *]; done)), (by first | assumption | (simp [go_sem]; done) | (simp [go_sem, *]; done)), (by first | assumption | (simp [go_sem]; done) | (simp [go_sem, *]; done)), (by first | assumption | (simp [go_sem]; done) | (simp [go_sem, *]; done)), (by first | assumption | (simp [go_sem]; done) | (simp [go_sem, *]; done)), (by first | assumption | (simp [go_sem]; done) | (simp [go_sem, *]; done)), (by first | assumption | (simp [go_sem]; done) | (simp [go_sem, *]; done)), (by first | assumption | (simp [go_sem]; done) | (simp [go_sem, *]; done))⟩
    have KE := Lib.hid keepE
    rw [← hu0] at keep0 ⊢
    have K0 := Lib.hid keep0
    have HU := Lib.hid hu0
    clear keepE keep0 hu0 c49 c50 c51 c52 c53 c54 d55 d56 d57 d58 d59 d60
    go_cut [58] (fun s58 wx => s58 = .bool false ∧ (fun w' : World => (w'.cell? ⟨w.heap.size, 0, none⟩ = some (.int .i64 a0) ∧ w'.cell? ⟨w.heap.size, 1, none⟩ = some (.int .i64 a0') ∧ w'.cell? ⟨w.heap.size + 1, 0, none⟩ = some (.int .i64 a1) ∧ w'.cell? ⟨w.heap.size + 1, 1, none⟩ = some (.int .i64 a1') ∧ w'.cell? ⟨w.heap.size + 1 + 1, 0, none⟩ = some (.int .i64 a2) ∧ w'.cell? ⟨w.heap.size + 1 + 1, 1, none⟩ = some (.int .i64 a2') ∧ w'.cell? ⟨w5.heap.size, 0, none⟩ = some (.int .i64 (mtL a0 a0' a1 a1')) ∧ w'.cell? ⟨w5.heap.size, 1, none⟩ = some (.int .i64 (mtH a0 a0' a1 a1')))) wx ∧ Ext u0 wx)
    case first =>
      rcases Bool.eq_false_or_eq_true (inB a3 a0 a0') with n1 | n1
      · rcases Bool.eq_false_or_eq_true (inB a3 a1 a1') with n2 | n2
        · exfalso
          have := HI.out
          rw [n1, n2] at this
          cases this
        · have i1 : ∀ W, Calls Try.prog 69 #[.int .i64 a3, .agg #[.int .i64 (a0), .int .i64 (a0')]] W fun e w' => e = .returned (.bool true) ∧ Ext W w' := fun W => by have := in_any a3 (a0) (a0') W; rw [n1] at this; exact this
          have I1 := Lib.hid i1
          have i2 : ∀ W, Calls Try.prog 69 #[.int .i64 a3, .agg #[.int .i64 (a1), .int .i64 (a1')]] W fun e w' => e = .returned (.bool false) ∧ Ext W w' := fun W => by have := in_any a3 (a1) (a1') W; rw [n2] at this; exact this
          have I2 := Lib.hid i2
          clear n1 i1 n2 i2
          refine wp_region_held_drew (S := (fun w' : World => (w'.cell? ⟨w.heap.size, 0, none⟩ = some (.int .i64 a0) ∧ w'.cell? ⟨w.heap.size, 1, none⟩ = some (.int .i64 a0') ∧ w'.cell? ⟨w.heap.size + 1, 0, none⟩ = some (.int .i64 a1) ∧ w'.cell? ⟨w.heap.size + 1, 1, none⟩ = some (.int .i64 a1') ∧ w'.cell? ⟨w.heap.size + 1 + 1, 0, none⟩ = some (.int .i64 a2) ∧ w'.cell? ⟨w.heap.size + 1 + 1, 1, none⟩ = some (.int .i64 a2') ∧ w'.cell? ⟨w5.heap.size, 0, none⟩ = some (.int .i64 (mtL a0 a0' a1 a1')) ∧ w'.cell? ⟨w5.heap.size, 1, none⟩ = some (.int .i64 (mtH a0 a0' a1 a1'))))) (by kernel_rfl) ?hS0a16 (fun hHeld => ?_)
          case hS0a16 => ((try dsimp only); (refine KE.out _ _ K0.out ?_; (repeat (first | exact Ext.refl _ | assumption | refine Ext.drew ?_ | refine Ext.drewN ?_ _ | refine Ext.trans ?_ (by assumption))); done))
          refine wpAnyH_take (i := 0) (v := ?_) rfl (by kernel_rfl) (by kernel_rfl) (by kernel_rfl) (fun _ _ _ h => h) (Or.inl ⟨by rfl, ?hy17⟩) (by assumption) ?_
          case hy17 => ((intro w hSw; (try dsimp only at hSw); go_simp); try with_reducible rfl)
          try simp only [List.getElem_toArray, List.getElem_cons_succ, List.getElem_cons_zero, Act.put, List.setIfInBounds_toArray, List.set_cons_zero, List.set_cons_succ]
          refine wpAnyH_take (i := 1) (v := ?_) rfl (by kernel_rfl) (by kernel_rfl) (by kernel_rfl) (fun _ _ _ h => h) (Or.inl ⟨by rfl, ?hy18⟩) (by assumption) ?_
          case hy18 => ((intro w hSw; (try dsimp only at hSw); go_simp); try with_reducible rfl)
          try simp only [List.getElem_toArray, List.getElem_cons_succ, List.getElem_cons_zero, Act.put, List.setIfInBounds_toArray, List.set_cons_zero, List.set_cons_succ]
          refine wpAnyH_take (i := 2) (v := ?_) rfl (by kernel_rfl) (by kernel_rfl) (by kernel_rfl) (fun _ _ _ h => h) (Or.inl ⟨by rfl, ?hy19⟩) (by assumption) ?_
          case hy19 => ((intro w hSw; (try dsimp only at hSw); go_simp); try with_reducible rfl)
          try simp only [List.getElem_toArray, List.getElem_cons_succ, List.getElem_cons_zero, Act.put, List.setIfInBounds_toArray, List.set_cons_zero, List.set_cons_succ]
          refine wpAnyH_take (i := 3) (v := undef) rfl (by kernel_rfl) (by kernel_rfl) (by kernel_rfl) (fun _ _ _ h => h) (Or.inr ⟨by rfl, rfl⟩) (by assumption) ?_
          try simp only [List.getElem_toArray, List.getElem_cons_succ, List.getElem_cons_zero, Act.put, List.setIfInBounds_toArray, List.set_cons_zero, List.set_cons_succ]
          refine wpAnyH_take (i := 4) (v := undef) rfl (by kernel_rfl) (by kernel_rfl) (by kernel_rfl) (fun _ _ _ h => h) (Or.inr ⟨by rfl, rfl⟩) (by assumption) ?_
          try simp only [List.getElem_toArray, List.getElem_cons_succ, List.getElem_cons_zero, Act.put, List.setIfInBounds_toArray, List.set_cons_zero, List.set_cons_succ]
          refine wpAnyH_take (i := 5) (v := undef) rfl (by kernel_rfl) (by kernel_rfl) (by kernel_rfl) (fun _ _ _ h => h) (Or.inr ⟨by rfl, rfl⟩) (by assumption) ?_
          try simp only [List.getElem_toArray, List.getElem_cons_succ, List.getElem_cons_zero, Act.put, List.setIfInBounds_toArray, List.set_cons_zero, List.set_cons_succ]
          refine wpAnyH_take (i := 6) (v := ?_) rfl (by kernel_rfl) (by kernel_rfl) (by kernel_rfl) (fun _ _ _ h => h) (Or.inl ⟨by rfl, ?hy23⟩) (by assumption) ?_
          case hy23 => ((intro w hSw; (try dsimp only at hSw); go_simp); try with_reducible rfl)
          try simp only [List.getElem_toArray, List.getElem_cons_succ, List.getElem_cons_zero, Act.put, List.setIfInBounds_toArray, List.set_cons_zero, List.set_cons_succ]
          refine wpAnyH_take (i := 7) (v := ?_) rfl (by kernel_rfl) (by kernel_rfl) (by kernel_rfl) (fun _ _ _ h => h) (Or.inl ⟨by rfl, ?hy24⟩) (by assumption) ?_
          case hy24 => ((intro w hSw; (try dsimp only at hSw); go_simp); try with_reducible rfl)
          try simp only [List.getElem_toArray, List.getElem_cons_succ, List.getElem_cons_zero, Act.put, List.setIfInBounds_toArray, List.set_cons_zero, List.set_cons_succ]
          refine wpAnyH_take (i := 8) (v := ?_) rfl (by kernel_rfl) (by kernel_rfl) (by kernel_rfl) (fun _ _ _ h => h) (Or.inl ⟨by rfl, ?hy25⟩) (by assumption) ?_
          case hy25 => ((intro w hSw; (try dsimp only at hSw); go_simp); try with_reducible rfl)
          try simp only [List.getElem_toArray, List.getElem_cons_succ, List.getElem_cons_zero, Act.put, List.setIfInBounds_toArray, List.set_cons_zero, List.set_cons_succ]
          refine wpAnyH_ready (rs := [9]) (by kernel_rfl) (by simp) ?_
          refine AllReadyH.cons rfl (fun K hK => ?_) AllReadyH.nil
          go_simp
          go_at_call 69
          (with_reducible refine (I1.out _).mono ?_)
          rintro e w6 ⟨rfl, hx⟩
          go_wp2_with fail
          refine hK.out _ _ ?hS26 (fun hHeld => ?_)
          case hS26 => ((try dsimp only); (refine KE.out _ _ K0.out ?_; (repeat (first | exact Ext.refl _ | assumption | refine Ext.drew ?_ | refine Ext.drewN ?_ _ | refine Ext.trans ?_ (by assumption))); done))
          clear hK K
          try simp only [List.getElem_toArray, List.getElem_cons_succ, List.getElem_cons_zero, Act.put, List.setIfInBounds_toArray, List.set_cons_zero, List.set_cons_succ]
          refine wpAnyH_take (i := 10) (v := ?_) rfl (by kernel_rfl) (by kernel_rfl) (by kernel_rfl) (fun _ _ _ h => h) (Or.inl ⟨by rfl, ?hy27⟩) (by assumption) ?_
          case hy27 => ((intro w hSw; (try dsimp only at hSw); go_simp); try with_reducible rfl)
          try simp only [List.getElem_toArray, List.getElem_cons_succ, List.getElem_cons_zero, Act.put, List.setIfInBounds_toArray, List.set_cons_zero, List.set_cons_succ]
          refine wpAnyH_take (i := 11) (v := ?_) rfl (by kernel_rfl) (by kernel_rfl) (by kernel_rfl) (fun _ _ _ h => h) (Or.inl ⟨by rfl, ?hy28⟩) (by assumption) ?_
          case hy28 => ((intro w hSw; (try dsimp only at hSw); go_simp); try with_reducible rfl)
          try simp only [List.getElem_toArray, List.getElem_cons_succ, List.getElem_cons_zero, Act.put, List.setIfInBounds_toArray, List.set_cons_zero, List.set_cons_succ]
          refine wpAnyH_take (i := 12) (v := ?_) rfl (by kernel_rfl) (by kernel_rfl) (by kernel_rfl) (fun _ _ _ h => h) (Or.inl ⟨by rfl, ?hy29⟩) (by assumption) ?_
          case hy29 => ((intro w hSw; (try dsimp only at hSw); go_simp); try with_reducible rfl)
          try simp only [List.getElem_toArray, List.getElem_cons_succ, List.getElem_cons_zero, Act.put, List.setIfInBounds_toArray, List.set_cons_zero, List.set_cons_succ]
          refine wpAnyH_ready (rs := [13]) (by kernel_rfl) (by simp) ?_
          refine AllReadyH.cons rfl (fun K hK => ?_) AllReadyH.nil
          go_simp
          go_at_call 69
          (with_reducible refine (I2.out _).mono ?_)
          rintro e w6 ⟨rfl, hx⟩
          go_wp2_with fail
          refine hK.out _ _ ?hS30 (fun hHeld => ?_)
          case hS30 => ((try dsimp only); (refine KE.out _ _ K0.out ?_; (repeat (first | exact Ext.refl _ | assumption | refine Ext.drew ?_ | refine Ext.drewN ?_ _ | refine Ext.trans ?_ (by assumption))); done))
          clear hK K
          try simp only [List.getElem_toArray, List.getElem_cons_succ, List.getElem_cons_zero, Act.put, List.setIfInBounds_toArray, List.set_cons_zero, List.set_cons_succ]
          refine wpAnyH_take (i := 14) (v := ?_) rfl (by kernel_rfl) (by kernel_rfl) (by kernel_rfl) (fun _ _ _ h => h) (Or.inl ⟨by rfl, ?hy31⟩) (by assumption) ?_
          case hy31 => ((intro w hSw; (try dsimp only at hSw); go_simp); try with_reducible rfl)
          try simp only [List.getElem_toArray, List.getElem_cons_succ, List.getElem_cons_zero, Act.put, List.setIfInBounds_toArray, List.set_cons_zero, List.set_cons_succ]
          refine wpAnyH_take (i := 15) (v := ?_) rfl (by kernel_rfl) (by kernel_rfl) (by kernel_rfl) (fun _ _ _ h => h) (Or.inl ⟨by rfl, ?hy32⟩) (by assumption) ?_
          case hy32 => ((intro w hSw; (try dsimp only at hSw); go_simp); try with_reducible rfl)
          try simp only [List.getElem_toArray, List.getElem_cons_succ, List.getElem_cons_zero, Act.put, List.setIfInBounds_toArray, List.set_cons_zero, List.set_cons_succ]
          refine wpAnyH_done (by kernel_rfl) ?_ _
          all_goals (go_wp2_with fail; go_meet; exact ⟨by first | rfl | (simp; done), KE.out _ _ K0.out (by (repeat (first | exact Ext.refl _ | assumption | refine Ext.drew ?_ | refine Ext.drewN ?_ _ | refine Ext.trans ?_ (by assumption)))), by (repeat (first | exact Ext.refl _ | assumption | refine Ext.drew ?_ | refine Ext.drewN ?_ _ | refine Ext.trans ?_ (by assumption)))⟩)
      · have i1 : ∀ W, Calls Try.prog 69 #[.int .i64 a3, .agg #[.int .i64 (a0), .int .i64 (a0')]] W fun e w' => e = .returned (.bool false) ∧ Ext W w' := fun W => by have := in_any a3 (a0) (a0') W; rw [n1] at this; exact this
        have I1 := Lib.hid i1
        clear n1 i1
        refine wp_region_held_drew (S := (fun w' : World => (w'.cell? ⟨w.heap.size, 0, none⟩ = some (.int .i64 a0) ∧ w'.cell? ⟨w.heap.size, 1, none⟩ = some (.int .i64 a0') ∧ w'.cell? ⟨w.heap.size + 1, 0, none⟩ = some (.int .i64 a1) ∧ w'.cell? ⟨w.heap.size + 1, 1, none⟩ = some (.int .i64 a1') ∧ w'.cell? ⟨w.heap.size + 1 + 1, 0, none⟩ = some (.int .i64 a2) ∧ w'.cell? ⟨w.heap.size + 1 + 1, 1, none⟩ = some (.int .i64 a2') ∧ w'.cell? ⟨w5.heap.size, 0, none⟩ = some (.int .i64 (mtL a0 a0' a1 a1')) ∧ w'.cell? ⟨w5.heap.size, 1, none⟩ = some (.int .i64 (mtH a0 a0' a1 a1'))))) (by kernel_rfl) ?hS0a32 (fun hHeld => ?_)
        case hS0a32 => ((try dsimp only); (refine KE.out _ _ K0.out ?_; (repeat (first | exact Ext.refl _ | assumption | refine Ext.drew ?_ | refine Ext.drewN ?_ _ | refine Ext.trans ?_ (by assumption))); done))
        refine wpAnyH_take (i := 0) (v := ?_) rfl (by kernel_rfl) (by kernel_rfl) (by kernel_rfl) (fun _ _ _ h => h) (Or.inl ⟨by rfl, ?hy33⟩) (by assumption) ?_
        case hy33 => ((intro w hSw; (try dsimp only at hSw); go_simp); try with_reducible rfl)
        try simp only [List.getElem_toArray, List.getElem_cons_succ, List.getElem_cons_zero, Act.put, List.setIfInBounds_toArray, List.set_cons_zero, List.set_cons_succ]
        refine wpAnyH_take (i := 1) (v := ?_) rfl (by kernel_rfl) (by kernel_rfl) (by kernel_rfl) (fun _ _ _ h => h) (Or.inl ⟨by rfl, ?hy34⟩) (by assumption) ?_
        case hy34 => ((intro w hSw; (try dsimp only at hSw); go_simp); try with_reducible rfl)
        try simp only [List.getElem_toArray, List.getElem_cons_succ, List.getElem_cons_zero, Act.put, List.setIfInBounds_toArray, List.set_cons_zero, List.set_cons_succ]
        refine wpAnyH_take (i := 2) (v := ?_) rfl (by kernel_rfl) (by kernel_rfl) (by kernel_rfl) (fun _ _ _ h => h) (Or.inl ⟨by rfl, ?hy35⟩) (by assumption) ?_
        case hy35 => ((intro w hSw; (try dsimp only at hSw); go_simp); try with_reducible rfl)
        try simp only [List.getElem_toArray, List.getElem_cons_succ, List.getElem_cons_zero, Act.put, List.setIfInBounds_toArray, List.set_cons_zero, List.set_cons_succ]
        refine wpAnyH_take (i := 3) (v := undef) rfl (by kernel_rfl) (by kernel_rfl) (by kernel_rfl) (fun _ _ _ h => h) (Or.inr ⟨by rfl, rfl⟩) (by assumption) ?_
        try simp only [List.getElem_toArray, List.getElem_cons_succ, List.getElem_cons_zero, Act.put, List.setIfInBounds_toArray, List.set_cons_zero, List.set_cons_succ]
        refine wpAnyH_take (i := 4) (v := undef) rfl (by kernel_rfl) (by kernel_rfl) (by kernel_rfl) (fun _ _ _ h => h) (Or.inr ⟨by rfl, rfl⟩) (by assumption) ?_
        try simp only [List.getElem_toArray, List.getElem_cons_succ, List.getElem_cons_zero, Act.put, List.setIfInBounds_toArray, List.set_cons_zero, List.set_cons_succ]
        refine wpAnyH_take (i := 5) (v := undef) rfl (by kernel_rfl) (by kernel_rfl) (by kernel_rfl) (fun _ _ _ h => h) (Or.inr ⟨by rfl, rfl⟩) (by assumption) ?_
        try simp only [List.getElem_toArray, List.getElem_cons_succ, List.getElem_cons_zero, Act.put, List.setIfInBounds_toArray, List.set_cons_zero, List.set_cons_succ]
        refine wpAnyH_take (i := 6) (v := ?_) rfl (by kernel_rfl) (by kernel_rfl) (by kernel_rfl) (fun _ _ _ h => h) (Or.inl ⟨by rfl, ?hy39⟩) (by assumption) ?_
        case hy39 => ((intro w hSw; (try dsimp only at hSw); go_simp); try with_reducible rfl)
        try simp only [List.getElem_toArray, List.getElem_cons_succ, List.getElem_cons_zero, Act.put, List.setIfInBounds_toArray, List.set_cons_zero, List.set_cons_succ]
        refine wpAnyH_take (i := 7) (v := ?_) rfl (by kernel_rfl) (by kernel_rfl) (by kernel_rfl) (fun _ _ _ h => h) (Or.inl ⟨by rfl, ?hy40⟩) (by assumption) ?_
        case hy40 => ((intro w hSw; (try dsimp only at hSw); go_simp); try with_reducible rfl)
        try simp only [List.getElem_toArray, List.getElem_cons_succ, List.getElem_cons_zero, Act.put, List.setIfInBounds_toArray, List.set_cons_zero, List.set_cons_succ]
        refine wpAnyH_take (i := 8) (v := ?_) rfl (by kernel_rfl) (by kernel_rfl) (by kernel_rfl) (fun _ _ _ h => h) (Or.inl ⟨by rfl, ?hy41⟩) (by assumption) ?_
        case hy41 => ((intro w hSw; (try dsimp only at hSw); go_simp); try with_reducible rfl)
        try simp only [List.getElem_toArray, List.getElem_cons_succ, List.getElem_cons_zero, Act.put, List.setIfInBounds_toArray, List.set_cons_zero, List.set_cons_succ]
        refine wpAnyH_ready (rs := [9]) (by kernel_rfl) (by simp) ?_
        refine AllReadyH.cons rfl (fun K hK => ?_) AllReadyH.nil
        go_simp
        go_at_call 69
        (with_reducible refine (I1.out _).mono ?_)
        rintro e w6 ⟨rfl, hx⟩
        go_wp2_with fail
        refine hK.out _ _ ?hS42 (fun hHeld => ?_)
        case hS42 => ((try dsimp only); (refine KE.out _ _ K0.out ?_; (repeat (first | exact Ext.refl _ | assumption | refine Ext.drew ?_ | refine Ext.drewN ?_ _ | refine Ext.trans ?_ (by assumption))); done))
        clear hK K
        try simp only [List.getElem_toArray, List.getElem_cons_succ, List.getElem_cons_zero, Act.put, List.setIfInBounds_toArray, List.set_cons_zero, List.set_cons_succ]
        refine wpAnyH_take (i := 10) (v := ?_) rfl (by kernel_rfl) (by kernel_rfl) (by kernel_rfl) (fun _ _ _ h => h) (Or.inl ⟨by rfl, ?hy43⟩) (by assumption) ?_
        case hy43 => ((intro w hSw; (try dsimp only at hSw); go_simp); try with_reducible rfl)
        try simp only [List.getElem_toArray, List.getElem_cons_succ, List.getElem_cons_zero, Act.put, List.setIfInBounds_toArray, List.set_cons_zero, List.set_cons_succ]
        refine wpAnyH_take (i := 11) (v := undef) rfl (by kernel_rfl) (by kernel_rfl) (by kernel_rfl) (fun _ _ _ h => h) (Or.inr ⟨by rfl, rfl⟩) (by assumption) ?_
        try simp only [List.getElem_toArray, List.getElem_cons_succ, List.getElem_cons_zero, Act.put, List.setIfInBounds_toArray, List.set_cons_zero, List.set_cons_succ]
        refine wpAnyH_take (i := 12) (v := undef) rfl (by kernel_rfl) (by kernel_rfl) (by kernel_rfl) (fun _ _ _ h => h) (Or.inr ⟨by rfl, rfl⟩) (by assumption) ?_
        try simp only [List.getElem_toArray, List.getElem_cons_succ, List.getElem_cons_zero, Act.put, List.setIfInBounds_toArray, List.set_cons_zero, List.set_cons_succ]
        refine wpAnyH_take (i := 13) (v := undef) rfl (by kernel_rfl) (by kernel_rfl) (by kernel_rfl) (fun _ _ _ h => h) (Or.inr ⟨by rfl, rfl⟩) (by assumption) ?_
        try simp only [List.getElem_toArray, List.getElem_cons_succ, List.getElem_cons_zero, Act.put, List.setIfInBounds_toArray, List.set_cons_zero, List.set_cons_succ]
        refine wpAnyH_take (i := 14) (v := ?_) rfl (by kernel_rfl) (by kernel_rfl) (by kernel_rfl) (fun _ _ _ h => h) (Or.inl ⟨by rfl, ?hy47⟩) (by assumption) ?_
        case hy47 => ((intro w hSw; (try dsimp only at hSw); go_simp); try with_reducible rfl)
        try simp only [List.getElem_toArray, List.getElem_cons_succ, List.getElem_cons_zero, Act.put, List.setIfInBounds_toArray, List.set_cons_zero, List.set_cons_succ]
        refine wpAnyH_take (i := 15) (v := ?_) rfl (by kernel_rfl) (by kernel_rfl) (by kernel_rfl) (fun _ _ _ h => h) (Or.inl ⟨by rfl, ?hy48⟩) (by assumption) ?_
        case hy48 => ((intro w hSw; (try dsimp only at hSw); go_simp); try with_reducible rfl)
        try simp only [List.getElem_toArray, List.getElem_cons_succ, List.getElem_cons_zero, Act.put, List.setIfInBounds_toArray, List.set_cons_zero, List.set_cons_succ]
        refine wpAnyH_done (by kernel_rfl) ?_ _
        all_goals (go_wp2_with fail; go_meet; exact ⟨by first | rfl | (simp; done), KE.out _ _ K0.out (by (repeat (first | exact Ext.refl _ | assumption | refine Ext.drew ?_ | refine Ext.drewN ?_ _ | refine Ext.trans ?_ (by assumption)))), by (repeat (first | exact Ext.refl _ | assumption | refine Ext.drew ?_ | refine Ext.drewN ?_ _ | refine Ext.trans ?_ (by assumption)))⟩)
    case rest =>
      obtain ⟨rfl, hS, hxc⟩ := hcut
      obtain ⟨w6, hw6⟩ : ∃ x : World, x = wc := ⟨_, rfl⟩
      subst hw6
      have hx6 : Ext (w5.alloc (.cells #[.int .i64 (mtL a0 a0' a1 a1'), .int .i64 (mtH a0 a0' a1 a1')] 35)) w6 := by rw [← HU.out]; exact hxc
      clear hxc KE K0 HU
      have s6 := hx6.size
      try simp at s6
      obtain ⟨c61, c62, c63, c64, c65, c66, c67, c68⟩ := hS
      go_wp2_with fail
      refine (spanjoin_any a0 a0' a1 a1' _).mono ?_
      rintro e w7 ⟨rfl, hx7⟩
      rw [HJL.out, HJH.out, Q5.out]
      have s7 := hx7.size
      try simp at s7
      have c69 : w7.cell? ⟨w.heap.size, 0, none⟩ = some (.int .i64 a0) := (hx7.cell 0 (by first | (simp; done) | (simp; omega) | omega)).trans (by first | assumption | (simp [go_sem]; done) | exact ((((Ext.refl _).alloc _).cell _ (by omega)).trans (by assumption)) | (simp [go_sem, *]; done))
      have c70 : w7.cell? ⟨w.heap.size, 1, none⟩ = some (.int .i64 a0') := (hx7.cell 1 (by first | (simp; done) | (simp; omega) | omega)).trans (by first | assumption | (simp [go_sem]; done) | exact ((((Ext.refl _).alloc _).cell _ (by omega)).trans (by assumption)) | (simp [go_sem, *]; done))
      have c71 : w7.cell? ⟨w.heap.size + 1, 0, none⟩ = some (.int .i64 a1) := (hx7.cell 0 (by first | (simp; done) | (simp; omega) | omega)).trans (by first | assumption | (simp [go_sem]; done) | exact ((((Ext.refl _).alloc _).cell _ (by omega)).trans (by assumption)) | (simp [go_sem, *]; done))
      have c72 : w7.cell? ⟨w.heap.size + 1, 1, none⟩ = some (.int .i64 a1') := (hx7.cell 1 (by first | (simp; done) | (simp; omega) | omega)).trans (by first | assumption | (simp [go_sem]; done) | exact ((((Ext.refl _).alloc _).cell _ (by omega)).trans (by assumption)) | (simp [go_sem, *]; done))
      have c73 : w7.cell? ⟨w.heap.size + 1 + 1, 0, none⟩ = some (.int .i64 a2) := (hx7.cell 0 (by first | (simp; done) | (simp; omega) | omega)).trans (by first | assumption | (simp [go_sem]; done) | exact ((((Ext.refl _).alloc _).cell _ (by omega)).trans (by assumption)) | (simp [go_sem, *]; done))
      have c74 : w7.cell? ⟨w.heap.size + 1 + 1, 1, none⟩ = some (.int .i64 a2') := (hx7.cell 1 (by first | (simp; done) | (simp; omega) | omega)).trans (by first | assumption | (simp [go_sem]; done) | exact ((((Ext.refl _).alloc _).cell _ (by omega)).trans (by assumption)) | (simp [go_sem, *]; done))
      have c75 : w7.cell? ⟨w5.heap.size, 0, none⟩ = some (.int .i64 (mtL a0 a0' a1 a1')) := (hx7.cell 0 (by first | (simp; done) | (simp; omega) | omega)).trans (by first | assumption | (simp [go_sem]; done) | exact ((((Ext.refl _).alloc _).cell _ (by omega)).trans (by assumption)) | (simp [go_sem, *]; done))
      have c76 : w7.cell? ⟨w5.heap.size, 1, none⟩ = some (.int .i64 (mtH a0 a0' a1 a1')) := (hx7.cell 1 (by first | (simp; done) | (simp; omega) | omega)).trans (by first | assumption | (simp [go_sem]; done) | exact ((((Ext.refl _).alloc _).cell _ (by omega)).trans (by assumption)) | (simp [go_sem, *]; done))
      clear c61 c62 c63 c64 c65 c66 c67 c68
      have d77 : ∀ ob, (w7.alloc ob).cell? ⟨w.heap.size, 0, none⟩ = some (.int .i64 a0) := fun ob => (((Ext.refl w7).alloc ob).cell 0 (by omega)).trans (by assumption)
      have d78 : ∀ ob, (w7.alloc ob).cell? ⟨w.heap.size, 1, none⟩ = some (.int .i64 a0') := fun ob => (((Ext.refl w7).alloc ob).cell 1 (by omega)).trans (by assumption)
      have d79 : ∀ ob, (w7.alloc ob).cell? ⟨w.heap.size + 1, 0, none⟩ = some (.int .i64 a1) := fun ob => (((Ext.refl w7).alloc ob).cell 0 (by omega)).trans (by assumption)
      have d80 : ∀ ob, (w7.alloc ob).cell? ⟨w.heap.size + 1, 1, none⟩ = some (.int .i64 a1') := fun ob => (((Ext.refl w7).alloc ob).cell 1 (by omega)).trans (by assumption)
      have d81 : ∀ ob, (w7.alloc ob).cell? ⟨w.heap.size + 1 + 1, 0, none⟩ = some (.int .i64 a2) := fun ob => (((Ext.refl w7).alloc ob).cell 0 (by omega)).trans (by assumption)
      have d82 : ∀ ob, (w7.alloc ob).cell? ⟨w.heap.size + 1 + 1, 1, none⟩ = some (.int .i64 a2') := fun ob => (((Ext.refl w7).alloc ob).cell 1 (by omega)).trans (by assumption)
      have d83 : ∀ ob, (w7.alloc ob).cell? ⟨w5.heap.size, 0, none⟩ = some (.int .i64 (mtL a0 a0' a1 a1')) := fun ob => (((Ext.refl w7).alloc ob).cell 0 (by omega)).trans (by assumption)
      have d84 : ∀ ob, (w7.alloc ob).cell? ⟨w5.heap.size, 1, none⟩ = some (.int .i64 (mtH a0 a0' a1 a1')) := fun ob => (((Ext.refl w7).alloc ob).cell 1 (by omega)).trans (by assumption)
      go_wp2_with fail
      refine (lwithin_any a0 a0' jl jh _).mono ?_
      rintro e w8 ⟨rfl, hx8⟩
      rw [Q1.out]
      have s8 := hx8.size
      try simp at s8
      have c85 : w8.cell? ⟨w.heap.size, 0, none⟩ = some (.int .i64 a0) := (hx8.cell 0 (by first | (simp; done) | (simp; omega) | omega)).trans (by first | assumption | (simp [go_sem]; done) | exact ((((Ext.refl _).alloc _).cell _ (by omega)).trans (by assumption)) | (simp [go_sem, *]; done))
      have c86 : w8.cell? ⟨w.heap.size, 1, none⟩ = some (.int .i64 a0') := (hx8.cell 1 (by first | (simp; done) | (simp; omega) | omega)).trans (by first | assumption | (simp [go_sem]; done) | exact ((((Ext.refl _).alloc _).cell _ (by omega)).trans (by assumption)) | (simp [go_sem, *]; done))
      have c87 : w8.cell? ⟨w.heap.size + 1, 0, none⟩ = some (.int .i64 a1) := (hx8.cell 0 (by first | (simp; done) | (simp; omega) | omega)).trans (by first | assumption | (simp [go_sem]; done) | exact ((((Ext.refl _).alloc _).cell _ (by omega)).trans (by assumption)) | (simp [go_sem, *]; done))
      have c88 : w8.cell? ⟨w.heap.size + 1, 1, none⟩ = some (.int .i64 a1') := (hx8.cell 1 (by first | (simp; done) | (simp; omega) | omega)).trans (by first | assumption | (simp [go_sem]; done) | exact ((((Ext.refl _).alloc _).cell _ (by omega)).trans (by assumption)) | (simp [go_sem, *]; done))
      have c89 : w8.cell? ⟨w.heap.size + 1 + 1, 0, none⟩ = some (.int .i64 a2) := (hx8.cell 0 (by first | (simp; done) | (simp; omega) | omega)).trans (by first | assumption | (simp [go_sem]; done) | exact ((((Ext.refl _).alloc _).cell _ (by omega)).trans (by assumption)) | (simp [go_sem, *]; done))
      have c90 : w8.cell? ⟨w.heap.size + 1 + 1, 1, none⟩ = some (.int .i64 a2') := (hx8.cell 1 (by first | (simp; done) | (simp; omega) | omega)).trans (by first | assumption | (simp [go_sem]; done) | exact ((((Ext.refl _).alloc _).cell _ (by omega)).trans (by assumption)) | (simp [go_sem, *]; done))
      have c91 : w8.cell? ⟨w5.heap.size, 0, none⟩ = some (.int .i64 (mtL a0 a0' a1 a1')) := (hx8.cell 0 (by first | (simp; done) | (simp; omega) | omega)).trans (by first | assumption | (simp [go_sem]; done) | exact ((((Ext.refl _).alloc _).cell _ (by omega)).trans (by assumption)) | (simp [go_sem, *]; done))
      have c92 : w8.cell? ⟨w5.heap.size, 1, none⟩ = some (.int .i64 (mtH a0 a0' a1 a1')) := (hx8.cell 1 (by first | (simp; done) | (simp; omega) | omega)).trans (by first | assumption | (simp [go_sem]; done) | exact ((((Ext.refl _).alloc _).cell _ (by omega)).trans (by assumption)) | (simp [go_sem, *]; done))
      have c93 : w8.cell? ⟨w7.heap.size, 0, none⟩ = some (.int .i64 jl) := (hx8.cell 0 (by first | (simp; done) | (simp; omega) | omega)).trans (by first | assumption | (simp [go_sem]; done) | exact ((((Ext.refl _).alloc _).cell _ (by omega)).trans (by assumption)) | (simp [go_sem, *]; done))
      have c94 : w8.cell? ⟨w7.heap.size, 1, none⟩ = some (.int .i64 jh) := (hx8.cell 1 (by first | (simp; done) | (simp; omega) | omega)).trans (by first | assumption | (simp [go_sem]; done) | exact ((((Ext.refl _).alloc _).cell _ (by omega)).trans (by assumption)) | (simp [go_sem, *]; done))
      clear c69 c70 c71 c72 c73 c74 c75 c76 d77 d78 d79 d80 d81 d82 d83 d84
      have d95 : ∀ ob, (w8.alloc ob).cell? ⟨w.heap.size, 0, none⟩ = some (.int .i64 a0) := fun ob => (((Ext.refl w8).alloc ob).cell 0 (by omega)).trans (by assumption)
      have d96 : ∀ ob, (w8.alloc ob).cell? ⟨w.heap.size, 1, none⟩ = some (.int .i64 a0') := fun ob => (((Ext.refl w8).alloc ob).cell 1 (by omega)).trans (by assumption)
      have d97 : ∀ ob, (w8.alloc ob).cell? ⟨w.heap.size + 1, 0, none⟩ = some (.int .i64 a1) := fun ob => (((Ext.refl w8).alloc ob).cell 0 (by omega)).trans (by assumption)
      have d98 : ∀ ob, (w8.alloc ob).cell? ⟨w.heap.size + 1, 1, none⟩ = some (.int .i64 a1') := fun ob => (((Ext.refl w8).alloc ob).cell 1 (by omega)).trans (by assumption)
      have d99 : ∀ ob, (w8.alloc ob).cell? ⟨w.heap.size + 1 + 1, 0, none⟩ = some (.int .i64 a2) := fun ob => (((Ext.refl w8).alloc ob).cell 0 (by omega)).trans (by assumption)
      have d100 : ∀ ob, (w8.alloc ob).cell? ⟨w.heap.size + 1 + 1, 1, none⟩ = some (.int .i64 a2') := fun ob => (((Ext.refl w8).alloc ob).cell 1 (by omega)).trans (by assumption)
      have d101 : ∀ ob, (w8.alloc ob).cell? ⟨w5.heap.size, 0, none⟩ = some (.int .i64 (mtL a0 a0' a1 a1')) := fun ob => (((Ext.refl w8).alloc ob).cell 0 (by omega)).trans (by assumption)
      have d102 : ∀ ob, (w8.alloc ob).cell? ⟨w5.heap.size, 1, none⟩ = some (.int .i64 (mtH a0 a0' a1 a1')) := fun ob => (((Ext.refl w8).alloc ob).cell 1 (by omega)).trans (by assumption)
      have d103 : ∀ ob, (w8.alloc ob).cell? ⟨w7.heap.size, 0, none⟩ = some (.int .i64 jl) := fun ob => (((Ext.refl w8).alloc ob).cell 0 (by omega)).trans (by assumption)
      have d104 : ∀ ob, (w8.alloc ob).cell? ⟨w7.heap.size, 1, none⟩ = some (.int .i64 jh) := fun ob => (((Ext.refl w8).alloc ob).cell 1 (by omega)).trans (by assumption)
      go_wp2_with fail
      refine (lwithin_any a1 a1' jl jh _).mono ?_
      rintro e w9 ⟨rfl, hx9⟩
      rw [Q2.out]
      have s9 := hx9.size
      try simp at s9
      have c105 : w9.cell? ⟨w.heap.size, 0, none⟩ = some (.int .i64 a0) := (hx9.cell 0 (by first | (simp; done) | (simp; omega) | omega)).trans (by first | assumption | (simp [go_sem]; done) | exact ((((Ext.refl _).alloc _).cell _ (by omega)).trans (by assumption)) | (simp [go_sem, *]; done))
      have c106 : w9.cell? ⟨w.heap.size, 1, none⟩ = some (.int .i64 a0') := (hx9.cell 1 (by first | (simp; done) | (simp; omega) | omega)).trans (by first | assumption | (simp [go_sem]; done) | exact ((((Ext.refl _).alloc _).cell _ (by omega)).trans (by assumption)) | (simp [go_sem, *]; done))
      have c107 : w9.cell? ⟨w.heap.size + 1, 0, none⟩ = some (.int .i64 a1) := (hx9.cell 0 (by first | (simp; done) | (simp; omega) | omega)).trans (by first | assumption | (simp [go_sem]; done) | exact ((((Ext.refl _).alloc _).cell _ (by omega)).trans (by assumption)) | (simp [go_sem, *]; done))
      have c108 : w9.cell? ⟨w.heap.size + 1, 1, none⟩ = some (.int .i64 a1') := (hx9.cell 1 (by first | (simp; done) | (simp; omega) | omega)).trans (by first | assumption | (simp [go_sem]; done) | exact ((((Ext.refl _).alloc _).cell _ (by omega)).trans (by assumption)) | (simp [go_sem, *]; done))
      have c109 : w9.cell? ⟨w.heap.size + 1 + 1, 0, none⟩ = some (.int .i64 a2) := (hx9.cell 0 (by first | (simp; done) | (simp; omega) | omega)).trans (by first | assumption | (simp [go_sem]; done) | exact ((((Ext.refl _).alloc _).cell _ (by omega)).trans (by assumption)) | (simp [go_sem, *]; done))
      have c110 : w9.cell? ⟨w.heap.size + 1 + 1, 1, none⟩ = some (.int .i64 a2') := (hx9.cell 1 (by first | (simp; done) | (simp; omega) | omega)).trans (by first | assumption | (simp [go_sem]; done) | exact ((((Ext.refl _).alloc _).cell _ (by omega)).trans (by assumption)) | (simp [go_sem, *]; done))
      have c111 : w9.cell? ⟨w5.heap.size, 0, none⟩ = some (.int .i64 (mtL a0 a0' a1 a1')) := (hx9.cell 0 (by first | (simp; done) | (simp; omega) | omega)).trans (by first | assumption | (simp [go_sem]; done) | exact ((((Ext.refl _).alloc _).cell _ (by omega)).trans (by assumption)) | (simp [go_sem, *]; done))
      have c112 : w9.cell? ⟨w5.heap.size, 1, none⟩ = some (.int .i64 (mtH a0 a0' a1 a1')) := (hx9.cell 1 (by first | (simp; done) | (simp; omega) | omega)).trans (by first | assumption | (simp [go_sem]; done) | exact ((((Ext.refl _).alloc _).cell _ (by omega)).trans (by assumption)) | (simp [go_sem, *]; done))
      have c113 : w9.cell? ⟨w7.heap.size, 0, none⟩ = some (.int .i64 jl) := (hx9.cell 0 (by first | (simp; done) | (simp; omega) | omega)).trans (by first | assumption | (simp [go_sem]; done) | exact ((((Ext.refl _).alloc _).cell _ (by omega)).trans (by assumption)) | (simp [go_sem, *]; done))
      have c114 : w9.cell? ⟨w7.heap.size, 1, none⟩ = some (.int .i64 jh) := (hx9.cell 1 (by first | (simp; done) | (simp; omega) | omega)).trans (by first | assumption | (simp [go_sem]; done) | exact ((((Ext.refl _).alloc _).cell _ (by omega)).trans (by assumption)) | (simp [go_sem, *]; done))
      clear c85 c86 c87 c88 c89 c90 c91 c92 c93 c94 d95 d96 d97 d98 d99 d100 d101 d102 d103 d104
      have d115 : ∀ ob, (w9.alloc ob).cell? ⟨w.heap.size, 0, none⟩ = some (.int .i64 a0) := fun ob => (((Ext.refl w9).alloc ob).cell 0 (by omega)).trans (by assumption)
      have d116 : ∀ ob, (w9.alloc ob).cell? ⟨w.heap.size, 1, none⟩ = some (.int .i64 a0') := fun ob => (((Ext.refl w9).alloc ob).cell 1 (by omega)).trans (by assumption)
      have d117 : ∀ ob, (w9.alloc ob).cell? ⟨w.heap.size + 1, 0, none⟩ = some (.int .i64 a1) := fun ob => (((Ext.refl w9).alloc ob).cell 0 (by omega)).trans (by assumption)
      have d118 : ∀ ob, (w9.alloc ob).cell? ⟨w.heap.size + 1, 1, none⟩ = some (.int .i64 a1') := fun ob => (((Ext.refl w9).alloc ob).cell 1 (by omega)).trans (by assumption)
      have d119 : ∀ ob, (w9.alloc ob).cell? ⟨w.heap.size + 1 + 1, 0, none⟩ = some (.int .i64 a2) := fun ob => (((Ext.refl w9).alloc ob).cell 0 (by omega)).trans (by assumption)
      have d120 : ∀ ob, (w9.alloc ob).cell? ⟨w.heap.size + 1 + 1, 1, none⟩ = some (.int .i64 a2') := fun ob => (((Ext.refl w9).alloc ob).cell 1 (by omega)).trans (by assumption)
      have d121 : ∀ ob, (w9.alloc ob).cell? ⟨w5.heap.size, 0, none⟩ = some (.int .i64 (mtL a0 a0' a1 a1')) := fun ob => (((Ext.refl w9).alloc ob).cell 0 (by omega)).trans (by assumption)
      have d122 : ∀ ob, (w9.alloc ob).cell? ⟨w5.heap.size, 1, none⟩ = some (.int .i64 (mtH a0 a0' a1 a1')) := fun ob => (((Ext.refl w9).alloc ob).cell 1 (by omega)).trans (by assumption)
      have d123 : ∀ ob, (w9.alloc ob).cell? ⟨w7.heap.size, 0, none⟩ = some (.int .i64 jl) := fun ob => (((Ext.refl w9).alloc ob).cell 0 (by omega)).trans (by assumption)
      have d124 : ∀ ob, (w9.alloc ob).cell? ⟨w7.heap.size, 1, none⟩ = some (.int .i64 jh) := fun ob => (((Ext.refl w9).alloc ob).cell 1 (by omega)).trans (by assumption)
      rcases Bool.eq_false_or_eq_true (witB a0 a0' a2 a2') with y1 | y1
      · rcases Bool.eq_false_or_eq_true (witB a1 a1' a2 a2') with y2 | y2
        · have Y1 := Lib.hid y1
          clear y1
          have Y2 := Lib.hid y2
          clear y2
          go_wp2_with fail
          refine (lwithin_any a0 a0' a2 a2' _).mono ?_
          rintro e w10 ⟨rfl, hx10⟩
          rw [Y1.out]
          have s10 := hx10.size
          try simp at s10
          have c125 : w10.cell? ⟨w.heap.size, 0, none⟩ = some (.int .i64 a0) := (hx10.cell 0 (by first | (simp; done) | (simp; omega) | omega)).trans (by first | assumption | (simp [go_sem]; done) | exact ((((Ext.refl _).alloc _).cell _ (by omega)).trans (by assumption)) | (simp [go_sem, *]; done))
          have c126 : w10.cell? ⟨w.heap.size, 1, none⟩ = some (.int .i64 a0') := (hx10.cell 1 (by first | (simp; done) | (simp; omega) | omega)).trans (by first | assumption | (simp [go_sem]; done) | exact ((((Ext.refl _).alloc _).cell _ (by omega)).trans (by assumption)) | (simp [go_sem, *]; done))
          have c127 : w10.cell? ⟨w.heap.size + 1, 0, none⟩ = some (.int .i64 a1) := (hx10.cell 0 (by first | (simp; done) | (simp; omega) | omega)).trans (by first | assumption | (simp [go_sem]; done) | exact ((((Ext.refl _).alloc _).cell _ (by omega)).trans (by assumption)) | (simp [go_sem, *]; done))
          have c128 : w10.cell? ⟨w.heap.size + 1, 1, none⟩ = some (.int .i64 a1') := (hx10.cell 1 (by first | (simp; done) | (simp; omega) | omega)).trans (by first | assumption | (simp [go_sem]; done) | exact ((((Ext.refl _).alloc _).cell _ (by omega)).trans (by assumption)) | (simp [go_sem, *]; done))
          have c129 : w10.cell? ⟨w.heap.size + 1 + 1, 0, none⟩ = some (.int .i64 a2) := (hx10.cell 0 (by first | (simp; done) | (simp; omega) | omega)).trans (by first | assumption | (simp [go_sem]; done) | exact ((((Ext.refl _).alloc _).cell _ (by omega)).trans (by assumption)) | (simp [go_sem, *]; done))
          have c130 : w10.cell? ⟨w.heap.size + 1 + 1, 1, none⟩ = some (.int .i64 a2') := (hx10.cell 1 (by first | (simp; done) | (simp; omega) | omega)).trans (by first | assumption | (simp [go_sem]; done) | exact ((((Ext.refl _).alloc _).cell _ (by omega)).trans (by assumption)) | (simp [go_sem, *]; done))
          have c131 : w10.cell? ⟨w5.heap.size, 0, none⟩ = some (.int .i64 (mtL a0 a0' a1 a1')) := (hx10.cell 0 (by first | (simp; done) | (simp; omega) | omega)).trans (by first | assumption | (simp [go_sem]; done) | exact ((((Ext.refl _).alloc _).cell _ (by omega)).trans (by assumption)) | (simp [go_sem, *]; done))
          have c132 : w10.cell? ⟨w5.heap.size, 1, none⟩ = some (.int .i64 (mtH a0 a0' a1 a1')) := (hx10.cell 1 (by first | (simp; done) | (simp; omega) | omega)).trans (by first | assumption | (simp [go_sem]; done) | exact ((((Ext.refl _).alloc _).cell _ (by omega)).trans (by assumption)) | (simp [go_sem, *]; done))
          have c133 : w10.cell? ⟨w7.heap.size, 0, none⟩ = some (.int .i64 jl) := (hx10.cell 0 (by first | (simp; done) | (simp; omega) | omega)).trans (by first | assumption | (simp [go_sem]; done) | exact ((((Ext.refl _).alloc _).cell _ (by omega)).trans (by assumption)) | (simp [go_sem, *]; done))
          have c134 : w10.cell? ⟨w7.heap.size, 1, none⟩ = some (.int .i64 jh) := (hx10.cell 1 (by first | (simp; done) | (simp; omega) | omega)).trans (by first | assumption | (simp [go_sem]; done) | exact ((((Ext.refl _).alloc _).cell _ (by omega)).trans (by assumption)) | (simp [go_sem, *]; done))
          clear c105 c106 c107 c108 c109 c110 c111 c112 c113 c114 d115 d116 d117 d118 d119 d120 d121 d122 d123 d124
          have d135 : ∀ ob, (w10.alloc ob).cell? ⟨w.heap.size, 0, none⟩ = some (.int .i64 a0) := fun ob => (((Ext.refl w10).alloc ob).cell 0 (by omega)).trans (by assumption)
          have d136 : ∀ ob, (w10.alloc ob).cell? ⟨w.heap.size, 1, none⟩ = some (.int .i64 a0') := fun ob => (((Ext.refl w10).alloc ob).cell 1 (by omega)).trans (by assumption)
          have d137 : ∀ ob, (w10.alloc ob).cell? ⟨w.heap.size + 1, 0, none⟩ = some (.int .i64 a1) := fun ob => (((Ext.refl w10).alloc ob).cell 0 (by omega)).trans (by assumption)
          have d138 : ∀ ob, (w10.alloc ob).cell? ⟨w.heap.size + 1, 1, none⟩ = some (.int .i64 a1') := fun ob => (((Ext.refl w10).alloc ob).cell 1 (by omega)).trans (by assumption)
          have d139 : ∀ ob, (w10.alloc ob).cell? ⟨w.heap.size + 1 + 1, 0, none⟩ = some (.int .i64 a2) := fun ob => (((Ext.refl w10).alloc ob).cell 0 (by omega)).trans (by assumption)
          have d140 : ∀ ob, (w10.alloc ob).cell? ⟨w.heap.size + 1 + 1, 1, none⟩ = some (.int .i64 a2') := fun ob => (((Ext.refl w10).alloc ob).cell 1 (by omega)).trans (by assumption)
          have d141 : ∀ ob, (w10.alloc ob).cell? ⟨w5.heap.size, 0, none⟩ = some (.int .i64 (mtL a0 a0' a1 a1')) := fun ob => (((Ext.refl w10).alloc ob).cell 0 (by omega)).trans (by assumption)
          have d142 : ∀ ob, (w10.alloc ob).cell? ⟨w5.heap.size, 1, none⟩ = some (.int .i64 (mtH a0 a0' a1 a1')) := fun ob => (((Ext.refl w10).alloc ob).cell 1 (by omega)).trans (by assumption)
          have d143 : ∀ ob, (w10.alloc ob).cell? ⟨w7.heap.size, 0, none⟩ = some (.int .i64 jl) := fun ob => (((Ext.refl w10).alloc ob).cell 0 (by omega)).trans (by assumption)
          have d144 : ∀ ob, (w10.alloc ob).cell? ⟨w7.heap.size, 1, none⟩ = some (.int .i64 jh) := fun ob => (((Ext.refl w10).alloc ob).cell 1 (by omega)).trans (by assumption)
          go_wp2_with fail
          refine (lwithin_any a1 a1' a2 a2' _).mono ?_
          rintro e w11 ⟨rfl, hx11⟩
          rw [Y2.out]
          have s11 := hx11.size
          try simp at s11
          have c145 : w11.cell? ⟨w.heap.size, 0, none⟩ = some (.int .i64 a0) := (hx11.cell 0 (by first | (simp; done) | (simp; omega) | omega)).trans (by first | assumption | (simp [go_sem]; done) | exact ((((Ext.refl _).alloc _).cell _ (by omega)).trans (by assumption)) | (simp [go_sem, *]; done))
          have c146 : w11.cell? ⟨w.heap.size, 1, none⟩ = some (.int .i64 a0') := (hx11.cell 1 (by first | (simp; done) | (simp; omega) | omega)).trans (by first | assumption | (simp [go_sem]; done) | exact ((((Ext.refl _).alloc _).cell _ (by omega)).trans (by assumption)) | (simp [go_sem, *]; done))
          have c147 : w11.cell? ⟨w.heap.size + 1, 0, none⟩ = some (.int .i64 a1) := (hx11.cell 0 (by first | (simp; done) | (simp; omega) | omega)).trans (by first | assumption | (simp [go_sem]; done) | exact ((((Ext.refl _).alloc _).cell _ (by omega)).trans (by assumption)) | (simp [go_sem, *]; done))
          have c148 : w11.cell? ⟨w.heap.size + 1, 1, none⟩ = some (.int .i64 a1') := (hx11.cell 1 (by first | (simp; done) | (simp; omega) | omega)).trans (by first | assumption | (simp [go_sem]; done) | exact ((((Ext.refl _).alloc _).cell _ (by omega)).trans (by assumption)) | (simp [go_sem, *]; done))
          have c149 : w11.cell? ⟨w.heap.size + 1 + 1, 0, none⟩ = some (.int .i64 a2) := (hx11.cell 0 (by first | (simp; done) | (simp; omega) | omega)).trans (by first | assumption | (simp [go_sem]; done) | exact ((((Ext.refl _).alloc _).cell _ (by omega)).trans (by assumption)) | (simp [go_sem, *]; done))
          have c150 : w11.cell? ⟨w.heap.size + 1 + 1, 1, none⟩ = some (.int .i64 a2') := (hx11.cell 1 (by first | (simp; done) | (simp; omega) | omega)).trans (by first | assumption | (simp [go_sem]; done) | exact ((((Ext.refl _).alloc _).cell _ (by omega)).trans (by assumption)) | (simp [go_sem, *]; done))
          have c151 : w11.cell? ⟨w5.heap.size, 0, none⟩ = some (.int .i64 (mtL a0 a0' a1 a1')) := (hx11.cell 0 (by first | (simp; done) | (simp; omega) | omega)).trans (by first | assumption | (simp [go_sem]; done) | exact ((((Ext.refl _).alloc _).cell _ (by omega)).trans (by assumption)) | (simp [go_sem, *]; done))
          have c152 : w11.cell? ⟨w5.heap.size, 1, none⟩ = some (.int .i64 (mtH a0 a0' a1 a1')) := (hx11.cell 1 (by first | (simp; done) | (simp; omega) | omega)).trans (by first | assumption | (simp [go_sem]; done) | exact ((((Ext.refl _).alloc _).cell _ (by omega)).trans (by assumption)) | (simp [go_sem, *]; done))
          have c153 : w11.cell? ⟨w7.heap.size, 0, none⟩ = some (.int .i64 jl) := (hx11.cell 0 (by first | (simp; done) | (simp; omega) | omega)).trans (by first | assumption | (simp [go_sem]; done) | exact ((((Ext.refl _).alloc _).cell _ (by omega)).trans (by assumption)) | (simp [go_sem, *]; done))
          have c154 : w11.cell? ⟨w7.heap.size, 1, none⟩ = some (.int .i64 jh) := (hx11.cell 1 (by first | (simp; done) | (simp; omega) | omega)).trans (by first | assumption | (simp [go_sem]; done) | exact ((((Ext.refl _).alloc _).cell _ (by omega)).trans (by assumption)) | (simp [go_sem, *]; done))
          clear c125 c126 c127 c128 c129 c130 c131 c132 c133 c134 d135 d136 d137 d138 d139 d140 d141 d142 d143 d144
          have d155 : ∀ ob, (w11.alloc ob).cell? ⟨w.heap.size, 0, none⟩ = some (.int .i64 a0) := fun ob => (((Ext.refl w11).alloc ob).cell 0 (by omega)).trans (by assumption)
          have d156 : ∀ ob, (w11.alloc ob).cell? ⟨w.heap.size, 1, none⟩ = some (.int .i64 a0') := fun ob => (((Ext.refl w11).alloc ob).cell 1 (by omega)).trans (by assumption)
          have d157 : ∀ ob, (w11.alloc ob).cell? ⟨w.heap.size + 1, 0, none⟩ = some (.int .i64 a1) := fun ob => (((Ext.refl w11).alloc ob).cell 0 (by omega)).trans (by assumption)
          have d158 : ∀ ob, (w11.alloc ob).cell? ⟨w.heap.size + 1, 1, none⟩ = some (.int .i64 a1') := fun ob => (((Ext.refl w11).alloc ob).cell 1 (by omega)).trans (by assumption)
          have d159 : ∀ ob, (w11.alloc ob).cell? ⟨w.heap.size + 1 + 1, 0, none⟩ = some (.int .i64 a2) := fun ob => (((Ext.refl w11).alloc ob).cell 0 (by omega)).trans (by assumption)
          have d160 : ∀ ob, (w11.alloc ob).cell? ⟨w.heap.size + 1 + 1, 1, none⟩ = some (.int .i64 a2') := fun ob => (((Ext.refl w11).alloc ob).cell 1 (by omega)).trans (by assumption)
          have d161 : ∀ ob, (w11.alloc ob).cell? ⟨w5.heap.size, 0, none⟩ = some (.int .i64 (mtL a0 a0' a1 a1')) := fun ob => (((Ext.refl w11).alloc ob).cell 0 (by omega)).trans (by assumption)
          have d162 : ∀ ob, (w11.alloc ob).cell? ⟨w5.heap.size, 1, none⟩ = some (.int .i64 (mtH a0 a0' a1 a1')) := fun ob => (((Ext.refl w11).alloc ob).cell 1 (by omega)).trans (by assumption)
          have d163 : ∀ ob, (w11.alloc ob).cell? ⟨w7.heap.size, 0, none⟩ = some (.int .i64 jl) := fun ob => (((Ext.refl w11).alloc ob).cell 0 (by omega)).trans (by assumption)
          have d164 : ∀ ob, (w11.alloc ob).cell? ⟨w7.heap.size, 1, none⟩ = some (.int .i64 jh) := fun ob => (((Ext.refl w11).alloc ob).cell 1 (by omega)).trans (by assumption)
          go_wp2_with fail
          refine (lwithin_any jl jh a2 a2' _).mono ?_
          rintro e w12 ⟨rfl, hx12⟩
          rw [Q3.out Y1.out Y2.out]
          have s12 := hx12.size
          try simp at s12
          have c165 : w12.cell? ⟨w.heap.size, 0, none⟩ = some (.int .i64 a0) := (hx12.cell 0 (by first | (simp; done) | (simp; omega) | omega)).trans (by first | assumption | (simp [go_sem]; done) | exact ((((Ext.refl _).alloc _).cell _ (by omega)).trans (by assumption)) | (simp [go_sem, *]; done))
          have c166 : w12.cell? ⟨w.heap.size, 1, none⟩ = some (.int .i64 a0') := (hx12.cell 1 (by first | (simp; done) | (simp; omega) | omega)).trans (by first | assumption | (simp [go_sem]; done) | exact ((((Ext.refl _).alloc _).cell _ (by omega)).trans (by assumption)) | (simp [go_sem, *]; done))
          have c167 : w12.cell? ⟨w.heap.size + 1, 0, none⟩ = some (.int .i64 a1) := (hx12.cell 0 (by first | (simp; done) | (simp; omega) | omega)).trans (by first | assumption | (simp [go_sem]; done) | exact ((((Ext.refl _).alloc _).cell _ (by omega)).trans (by assumption)) | (simp [go_sem, *]; done))
          have c168 : w12.cell? ⟨w.heap.size + 1, 1, none⟩ = some (.int .i64 a1') := (hx12.cell 1 (by first | (simp; done) | (simp; omega) | omega)).trans (by first | assumption | (simp [go_sem]; done) | exact ((((Ext.refl _).alloc _).cell _ (by omega)).trans (by assumption)) | (simp [go_sem, *]; done))
          have c169 : w12.cell? ⟨w.heap.size + 1 + 1, 0, none⟩ = some (.int .i64 a2) := (hx12.cell 0 (by first | (simp; done) | (simp; omega) | omega)).trans (by first | assumption | (simp [go_sem]; done) | exact ((((Ext.refl _).alloc _).cell _ (by omega)).trans (by assumption)) | (simp [go_sem, *]; done))
          have c170 : w12.cell? ⟨w.heap.size + 1 + 1, 1, none⟩ = some (.int .i64 a2') := (hx12.cell 1 (by first | (simp; done) | (simp; omega) | omega)).trans (by first | assumption | (simp [go_sem]; done) | exact ((((Ext.refl _).alloc _).cell _ (by omega)).trans (by assumption)) | (simp [go_sem, *]; done))
          have c171 : w12.cell? ⟨w5.heap.size, 0, none⟩ = some (.int .i64 (mtL a0 a0' a1 a1')) := (hx12.cell 0 (by first | (simp; done) | (simp; omega) | omega)).trans (by first | assumption | (simp [go_sem]; done) | exact ((((Ext.refl _).alloc _).cell _ (by omega)).trans (by assumption)) | (simp [go_sem, *]; done))
          have c172 : w12.cell? ⟨w5.heap.size, 1, none⟩ = some (.int .i64 (mtH a0 a0' a1 a1')) := (hx12.cell 1 (by first | (simp; done) | (simp; omega) | omega)).trans (by first | assumption | (simp [go_sem]; done) | exact ((((Ext.refl _).alloc _).cell _ (by omega)).trans (by assumption)) | (simp [go_sem, *]; done))
          have c173 : w12.cell? ⟨w7.heap.size, 0, none⟩ = some (.int .i64 jl) := (hx12.cell 0 (by first | (simp; done) | (simp; omega) | omega)).trans (by first | assumption | (simp [go_sem]; done) | exact ((((Ext.refl _).alloc _).cell _ (by omega)).trans (by assumption)) | (simp [go_sem, *]; done))
          have c174 : w12.cell? ⟨w7.heap.size, 1, none⟩ = some (.int .i64 jh) := (hx12.cell 1 (by first | (simp; done) | (simp; omega) | omega)).trans (by first | assumption | (simp [go_sem]; done) | exact ((((Ext.refl _).alloc _).cell _ (by omega)).trans (by assumption)) | (simp [go_sem, *]; done))
          clear c145 c146 c147 c148 c149 c150 c151 c152 c153 c154 d155 d156 d157 d158 d159 d160 d161 d162 d163 d164
          have d175 : ∀ ob, (w12.alloc ob).cell? ⟨w.heap.size, 0, none⟩ = some (.int .i64 a0) := fun ob => (((Ext.refl w12).alloc ob).cell 0 (by omega)).trans (by assumption)
          have d176 : ∀ ob, (w12.alloc ob).cell? ⟨w.heap.size, 1, none⟩ = some (.int .i64 a0') := fun ob => (((Ext.refl w12).alloc ob).cell 1 (by omega)).trans (by assumption)
          have d177 : ∀ ob, (w12.alloc ob).cell? ⟨w.heap.size + 1, 0, none⟩ = some (.int .i64 a1) := fun ob => (((Ext.refl w12).alloc ob).cell 0 (by omega)).trans (by assumption)
          have d178 : ∀ ob, (w12.alloc ob).cell? ⟨w.heap.size + 1, 1, none⟩ = some (.int .i64 a1') := fun ob => (((Ext.refl w12).alloc ob).cell 1 (by omega)).trans (by assumption)
          have d179 : ∀ ob, (w12.alloc ob).cell? ⟨w.heap.size + 1 + 1, 0, none⟩ = some (.int .i64 a2) := fun ob => (((Ext.refl w12).alloc ob).cell 0 (by omega)).trans (by assumption)
          have d180 : ∀ ob, (w12.alloc ob).cell? ⟨w.heap.size + 1 + 1, 1, none⟩ = some (.int .i64 a2') := fun ob => (((Ext.refl w12).alloc ob).cell 1 (by omega)).trans (by assumption)
          have d181 : ∀ ob, (w12.alloc ob).cell? ⟨w5.heap.size, 0, none⟩ = some (.int .i64 (mtL a0 a0' a1 a1')) := fun ob => (((Ext.refl w12).alloc ob).cell 0 (by omega)).trans (by assumption)
          have d182 : ∀ ob, (w12.alloc ob).cell? ⟨w5.heap.size, 1, none⟩ = some (.int .i64 (mtH a0 a0' a1 a1')) := fun ob => (((Ext.refl w12).alloc ob).cell 1 (by omega)).trans (by assumption)
          have d183 : ∀ ob, (w12.alloc ob).cell? ⟨w7.heap.size, 0, none⟩ = some (.int .i64 jl) := fun ob => (((Ext.refl w12).alloc ob).cell 0 (by omega)).trans (by assumption)
          have d184 : ∀ ob, (w12.alloc ob).cell? ⟨w7.heap.size, 1, none⟩ = some (.int .i64 jh) := fun ob => (((Ext.refl w12).alloc ob).cell 1 (by omega)).trans (by assumption)
          go_wp2_with fail
          refine (spanmeet_any a0 a0' jl jh _).mono ?_
          rintro e w13 ⟨rfl, hx13⟩
          rw [Q4.out.1, Q4.out.2.1, Q4.out.2.2]
          have s13 := hx13.size
          try simp at s13
          have c185 : w13.cell? ⟨w.heap.size, 0, none⟩ = some (.int .i64 a0) := (hx13.cell 0 (by first | (simp; done) | (simp; omega) | omega)).trans (by first | assumption | (simp [go_sem]; done) | exact ((((Ext.refl _).alloc _).cell _ (by omega)).trans (by assumption)) | (simp [go_sem, *]; done))
          have c186 : w13.cell? ⟨w.heap.size, 1, none⟩ = some (.int .i64 a0') := (hx13.cell 1 (by first | (simp; done) | (simp; omega) | omega)).trans (by first | assumption | (simp [go_sem]; done) | exact ((((Ext.refl _).alloc _).cell _ (by omega)).trans (by assumption)) | (simp [go_sem, *]; done))
          have c187 : w13.cell? ⟨w.heap.size + 1, 0, none⟩ = some (.int .i64 a1) := (hx13.cell 0 (by first | (simp; done) | (simp; omega) | omega)).trans (by first | assumption | (simp [go_sem]; done) | exact ((((Ext.refl _).alloc _).cell _ (by omega)).trans (by assumption)) | (simp [go_sem, *]; done))
          have c188 : w13.cell? ⟨w.heap.size + 1, 1, none⟩ = some (.int .i64 a1') := (hx13.cell 1 (by first | (simp; done) | (simp; omega) | omega)).trans (by first | assumption | (simp [go_sem]; done) | exact ((((Ext.refl _).alloc _).cell _ (by omega)).trans (by assumption)) | (simp [go_sem, *]; done))
          have c189 : w13.cell? ⟨w.heap.size + 1 + 1, 0, none⟩ = some (.int .i64 a2) := (hx13.cell 0 (by first | (simp; done) | (simp; omega) | omega)).trans (by first | assumption | (simp [go_sem]; done) | exact ((((Ext.refl _).alloc _).cell _ (by omega)).trans (by assumption)) | (simp [go_sem, *]; done))
          have c190 : w13.cell? ⟨w.heap.size + 1 + 1, 1, none⟩ = some (.int .i64 a2') := (hx13.cell 1 (by first | (simp; done) | (simp; omega) | omega)).trans (by first | assumption | (simp [go_sem]; done) | exact ((((Ext.refl _).alloc _).cell _ (by omega)).trans (by assumption)) | (simp [go_sem, *]; done))
          have c191 : w13.cell? ⟨w5.heap.size, 0, none⟩ = some (.int .i64 (mtL a0 a0' a1 a1')) := (hx13.cell 0 (by first | (simp; done) | (simp; omega) | omega)).trans (by first | assumption | (simp [go_sem]; done) | exact ((((Ext.refl _).alloc _).cell _ (by omega)).trans (by assumption)) | (simp [go_sem, *]; done))
          have c192 : w13.cell? ⟨w5.heap.size, 1, none⟩ = some (.int .i64 (mtH a0 a0' a1 a1')) := (hx13.cell 1 (by first | (simp; done) | (simp; omega) | omega)).trans (by first | assumption | (simp [go_sem]; done) | exact ((((Ext.refl _).alloc _).cell _ (by omega)).trans (by assumption)) | (simp [go_sem, *]; done))
          have c193 : w13.cell? ⟨w7.heap.size, 0, none⟩ = some (.int .i64 jl) := (hx13.cell 0 (by first | (simp; done) | (simp; omega) | omega)).trans (by first | assumption | (simp [go_sem]; done) | exact ((((Ext.refl _).alloc _).cell _ (by omega)).trans (by assumption)) | (simp [go_sem, *]; done))
          have c194 : w13.cell? ⟨w7.heap.size, 1, none⟩ = some (.int .i64 jh) := (hx13.cell 1 (by first | (simp; done) | (simp; omega) | omega)).trans (by first | assumption | (simp [go_sem]; done) | exact ((((Ext.refl _).alloc _).cell _ (by omega)).trans (by assumption)) | (simp [go_sem, *]; done))
          clear c165 c166 c167 c168 c169 c170 c171 c172 c173 c174 d175 d176 d177 d178 d179 d180 d181 d182 d183 d184
          have d195 : ∀ ob, (w13.alloc ob).cell? ⟨w.heap.size, 0, none⟩ = some (.int .i64 a0) := fun ob => (((Ext.refl w13).alloc ob).cell 0 (by omega)).trans (by assumption)
          have d196 : ∀ ob, (w13.alloc ob).cell? ⟨w.heap.size, 1, none⟩ = some (.int .i64 a0') := fun ob => (((Ext.refl w13).alloc ob).cell 1 (by omega)).trans (by assumption)
          have d197 : ∀ ob, (w13.alloc ob).cell? ⟨w.heap.size + 1, 0, none⟩ = some (.int .i64 a1) := fun ob => (((Ext.refl w13).alloc ob).cell 0 (by omega)).trans (by assumption)
          have d198 : ∀ ob, (w13.alloc ob).cell? ⟨w.heap.size + 1, 1, none⟩ = some (.int .i64 a1') := fun ob => (((Ext.refl w13).alloc ob).cell 1 (by omega)).trans (by assumption)
          have d199 : ∀ ob, (w13.alloc ob).cell? ⟨w.heap.size + 1 + 1, 0, none⟩ = some (.int .i64 a2) := fun ob => (((Ext.refl w13).alloc ob).cell 0 (by omega)).trans (by assumption)
          have d200 : ∀ ob, (w13.alloc ob).cell? ⟨w.heap.size + 1 + 1, 1, none⟩ = some (.int .i64 a2') := fun ob => (((Ext.refl w13).alloc ob).cell 1 (by omega)).trans (by assumption)
          have d201 : ∀ ob, (w13.alloc ob).cell? ⟨w5.heap.size, 0, none⟩ = some (.int .i64 (mtL a0 a0' a1 a1')) := fun ob => (((Ext.refl w13).alloc ob).cell 0 (by omega)).trans (by assumption)
          have d202 : ∀ ob, (w13.alloc ob).cell? ⟨w5.heap.size, 1, none⟩ = some (.int .i64 (mtH a0 a0' a1 a1')) := fun ob => (((Ext.refl w13).alloc ob).cell 1 (by omega)).trans (by assumption)
          have d203 : ∀ ob, (w13.alloc ob).cell? ⟨w7.heap.size, 0, none⟩ = some (.int .i64 jl) := fun ob => (((Ext.refl w13).alloc ob).cell 0 (by omega)).trans (by assumption)
          have d204 : ∀ ob, (w13.alloc ob).cell? ⟨w7.heap.size, 1, none⟩ = some (.int .i64 jh) := fun ob => (((Ext.refl w13).alloc ob).cell 1 (by omega)).trans (by assumption)
          go_wp2
          go_ret
          exact ⟨by first | rfl | (simp; done), by repeat (first | exact Ext.refl _ | assumption | refine Ext.drewN ?_ _ | refine Ext.drew ?_ | refine Ext.alloc ?_ _ | refine Ext.setCell ?_ (by dsimp only; omega) _ | refine Ext.trans ?_ (by assumption))⟩
        · have Y1 := Lib.hid y1
          clear y1
          have Y2 := Lib.hid y2
          clear y2
          go_wp2_with fail
          refine (lwithin_any a0 a0' a2 a2' _).mono ?_
          rintro e w10 ⟨rfl, hx10⟩
          rw [Y1.out]
          have s10 := hx10.size
          try simp at s10
          have c125 : w10.cell? ⟨w.heap.size, 0, none⟩ = some (.int .i64 a0) := (hx10.cell 0 (by first | (simp; done) | (simp; omega) | omega)).trans (by first | assumption | (simp [go_sem]; done) | exact ((((Ext.refl _).alloc _).cell _ (by omega)).trans (by assumption)) | (simp [go_sem, *]; done))
          have c126 : w10.cell? ⟨w.heap.size, 1, none⟩ = some (.int .i64 a0') := (hx10.cell 1 (by first | (simp; done) | (simp; omega) | omega)).trans (by first | assumption | (simp [go_sem]; done) | exact ((((Ext.refl _).alloc _).cell _ (by omega)).trans (by assumption)) | (simp [go_sem, *]; done))
          have c127 : w10.cell? ⟨w.heap.size + 1, 0, none⟩ = some (.int .i64 a1) := (hx10.cell 0 (by first | (simp; done) | (simp; omega) | omega)).trans (by first | assumption | (simp [go_sem]; done) | exact ((((Ext.refl _).alloc _).cell _ (by omega)).trans (by assumption)) | (simp [go_sem, *]; done))
          have c128 : w10.cell? ⟨w.heap.size + 1, 1, none⟩ = some (.int .i64 a1') := (hx10.cell 1 (by first | (simp; done) | (simp; omega) | omega)).trans (by first | assumption | (simp [go_sem]; done) | exact ((((Ext.refl _).alloc _).cell _ (by omega)).trans (by assumption)) | (simp [go_sem, *]; done))
          have c129 : w10.cell? ⟨w.heap.size + 1 + 1, 0, none⟩ = some (.int .i64 a2) := (hx10.cell 0 (by first | (simp; done) | (simp; omega) | omega)).trans (by first | assumption | (simp [go_sem]; done) | exact ((((Ext.refl _).alloc _).cell _ (by omega)).trans (by assumption)) | (simp [go_sem, *]; done))
          have c130 : w10.cell? ⟨w.heap.size + 1 + 1, 1, none⟩ = some (.int .i64 a2') := (hx10.cell 1 (by first | (simp; done) | (simp; omega) | omega)).trans (by first | assumption | (simp [go_sem]; done) | exact ((((Ext.refl _).alloc _).cell _ (by omega)).trans (by assumption)) | (simp [go_sem, *]; done))
          have c131 : w10.cell? ⟨w5.heap.size, 0, none⟩ = some (.int .i64 (mtL a0 a0' a1 a1')) := (hx10.cell 0 (by first | (simp; done) | (simp; omega) | omega)).trans (by first | assumption | (simp [go_sem]; done) | exact ((((Ext.refl _).alloc _).cell _ (by omega)).trans (by assumption)) | (simp [go_sem, *]; done))
          have c132 : w10.cell? ⟨w5.heap.size, 1, none⟩ = some (.int .i64 (mtH a0 a0' a1 a1')) := (hx10.cell 1 (by first | (simp; done) | (simp; omega) | omega)).trans (by first | assumption | (simp [go_sem]; done) | exact ((((Ext.refl _).alloc _).cell _ (by omega)).trans (by assumption)) | (simp [go_sem, *]; done))
          have c133 : w10.cell? ⟨w7.heap.size, 0, none⟩ = some (.int .i64 jl) := (hx10.cell 0 (by first | (simp; done) | (simp; omega) | omega)).trans (by first | assumption | (simp [go_sem]; done) | exact ((((Ext.refl _).alloc _).cell _ (by omega)).trans (by assumption)) | (simp [go_sem, *]; done))
          have c134 : w10.cell? ⟨w7.heap.size, 1, none⟩ = some (.int .i64 jh) := (hx10.cell 1 (by first | (simp; done) | (simp; omega) | omega)).trans (by first | assumption | (simp [go_sem]; done) | exact ((((Ext.refl _).alloc _).cell _ (by omega)).trans (by assumption)) | (simp [go_sem, *]; done))
          clear c105 c106 c107 c108 c109 c110 c111 c112 c113 c114 d115 d116 d117 d118 d119 d120 d121 d122 d123 d124
          have d135 : ∀ ob, (w10.alloc ob).cell? ⟨w.heap.size, 0, none⟩ = some (.int .i64 a0) := fun ob => (((Ext.refl w10).alloc ob).cell 0 (by omega)).trans (by assumption)
          have d136 : ∀ ob, (w10.alloc ob).cell? ⟨w.heap.size, 1, none⟩ = some (.int .i64 a0') := fun ob => (((Ext.refl w10).alloc ob).cell 1 (by omega)).trans (by assumption)
          have d137 : ∀ ob, (w10.alloc ob).cell? ⟨w.heap.size + 1, 0, none⟩ = some (.int .i64 a1) := fun ob => (((Ext.refl w10).alloc ob).cell 0 (by omega)).trans (by assumption)
          have d138 : ∀ ob, (w10.alloc ob).cell? ⟨w.heap.size + 1, 1, none⟩ = some (.int .i64 a1') := fun ob => (((Ext.refl w10).alloc ob).cell 1 (by omega)).trans (by assumption)
          have d139 : ∀ ob, (w10.alloc ob).cell? ⟨w.heap.size + 1 + 1, 0, none⟩ = some (.int .i64 a2) := fun ob => (((Ext.refl w10).alloc ob).cell 0 (by omega)).trans (by assumption)
          have d140 : ∀ ob, (w10.alloc ob).cell? ⟨w.heap.size + 1 + 1, 1, none⟩ = some (.int .i64 a2') := fun ob => (((Ext.refl w10).alloc ob).cell 1 (by omega)).trans (by assumption)
          have d141 : ∀ ob, (w10.alloc ob).cell? ⟨w5.heap.size, 0, none⟩ = some (.int .i64 (mtL a0 a0' a1 a1')) := fun ob => (((Ext.refl w10).alloc ob).cell 0 (by omega)).trans (by assumption)
          have d142 : ∀ ob, (w10.alloc ob).cell? ⟨w5.heap.size, 1, none⟩ = some (.int .i64 (mtH a0 a0' a1 a1')) := fun ob => (((Ext.refl w10).alloc ob).cell 1 (by omega)).trans (by assumption)
          have d143 : ∀ ob, (w10.alloc ob).cell? ⟨w7.heap.size, 0, none⟩ = some (.int .i64 jl) := fun ob => (((Ext.refl w10).alloc ob).cell 0 (by omega)).trans (by assumption)
          have d144 : ∀ ob, (w10.alloc ob).cell? ⟨w7.heap.size, 1, none⟩ = some (.int .i64 jh) := fun ob => (((Ext.refl w10).alloc ob).cell 1 (by omega)).trans (by assumption)
          go_wp2_with fail
          refine (lwithin_any a1 a1' a2 a2' _).mono ?_
          rintro e w11 ⟨rfl, hx11⟩
          rw [Y2.out]
          have s11 := hx11.size
          try simp at s11
          have c145 : w11.cell? ⟨w.heap.size, 0, none⟩ = some (.int .i64 a0) := (hx11.cell 0 (by first | (simp; done) | (simp; omega) | omega)).trans (by first | assumption | (simp [go_sem]; done) | exact ((((Ext.refl _).alloc _).cell _ (by omega)).trans (by assumption)) | (simp [go_sem, *]; done))
          have c146 : w11.cell? ⟨w.heap.size, 1, none⟩ = some (.int .i64 a0') := (hx11.cell 1 (by first | (simp; done) | (simp; omega) | omega)).trans (by first | assumption | (simp [go_sem]; done) | exact ((((Ext.refl _).alloc _).cell _ (by omega)).trans (by assumption)) | (simp [go_sem, *]; done))
          have c147 : w11.cell? ⟨w.heap.size + 1, 0, none⟩ = some (.int .i64 a1) := (hx11.cell 0 (by first | (simp; done) | (simp; omega) | omega)).trans (by first | assumption | (simp [go_sem]; done) | exact ((((Ext.refl _).alloc _).cell _ (by omega)).trans (by assumption)) | (simp [go_sem, *]; done))
          have c148 : w11.cell? ⟨w.heap.size + 1, 1, none⟩ = some (.int .i64 a1') := (hx11.cell 1 (by first | (simp; done) | (simp; omega) | omega)).trans (by first | assumption | (simp [go_sem]; done) | exact ((((Ext.refl _).alloc _).cell _ (by omega)).trans (by assumption)) | (simp [go_sem, *]; done))
          have c149 : w11.cell? ⟨w.heap.size + 1 + 1, 0, none⟩ = some (.int .i64 a2) := (hx11.cell 0 (by first | (simp; done) | (simp; omega) | omega)).trans (by first | assumption | (simp [go_sem]; done) | exact ((((Ext.refl _).alloc _).cell _ (by omega)).trans (by assumption)) | (simp [go_sem, *]; done))
          have c150 : w11.cell? ⟨w.heap.size + 1 + 1, 1, none⟩ = some (.int .i64 a2') := (hx11.cell 1 (by first | (simp; done) | (simp; omega) | omega)).trans (by first | assumption | (simp [go_sem]; done) | exact ((((Ext.refl _).alloc _).cell _ (by omega)).trans (by assumption)) | (simp [go_sem, *]; done))
          have c151 : w11.cell? ⟨w5.heap.size, 0, none⟩ = some (.int .i64 (mtL a0 a0' a1 a1')) := (hx11.cell 0 (by first | (simp; done) | (simp; omega) | omega)).trans (by first | assumption | (simp [go_sem]; done) | exact ((((Ext.refl _).alloc _).cell _ (by omega)).trans (by assumption)) | (simp [go_sem, *]; done))
          have c152 : w11.cell? ⟨w5.heap.size, 1, none⟩ = some (.int .i64 (mtH a0 a0' a1 a1')) := (hx11.cell 1 (by first | (simp; done) | (simp; omega) | omega)).trans (by first | assumption | (simp [go_sem]; done) | exact ((((Ext.refl _).alloc _).cell _ (by omega)).trans (by assumption)) | (simp [go_sem, *]; done))
          have c153 : w11.cell? ⟨w7.heap.size, 0, none⟩ = some (.int .i64 jl) := (hx11.cell 0 (by first | (simp; done) | (simp; omega) | omega)).trans (by first | assumption | (simp [go_sem]; done) | exact ((((Ext.refl _).alloc _).cell _ (by omega)).trans (by assumption)) | (simp [go_sem, *]; done))
          have c154 : w11.cell? ⟨w7.heap.size, 1, none⟩ = some (.int .i64 jh) := (hx11.cell 1 (by first | (simp; done) | (simp; omega) | omega)).trans (by first | assumption | (simp [go_sem]; done) | exact ((((Ext.refl _).alloc _).cell _ (by omega)).trans (by assumption)) | (simp [go_sem, *]; done))
          clear c125 c126 c127 c128 c129 c130 c131 c132 c133 c134 d135 d136 d137 d138 d139 d140 d141 d142 d143 d144
          have d155 : ∀ ob, (w11.alloc ob).cell? ⟨w.heap.size, 0, none⟩ = some (.int .i64 a0) := fun ob => (((Ext.refl w11).alloc ob).cell 0 (by omega)).trans (by assumption)
          have d156 : ∀ ob, (w11.alloc ob).cell? ⟨w.heap.size, 1, none⟩ = some (.int .i64 a0') := fun ob => (((Ext.refl w11).alloc ob).cell 1 (by omega)).trans (by assumption)
          have d157 : ∀ ob, (w11.alloc ob).cell? ⟨w.heap.size + 1, 0, none⟩ = some (.int .i64 a1) := fun ob => (((Ext.refl w11).alloc ob).cell 0 (by omega)).trans (by assumption)
          have d158 : ∀ ob, (w11.alloc ob).cell? ⟨w.heap.size + 1, 1, none⟩ = some (.int .i64 a1') := fun ob => (((Ext.refl w11).alloc ob).cell 1 (by omega)).trans (by assumption)
          have d159 : ∀ ob, (w11.alloc ob).cell? ⟨w.heap.size + 1 + 1, 0, none⟩ = some (.int .i64 a2) := fun ob => (((Ext.refl w11).alloc ob).cell 0 (by omega)).trans (by assumption)
          have d160 : ∀ ob, (w11.alloc ob).cell? ⟨w.heap.size + 1 + 1, 1, none⟩ = some (.int .i64 a2') := fun ob => (((Ext.refl w11).alloc ob).cell 1 (by omega)).trans (by assumption)
          have d161 : ∀ ob, (w11.alloc ob).cell? ⟨w5.heap.size, 0, none⟩ = some (.int .i64 (mtL a0 a0' a1 a1')) := fun ob => (((Ext.refl w11).alloc ob).cell 0 (by omega)).trans (by assumption)
          have d162 : ∀ ob, (w11.alloc ob).cell? ⟨w5.heap.size, 1, none⟩ = some (.int .i64 (mtH a0 a0' a1 a1')) := fun ob => (((Ext.refl w11).alloc ob).cell 1 (by omega)).trans (by assumption)
          have d163 : ∀ ob, (w11.alloc ob).cell? ⟨w7.heap.size, 0, none⟩ = some (.int .i64 jl) := fun ob => (((Ext.refl w11).alloc ob).cell 0 (by omega)).trans (by assumption)
          have d164 : ∀ ob, (w11.alloc ob).cell? ⟨w7.heap.size, 1, none⟩ = some (.int .i64 jh) := fun ob => (((Ext.refl w11).alloc ob).cell 1 (by omega)).trans (by assumption)
          go_wp2_with fail
          refine (spanmeet_any a0 a0' jl jh _).mono ?_
          rintro e w12 ⟨rfl, hx12⟩
          rw [Q4.out.1, Q4.out.2.1, Q4.out.2.2]
          have s12 := hx12.size
          try simp at s12
          have c165 : w12.cell? ⟨w.heap.size, 0, none⟩ = some (.int .i64 a0) := (hx12.cell 0 (by first | (simp; done) | (simp; omega) | omega)).trans (by first | assumption | (simp [go_sem]; done) | exact ((((Ext.refl _).alloc _).cell _ (by omega)).trans (by assumption)) | (simp [go_sem, *]; done))
          have c166 : w12.cell? ⟨w.heap.size, 1, none⟩ = some (.int .i64 a0') := (hx12.cell 1 (by first | (simp; done) | (simp; omega) | omega)).trans (by first | assumption | (simp [go_sem]; done) | exact ((((Ext.refl _).alloc _).cell _ (by omega)).trans (by assumption)) | (simp [go_sem, *]; done))
          have c167 : w12.cell? ⟨w.heap.size + 1, 0, none⟩ = some (.int .i64 a1) := (hx12.cell 0 (by first | (simp; done) | (simp; omega) | omega)).trans (by first | assumption | (simp [go_sem]; done) | exact ((((Ext.refl _).alloc _).cell _ (by omega)).trans (by assumption)) | (simp [go_sem, *]; done))
          have c168 : w12.cell? ⟨w.heap.size + 1, 1, none⟩ = some (.int .i64 a1') := (hx12.cell 1 (by first | (simp; done) | (simp; omega) | omega)).trans (by first | assumption | (simp [go_sem]; done) | exact ((((Ext.refl _).alloc _).cell _ (by omega)).trans (by assumption)) | (simp [go_sem, *]; done))
          have c169 : w12.cell? ⟨w.heap.size + 1 + 1, 0, none⟩ = some (.int .i64 a2) := (hx12.cell 0 (by first | (simp; done) | (simp; omega) | omega)).trans (by first | assumption | (simp [go_sem]; done) | exact ((((Ext.refl _).alloc _).cell _ (by omega)).trans (by assumption)) | (simp [go_sem, *]; done))
          have c170 : w12.cell? ⟨w.heap.size + 1 + 1, 1, none⟩ = some (.int .i64 a2') := (hx12.cell 1 (by first | (simp; done) | (simp; omega) | omega)).trans (by first | assumption | (simp [go_sem]; done) | exact ((((Ext.refl _).alloc _).cell _ (by omega)).trans (by assumption)) | (simp [go_sem, *]; done))
          have c171 : w12.cell? ⟨w5.heap.size, 0, none⟩ = some (.int .i64 (mtL a0 a0' a1 a1')) := (hx12.cell 0 (by first | (simp; done) | (simp; omega) | omega)).trans (by first | assumption | (simp [go_sem]; done) | exact ((((Ext.refl _).alloc _).cell _ (by omega)).trans (by assumption)) | (simp [go_sem, *]; done))
          have c172 : w12.cell? ⟨w5.heap.size, 1, none⟩ = some (.int .i64 (mtH a0 a0' a1 a1')) := (hx12.cell 1 (by first | (simp; done) | (simp; omega) | omega)).trans (by first | assumption | (simp [go_sem]; done) | exact ((((Ext.refl _).alloc _).cell _ (by omega)).trans (by assumption)) | (simp [go_sem, *]; done))
          have c173 : w12.cell? ⟨w7.heap.size, 0, none⟩ = some (.int .i64 jl) := (hx12.cell 0 (by first | (simp; done) | (simp; omega) | omega)).trans (by first | assumption | (simp [go_sem]; done) | exact ((((Ext.refl _).alloc _).cell _ (by omega)).trans (by assumption)) | (simp [go_sem, *]; done))
          have c174 : w12.cell? ⟨w7.heap.size, 1, none⟩ = some (.int .i64 jh) := (hx12.cell 1 (by first | (simp; done) | (simp; omega) | omega)).trans (by first | assumption | (simp [go_sem]; done) | exact ((((Ext.refl _).alloc _).cell _ (by omega)).trans (by assumption)) | (simp [go_sem, *]; done))
          clear c145 c146 c147 c148 c149 c150 c151 c152 c153 c154 d155 d156 d157 d158 d159 d160 d161 d162 d163 d164
          have d175 : ∀ ob, (w12.alloc ob).cell? ⟨w.heap.size, 0, none⟩ = some (.int .i64 a0) := fun ob => (((Ext.refl w12).alloc ob).cell 0 (by omega)).trans (by assumption)
          have d176 : ∀ ob, (w12.alloc ob).cell? ⟨w.heap.size, 1, none⟩ = some (.int .i64 a0') := fun ob => (((Ext.refl w12).alloc ob).cell 1 (by omega)).trans (by assumption)
          have d177 : ∀ ob, (w12.alloc ob).cell? ⟨w.heap.size + 1, 0, none⟩ = some (.int .i64 a1) := fun ob => (((Ext.refl w12).alloc ob).cell 0 (by omega)).trans (by assumption)
          have d178 : ∀ ob, (w12.alloc ob).cell? ⟨w.heap.size + 1, 1, none⟩ = some (.int .i64 a1') := fun ob => (((Ext.refl w12).alloc ob).cell 1 (by omega)).trans (by assumption)
          have d179 : ∀ ob, (w12.alloc ob).cell? ⟨w.heap.size + 1 + 1, 0, none⟩ = some (.int .i64 a2) := fun ob => (((Ext.refl w12).alloc ob).cell 0 (by omega)).trans (by assumption)
          have d180 : ∀ ob, (w12.alloc ob).cell? ⟨w.heap.size + 1 + 1, 1, none⟩ = some (.int .i64 a2') := fun ob => (((Ext.refl w12).alloc ob).cell 1 (by omega)).trans (by assumption)
          have d181 : ∀ ob, (w12.alloc ob).cell? ⟨w5.heap.size, 0, none⟩ = some (.int .i64 (mtL a0 a0' a1 a1')) := fun ob => (((Ext.refl w12).alloc ob).cell 0 (by omega)).trans (by assumption)
          have d182 : ∀ ob, (w12.alloc ob).cell? ⟨w5.heap.size, 1, none⟩ = some (.int .i64 (mtH a0 a0' a1 a1')) := fun ob => (((Ext.refl w12).alloc ob).cell 1 (by omega)).trans (by assumption)
          have d183 : ∀ ob, (w12.alloc ob).cell? ⟨w7.heap.size, 0, none⟩ = some (.int .i64 jl) := fun ob => (((Ext.refl w12).alloc ob).cell 0 (by omega)).trans (by assumption)
          have d184 : ∀ ob, (w12.alloc ob).cell? ⟨w7.heap.size, 1, none⟩ = some (.int .i64 jh) := fun ob => (((Ext.refl w12).alloc ob).cell 1 (by omega)).trans (by assumption)
          go_wp2
          go_ret
          exact ⟨by first | rfl | (simp; done), by repeat (first | exact Ext.refl _ | assumption | refine Ext.drewN ?_ _ | refine Ext.drew ?_ | refine Ext.alloc ?_ _ | refine Ext.setCell ?_ (by dsimp only; omega) _ | refine Ext.trans ?_ (by assumption))⟩
      · have Y1 := Lib.hid y1
        clear y1
        go_wp2_with fail
        refine (lwithin_any a0 a0' a2 a2' _).mono ?_
        rintro e w10 ⟨rfl, hx10⟩
        rw [Y1.out]
        have s10 := hx10.size
        try simp at s10
        have c125 : w10.cell? ⟨w.heap.size, 0, none⟩ = some (.int .i64 a0) := (hx10.cell 0 (by first | (simp; done) | (simp; omega) | omega)).trans (by first | assumption | (simp [go_sem]; done) | exact ((((Ext.refl _).alloc _).cell _ (by omega)).trans (by assumption)) | (simp [go_sem, *]; done))
        have c126 : w10.cell? ⟨w.heap.size, 1, none⟩ = some (.int .i64 a0') := (hx10.cell 1 (by first | (simp; done) | (simp; omega) | omega)).trans (by first | assumption | (simp [go_sem]; done) | exact ((((Ext.refl _).alloc _).cell _ (by omega)).trans (by assumption)) | (simp [go_sem, *]; done))
        have c127 : w10.cell? ⟨w.heap.size + 1, 0, none⟩ = some (.int .i64 a1) := (hx10.cell 0 (by first | (simp; done) | (simp; omega) | omega)).trans (by first | assumption | (simp [go_sem]; done) | exact ((((Ext.refl _).alloc _).cell _ (by omega)).trans (by assumption)) | (simp [go_sem, *]; done))
        have c128 : w10.cell? ⟨w.heap.size + 1, 1, none⟩ = some (.int .i64 a1') := (hx10.cell 1 (by first | (simp; done) | (simp; omega) | omega)).trans (by first | assumption | (simp [go_sem]; done) | exact ((((Ext.refl _).alloc _).cell _ (by omega)).trans (by assumption)) | (simp [go_sem, *]; done))
        have c129 : w10.cell? ⟨w.heap.size + 1 + 1, 0, none⟩ = some (.int .i64 a2) := (hx10.cell 0 (by first | (simp; done) | (simp; omega) | omega)).trans (by first | assumption | (simp [go_sem]; done) | exact ((((Ext.refl _).alloc _).cell _ (by omega)).trans (by assumption)) | (simp [go_sem, *]; done))
        have c130 : w10.cell? ⟨w.heap.size + 1 + 1, 1, none⟩ = some (.int .i64 a2') := (hx10.cell 1 (by first | (simp; done) | (simp; omega) | omega)).trans (by first | assumption | (simp [go_sem]; done) | exact ((((Ext.refl _).alloc _).cell _ (by omega)).trans (by assumption)) | (simp [go_sem, *]; done))
        have c131 : w10.cell? ⟨w5.heap.size, 0, none⟩ = some (.int .i64 (mtL a0 a0' a1 a1')) := (hx10.cell 0 (by first | (simp; done) | (simp; omega) | omega)).trans (by first | assumption | (simp [go_sem]; done) | exact ((((Ext.refl _).alloc _).cell _ (by omega)).trans (by assumption)) | (simp [go_sem, *]; done))
        have c132 : w10.cell? ⟨w5.heap.size, 1, none⟩ = some (.int .i64 (mtH a0 a0' a1 a1')) := (hx10.cell 1 (by first | (simp; done) | (simp; omega) | omega)).trans (by first | assumption | (simp [go_sem]; done) | exact ((((Ext.refl _).alloc _).cell _ (by omega)).trans (by assumption)) | (simp [go_sem, *]; done))
        have c133 : w10.cell? ⟨w7.heap.size, 0, none⟩ = some (.int .i64 jl) := (hx10.cell 0 (by first | (simp; done) | (simp; omega) | omega)).trans (by first | assumption | (simp [go_sem]; done) | exact ((((Ext.refl _).alloc _).cell _ (by omega)).trans (by assumption)) | (simp [go_sem, *]; done))
        have c134 : w10.cell? ⟨w7.heap.size, 1, none⟩ = some (.int .i64 jh) := (hx10.cell 1 (by first | (simp; done) | (simp; omega) | omega)).trans (by first | assumption | (simp [go_sem]; done) | exact ((((Ext.refl _).alloc _).cell _ (by omega)).trans (by assumption)) | (simp [go_sem, *]; done))
        clear c105 c106 c107 c108 c109 c110 c111 c112 c113 c114 d115 d116 d117 d118 d119 d120 d121 d122 d123 d124
        have d135 : ∀ ob, (w10.alloc ob).cell? ⟨w.heap.size, 0, none⟩ = some (.int .i64 a0) := fun ob => (((Ext.refl w10).alloc ob).cell 0 (by omega)).trans (by assumption)
        have d136 : ∀ ob, (w10.alloc ob).cell? ⟨w.heap.size, 1, none⟩ = some (.int .i64 a0') := fun ob => (((Ext.refl w10).alloc ob).cell 1 (by omega)).trans (by assumption)
        have d137 : ∀ ob, (w10.alloc ob).cell? ⟨w.heap.size + 1, 0, none⟩ = some (.int .i64 a1) := fun ob => (((Ext.refl w10).alloc ob).cell 0 (by omega)).trans (by assumption)
        have d138 : ∀ ob, (w10.alloc ob).cell? ⟨w.heap.size + 1, 1, none⟩ = some (.int .i64 a1') := fun ob => (((Ext.refl w10).alloc ob).cell 1 (by omega)).trans (by assumption)
        have d139 : ∀ ob, (w10.alloc ob).cell? ⟨w.heap.size + 1 + 1, 0, none⟩ = some (.int .i64 a2) := fun ob => (((Ext.refl w10).alloc ob).cell 0 (by omega)).trans (by assumption)
        have d140 : ∀ ob, (w10.alloc ob).cell? ⟨w.heap.size + 1 + 1, 1, none⟩ = some (.int .i64 a2') := fun ob => (((Ext.refl w10).alloc ob).cell 1 (by omega)).trans (by assumption)
        have d141 : ∀ ob, (w10.alloc ob).cell? ⟨w5.heap.size, 0, none⟩ = some (.int .i64 (mtL a0 a0' a1 a1')) := fun ob => (((Ext.refl w10).alloc ob).cell 0 (by omega)).trans (by assumption)
        have d142 : ∀ ob, (w10.alloc ob).cell? ⟨w5.heap.size, 1, none⟩ = some (.int .i64 (mtH a0 a0' a1 a1')) := fun ob => (((Ext.refl w10).alloc ob).cell 1 (by omega)).trans (by assumption)
        have d143 : ∀ ob, (w10.alloc ob).cell? ⟨w7.heap.size, 0, none⟩ = some (.int .i64 jl) := fun ob => (((Ext.refl w10).alloc ob).cell 0 (by omega)).trans (by assumption)
        have d144 : ∀ ob, (w10.alloc ob).cell? ⟨w7.heap.size, 1, none⟩ = some (.int .i64 jh) := fun ob => (((Ext.refl w10).alloc ob).cell 1 (by omega)).trans (by assumption)
        go_wp2_with fail
        refine (spanmeet_any a0 a0' jl jh _).mono ?_
        rintro e w11 ⟨rfl, hx11⟩
        rw [Q4.out.1, Q4.out.2.1, Q4.out.2.2]
        have s11 := hx11.size
        try simp at s11
        have c145 : w11.cell? ⟨w.heap.size, 0, none⟩ = some (.int .i64 a0) := (hx11.cell 0 (by first | (simp; done) | (simp; omega) | omega)).trans (by first | assumption | (simp [go_sem]; done) | exact ((((Ext.refl _).alloc _).cell _ (by omega)).trans (by assumption)) | (simp [go_sem, *]; done))
        have c146 : w11.cell? ⟨w.heap.size, 1, none⟩ = some (.int .i64 a0') := (hx11.cell 1 (by first | (simp; done) | (simp; omega) | omega)).trans (by first | assumption | (simp [go_sem]; done) | exact ((((Ext.refl _).alloc _).cell _ (by omega)).trans (by assumption)) | (simp [go_sem, *]; done))
        have c147 : w11.cell? ⟨w.heap.size + 1, 0, none⟩ = some (.int .i64 a1) := (hx11.cell 0 (by first | (simp; done) | (simp; omega) | omega)).trans (by first | assumption | (simp [go_sem]; done) | exact ((((Ext.refl _).alloc _).cell _ (by omega)).trans (by assumption)) | (simp [go_sem, *]; done))
        have c148 : w11.cell? ⟨w.heap.size + 1, 1, none⟩ = some (.int .i64 a1') := (hx11.cell 1 (by first | (simp; done) | (simp; omega) | omega)).trans (by first | assumption | (simp [go_sem]; done) | exact ((((Ext.refl _).alloc _).cell _ (by omega)).trans (by assumption)) | (simp [go_sem, *]; done))
        have c149 : w11.cell? ⟨w.heap.size + 1 + 1, 0, none⟩ = some (.int .i64 a2) := (hx11.cell 0 (by first | (simp; done) | (simp; omega) | omega)).trans (by first | assumption | (simp [go_sem]; done) | exact ((((Ext.refl _).alloc _).cell _ (by omega)).trans (by assumption)) | (simp [go_sem, *]; done))
        have c150 : w11.cell? ⟨w.heap.size + 1 + 1, 1, none⟩ = some (.int .i64 a2') := (hx11.cell 1 (by first | (simp; done) | (simp; omega) | omega)).trans (by first | assumption | (simp [go_sem]; done) | exact ((((Ext.refl _).alloc _).cell _ (by omega)).trans (by assumption)) | (simp [go_sem, *]; done))
        have c151 : w11.cell? ⟨w5.heap.size, 0, none⟩ = some (.int .i64 (mtL a0 a0' a1 a1')) := (hx11.cell 0 (by first | (simp; done) | (simp; omega) | omega)).trans (by first | assumption | (simp [go_sem]; done) | exact ((((Ext.refl _).alloc _).cell _ (by omega)).trans (by assumption)) | (simp [go_sem, *]; done))
        have c152 : w11.cell? ⟨w5.heap.size, 1, none⟩ = some (.int .i64 (mtH a0 a0' a1 a1')) := (hx11.cell 1 (by first | (simp; done) | (simp; omega) | omega)).trans (by first | assumption | (simp [go_sem]; done) | exact ((((Ext.refl _).alloc _).cell _ (by omega)).trans (by assumption)) | (simp [go_sem, *]; done))
        have c153 : w11.cell? ⟨w7.heap.size, 0, none⟩ = some (.int .i64 jl) := (hx11.cell 0 (by first | (simp; done) | (simp; omega) | omega)).trans (by first | assumption | (simp [go_sem]; done) | exact ((((Ext.refl _).alloc _).cell _ (by omega)).trans (by assumption)) | (simp [go_sem, *]; done))
        have c154 : w11.cell? ⟨w7.heap.size, 1, none⟩ = some (.int .i64 jh) := (hx11.cell 1 (by first | (simp; done) | (simp; omega) | omega)).trans (by first | assumption | (simp [go_sem]; done) | exact ((((Ext.refl _).alloc _).cell _ (by omega)).trans (by assumption)) | (simp [go_sem, *]; done))
        clear c125 c126 c127 c128 c129 c130 c131 c132 c133 c134 d135 d136 d137 d138 d139 d140 d141 d142 d143 d144
        have d155 : ∀ ob, (w11.alloc ob).cell? ⟨w.heap.size, 0, none⟩ = some (.int .i64 a0) := fun ob => (((Ext.refl w11).alloc ob).cell 0 (by omega)).trans (by assumption)
        have d156 : ∀ ob, (w11.alloc ob).cell? ⟨w.heap.size, 1, none⟩ = some (.int .i64 a0') := fun ob => (((Ext.refl w11).alloc ob).cell 1 (by omega)).trans (by assumption)
        have d157 : ∀ ob, (w11.alloc ob).cell? ⟨w.heap.size + 1, 0, none⟩ = some (.int .i64 a1) := fun ob => (((Ext.refl w11).alloc ob).cell 0 (by omega)).trans (by assumption)
        have d158 : ∀ ob, (w11.alloc ob).cell? ⟨w.heap.size + 1, 1, none⟩ = some (.int .i64 a1') := fun ob => (((Ext.refl w11).alloc ob).cell 1 (by omega)).trans (by assumption)
        have d159 : ∀ ob, (w11.alloc ob).cell? ⟨w.heap.size + 1 + 1, 0, none⟩ = some (.int .i64 a2) := fun ob => (((Ext.refl w11).alloc ob).cell 0 (by omega)).trans (by assumption)
        have d160 : ∀ ob, (w11.alloc ob).cell? ⟨w.heap.size + 1 + 1, 1, none⟩ = some (.int .i64 a2') := fun ob => (((Ext.refl w11).alloc ob).cell 1 (by omega)).trans (by assumption)
        have d161 : ∀ ob, (w11.alloc ob).cell? ⟨w5.heap.size, 0, none⟩ = some (.int .i64 (mtL a0 a0' a1 a1')) := fun ob => (((Ext.refl w11).alloc ob).cell 0 (by omega)).trans (by assumption)
        have d162 : ∀ ob, (w11.alloc ob).cell? ⟨w5.heap.size, 1, none⟩ = some (.int .i64 (mtH a0 a0' a1 a1')) := fun ob => (((Ext.refl w11).alloc ob).cell 1 (by omega)).trans (by assumption)
        have d163 : ∀ ob, (w11.alloc ob).cell? ⟨w7.heap.size, 0, none⟩ = some (.int .i64 jl) := fun ob => (((Ext.refl w11).alloc ob).cell 0 (by omega)).trans (by assumption)
        have d164 : ∀ ob, (w11.alloc ob).cell? ⟨w7.heap.size, 1, none⟩ = some (.int .i64 jh) := fun ob => (((Ext.refl w11).alloc ob).cell 1 (by omega)).trans (by assumption)
        go_wp2
        go_ret
        exact ⟨by first | rfl | (simp; done), by repeat (first | exact Ext.refl _ | assumption | refine Ext.drewN ?_ _ | refine Ext.drew ?_ | refine Ext.alloc ?_ _ | refine Ext.setCell ?_ (by dsimp only; omega) _ | refine Ext.trans ?_ (by assumption))⟩
end Go.Proofs.Ytmcajdfbkhaplaa.integerLattice
