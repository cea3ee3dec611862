/- The walk of IntegerSets. -/
import Derived.Test.YthbajdpblgclpaaSf
namespace Go.Proofs.Ythbajdpblgclpaa.integerSets
open Go.RowKit
set_option maxRecDepth 100000 in
set_option maxHeartbeats 8000000 in
theorem walk (a0 a0' : Int) (w0 : (Lit.int .i64 a0).wf = true) (w0' : (Lit.int .i64 a0').wf = true) (a1 a1' : Int) (w1 : (Lit.int .i64 a1).wf = true) (w1' : (Lit.int .i64 a1').wf = true) (w : World) :
    Calls Try.prog 7 #[.agg #[.int .i64 a0, .int .i64 a0'], .agg #[.int .i64 a1, .int .i64 a1']] w fun e w' => e = .returned (.bool true) ∧ Ext w w' := by
  have : True := (fun _ _ _ _ => trivial) w0 w0' w1 w1'
  clear this w0 w0' w1 w1'
  go_enter Try.func7, Try.ntmps7
  go_wp2_with fail
  refine (spancmp_any a0 a0' a1 a1' _).mono ?_
  rintro e w1 ⟨rfl, hx1⟩
  have s1 := hx1.size
  try simp at s1
  have c1 : w1.cell? ⟨w.heap.size, 0, none⟩ = some (.int .i64 a0) := (hx1.cell 0 (by first | (simp; done) | (simp; omega) | omega)).trans (by first | assumption | (simp [go_sem]; done) | exact ((((Ext.refl _).alloc _).cell _ (by omega)).trans (by assumption)) | (simp [go_sem, *]; done))
  have c2 : w1.cell? ⟨w.heap.size, 1, none⟩ = some (.int .i64 a0') := (hx1.cell 1 (by first | (simp; done) | (simp; omega) | omega)).trans (by first | assumption | (simp [go_sem]; done) | exact ((((Ext.refl _).alloc _).cell _ (by omega)).trans (by assumption)) | (simp [go_sem, *]; done))
  have c3 : w1.cell? ⟨w.heap.size + 1, 0, none⟩ = some (.int .i64 a1) := (hx1.cell 0 (by first | (simp; done) | (simp; omega) | omega)).trans (by first | assumption | (simp [go_sem]; done) | exact ((((Ext.refl _).alloc _).cell _ (by omega)).trans (by assumption)) | (simp [go_sem, *]; done))
  have c4 : w1.cell? ⟨w.heap.size + 1, 1, none⟩ = some (.int .i64 a1') := (hx1.cell 1 (by first | (simp; done) | (simp; omega) | omega)).trans (by first | assumption | (simp [go_sem]; done) | exact ((((Ext.refl _).alloc _).cell _ (by omega)).trans (by assumption)) | (simp [go_sem, *]; done))
  have d5 : ∀ ob, (w1.alloc ob).cell? ⟨w.heap.size, 0, none⟩ = some (.int .i64 a0) := fun ob => (((Ext.refl w1).alloc ob).cell 0 (by omega)).trans (by assumption)
  have d6 : ∀ ob, (w1.alloc ob).cell? ⟨w.heap.size, 1, none⟩ = some (.int .i64 a0') := fun ob => (((Ext.refl w1).alloc ob).cell 1 (by omega)).trans (by assumption)
  have d7 : ∀ ob, (w1.alloc ob).cell? ⟨w.heap.size + 1, 0, none⟩ = some (.int .i64 a1) := fun ob => (((Ext.refl w1).alloc ob).cell 0 (by omega)).trans (by assumption)
  have d8 : ∀ ob, (w1.alloc ob).cell? ⟨w.heap.size + 1, 1, none⟩ = some (.int .i64 a1') := fun ob => (((Ext.refl w1).alloc ob).cell 1 (by omega)).trans (by assumption)
  go_wp2_with fail
  refine (rspancmp_any a0 a0' a1 a1' _).mono ?_
  rintro e w2 ⟨rfl, hx2⟩
  have s2 := hx2.size
  try simp at s2
  have c9 : w2.cell? ⟨w.heap.size, 0, none⟩ = some (.int .i64 a0) := (hx2.cell 0 (by first | (simp; done) | (simp; omega) | omega)).trans (by first | assumption | (simp [go_sem]; done) | exact ((((Ext.refl _).alloc _).cell _ (by omega)).trans (by assumption)) | (simp [go_sem, *]; done))
  have c10 : w2.cell? ⟨w.heap.size, 1, none⟩ = some (.int .i64 a0') := (hx2.cell 1 (by first | (simp; done) | (simp; omega) | omega)).trans (by first | assumption | (simp [go_sem]; done) | exact ((((Ext.refl _).alloc _).cell _ (by omega)).trans (by assumption)) | (simp [go_sem, *]; done))
  have c11 : w2.cell? ⟨w.heap.size + 1, 0, none⟩ = some (.int .i64 a1) := (hx2.cell 0 (by first | (simp; done) | (simp; omega) | omega)).trans (by first | assumption | (simp [go_sem]; done) | exact ((((Ext.refl _).alloc _).cell _ (by omega)).trans (by assumption)) | (simp [go_sem, *]; done))
  have c12 : w2.cell? ⟨w.heap.size + 1, 1, none⟩ = some (.int .i64 a1') := (hx2.cell 1 (by first | (simp; done) | (simp; omega) | omega)).trans (by first | assumption | (simp [go_sem]; done) | exact ((((Ext.refl _).alloc _).cell _ (by omega)).trans (by assumption)) | (simp [go_sem, *]; done))
  have c13 : w2.cell? ⟨w1.heap.size, 0, none⟩ = some (.int .i64 (twoS (spB a0 a0' && spB a1 a1') (cmpI a0 a1'))) := (hx2.cell 0 (by first | (simp; done) | (simp; omega) | omega)).trans (by first | assumption | (simp [go_sem]; done) | exact ((((Ext.refl _).alloc _).cell _ (by omega)).trans (by assumption)) | (simp [go_sem, *]; done))
  have c14 : w2.cell? ⟨w1.heap.size, 1, none⟩ = some (.int .i64 (twoS (spB a0 a0' && spB a1 a1') (cmpI a0' a1))) := (hx2.cell 1 (by first | (simp; done) | (simp; omega) | omega)).trans (by first | assumption | (simp [go_sem]; done) | exact ((((Ext.refl _).alloc _).cell _ (by omega)).trans (by assumption)) | (simp [go_sem, *]; done))
  have c15 : w2.frozen? ⟨w1.heap.size, 0, none⟩ = false := (hx2.froz 0 (by first | (simp; done) | (simp; omega) | omega)).trans (by first | assumption | (simp [go_sem]; done) | exact ((((Ext.refl _).alloc _).froz _ (by omega)).trans (by assumption)) | (simp [go_sem, *]; done))
  have c16 : w2.frozen? ⟨w1.heap.size, 1, none⟩ = false := (hx2.froz 1 (by first | (simp; done) | (simp; omega) | omega)).trans (by first | assumption | (simp [go_sem]; done) | exact ((((Ext.refl _).alloc _).froz _ (by omega)).trans (by assumption)) | (simp [go_sem, *]; done))
  clear c1 c2 c3 c4 d5 d6 d7 d8
  have d17 : ∀ ob, (w2.alloc ob).cell? ⟨w.heap.size, 0, none⟩ = some (.int .i64 a0) := fun ob => (((Ext.refl w2).alloc ob).cell 0 (by omega)).trans (by assumption)
  have d18 : ∀ ob, (w2.alloc ob).cell? ⟨w.heap.size, 1, none⟩ = some (.int .i64 a0') := fun ob => (((Ext.refl w2).alloc ob).cell 1 (by omega)).trans (by assumption)
  have d19 : ∀ ob, (w2.alloc ob).cell? ⟨w.heap.size + 1, 0, none⟩ = some (.int .i64 a1) := fun ob => (((Ext.refl w2).alloc ob).cell 0 (by omega)).trans (by assumption)
  have d20 : ∀ ob, (w2.alloc ob).cell? ⟨w.heap.size + 1, 1, none⟩ = some (.int .i64 a1') := fun ob => (((Ext.refl w2).alloc ob).cell 1 (by omega)).trans (by assumption)
  have d21 : ∀ ob, (w2.alloc ob).cell? ⟨w1.heap.size, 0, none⟩ = some (.int .i64 (twoS (spB a0 a0' && spB a1 a1') (cmpI a0 a1'))) := fun ob => (((Ext.refl w2).alloc ob).cell 0 (by omega)).trans (by assumption)
  have d22 : ∀ ob, (w2.alloc ob).cell? ⟨w1.heap.size, 1, none⟩ = some (.int .i64 (twoS (spB a0 a0' && spB a1 a1') (cmpI a0' a1))) := fun ob => (((Ext.refl w2).alloc ob).cell 1 (by omega)).trans (by assumption)
  have d23 : ∀ ob, (w2.alloc ob).frozen? ⟨w1.heap.size, 0, none⟩ = false := fun ob => (((Ext.refl w2).alloc ob).froz 0 (by omega)).trans (by assumption)
  have d24 : ∀ ob, (w2.alloc ob).frozen? ⟨w1.heap.size, 1, none⟩ = false := fun ob => (((Ext.refl w2).alloc ob).froz 1 (by omega)).trans (by assumption)
  go_wp2_with fail
  refine (spanmeet_any a0 a0' a1 a1' _).mono ?_
  rintro e w3 ⟨rfl, hx3⟩
  have s3 := hx3.size
  try simp at s3
  have c25 : w3.cell? ⟨w.heap.size, 0, none⟩ = some (.int .i64 a0) := (hx3.cell 0 (by first | (simp; done) | (simp; omega) | omega)).trans (by first | assumption | (simp [go_sem]; done) | exact ((((Ext.refl _).alloc _).cell _ (by omega)).trans (by assumption)) | (simp [go_sem, *]; done))
  have c26 : w3.cell? ⟨w.heap.size, 1, none⟩ = some (.int .i64 a0') := (hx3.cell 1 (by first | (simp; done) | (simp; omega) | omega)).trans (by first | assumption | (simp [go_sem]; done) | exact ((((Ext.refl _).alloc _).cell _ (by omega)).trans (by assumption)) | (simp [go_sem, *]; done))
  have c27 : w3.cell? ⟨w.heap.size + 1, 0, none⟩ = some (.int .i64 a1) := (hx3.cell 0 (by first | (simp; done) | (simp; omega) | omega)).trans (by first | assumption | (simp [go_sem]; done) | exact ((((Ext.refl _).alloc _).cell _ (by omega)).trans (by assumption)) | (simp [go_sem, *]; done))
  have c28 : w3.cell? ⟨w.heap.size + 1, 1, none⟩ = some (.int .i64 a1') := (hx3.cell 1 (by first | (simp; done) | (simp; omega) | omega)).trans (by first | assumption | (simp [go_sem]; done) | exact ((((Ext.refl _).alloc _).cell _ (by omega)).trans (by assumption)) | (simp [go_sem, *]; done))
  have c29 : w3.cell? ⟨w1.heap.size, 0, none⟩ = some (.int .i64 (twoS (spB a0 a0' && spB a1 a1') (cmpI a0 a1'))) := (hx3.cell 0 (by first | (simp; done) | (simp; omega) | omega)).trans (by first | assumption | (simp [go_sem]; done) | exact ((((Ext.refl _).alloc _).cell _ (by omega)).trans (by assumption)) | (simp [go_sem, *]; done))
  have c30 : w3.cell? ⟨w1.heap.size, 1, none⟩ = some (.int .i64 (twoS (spB a0 a0' && spB a1 a1') (cmpI a0' a1))) := (hx3.cell 1 (by first | (simp; done) | (simp; omega) | omega)).trans (by first | assumption | (simp [go_sem]; done) | exact ((((Ext.refl _).alloc _).cell _ (by omega)).trans (by assumption)) | (simp [go_sem, *]; done))
  have c31 : w3.cell? ⟨w2.heap.size, 0, none⟩ = some (.int .i64 (twoS (spB a0 a0' && spB a1 a1') (cmpI a0 a1'))) := (hx3.cell 0 (by first | (simp; done) | (simp; omega) | omega)).trans (by first | assumption | (simp [go_sem]; done) | exact ((((Ext.refl _).alloc _).cell _ (by omega)).trans (by assumption)) | (simp [go_sem, *]; done))
  have c32 : w3.cell? ⟨w2.heap.size, 1, none⟩ = some (.int .i64 (twoS (spB a0 a0' && spB a1 a1') (cmpI a0' a1))) := (hx3.cell 1 (by first | (simp; done) | (simp; omega) | omega)).trans (by first | assumption | (simp [go_sem]; done) | exact ((((Ext.refl _).alloc _).cell _ (by omega)).trans (by assumption)) | (simp [go_sem, *]; done))
  have c33 : w3.frozen? ⟨w1.heap.size, 0, none⟩ = false := (hx3.froz 0 (by first | (simp; done) | (simp; omega) | omega)).trans (by first | assumption | (simp [go_sem]; done) | exact ((((Ext.refl _).alloc _).froz _ (by omega)).trans (by assumption)) | (simp [go_sem, *]; done))
  have c34 : w3.frozen? ⟨w1.heap.size, 1, none⟩ = false := (hx3.froz 1 (by first | (simp; done) | (simp; omega) | omega)).trans (by first | assumption | (simp [go_sem]; done) | exact ((((Ext.refl _).alloc _).froz _ (by omega)).trans (by assumption)) | (simp [go_sem, *]; done))
  have c35 : w3.frozen? ⟨w2.heap.size, 0, none⟩ = false := (hx3.froz 0 (by first | (simp; done) | (simp; omega) | omega)).trans (by first | assumption | (simp [go_sem]; done) | exact ((((Ext.refl _).alloc _).froz _ (by omega)).trans (by assumption)) | (simp [go_sem, *]; done))
  have c36 : w3.frozen? ⟨w2.heap.size, 1, none⟩ = false := (hx3.froz 1 (by first | (simp; done) | (simp; omega) | omega)).trans (by first | assumption | (simp [go_sem]; done) | exact ((((Ext.refl _).alloc _).froz _ (by omega)).trans (by assumption)) | (simp [go_sem, *]; done))
  clear c9 c10 c11 c12 c13 c14 c15 c16 d17 d18 d19 d20 d21 d22 d23 d24
  have d37 : ∀ ob, (w3.alloc ob).cell? ⟨w.heap.size, 0, none⟩ = some (.int .i64 a0) := fun ob => (((Ext.refl w3).alloc ob).cell 0 (by omega)).trans (by assumption)
  have d38 : ∀ ob, (w3.alloc ob).cell? ⟨w.heap.size, 1, none⟩ = some (.int .i64 a0') := fun ob => (((Ext.refl w3).alloc ob).cell 1 (by omega)).trans (by assumption)
  have d39 : ∀ ob, (w3.alloc ob).cell? ⟨w.heap.size + 1, 0, none⟩ = some (.int .i64 a1) := fun ob => (((Ext.refl w3).alloc ob).cell 0 (by omega)).trans (by assumption)
  have d40 : ∀ ob, (w3.alloc ob).cell? ⟨w.heap.size + 1, 1, none⟩ = some (.int .i64 a1') := fun ob => (((Ext.refl w3).alloc ob).cell 1 (by omega)).trans (by assumption)
  have d41 : ∀ ob, (w3.alloc ob).cell? ⟨w1.heap.size, 0, none⟩ = some (.int .i64 (twoS (spB a0 a0' && spB a1 a1') (cmpI a0 a1'))) := fun ob => (((Ext.refl w3).alloc ob).cell 0 (by omega)).trans (by assumption)
  have d42 : ∀ ob, (w3.alloc ob).cell? ⟨w1.heap.size, 1, none⟩ = some (.int .i64 (twoS (spB a0 a0' && spB a1 a1') (cmpI a0' a1))) := fun ob => (((Ext.refl w3).alloc ob).cell 1 (by omega)).trans (by assumption)
  have d43 : ∀ ob, (w3.alloc ob).cell? ⟨w2.heap.size, 0, none⟩ = some (.int .i64 (twoS (spB a0 a0' && spB a1 a1') (cmpI a0 a1'))) := fun ob => (((Ext.refl w3).alloc ob).cell 0 (by omega)).trans (by assumption)
  have d44 : ∀ ob, (w3.alloc ob).cell? ⟨w2.heap.size, 1, none⟩ = some (.int .i64 (twoS (spB a0 a0' && spB a1 a1') (cmpI a0' a1))) := fun ob => (((Ext.refl w3).alloc ob).cell 1 (by omega)).trans (by assumption)
  have d45 : ∀ ob, (w3.alloc ob).frozen? ⟨w1.heap.size, 0, none⟩ = false := fun ob => (((Ext.refl w3).alloc ob).froz 0 (by omega)).trans (by assumption)
  have d46 : ∀ ob, (w3.alloc ob).frozen? ⟨w1.heap.size, 1, none⟩ = false := fun ob => (((Ext.refl w3).alloc ob).froz 1 (by omega)).trans (by assumption)
  have d47 : ∀ ob, (w3.alloc ob).frozen? ⟨w2.heap.size, 0, none⟩ = false := fun ob => (((Ext.refl w3).alloc ob).froz 0 (by omega)).trans (by assumption)
  have d48 : ∀ ob, (w3.alloc ob).frozen? ⟨w2.heap.size, 1, none⟩ = false := fun ob => (((Ext.refl w3).alloc ob).froz 1 (by omega)).trans (by assumption)
  have e49 : w.heap.size ≠ w1.heap.size := by omega
  have f49 : w1.heap.size ≠ w.heap.size := by omega
  have e50 : w.heap.size + 1 ≠ w1.heap.size := by omega
  have f50 : w1.heap.size ≠ w.heap.size + 1 := by omega
  have e51 : w2.heap.size ≠ w1.heap.size := by omega
  have f51 : w1.heap.size ≠ w2.heap.size := by omega
  have e52 : w.heap.size ≠ w2.heap.size := by omega
  have f52 : w2.heap.size ≠ w.heap.size := by omega
  have e53 : w.heap.size + 1 ≠ w2.heap.size := by omega
  have f53 : w2.heap.size ≠ w.heap.size + 1 := by omega
  go_wp2_with fail
  refine (rspanmeet_any a0 a0' a1 a1' _).mono ?_
  rintro e w4 ⟨rfl, hx4⟩
  have s4 := hx4.size
  try simp at s4
  have c54 : w4.cell? ⟨w.heap.size, 0, none⟩ = some (.int .i64 a0) := (hx4.cell 0 (by first | (simp; done) | (simp; omega) | omega)).trans (by first | assumption | (simp [go_sem]; done) | exact ((((Ext.refl _).alloc _).cell _ (by omega)).trans (by assumption)) | (simp [go_sem, *]; done))
  have c55 : w4.cell? ⟨w.heap.size, 1, none⟩ = some (.int .i64 a0') := (hx4.cell 1 (by first | (simp; done) | (simp; omega) | omega)).trans (by first | assumption | (simp [go_sem]; done) | exact ((((Ext.refl _).alloc _).cell _ (by omega)).trans (by assumption)) | (simp [go_sem, *]; done))
  have c56 : w4.cell? ⟨w.heap.size + 1, 0, none⟩ = some (.int .i64 a1) := (hx4.cell 0 (by first | (simp; done) | (simp; omega) | omega)).trans (by first | assumption | (simp [go_sem]; done) | exact ((((Ext.refl _).alloc _).cell _ (by omega)).trans (by assumption)) | (simp [go_sem, *]; done))
  have c57 : w4.cell? ⟨w.heap.size + 1, 1, none⟩ = some (.int .i64 a1') := (hx4.cell 1 (by first | (simp; done) | (simp; omega) | omega)).trans (by first | assumption | (simp [go_sem]; done) | exact ((((Ext.refl _).alloc _).cell _ (by omega)).trans (by assumption)) | (simp [go_sem, *]; done))
  have c58 : w4.cell? ⟨w2.heap.size, 0, none⟩ = some (.int .i64 (twoS (spB a0 a0' && spB a1 a1') (cmpI a0 a1'))) := (hx4.cell 0 (by first | (simp; done) | (simp; omega) | omega)).trans (by first | assumption | (simp [go_sem]; done) | exact ((((Ext.refl _).alloc _).cell _ (by omega)).trans (by assumption)) | (simp [go_sem, *]; done))
  have c59 : w4.cell? ⟨w2.heap.size, 1, none⟩ = some (.int .i64 (twoS (spB a0 a0' && spB a1 a1') (cmpI a0' a1))) := (hx4.cell 1 (by first | (simp; done) | (simp; omega) | omega)).trans (by first | assumption | (simp [go_sem]; done) | exact ((((Ext.refl _).alloc _).cell _ (by omega)).trans (by assumption)) | (simp [go_sem, *]; done))
  have c60 : w4.cell? ⟨w1.heap.size, 0, none⟩ = some (.int .i64 (mtL a0 a0' a1 a1')) := (hx4.cell 0 (by first | (simp; done) | (simp; omega) | omega)).trans (by first | assumption | (simp [go_sem]; done) | exact ((((Ext.refl _).alloc _).cell _ (by omega)).trans (by assumption)) | (simp [go_sem, *]; done))
  have c61 : w4.cell? ⟨w1.heap.size, 1, none⟩ = some (.int .i64 (mtH a0 a0' a1 a1')) := (hx4.cell 1 (by first | (simp; done) | (simp; omega) | omega)).trans (by first | assumption | (simp [go_sem]; done) | exact ((((Ext.refl _).alloc _).cell _ (by omega)).trans (by assumption)) | (simp [go_sem, *]; done))
  have c62 : w4.frozen? ⟨w1.heap.size, 0, none⟩ = false := (hx4.froz 0 (by first | (simp; done) | (simp; omega) | omega)).trans (by first | assumption | (simp [go_sem]; done) | exact ((((Ext.refl _).alloc _).froz _ (by omega)).trans (by assumption)) | (simp [go_sem, *]; done))
  have c63 : w4.frozen? ⟨w1.heap.size, 1, none⟩ = false := (hx4.froz 1 (by first | (simp; done) | (simp; omega) | omega)).trans (by first | assumption | (simp [go_sem]; done) | exact ((((Ext.refl _).alloc _).froz _ (by omega)).trans (by assumption)) | (simp [go_sem, *]; done))
  have c64 : w4.frozen? ⟨w2.heap.size, 0, none⟩ = false := (hx4.froz 0 (by first | (simp; done) | (simp; omega) | omega)).trans (by first | assumption | (simp [go_sem]; done) | exact ((((Ext.refl _).alloc _).froz _ (by omega)).trans (by assumption)) | (simp [go_sem, *]; done))
  have c65 : w4.frozen? ⟨w2.heap.size, 1, none⟩ = false := (hx4.froz 1 (by first | (simp; done) | (simp; omega) | omega)).trans (by first | assumption | (simp [go_sem]; done) | exact ((((Ext.refl _).alloc _).froz _ (by omega)).trans (by assumption)) | (simp [go_sem, *]; done))
  clear c25 c26 c27 c28 c29 c30 c31 c32 c33 c34 c35 c36 d37 d38 d39 d40 d41 d42 d43 d44 d45 d46 d47 d48
  have d66 : ∀ ob, (w4.alloc ob).cell? ⟨w.heap.size, 0, none⟩ = some (.int .i64 a0) := fun ob => (((Ext.refl w4).alloc ob).cell 0 (by omega)).trans (by assumption)
  have d67 : ∀ ob, (w4.alloc ob).cell? ⟨w.heap.size, 1, none⟩ = some (.int .i64 a0') := fun ob => (((Ext.refl w4).alloc ob).cell 1 (by omega)).trans (by assumption)
  have d68 : ∀ ob, (w4.alloc ob).cell? ⟨w.heap.size + 1, 0, none⟩ = some (.int .i64 a1) := fun ob => (((Ext.refl w4).alloc ob).cell 0 (by omega)).trans (by assumption)
  have d69 : ∀ ob, (w4.alloc ob).cell? ⟨w.heap.size + 1, 1, none⟩ = some (.int .i64 a1') := fun ob => (((Ext.refl w4).alloc ob).cell 1 (by omega)).trans (by assumption)
  have d70 : ∀ ob, (w4.alloc ob).cell? ⟨w2.heap.size, 0, none⟩ = some (.int .i64 (twoS (spB a0 a0' && spB a1 a1') (cmpI a0 a1'))) := fun ob => (((Ext.refl w4).alloc ob).cell 0 (by omega)).trans (by assumption)
  have d71 : ∀ ob, (w4.alloc ob).cell? ⟨w2.heap.size, 1, none⟩ = some (.int .i64 (twoS (spB a0 a0' && spB a1 a1') (cmpI a0' a1))) := fun ob => (((Ext.refl w4).alloc ob).cell 1 (by omega)).trans (by assumption)
  have d72 : ∀ ob, (w4.alloc ob).cell? ⟨w1.heap.size, 0, none⟩ = some (.int .i64 (mtL a0 a0' a1 a1')) := fun ob => (((Ext.refl w4).alloc ob).cell 0 (by omega)).trans (by assumption)
  have d73 : ∀ ob, (w4.alloc ob).cell? ⟨w1.heap.size, 1, none⟩ = some (.int .i64 (mtH a0 a0' a1 a1')) := fun ob => (((Ext.refl w4).alloc ob).cell 1 (by omega)).trans (by assumption)
  have d74 : ∀ ob, (w4.alloc ob).frozen? ⟨w1.heap.size, 0, none⟩ = false := fun ob => (((Ext.refl w4).alloc ob).froz 0 (by omega)).trans (by assumption)
  have d75 : ∀ ob, (w4.alloc ob).frozen? ⟨w1.heap.size, 1, none⟩ = false := fun ob => (((Ext.refl w4).alloc ob).froz 1 (by omega)).trans (by assumption)
  have d76 : ∀ ob, (w4.alloc ob).frozen? ⟨w2.heap.size, 0, none⟩ = false := fun ob => (((Ext.refl w4).alloc ob).froz 0 (by omega)).trans (by assumption)
  have d77 : ∀ ob, (w4.alloc ob).frozen? ⟨w2.heap.size, 1, none⟩ = false := fun ob => (((Ext.refl w4).alloc ob).froz 1 (by omega)).trans (by assumption)
  go_wp2_with fail
  refine (spanjoin_any a0 a0' a1 a1' _).mono ?_
  rintro e w5 ⟨rfl, hx5⟩
  have s5 := hx5.size
  try simp at s5
  have c78 : w5.cell? ⟨w.heap.size, 0, none⟩ = some (.int .i64 a0) := (hx5.cell 0 (by first | (simp; done) | (simp; omega) | omega)).trans (by first | assumption | (simp [go_sem]; done) | exact ((((Ext.refl _).alloc _).cell _ (by omega)).trans (by assumption)) | (simp [go_sem, *]; done))
  have c79 : w5.cell? ⟨w.heap.size, 1, none⟩ = some (.int .i64 a0') := (hx5.cell 1 (by first | (simp; done) | (simp; omega) | omega)).trans (by first | assumption | (simp [go_sem]; done) | exact ((((Ext.refl _).alloc _).cell _ (by omega)).trans (by assumption)) | (simp [go_sem, *]; done))
  have c80 : w5.cell? ⟨w.heap.size + 1, 0, none⟩ = some (.int .i64 a1) := (hx5.cell 0 (by first | (simp; done) | (simp; omega) | omega)).trans (by first | assumption | (simp [go_sem]; done) | exact ((((Ext.refl _).alloc _).cell _ (by omega)).trans (by assumption)) | (simp [go_sem, *]; done))
  have c81 : w5.cell? ⟨w.heap.size + 1, 1, none⟩ = some (.int .i64 a1') := (hx5.cell 1 (by first | (simp; done) | (simp; omega) | omega)).trans (by first | assumption | (simp [go_sem]; done) | exact ((((Ext.refl _).alloc _).cell _ (by omega)).trans (by assumption)) | (simp [go_sem, *]; done))
  have c82 : w5.cell? ⟨w1.heap.size, 0, none⟩ = some (.int .i64 (mtL a0 a0' a1 a1')) := (hx5.cell 0 (by first | (simp; done) | (simp; omega) | omega)).trans (by first | assumption | (simp [go_sem]; done) | exact ((((Ext.refl _).alloc _).cell _ (by omega)).trans (by assumption)) | (simp [go_sem, *]; done))
  have c83 : w5.cell? ⟨w1.heap.size, 1, none⟩ = some (.int .i64 (mtH a0 a0' a1 a1')) := (hx5.cell 1 (by first | (simp; done) | (simp; omega) | omega)).trans (by first | assumption | (simp [go_sem]; done) | exact ((((Ext.refl _).alloc _).cell _ (by omega)).trans (by assumption)) | (simp [go_sem, *]; done))
  have c84 : w5.cell? ⟨w2.heap.size, 0, none⟩ = some (.int .i64 (mtL a0 a0' a1 a1')) := (hx5.cell 0 (by first | (simp; done) | (simp; omega) | omega)).trans (by first | assumption | (simp [go_sem]; done) | exact ((((Ext.refl _).alloc _).cell _ (by omega)).trans (by assumption)) | (simp [go_sem, *]; done))
  have c85 : w5.cell? ⟨w2.heap.size, 1, none⟩ = some (.int .i64 (mtH a0 a0' a1 a1')) := (hx5.cell 1 (by first | (simp; done) | (simp; omega) | omega)).trans (by first | assumption | (simp [go_sem]; done) | exact ((((Ext.refl _).alloc _).cell _ (by omega)).trans (by assumption)) | (simp [go_sem, *]; done))
  have c86 : w5.frozen? ⟨w1.heap.size, 0, none⟩ = false := (hx5.froz 0 (by first | (simp; done) | (simp; omega) | omega)).trans (by first | assumption | (simp [go_sem]; done) | exact ((((Ext.refl _).alloc _).froz _ (by omega)).trans (by assumption)) | (simp [go_sem, *]; done))
  have c87 : w5.frozen? ⟨w1.heap.size, 1, none⟩ = false := (hx5.froz 1 (by first | (simp; done) | (simp; omega) | omega)).trans (by first | assumption | (simp [go_sem]; done) | exact ((((Ext.refl _).alloc _).froz _ (by omega)).trans (by assumption)) | (simp [go_sem, *]; done))
  have c88 : w5.frozen? ⟨w2.heap.size, 0, none⟩ = false := (hx5.froz 0 (by first | (simp; done) | (simp; omega) | omega)).trans (by first | assumption | (simp [go_sem]; done) | exact ((((Ext.refl _).alloc _).froz _ (by omega)).trans (by assumption)) | (simp [go_sem, *]; done))
  have c89 : w5.frozen? ⟨w2.heap.size, 1, none⟩ = false := (hx5.froz 1 (by first | (simp; done) | (simp; omega) | omega)).trans (by first | assumption | (simp [go_sem]; done) | exact ((((Ext.refl _).alloc _).froz _ (by omega)).trans (by assumption)) | (simp [go_sem, *]; done))
  clear c54 c55 c56 c57 c58 c59 c60 c61 c62 c63 c64 c65 d66 d67 d68 d69 d70 d71 d72 d73 d74 d75 d76 d77
  have d90 : ∀ ob, (w5.alloc ob).cell? ⟨w.heap.size, 0, none⟩ = some (.int .i64 a0) := fun ob => (((Ext.refl w5).alloc ob).cell 0 (by omega)).trans (by assumption)
  have d91 : ∀ ob, (w5.alloc ob).cell? ⟨w.heap.size, 1, none⟩ = some (.int .i64 a0') := fun ob => (((Ext.refl w5).alloc ob).cell 1 (by omega)).trans (by assumption)
  have d92 : ∀ ob, (w5.alloc ob).cell? ⟨w.heap.size + 1, 0, none⟩ = some (.int .i64 a1) := fun ob => (((Ext.refl w5).alloc ob).cell 0 (by omega)).trans (by assumption)
  have d93 : ∀ ob, (w5.alloc ob).cell? ⟨w.heap.size + 1, 1, none⟩ = some (.int .i64 a1') := fun ob => (((Ext.refl w5).alloc ob).cell 1 (by omega)).trans (by assumption)
  have d94 : ∀ ob, (w5.alloc ob).cell? ⟨w1.heap.size, 0, none⟩ = some (.int .i64 (mtL a0 a0' a1 a1')) := fun ob => (((Ext.refl w5).alloc ob).cell 0 (by omega)).trans (by assumption)
  have d95 : ∀ ob, (w5.alloc ob).cell? ⟨w1.heap.size, 1, none⟩ = some (.int .i64 (mtH a0 a0' a1 a1')) := fun ob => (((Ext.refl w5).alloc ob).cell 1 (by omega)).trans (by assumption)
  have d96 : ∀ ob, (w5.alloc ob).cell? ⟨w2.heap.size, 0, none⟩ = some (.int .i64 (mtL a0 a0' a1 a1')) := fun ob => (((Ext.refl w5).alloc ob).cell 0 (by omega)).trans (by assumption)
  have d97 : ∀ ob, (w5.alloc ob).cell? ⟨w2.heap.size, 1, none⟩ = some (.int .i64 (mtH a0 a0' a1 a1')) := fun ob => (((Ext.refl w5).alloc ob).cell 1 (by omega)).trans (by assumption)
  have d98 : ∀ ob, (w5.alloc ob).frozen? ⟨w1.heap.size, 0, none⟩ = false := fun ob => (((Ext.refl w5).alloc ob).froz 0 (by omega)).trans (by assumption)
  have d99 : ∀ ob, (w5.alloc ob).frozen? ⟨w1.heap.size, 1, none⟩ = false := fun ob => (((Ext.refl w5).alloc ob).froz 1 (by omega)).trans (by assumption)
  have d100 : ∀ ob, (w5.alloc ob).frozen? ⟨w2.heap.size, 0, none⟩ = false := fun ob => (((Ext.refl w5).alloc ob).froz 0 (by omega)).trans (by assumption)
  have d101 : ∀ ob, (w5.alloc ob).frozen? ⟨w2.heap.size, 1, none⟩ = false := fun ob => (((Ext.refl w5).alloc ob).froz 1 (by omega)).trans (by assumption)
  go_wp2_with fail
  refine (rspanjoin_any a0 a0' a1 a1' _).mono ?_
  rintro e w6 ⟨rfl, hx6⟩
  have s6 := hx6.size
  try simp at s6
  have c102 : w6.cell? ⟨w.heap.size, 0, none⟩ = some (.int .i64 a0) := (hx6.cell 0 (by first | (simp; done) | (simp; omega) | omega)).trans (by first | assumption | (simp [go_sem]; done) | exact ((((Ext.refl _).alloc _).cell _ (by omega)).trans (by assumption)) | (simp [go_sem, *]; done))
  have c103 : w6.cell? ⟨w.heap.size, 1, none⟩ = some (.int .i64 a0') := (hx6.cell 1 (by first | (simp; done) | (simp; omega) | omega)).trans (by first | assumption | (simp [go_sem]; done) | exact ((((Ext.refl _).alloc _).cell _ (by omega)).trans (by assumption)) | (simp [go_sem, *]; done))
  have c104 : w6.cell? ⟨w.heap.size + 1, 0, none⟩ = some (.int .i64 a1) := (hx6.cell 0 (by first | (simp; done) | (simp; omega) | omega)).trans (by first | assumption | (simp [go_sem]; done) | exact ((((Ext.refl _).alloc _).cell _ (by omega)).trans (by assumption)) | (simp [go_sem, *]; done))
  have c105 : w6.cell? ⟨w.heap.size + 1, 1, none⟩ = some (.int .i64 a1') := (hx6.cell 1 (by first | (simp; done) | (simp; omega) | omega)).trans (by first | assumption | (simp [go_sem]; done) | exact ((((Ext.refl _).alloc _).cell _ (by omega)).trans (by assumption)) | (simp [go_sem, *]; done))
  have c106 : w6.cell? ⟨w2.heap.size, 0, none⟩ = some (.int .i64 (mtL a0 a0' a1 a1')) := (hx6.cell 0 (by first | (simp; done) | (simp; omega) | omega)).trans (by first | assumption | (simp [go_sem]; done) | exact ((((Ext.refl _).alloc _).cell _ (by omega)).trans (by assumption)) | (simp [go_sem, *]; done))
  have c107 : w6.cell? ⟨w2.heap.size, 1, none⟩ = some (.int .i64 (mtH a0 a0' a1 a1')) := (hx6.cell 1 (by first | (simp; done) | (simp; omega) | omega)).trans (by first | assumption | (simp [go_sem]; done) | exact ((((Ext.refl _).alloc _).cell _ (by omega)).trans (by assumption)) | (simp [go_sem, *]; done))
  have c108 : w6.cell? ⟨w1.heap.size, 0, none⟩ = some (.int .i64 (twoS (spB a0 a0' && spB a1 a1') (min a0 a1))) := (hx6.cell 0 (by first | (simp; done) | (simp; omega) | omega)).trans (by first | assumption | (simp [go_sem]; done) | exact ((((Ext.refl _).alloc _).cell _ (by omega)).trans (by assumption)) | (simp [go_sem, *]; done))
  have c109 : w6.cell? ⟨w1.heap.size, 1, none⟩ = some (.int .i64 (twoS (spB a0 a0' && spB a1 a1') (max a0' a1'))) := (hx6.cell 1 (by first | (simp; done) | (simp; omega) | omega)).trans (by first | assumption | (simp [go_sem]; done) | exact ((((Ext.refl _).alloc _).cell _ (by omega)).trans (by assumption)) | (simp [go_sem, *]; done))
  have c110 : w6.frozen? ⟨w1.heap.size, 0, none⟩ = false := (hx6.froz 0 (by first | (simp; done) | (simp; omega) | omega)).trans (by first | assumption | (simp [go_sem]; done) | exact ((((Ext.refl _).alloc _).froz _ (by omega)).trans (by assumption)) | (simp [go_sem, *]; done))
  have c111 : w6.frozen? ⟨w1.heap.size, 1, none⟩ = false := (hx6.froz 1 (by first | (simp; done) | (simp; omega) | omega)).trans (by first | assumption | (simp [go_sem]; done) | exact ((((Ext.refl _).alloc _).froz _ (by omega)).trans (by assumption)) | (simp [go_sem, *]; done))
  have c112 : w6.frozen? ⟨w2.heap.size, 0, none⟩ = false := (hx6.froz 0 (by first | (simp; done) | (simp; omega) | omega)).trans (by first | assumption | (simp [go_sem]; done) | exact ((((Ext.refl _).alloc _).froz _ (by omega)).trans (by assumption)) | (simp [go_sem, *]; done))
  have c113 : w6.frozen? ⟨w2.heap.size, 1, none⟩ = false := (hx6.froz 1 (by first | (simp; done) | (simp; omega) | omega)).trans (by first | assumption | (simp [go_sem]; done) | exact ((((Ext.refl _).alloc _).froz _ (by omega)).trans (by assumption)) | (simp [go_sem, *]; done))
  clear c78 c79 c80 c81 c82 c83 c84 c85 c86 c87 c88 c89 d90 d91 d92 d93 d94 d95 d96 d97 d98 d99 d100 d101
  have d114 : ∀ ob, (w6.alloc ob).cell? ⟨w.heap.size, 0, none⟩ = some (.int .i64 a0) := fun ob => (((Ext.refl w6).alloc ob).cell 0 (by omega)).trans (by assumption)
  have d115 : ∀ ob, (w6.alloc ob).cell? ⟨w.heap.size, 1, none⟩ = some (.int .i64 a0') := fun ob => (((Ext.refl w6).alloc ob).cell 1 (by omega)).trans (by assumption)
  have d116 : ∀ ob, (w6.alloc ob).cell? ⟨w.heap.size + 1, 0, none⟩ = some (.int .i64 a1) := fun ob => (((Ext.refl w6).alloc ob).cell 0 (by omega)).trans (by assumption)
  have d117 : ∀ ob, (w6.alloc ob).cell? ⟨w.heap.size + 1, 1, none⟩ = some (.int .i64 a1') := fun ob => (((Ext.refl w6).alloc ob).cell 1 (by omega)).trans (by assumption)
  have d118 : ∀ ob, (w6.alloc ob).cell? ⟨w2.heap.size, 0, none⟩ = some (.int .i64 (mtL a0 a0' a1 a1')) := fun ob => (((Ext.refl w6).alloc ob).cell 0 (by omega)).trans (by assumption)
  have d119 : ∀ ob, (w6.alloc ob).cell? ⟨w2.heap.size, 1, none⟩ = some (.int .i64 (mtH a0 a0' a1 a1')) := fun ob => (((Ext.refl w6).alloc ob).cell 1 (by omega)).trans (by assumption)
  have d120 : ∀ ob, (w6.alloc ob).cell? ⟨w1.heap.size, 0, none⟩ = some (.int .i64 (twoS (spB a0 a0' && spB a1 a1') (min a0 a1))) := fun ob => (((Ext.refl w6).alloc ob).cell 0 (by omega)).trans (by assumption)
  have d121 : ∀ ob, (w6.alloc ob).cell? ⟨w1.heap.size, 1, none⟩ = some (.int .i64 (twoS (spB a0 a0' && spB a1 a1') (max a0' a1'))) := fun ob => (((Ext.refl w6).alloc ob).cell 1 (by omega)).trans (by assumption)
  have d122 : ∀ ob, (w6.alloc ob).frozen? ⟨w1.heap.size, 0, none⟩ = false := fun ob => (((Ext.refl w6).alloc ob).froz 0 (by omega)).trans (by assumption)
  have d123 : ∀ ob, (w6.alloc ob).frozen? ⟨w1.heap.size, 1, none⟩ = false := fun ob => (((Ext.refl w6).alloc ob).froz 1 (by omega)).trans (by assumption)
  have d124 : ∀ ob, (w6.alloc ob).frozen? ⟨w2.heap.size, 0, none⟩ = false := fun ob => (((Ext.refl w6).alloc ob).froz 0 (by omega)).trans (by assumption)
  have d125 : ∀ ob, (w6.alloc ob).frozen? ⟨w2.heap.size, 1, none⟩ = false := fun ob => (((Ext.refl w6).alloc ob).froz 1 (by omega)).trans (by assumption)
  go_wp2_with fail
  refine (wide_any _).mono ?_
  rintro e w7 ⟨rfl, hx7⟩
  have s7 := hx7.size
  try simp at s7
  have c126 : w7.cell? ⟨w.heap.size, 0, none⟩ = some (.int .i64 a0) := (hx7.cell 0 (by first | (simp; done) | (simp; omega) | omega)).trans (by first | assumption | (simp [go_sem]; done) | exact ((((Ext.refl _).alloc _).cell _ (by omega)).trans (by assumption)) | (simp [go_sem, *]; done))
  have c127 : w7.cell? ⟨w.heap.size, 1, none⟩ = some (.int .i64 a0') := (hx7.cell 1 (by first | (simp; done) | (simp; omega) | omega)).trans (by first | assumption | (simp [go_sem]; done) | exact ((((Ext.refl _).alloc _).cell _ (by omega)).trans (by assumption)) | (simp [go_sem, *]; done))
  have c128 : w7.cell? ⟨w.heap.size + 1, 0, none⟩ = some (.int .i64 a1) := (hx7.cell 0 (by first | (simp; done) | (simp; omega) | omega)).trans (by first | assumption | (simp [go_sem]; done) | exact ((((Ext.refl _).alloc _).cell _ (by omega)).trans (by assumption)) | (simp [go_sem, *]; done))
  have c129 : w7.cell? ⟨w.heap.size + 1, 1, none⟩ = some (.int .i64 a1') := (hx7.cell 1 (by first | (simp; done) | (simp; omega) | omega)).trans (by first | assumption | (simp [go_sem]; done) | exact ((((Ext.refl _).alloc _).cell _ (by omega)).trans (by assumption)) | (simp [go_sem, *]; done))
  have c130 : w7.cell? ⟨w1.heap.size, 0, none⟩ = some (.int .i64 (twoS (spB a0 a0' && spB a1 a1') (min a0 a1))) := (hx7.cell 0 (by first | (simp; done) | (simp; omega) | omega)).trans (by first | assumption | (simp [go_sem]; done) | exact ((((Ext.refl _).alloc _).cell _ (by omega)).trans (by assumption)) | (simp [go_sem, *]; done))
  have c131 : w7.cell? ⟨w1.heap.size, 1, none⟩ = some (.int .i64 (twoS (spB a0 a0' && spB a1 a1') (max a0' a1'))) := (hx7.cell 1 (by first | (simp; done) | (simp; omega) | omega)).trans (by first | assumption | (simp [go_sem]; done) | exact ((((Ext.refl _).alloc _).cell _ (by omega)).trans (by assumption)) | (simp [go_sem, *]; done))
  have c132 : w7.cell? ⟨w2.heap.size, 0, none⟩ = some (.int .i64 (twoS (spB a0 a0' && spB a1 a1') (min a0 a1))) := (hx7.cell 0 (by first | (simp; done) | (simp; omega) | omega)).trans (by first | assumption | (simp [go_sem]; done) | exact ((((Ext.refl _).alloc _).cell _ (by omega)).trans (by assumption)) | (simp [go_sem, *]; done))
  have c133 : w7.cell? ⟨w2.heap.size, 1, none⟩ = some (.int .i64 (twoS (spB a0 a0' && spB a1 a1') (max a0' a1'))) := (hx7.cell 1 (by first | (simp; done) | (simp; omega) | omega)).trans (by first | assumption | (simp [go_sem]; done) | exact ((((Ext.refl _).alloc _).cell _ (by omega)).trans (by assumption)) | (simp [go_sem, *]; done))
  have c134 : w7.frozen? ⟨w1.heap.size, 0, none⟩ = false := (hx7.froz 0 (by first | (simp; done) | (simp; omega) | omega)).trans (by first | assumption | (simp [go_sem]; done) | exact ((((Ext.refl _).alloc _).froz _ (by omega)).trans (by assumption)) | (simp [go_sem, *]; done))
  have c135 : w7.frozen? ⟨w1.heap.size, 1, none⟩ = false := (hx7.froz 1 (by first | (simp; done) | (simp; omega) | omega)).trans (by first | assumption | (simp [go_sem]; done) | exact ((((Ext.refl _).alloc _).froz _ (by omega)).trans (by assumption)) | (simp [go_sem, *]; done))
  have c136 : w7.frozen? ⟨w2.heap.size, 0, none⟩ = false := (hx7.froz 0 (by first | (simp; done) | (simp; omega) | omega)).trans (by first | assumption | (simp [go_sem]; done) | exact ((((Ext.refl _).alloc _).froz _ (by omega)).trans (by assumption)) | (simp [go_sem, *]; done))
  have c137 : w7.frozen? ⟨w2.heap.size, 1, none⟩ = false := (hx7.froz 1 (by first | (simp; done) | (simp; omega) | omega)).trans (by first | assumption | (simp [go_sem]; done) | exact ((((Ext.refl _).alloc _).froz _ (by omega)).trans (by assumption)) | (simp [go_sem, *]; done))
  clear c102 c103 c104 c105 c106 c107 c108 c109 c110 c111 c112 c113 d114 d115 d116 d117 d118 d119 d120 d121 d122 d123 d124 d125
  have d138 : ∀ ob, (w7.alloc ob).cell? ⟨w.heap.size, 0, none⟩ = some (.int .i64 a0) := fun ob => (((Ext.refl w7).alloc ob).cell 0 (by omega)).trans (by assumption)
  have d139 : ∀ ob, (w7.alloc ob).cell? ⟨w.heap.size, 1, none⟩ = some (.int .i64 a0') := fun ob => (((Ext.refl w7).alloc ob).cell 1 (by omega)).trans (by assumption)
  have d140 : ∀ ob, (w7.alloc ob).cell? ⟨w.heap.size + 1, 0, none⟩ = some (.int .i64 a1) := fun ob => (((Ext.refl w7).alloc ob).cell 0 (by omega)).trans (by assumption)
  have d141 : ∀ ob, (w7.alloc ob).cell? ⟨w.heap.size + 1, 1, none⟩ = some (.int .i64 a1') := fun ob => (((Ext.refl w7).alloc ob).cell 1 (by omega)).trans (by assumption)
  have d142 : ∀ ob, (w7.alloc ob).cell? ⟨w1.heap.size, 0, none⟩ = some (.int .i64 (twoS (spB a0 a0' && spB a1 a1') (min a0 a1))) := fun ob => (((Ext.refl w7).alloc ob).cell 0 (by omega)).trans (by assumption)
  have d143 : ∀ ob, (w7.alloc ob).cell? ⟨w1.heap.size, 1, none⟩ = some (.int .i64 (twoS (spB a0 a0' && spB a1 a1') (max a0' a1'))) := fun ob => (((Ext.refl w7).alloc ob).cell 1 (by omega)).trans (by assumption)
  have d144 : ∀ ob, (w7.alloc ob).cell? ⟨w2.heap.size, 0, none⟩ = some (.int .i64 (twoS (spB a0 a0' && spB a1 a1') (min a0 a1))) := fun ob => (((Ext.refl w7).alloc ob).cell 0 (by omega)).trans (by assumption)
  have d145 : ∀ ob, (w7.alloc ob).cell? ⟨w2.heap.size, 1, none⟩ = some (.int .i64 (twoS (spB a0 a0' && spB a1 a1') (max a0' a1'))) := fun ob => (((Ext.refl w7).alloc ob).cell 1 (by omega)).trans (by assumption)
  have d146 : ∀ ob, (w7.alloc ob).frozen? ⟨w1.heap.size, 0, none⟩ = false := fun ob => (((Ext.refl w7).alloc ob).froz 0 (by omega)).trans (by assumption)
  have d147 : ∀ ob, (w7.alloc ob).frozen? ⟨w1.heap.size, 1, none⟩ = false := fun ob => (((Ext.refl w7).alloc ob).froz 1 (by omega)).trans (by assumption)
  have d148 : ∀ ob, (w7.alloc ob).frozen? ⟨w2.heap.size, 0, none⟩ = false := fun ob => (((Ext.refl w7).alloc ob).froz 0 (by omega)).trans (by assumption)
  have d149 : ∀ ob, (w7.alloc ob).frozen? ⟨w2.heap.size, 1, none⟩ = false := fun ob => (((Ext.refl w7).alloc ob).froz 1 (by omega)).trans (by assumption)
  go_wp2
  go_ret
  exact ⟨rfl, by repeat (first | exact Ext.refl _ | assumption | refine Ext.drewN ?_ _ | refine Ext.drew ?_ | refine Ext.alloc ?_ _ | refine Ext.setCell ?_ (by dsimp only; omega) _ | refine Ext.trans ?_ (by assumption))⟩
end Go.Proofs.Ythbajdpblgclpaa.integerSets
