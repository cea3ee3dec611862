/- The walk of IntegerTight. -/
import Derived.Test.YtmcajdfbkhaplaaSf
import Derived.Test.YtmcajdfbkhaplaaSz
import Derived.Deep.QuietTactic
import Derived.BigQuiet
import Derived.IntWalk
namespace Go.Proofs.Ytmcajdfbkhaplaa.integerTight
open Go.RowKit
set_option maxRecDepth 100000 in
set_option maxHeartbeats 8000000 in
theorem walk (a0 a0' : Int) (w0 : (Lit.int .i64 a0).wf = true) (w0' : (Lit.int .i64 a0').wf = true) (a1 a1' : Int) (w1 : (Lit.int .i64 a1).wf = true) (w1' : (Lit.int .i64 a1').wf = true) (w : World) :
    Calls Try.prog 14 #[.agg #[.int .i64 a0, .int .i64 a0'], .agg #[.int .i64 a1, .int .i64 a1']] w fun e w' => e = .returned (.bool true) ∧ Ext w w' := by
  have : True := (fun _ _ _ _ => trivial) w0 w0' w1 w1'
  clear this w0 w0' w1 w1'
  rcases (Bool.eq_false_or_eq_true (spB a0 a0')).symm with v1 | v1
  · go_enter Try.func14, Try.ntmps14
    go_wp2_with fail
    refine (wide_any _).mono ?_
    rintro e w1 ⟨rfl, hx1⟩
    have s1 := hx1.size
    try simp at s1
    have c1 : w1.cell? ⟨w.heap.size, 0, none⟩ = some (.int .i64 a0) := (hx1.cell 0 (by first | (simp; done) | (simp; omega) | omega)).trans (by first | assumption | (simp [go_sem]; done) | exact ((((Ext.refl _).alloc _).cell _ (by omega)).trans (by assumption)) | (simp [go_sem, *]; done))
    have c2 : w1.cell? ⟨w.heap.size, 1, none⟩ = some (.int .i64 a0') := (hx1.cell 1 (by first | (simp; done) | (simp; omega) | omega)).trans (by first | assumption | (simp [go_sem]; done) | exact ((((Ext.refl _).alloc _).cell _ (by omega)).trans (by assumption)) | (simp [go_sem, *]; done))
    have c3 : w1.cell? ⟨w.heap.size + 1, 0, none⟩ = some (.int .i64 a1) := (hx1.cell 0 (by first | (simp; done) | (simp; omega) | omega)).trans (by first | assumption | (simp [go_sem]; done) | exact ((((Ext.refl _).alloc _).cell _ (by omega)).trans (by assumption)) | (simp [go_sem, *]; done))
    have c4 : w1.cell? ⟨w.heap.size + 1, 1, none⟩ = some (.int .i64 a1') := (hx1.cell 1 (by first | (simp; done) | (simp; omega) | omega)).trans (by first | assumption | (simp [go_sem]; done) | exact ((((Ext.refl _).alloc _).cell _ (by omega)).trans (by assumption)) | (simp [go_sem, *]; done))
    have d5 : ∀ ob, (w1.alloc ob).cell? ⟨w.heap.size, 0, none⟩ = some (.int .i64 a0) := fun ob => (((Ext.refl w1).alloc ob).cell 0 (by omega)).trans (by assumption)
    have d6 : ∀ ob, (w1.alloc ob).cell? ⟨w.heap.size, 1, none⟩ = some (.int .i64 a0') := fun ob => (((Ext.refl w1).alloc ob).cell 1 (by omega)).trans (by assumption)
    have d7 : ∀ ob, (w1.alloc ob).cell? ⟨w.heap.size + 1, 0, none⟩ = some (.int .i64 a1) := fun ob => (((Ext.refl w1).alloc ob).cell 0 (by omega)).trans (by assumption)
    have d8 : ∀ ob, (w1.alloc ob).cell? ⟨w.heap.size + 1, 1, none⟩ = some (.int .i64 a1') := fun ob => (((Ext.refl w1).alloc ob).cell 1 (by omega)).trans (by assumption)
    go_wp2_with fail
    refine (validSpan_any a0 a0' _).mono ?_
    rintro e w2 ⟨rfl, hx2⟩
    rw [v1]
    have s2 := hx2.size
    try simp at s2
    have c9 : w2.cell? ⟨w.heap.size, 0, none⟩ = some (.int .i64 a0) := (hx2.cell 0 (by first | (simp; done) | (simp; omega) | omega)).trans (by first | assumption | (simp [go_sem]; done) | exact ((((Ext.refl _).alloc _).cell _ (by omega)).trans (by assumption)) | (simp [go_sem, *]; done))
    have c10 : w2.cell? ⟨w.heap.size, 1, none⟩ = some (.int .i64 a0') := (hx2.cell 1 (by first | (simp; done) | (simp; omega) | omega)).trans (by first | assumption | (simp [go_sem]; done) | exact ((((Ext.refl _).alloc _).cell _ (by omega)).trans (by assumption)) | (simp [go_sem, *]; done))
    have c11 : w2.cell? ⟨w.heap.size + 1, 0, none⟩ = some (.int .i64 a1) := (hx2.cell 0 (by first | (simp; done) | (simp; omega) | omega)).trans (by first | assumption | (simp [go_sem]; done) | exact ((((Ext.refl _).alloc _).cell _ (by omega)).trans (by assumption)) | (simp [go_sem, *]; done))
    have c12 : w2.cell? ⟨w.heap.size + 1, 1, none⟩ = some (.int .i64 a1') := (hx2.cell 1 (by first | (simp; done) | (simp; omega) | omega)).trans (by first | assumption | (simp [go_sem]; done) | exact ((((Ext.refl _).alloc _).cell _ (by omega)).trans (by assumption)) | (simp [go_sem, *]; done))
    clear c1 c2 c3 c4 d5 d6 d7 d8
    have d13 : ∀ ob, (w2.alloc ob).cell? ⟨w.heap.size, 0, none⟩ = some (.int .i64 a0) := fun ob => (((Ext.refl w2).alloc ob).cell 0 (by omega)).trans (by assumption)
    have d14 : ∀ ob, (w2.alloc ob).cell? ⟨w.heap.size, 1, none⟩ = some (.int .i64 a0') := fun ob => (((Ext.refl w2).alloc ob).cell 1 (by omega)).trans (by assumption)
    have d15 : ∀ ob, (w2.alloc ob).cell? ⟨w.heap.size + 1, 0, none⟩ = some (.int .i64 a1) := fun ob => (((Ext.refl w2).alloc ob).cell 0 (by omega)).trans (by assumption)
    have d16 : ∀ ob, (w2.alloc ob).cell? ⟨w.heap.size + 1, 1, none⟩ = some (.int .i64 a1') := fun ob => (((Ext.refl w2).alloc ob).cell 1 (by omega)).trans (by assumption)
    go_wp2
    go_ret
    exact ⟨rfl, by repeat (first | exact Ext.refl _ | assumption | refine Ext.drewN ?_ _ | refine Ext.drew ?_ | refine Ext.alloc ?_ _ | refine Ext.setCell ?_ (by dsimp only; omega) _ | refine Ext.trans ?_ (by assumption))⟩
  rcases (Bool.eq_false_or_eq_true (spB a1 a1')).symm with v2 | v2
  · go_enter Try.func14, Try.ntmps14
    go_wp2_with fail
    refine (wide_any _).mono ?_
    rintro e w1 ⟨rfl, hx1⟩
    have s1 := hx1.size
    try simp at s1
    have c1 : w1.cell? ⟨w.heap.size, 0, none⟩ = some (.int .i64 a0) := (hx1.cell 0 (by first | (simp; done) | (simp; omega) | omega)).trans (by first | assumption | (simp [go_sem]; done) | exact ((((Ext.refl _).alloc _).cell _ (by omega)).trans (by assumption)) | (simp [go_sem, *]; done))
    have c2 : w1.cell? ⟨w.heap.size, 1, none⟩ = some (.int .i64 a0') := (hx1.cell 1 (by first | (simp; done) | (simp; omega) | omega)).trans (by first | assumption | (simp [go_sem]; done) | exact ((((Ext.refl _).alloc _).cell _ (by omega)).trans (by assumption)) | (simp [go_sem, *]; done))
    have c3 : w1.cell? ⟨w.heap.size + 1, 0, none⟩ = some (.int .i64 a1) := (hx1.cell 0 (by first | (simp; done) | (simp; omega) | omega)).trans (by first | assumption | (simp [go_sem]; done) | exact ((((Ext.refl _).alloc _).cell _ (by omega)).trans (by assumption)) | (simp [go_sem, *]; done))
    have c4 : w1.cell? ⟨w.heap.size + 1, 1, none⟩ = some (.int .i64 a1') := (hx1.cell 1 (by first | (simp; done) | (simp; omega) | omega)).trans (by first | assumption | (simp [go_sem]; done) | exact ((((Ext.refl _).alloc _).cell _ (by omega)).trans (by assumption)) | (simp [go_sem, *]; done))
    have d5 : ∀ ob, (w1.alloc ob).cell? ⟨w.heap.size, 0, none⟩ = some (.int .i64 a0) := fun ob => (((Ext.refl w1).alloc ob).cell 0 (by omega)).trans (by assumption)
    have d6 : ∀ ob, (w1.alloc ob).cell? ⟨w.heap.size, 1, none⟩ = some (.int .i64 a0') := fun ob => (((Ext.refl w1).alloc ob).cell 1 (by omega)).trans (by assumption)
    have d7 : ∀ ob, (w1.alloc ob).cell? ⟨w.heap.size + 1, 0, none⟩ = some (.int .i64 a1) := fun ob => (((Ext.refl w1).alloc ob).cell 0 (by omega)).trans (by assumption)
    have d8 : ∀ ob, (w1.alloc ob).cell? ⟨w.heap.size + 1, 1, none⟩ = some (.int .i64 a1') := fun ob => (((Ext.refl w1).alloc ob).cell 1 (by omega)).trans (by assumption)
    go_wp2_with fail
    refine (validSpan_any a0 a0' _).mono ?_
    rintro e w2 ⟨rfl, hx2⟩
    rw [v1]
    have s2 := hx2.size
    try simp at s2
    have c9 : w2.cell? ⟨w.heap.size, 0, none⟩ = some (.int .i64 a0) := (hx2.cell 0 (by first | (simp; done) | (simp; omega) | omega)).trans (by first | assumption | (simp [go_sem]; done) | exact ((((Ext.refl _).alloc _).cell _ (by omega)).trans (by assumption)) | (simp [go_sem, *]; done))
    have c10 : w2.cell? ⟨w.heap.size, 1, none⟩ = some (.int .i64 a0') := (hx2.cell 1 (by first | (simp; done) | (simp; omega) | omega)).trans (by first | assumption | (simp [go_sem]; done) | exact ((((Ext.refl _).alloc _).cell _ (by omega)).trans (by assumption)) | (simp [go_sem, *]; done))
    have c11 : w2.cell? ⟨w.heap.size + 1, 0, none⟩ = some (.int .i64 a1) := (hx2.cell 0 (by first | (simp; done) | (simp; omega) | omega)).trans (by first | assumption | (simp [go_sem]; done) | exact ((((Ext.refl _).alloc _).cell _ (by omega)).trans (by assumption)) | (simp [go_sem, *]; done))
    have c12 : w2.cell? ⟨w.heap.size + 1, 1, none⟩ = some (.int .i64 a1') := (hx2.cell 1 (by first | (simp; done) | (simp; omega) | omega)).trans (by first | assumption | (simp [go_sem]; done) | exact ((((Ext.refl _).alloc _).cell _ (by omega)).trans (by assumption)) | (simp [go_sem, *]; done))
    clear c1 c2 c3 c4 d5 d6 d7 d8
    have d13 : ∀ ob, (w2.alloc ob).cell? ⟨w.heap.size, 0, none⟩ = some (.int .i64 a0) := fun ob => (((Ext.refl w2).alloc ob).cell 0 (by omega)).trans (by assumption)
    have d14 : ∀ ob, (w2.alloc ob).cell? ⟨w.heap.size, 1, none⟩ = some (.int .i64 a0') := fun ob => (((Ext.refl w2).alloc ob).cell 1 (by omega)).trans (by assumption)
    have d15 : ∀ ob, (w2.alloc ob).cell? ⟨w.heap.size + 1, 0, none⟩ = some (.int .i64 a1) := fun ob => (((Ext.refl w2).alloc ob).cell 0 (by omega)).trans (by assumption)
    have d16 : ∀ ob, (w2.alloc ob).cell? ⟨w.heap.size + 1, 1, none⟩ = some (.int .i64 a1') := fun ob => (((Ext.refl w2).alloc ob).cell 1 (by omega)).trans (by assumption)
    go_wp2_with fail
    refine (validSpan_any a1 a1' _).mono ?_
    rintro e w3 ⟨rfl, hx3⟩
    rw [v2]
    have s3 := hx3.size
    try simp at s3
    have c17 : w3.cell? ⟨w.heap.size, 0, none⟩ = some (.int .i64 a0) := (hx3.cell 0 (by first | (simp; done) | (simp; omega) | omega)).trans (by first | assumption | (simp [go_sem]; done) | exact ((((Ext.refl _).alloc _).cell _ (by omega)).trans (by assumption)) | (simp [go_sem, *]; done))
    have c18 : w3.cell? ⟨w.heap.size, 1, none⟩ = some (.int .i64 a0') := (hx3.cell 1 (by first | (simp; done) | (simp; omega) | omega)).trans (by first | assumption | (simp [go_sem]; done) | exact ((((Ext.refl _).alloc _).cell _ (by omega)).trans (by assumption)) | (simp [go_sem, *]; done))
    have c19 : w3.cell? ⟨w.heap.size + 1, 0, none⟩ = some (.int .i64 a1) := (hx3.cell 0 (by first | (simp; done) | (simp; omega) | omega)).trans (by first | assumption | (simp [go_sem]; done) | exact ((((Ext.refl _).alloc _).cell _ (by omega)).trans (by assumption)) | (simp [go_sem, *]; done))
    have c20 : w3.cell? ⟨w.heap.size + 1, 1, none⟩ = some (.int .i64 a1') := (hx3.cell 1 (by first | (simp; done) | (simp; omega) | omega)).trans (by first | assumption | (simp [go_sem]; done) | exact ((((Ext.refl _).alloc _).cell _ (by omega)).trans (by assumption)) | (simp [go_sem, *]; done))
    clear c9 c10 c11 c12 d13 d14 d15 d16
    have d21 : ∀ ob, (w3.alloc ob).cell? ⟨w.heap.size, 0, none⟩ = some (.int .i64 a0) := fun ob => (((Ext.refl w3).alloc ob).cell 0 (by omega)).trans (by assumption)
    have d22 : ∀ ob, (w3.alloc ob).cell? ⟨w.heap.size, 1, none⟩ = some (.int .i64 a0') := fun ob => (((Ext.refl w3).alloc ob).cell 1 (by omega)).trans (by assumption)
    have d23 : ∀ ob, (w3.alloc ob).cell? ⟨w.heap.size + 1, 0, none⟩ = some (.int .i64 a1) := fun ob => (((Ext.refl w3).alloc ob).cell 0 (by omega)).trans (by assumption)
    have d24 : ∀ ob, (w3.alloc ob).cell? ⟨w.heap.size + 1, 1, none⟩ = some (.int .i64 a1') := fun ob => (((Ext.refl w3).alloc ob).cell 1 (by omega)).trans (by assumption)
    go_wp2
    go_ret
    exact ⟨rfl, by repeat (first | exact Ext.refl _ | assumption | refine Ext.drewN ?_ _ | refine Ext.drew ?_ | refine Ext.alloc ?_ _ | refine Ext.setCell ?_ (by dsimp only; omega) _ | refine Ext.trans ?_ (by assumption))⟩
  have oa := (spB_t v1).1
  have ob := (spB_t v1).2.1
  have oc := (spB_t v2).1
  have od := (spB_t v2).2.1
  have HA := Lib.hid oa
  have HB := Lib.hid ob
  have HC := Lib.hid oc
  have HD := Lib.hid od
  have HV1 := Lib.hid v1
  have HV2 := Lib.hid v2
  clear oa ob oc od
  go_enter Try.func14, Try.ntmps14
  go_wp2_with fail
  refine (wide_any _).mono ?_
  rintro e w1 ⟨rfl, hx1⟩
  have s1 := hx1.size
  try simp at s1
  have c1 : w1.cell? ⟨w.heap.size, 0, none⟩ = some (.int .i64 a0) := (hx1.cell 0 (by first | (simp; done) | (simp; omega) | omega)).trans (by first | assumption | (simp [go_sem]; done) | exact ((((Ext.refl _).alloc _).cell _ (by omega)).trans (by assumption)) | (simp [go_sem, *]; done))
  have c2 : w1.cell? ⟨w.heap.size, 1, none⟩ = some (.int .i64 a0') := (hx1.cell 1 (by first | (simp; done) | (simp; omega) | omega)).trans (by first | assumption | (simp [go_sem]; done) | exact ((((Ext.refl _).alloc _).cell _ (by omega)).trans (by assumption)) | (simp [go_sem, *]; done))
  have c3 : w1.cell? ⟨w.heap.size + 1, 0, none⟩ = some (.int .i64 a1) := (hx1.cell 0 (by first | (simp; done) | (simp; omega) | omega)).trans (by first | assumption | (simp [go_sem]; done) | exact ((((Ext.refl _).alloc _).cell _ (by omega)).trans (by assumption)) | (simp [go_sem, *]; done))
  have c4 : w1.cell? ⟨w.heap.size + 1, 1, none⟩ = some (.int .i64 a1') := (hx1.cell 1 (by first | (simp; done) | (simp; omega) | omega)).trans (by first | assumption | (simp [go_sem]; done) | exact ((((Ext.refl _).alloc _).cell _ (by omega)).trans (by assumption)) | (simp [go_sem, *]; done))
  have d5 : ∀ ob, (w1.alloc ob).cell? ⟨w.heap.size, 0, none⟩ = some (.int .i64 a0) := fun ob => (((Ext.refl w1).alloc ob).cell 0 (by omega)).trans (by assumption)
  have d6 : ∀ ob, (w1.alloc ob).cell? ⟨w.heap.size, 1, none⟩ = some (.int .i64 a0') := fun ob => (((Ext.refl w1).alloc ob).cell 1 (by omega)).trans (by assumption)
  have d7 : ∀ ob, (w1.alloc ob).cell? ⟨w.heap.size + 1, 0, none⟩ = some (.int .i64 a1) := fun ob => (((Ext.refl w1).alloc ob).cell 0 (by omega)).trans (by assumption)
  have d8 : ∀ ob, (w1.alloc ob).cell? ⟨w.heap.size + 1, 1, none⟩ = some (.int .i64 a1') := fun ob => (((Ext.refl w1).alloc ob).cell 1 (by omega)).trans (by assumption)
  go_wp2_with fail
  refine (validSpan_any a0 a0' _).mono ?_
  rintro e w2 ⟨rfl, hx2⟩
  rw [v1]
  have s2 := hx2.size
  try simp at s2
  have c9 : w2.cell? ⟨w.heap.size, 0, none⟩ = some (.int .i64 a0) := (hx2.cell 0 (by first | (simp; done) | (simp; omega) | omega)).trans (by first | assumption | (simp [go_sem]; done) | exact ((((Ext.refl _).alloc _).cell _ (by omega)).trans (by assumption)) | (simp [go_sem, *]; done))
  have c10 : w2.cell? ⟨w.heap.size, 1, none⟩ = some (.int .i64 a0') := (hx2.cell 1 (by first | (simp; done) | (simp; omega) | omega)).trans (by first | assumption | (simp [go_sem]; done) | exact ((((Ext.refl _).alloc _).cell _ (by omega)).trans (by assumption)) | (simp [go_sem, *]; done))
  have c11 : w2.cell? ⟨w.heap.size + 1, 0, none⟩ = some (.int .i64 a1) := (hx2.cell 0 (by first | (simp; done) | (simp; omega) | omega)).trans (by first | assumption | (simp [go_sem]; done) | exact ((((Ext.refl _).alloc _).cell _ (by omega)).trans (by assumption)) | (simp [go_sem, *]; done))
  have c12 : w2.cell? ⟨w.heap.size + 1, 1, none⟩ = some (.int .i64 a1') := (hx2.cell 1 (by first | (simp; done) | (simp; omega) | omega)).trans (by first | assumption | (simp [go_sem]; done) | exact ((((Ext.refl _).alloc _).cell _ (by omega)).trans (by assumption)) | (simp [go_sem, *]; done))
  clear c1 c2 c3 c4 d5 d6 d7 d8
  have d13 : ∀ ob, (w2.alloc ob).cell? ⟨w.heap.size, 0, none⟩ = some (.int .i64 a0) := fun ob => (((Ext.refl w2).alloc ob).cell 0 (by omega)).trans (by assumption)
  have d14 : ∀ ob, (w2.alloc ob).cell? ⟨w.heap.size, 1, none⟩ = some (.int .i64 a0') := fun ob => (((Ext.refl w2).alloc ob).cell 1 (by omega)).trans (by assumption)
  have d15 : ∀ ob, (w2.alloc ob).cell? ⟨w.heap.size + 1, 0, none⟩ = some (.int .i64 a1) := fun ob => (((Ext.refl w2).alloc ob).cell 0 (by omega)).trans (by assumption)
  have d16 : ∀ ob, (w2.alloc ob).cell? ⟨w.heap.size + 1, 1, none⟩ = some (.int .i64 a1') := fun ob => (((Ext.refl w2).alloc ob).cell 1 (by omega)).trans (by assumption)
  go_wp2_with fail
  refine (validSpan_any a1 a1' _).mono ?_
  rintro e w3 ⟨rfl, hx3⟩
  rw [v2]
  have s3 := hx3.size
  try simp at s3
  have c17 : w3.cell? ⟨w.heap.size, 0, none⟩ = some (.int .i64 a0) := (hx3.cell 0 (by first | (simp; done) | (simp; omega) | omega)).trans (by first | assumption | (simp [go_sem]; done) | exact ((((Ext.refl _).alloc _).cell _ (by omega)).trans (by assumption)) | (simp [go_sem, *]; done))
  have c18 : w3.cell? ⟨w.heap.size, 1, none⟩ = some (.int .i64 a0') := (hx3.cell 1 (by first | (simp; done) | (simp; omega) | omega)).trans (by first | assumption | (simp [go_sem]; done) | exact ((((Ext.refl _).alloc _).cell _ (by omega)).trans (by assumption)) | (simp [go_sem, *]; done))
  have c19 : w3.cell? ⟨w.heap.size + 1, 0, none⟩ = some (.int .i64 a1) := (hx3.cell 0 (by first | (simp; done) | (simp; omega) | omega)).trans (by first | assumption | (simp [go_sem]; done) | exact ((((Ext.refl _).alloc _).cell _ (by omega)).trans (by assumption)) | (simp [go_sem, *]; done))
  have c20 : w3.cell? ⟨w.heap.size + 1, 1, none⟩ = some (.int .i64 a1') := (hx3.cell 1 (by first | (simp; done) | (simp; omega) | omega)).trans (by first | assumption | (simp [go_sem]; done) | exact ((((Ext.refl _).alloc _).cell _ (by omega)).trans (by assumption)) | (simp [go_sem, *]; done))
  clear c9 c10 c11 c12 d13 d14 d15 d16
  have d21 : ∀ ob, (w3.alloc ob).cell? ⟨w.heap.size, 0, none⟩ = some (.int .i64 a0) := fun ob => (((Ext.refl w3).alloc ob).cell 0 (by omega)).trans (by assumption)
  have d22 : ∀ ob, (w3.alloc ob).cell? ⟨w.heap.size, 1, none⟩ = some (.int .i64 a0') := fun ob => (((Ext.refl w3).alloc ob).cell 1 (by omega)).trans (by assumption)
  have d23 : ∀ ob, (w3.alloc ob).cell? ⟨w.heap.size + 1, 0, none⟩ = some (.int .i64 a1) := fun ob => (((Ext.refl w3).alloc ob).cell 0 (by omega)).trans (by assumption)
  have d24 : ∀ ob, (w3.alloc ob).cell? ⟨w.heap.size + 1, 1, none⟩ = some (.int .i64 a1') := fun ob => (((Ext.refl w3).alloc ob).cell 1 (by omega)).trans (by assumption)
  clear v1 v2
  obtain ⟨TB, hTB⟩ : ∃ P : World → Prop, ∀ u, P u ↔ (u.cell? ⟨w.heap.size, 0, none⟩ = some (.int .i64 a0) ∧ u.cell? ⟨w.heap.size, 1, none⟩ = some (.int .i64 a0') ∧ u.cell? ⟨w.heap.size + 1, 0, none⟩ = some (.int .i64 a1) ∧ u.cell? ⟨w.heap.size + 1, 1, none⟩ = some (.int .i64 a1') ∧ Ext w3 u) := ⟨_, fun _ => Iff.rfl⟩
  have HTB := Lib.hid hTB
  have hB3 : TB w3 := (hTB _).2 ⟨by assumption, by assumption, by assumption, by assumption, Ext.refl _⟩
  clear hTB
  have HB3 := Lib.hid hB3
  clear hB3
  go_wp2_with fail
  go_loopw [6] (fun i u => ∃ w4 : World, w4 = u ∧ ∃ k : Nat, k ≤ 3 ∧ i = .int .i64 k ∧ TB w4) (fun i _ => 3 - (intOf i).toNat)
  case atStart => exact ⟨_, rfl, 0, Nat.zero_le _, rfl, HB3.out⟩
  case round =>
    obtain ⟨w4, hw4, k, hk, rfl, hR⟩ := hrel
    subst hw4
    obtain ⟨ca0, ca1, cb0, cb1, hx4⟩ := (HTB.out _).1 hR
    have hs4 := hx4.size
    clear c17 c18 c19 c20 d21 d22 d23 d24
    clear hR
    by_cases hlt : k < 3
    · have HOP := Lib.hid (show (k : Int) = 0 ∨ (k : Int) = 1 ∨ (k : Int) = 2 by omega)
      have hk3 : decide ((k : Int) < 3) = true := by (simp; omega)
      have ca0x : ∀ oe, (w4.alloc oe).cell? ⟨w.heap.size, 0, none⟩ = some (.int .i64 a0) := fun oe => (((Ext.refl w4).alloc oe).cell 0 (by omega)).trans (by assumption)
      have ca0y : ∀ oe oc, ((w4.alloc oe).alloc oc).cell? ⟨w.heap.size, 0, none⟩ = some (.int .i64 a0) := fun oe oc => ((((Ext.refl w4).alloc oe).alloc oc).cell 0 (by omega)).trans (by assumption)
      have ca0z : ∀ oe oc od, (((w4.alloc oe).alloc oc).alloc od).cell? ⟨w.heap.size, 0, none⟩ = some (.int .i64 a0) := fun oe oc od => (((((Ext.refl w4).alloc oe).alloc oc).alloc od).cell 0 (by omega)).trans (by assumption)
      have ca1x : ∀ oe, (w4.alloc oe).cell? ⟨w.heap.size, 1, none⟩ = some (.int .i64 a0') := fun oe => (((Ext.refl w4).alloc oe).cell 1 (by omega)).trans (by assumption)
      have ca1y : ∀ oe oc, ((w4.alloc oe).alloc oc).cell? ⟨w.heap.size, 1, none⟩ = some (.int .i64 a0') := fun oe oc => ((((Ext.refl w4).alloc oe).alloc oc).cell 1 (by omega)).trans (by assumption)
      have ca1z : ∀ oe oc od, (((w4.alloc oe).alloc oc).alloc od).cell? ⟨w.heap.size, 1, none⟩ = some (.int .i64 a0') := fun oe oc od => (((((Ext.refl w4).alloc oe).alloc oc).alloc od).cell 1 (by omega)).trans (by assumption)
      have cb0x : ∀ oe, (w4.alloc oe).cell? ⟨w.heap.size + 1, 0, none⟩ = some (.int .i64 a1) := fun oe => (((Ext.refl w4).alloc oe).cell 0 (by omega)).trans (by assumption)
      have cb0y : ∀ oe oc, ((w4.alloc oe).alloc oc).cell? ⟨w.heap.size + 1, 0, none⟩ = some (.int .i64 a1) := fun oe oc => ((((Ext.refl w4).alloc oe).alloc oc).cell 0 (by omega)).trans (by assumption)
      have cb0z : ∀ oe oc od, (((w4.alloc oe).alloc oc).alloc od).cell? ⟨w.heap.size + 1, 0, none⟩ = some (.int .i64 a1) := fun oe oc od => (((((Ext.refl w4).alloc oe).alloc oc).alloc od).cell 0 (by omega)).trans (by assumption)
      have cb1x : ∀ oe, (w4.alloc oe).cell? ⟨w.heap.size + 1, 1, none⟩ = some (.int .i64 a1') := fun oe => (((Ext.refl w4).alloc oe).cell 1 (by omega)).trans (by assumption)
      have cb1y : ∀ oe oc, ((w4.alloc oe).alloc oc).cell? ⟨w.heap.size + 1, 1, none⟩ = some (.int .i64 a1') := fun oe oc => ((((Ext.refl w4).alloc oe).alloc oc).cell 1 (by omega)).trans (by assumption)
      have cb1z : ∀ oe oc od, (((w4.alloc oe).alloc oc).alloc od).cell? ⟨w.heap.size + 1, 1, none⟩ = some (.int .i64 a1') := fun oe oc od => (((((Ext.refl w4).alloc oe).alloc oc).alloc od).cell 1 (by omega)).trans (by assumption)
      go_wp2_with fail
      go_loopw [10] (fun i u => ∃ w5 : World, w5 = u ∧ ∃ j : Nat, j ≤ 4 ∧ i = .int .i64 j ∧ TZ (k : Int) a0 a0' a1 a1' w4 (w.heap.size) (w.heap.size + 1) (w4.heap.size + 1) (w4.heap.size + 1 + 1) (w4.heap.size) j w5) (fun i _ => 4 - (intOf i).toNat)
      case atStart =>
        refine ⟨_, rfl, 0, Nat.zero_le _, rfl, ⟨{ a0 := by (first | (simp [go_sem]; done) | (simp [go_sem, zL, zH, zN, zB]; done) | (simp [go_sem, *]; done)), a1 := by (first | (simp [go_sem]; done) | (simp [go_sem, zL, zH, zN, zB]; done) | (simp [go_sem, *]; done)), b0 := by (first | (simp [go_sem]; done) | (simp [go_sem, zL, zH, zN, zB]; done) | (simp [go_sem, *]; done)), b1 := by (first | (simp [go_sem]; done) | (simp [go_sem, zL, zH, zN, zB]; done) | (simp [go_sem, *]; done)), x0 := by (first | (simp [go_sem]; done) | (simp [go_sem, zL, zH, zN, zB]; done) | (simp [go_sem, *]; done)), x1 := by (first | (simp [go_sem]; done) | (simp [go_sem, zL, zH, zN, zB]; done) | (simp [go_sem, *]; done)), x2 := by (first | (simp [go_sem]; done) | (simp [go_sem, zL, zH, zN, zB]; done) | (simp [go_sem, *]; done)), x3 := by (first | (simp [go_sem]; done) | (simp [go_sem, zL, zH, zN, zB]; done) | (simp [go_sem, *]; done)), y0 := by (first | (simp [go_sem]; done) | (simp [go_sem, zL, zH, zN, zB]; done) | (simp [go_sem, *]; done)), y1 := by (first | (simp [go_sem]; done) | (simp [go_sem, zL, zH, zN, zB]; done) | (simp [go_sem, *]; done)), y2 := by (first | (simp [go_sem]; done) | (simp [go_sem, zL, zH, zN, zB]; done) | (simp [go_sem, *]; done)), y3 := by (first | (simp [go_sem]; done) | (simp [go_sem, zL, zH, zN, zB]; done) | (simp [go_sem, *]; done)) }, { c0 := by (first | (simp [go_sem]; done) | (simp [go_sem, zL, zH, zN, zB]; done) | (simp [go_sem, *]; done)), c1 := by (first | (simp [go_sem]; done) | (simp [go_sem, zL, zH, zN, zB]; done) | (simp [go_sem, *]; done)), c2 := by (first | (simp [go_sem]; done) | (simp [go_sem, zL, zH, zN, zB]; done) | (simp [go_sem, *]; done)), c3 := by (first | (simp [go_sem]; done) | (simp [go_sem, zL, zH, zN, zB]; done) | (simp [go_sem, *]; done)), f0 := by (first | (simp [go_sem]; done) | (simp [go_sem, zL, zH, zN, zB]; done) | (simp [go_sem, *]; done)), f1 := by (first | (simp [go_sem]; done) | (simp [go_sem, zL, zH, zN, zB]; done) | (simp [go_sem, *]; done)), f2 := by (first | (simp [go_sem]; done) | (simp [go_sem, zL, zH, zN, zB]; done) | (simp [go_sem, *]; done)), f3 := by (first | (simp [go_sem]; done) | (simp [go_sem, zL, zH, zN, zB]; done) | (simp [go_sem, *]; done)), oc := fun _ _ _ => rfl, of := fun _ _ => rfl, sz := rfl, ext := by repeat (first | exact Ext.refl _ | assumption | refine Ext.drewN ?_ _ | refine Ext.drew ?_ | refine Ext.alloc ?_ _ | refine Ext.setCell ?_ (by dsimp only; omega) _ | refine Ext.trans ?_ (by assumption)) }⟩⟩
      case round =>
        obtain ⟨w5, hw5, j, hj, rfl, hR⟩ := hrel
        subst hw5
        clear ca0 ca0x ca0y ca0z ca1 ca1x ca1y ca1z cb0 cb0x cb0y cb0z cb1 cb1x cb1y cb1z
        by_cases hlj : j < 4
        · obtain ⟨hx, hy⟩ := hR.t.x hlj
          obtain ⟨xv, hxv⟩ : ∃ x, xs4 a0 a0' j = x := ⟨_, rfl⟩
          obtain ⟨yv, hyv⟩ : ∃ x, ys4 a1 a1' j = x := ⟨_, rfl⟩
          have ox : okB xv = true := by rw [← hxv]; unfold xs4; split; exact HA.out; split; exact HA.out; exact HB.out
          have oy : okB yv = true := by rw [← hyv]; unfold ys4; split; exact HC.out; split; exact HD.out; split; exact HC.out; exact HD.out
          have hz : zs4 (k : Int) a0 a0' a1 a1' j = opz (k : Int) xv yv := by rw [zs4, hxv, hyv]
          rw [hxv] at hx
          rw [hyv] at hy
          have AP := fun W => apply_any (k : Int) xv yv W HOP.out ox oy
          obtain ⟨z, hzz⟩ : ∃ z, opz (k : Int) xv yv = z := ⟨_, rfl⟩
          rw [hzz] at hz
          simp only [hzz] at AP
          have tb := z_bd (zs4 (k : Int) a0 a0' a1 a1') j
          have tb0 := tb.1.1
          have tb1 := tb.1.2
          have tb2 := tb.2.1
          have tb3 := tb.2.2
          have HZ := Lib.hid hz
          have HAP := Lib.hid AP
          have HR := Lib.hid hR
          clear hz hzz AP hR hxv hyv ox oy tb
          rcases Bool.eq_false_or_eq_true (okB z) with hc | hc
          · have AQ : ∀ W, Calls Try.prog 71 #[.int .i64 (k : Int), .int .i64 xv, .int .i64 yv] W fun e w' => e = .returned (.tuple #[.int .i64 z, .int .i64 0]) ∧ w' = W := fun W => (HAP.out W).mono (by rintro e w' ⟨rfl, rfl⟩; exact ⟨by simp [fitV, fitE, hc], rfl⟩)
            have HAQ := Lib.hid AQ
            have HCC := Lib.hid hc
            clear AQ hc HAP
            go_wp2_with fail
            go_quiet ((go_at_call 71; exact Calls.quiet_of_same (HAQ.out _)))
            clear hx hy
            go_wp2_with fail
            refine (meets_ok w4 _ (w4.heap.size) _ _ _ _ _ (HR.out.f.later ((Ext.refl _).drewN _)) (by omega) tb0 (by omega)).mono ?_
            rintro e w6 ⟨rfl, hf6⟩
            have hT6 := (HR.out.t.later ((Ext.refl w5).drewN _)).meet hf6 (by omega) (by omega) (by omega) (by omega)
            have HF6 := Lib.hid hf6
            have HT6 := Lib.hid hT6
            clear hf6 hT6
            go_wp2_with fail
            go_roundw
            case rel => exact ⟨_, rfl, j + 1, by omega, by go_num, TZ.step HT6.out HZ.out HCC.out HF6.out.here⟩
            case measure => simp [intOf]; omega
          · have AQ : ∀ W, Calls Try.prog 71 #[.int .i64 (k : Int), .int .i64 xv, .int .i64 yv] W fun e w' => e = .returned (.tuple #[.int .i64 0, .int .i64 3]) ∧ w' = W := fun W => (HAP.out W).mono (by rintro e w' ⟨rfl, rfl⟩; exact ⟨by simp [fitV, fitE, hc], rfl⟩)
            have HAQ := Lib.hid AQ
            have HCC := Lib.hid hc
            clear AQ hc HAP
            go_wp2_with fail
            go_quiet ((go_at_call 71; exact Calls.quiet_of_same (HAQ.out _)))
            clear hx hy
            go_wp2_with fail
            refine (meets_bad w4 _ (w4.heap.size) _ _ _ _ _ _ (HR.out.f.later ((Ext.refl _).drewN _)) (by omega) tb2 (by omega) (by omega)).mono ?_
            rintro e w6 ⟨rfl, hf6⟩
            have hT6 := (HR.out.t.later ((Ext.refl w5).drewN _)).meet hf6 (by omega) (by omega) (by omega) (by omega)
            have HF6 := Lib.hid hf6
            have HT6 := Lib.hid hT6
            clear hf6 hT6
            go_wp2_with fail
            go_roundw
            case rel => exact ⟨_, rfl, j + 1, by omega, by go_num, TZ.miss HT6.out HZ.out HCC.out HF6.out.here⟩
            case measure => simp [intOf]; omega
        · obtain rfl : j = 4 := by omega
          have hx5 : Ext w4 w5 := hR.f.ext
          have s5 := hx5.size
          have L5 := World.block_lt_of_cell? _ _ hR.f.c0
          simp only [] at L5
          obtain ⟨e1, e2⟩ := zs4_mn (k : Int) a0 a0' a1 a1'
          have hT := tight4 (zs4 (k : Int) a0 a0' a1 a1') _ _ e1 e2
          clear e1 e2
          have HR := Lib.hid hR
          clear hR
          obtain ⟨zn, hzn⟩ : ∃ x, zN (zs4 (k : Int) a0 a0' a1 a1') 4 = x := ⟨_, rfl⟩
          obtain ⟨zb, hzb⟩ : ∃ x, zB (zs4 (k : Int) a0 a0' a1 a1') 4 = x := ⟨_, rfl⟩
          obtain ⟨zl, hzl⟩ : ∃ x, zL (zs4 (k : Int) a0 a0' a1 a1') 4 = x := ⟨_, rfl⟩
          obtain ⟨zh, hzh⟩ : ∃ x, zH (zs4 (k : Int) a0 a0' a1 a1') 4 = x := ⟨_, rfl⟩
          rw [hzn, hzb, hzl, hzh] at hT
          rcases hT with ⟨h1, rfl⟩ | ⟨h1, ⟨h2, h3⟩ | ⟨h2, rfl, h3, h4⟩⟩
          · have b0 : w5.cell? ⟨w.heap.size, 0, none⟩ = some (.int .i64 a0) := HR.out.t.a0
            have b1 : w5.cell? ⟨w.heap.size, 1, none⟩ = some (.int .i64 a0') := HR.out.t.a1
            have b2 : w5.cell? ⟨w.heap.size + 1, 0, none⟩ = some (.int .i64 a1) := HR.out.t.b0
            have b3 : w5.cell? ⟨w.heap.size + 1, 1, none⟩ = some (.int .i64 a1') := HR.out.t.b1
            have g0 : w5.cell? ⟨w4.heap.size, 0, none⟩ = some (.int .i64 (zl)) := by have := HR.out.f.c0; rw [hzl] at this; exact this
            have g1 : w5.cell? ⟨w4.heap.size, 1, none⟩ = some (.int .i64 (zh)) := by have := HR.out.f.c1; rw [hzh] at this; exact this
            have g2 : w5.cell? ⟨w4.heap.size, 2, none⟩ = some (.int .i64 (0)) := by have := HR.out.f.c2; rw [hzn] at this; exact this
            have g3 : w5.cell? ⟨w4.heap.size, 3, none⟩ = some (.int .i64 (zb)) := by have := HR.out.f.c3; rw [hzb] at this; exact this
            clear hzl hzh hzn hzb HR
            have H1 := Lib.hid h1
            clear h1
            go_wp2_with fail
            refine (spread_any (k : Int) a0 a0' a1 a1' _ HOP.out HV1.out HV2.out).mono ?_
            rintro e w6 ⟨rfl, hx6⟩
            rw [H1.out]
            have s6 := hx6.size
            try simp at s6
            have c901 : w6.cell? ⟨w.heap.size, 0, none⟩ = some (.int .i64 a0) := (hx6.cell 0 (by first | (simp; done) | (simp; omega) | omega)).trans (by first | assumption | (simp [go_sem]; done) | exact ((((Ext.refl _).alloc _).cell _ (by omega)).trans (by assumption)) | (simp [go_sem, *]; done))
            have c902 : w6.cell? ⟨w.heap.size, 1, none⟩ = some (.int .i64 a0') := (hx6.cell 1 (by first | (simp; done) | (simp; omega) | omega)).trans (by first | assumption | (simp [go_sem]; done) | exact ((((Ext.refl _).alloc _).cell _ (by omega)).trans (by assumption)) | (simp [go_sem, *]; done))
            have c903 : w6.cell? ⟨w.heap.size + 1, 0, none⟩ = some (.int .i64 a1) := (hx6.cell 0 (by first | (simp; done) | (simp; omega) | omega)).trans (by first | assumption | (simp [go_sem]; done) | exact ((((Ext.refl _).alloc _).cell _ (by omega)).trans (by assumption)) | (simp [go_sem, *]; done))
            have c904 : w6.cell? ⟨w.heap.size + 1, 1, none⟩ = some (.int .i64 a1') := (hx6.cell 1 (by first | (simp; done) | (simp; omega) | omega)).trans (by first | assumption | (simp [go_sem]; done) | exact ((((Ext.refl _).alloc _).cell _ (by omega)).trans (by assumption)) | (simp [go_sem, *]; done))
            have c905 : w6.cell? ⟨w4.heap.size, 0, none⟩ = some (.int .i64 (zl)) := (hx6.cell 0 (by first | (simp; done) | (simp; omega) | omega)).trans (by first | assumption | (simp [go_sem]; done) | exact ((((Ext.refl _).alloc _).cell _ (by omega)).trans (by assumption)) | (simp [go_sem, *]; done))
            have c906 : w6.cell? ⟨w4.heap.size, 1, none⟩ = some (.int .i64 (zh)) := (hx6.cell 1 (by first | (simp; done) | (simp; omega) | omega)).trans (by first | assumption | (simp [go_sem]; done) | exact ((((Ext.refl _).alloc _).cell _ (by omega)).trans (by assumption)) | (simp [go_sem, *]; done))
            have c907 : w6.cell? ⟨w4.heap.size, 2, none⟩ = some (.int .i64 (0)) := (hx6.cell 2 (by first | (simp; done) | (simp; omega) | omega)).trans (by first | assumption | (simp [go_sem]; done) | exact ((((Ext.refl _).alloc _).cell _ (by omega)).trans (by assumption)) | (simp [go_sem, *]; done))
            have c908 : w6.cell? ⟨w4.heap.size, 3, none⟩ = some (.int .i64 (zb)) := (hx6.cell 3 (by first | (simp; done) | (simp; omega) | omega)).trans (by first | assumption | (simp [go_sem]; done) | exact ((((Ext.refl _).alloc _).cell _ (by omega)).trans (by assumption)) | (simp [go_sem, *]; done))
            clear b0 b1 b2 b3 g0 g1 g2 g3
            have d909 : ∀ ob, (w6.alloc ob).cell? ⟨w.heap.size, 0, none⟩ = some (.int .i64 a0) := fun ob => (((Ext.refl w6).alloc ob).cell 0 (by omega)).trans (by assumption)
            have d910 : ∀ ob, (w6.alloc ob).cell? ⟨w.heap.size, 1, none⟩ = some (.int .i64 a0') := fun ob => (((Ext.refl w6).alloc ob).cell 1 (by omega)).trans (by assumption)
            have d911 : ∀ ob, (w6.alloc ob).cell? ⟨w.heap.size + 1, 0, none⟩ = some (.int .i64 a1) := fun ob => (((Ext.refl w6).alloc ob).cell 0 (by omega)).trans (by assumption)
            have d912 : ∀ ob, (w6.alloc ob).cell? ⟨w.heap.size + 1, 1, none⟩ = some (.int .i64 a1') := fun ob => (((Ext.refl w6).alloc ob).cell 1 (by omega)).trans (by assumption)
            have d913 : ∀ ob, (w6.alloc ob).cell? ⟨w4.heap.size, 0, none⟩ = some (.int .i64 (zl)) := fun ob => (((Ext.refl w6).alloc ob).cell 0 (by omega)).trans (by assumption)
            have d914 : ∀ ob, (w6.alloc ob).cell? ⟨w4.heap.size, 1, none⟩ = some (.int .i64 (zh)) := fun ob => (((Ext.refl w6).alloc ob).cell 1 (by omega)).trans (by assumption)
            have d915 : ∀ ob, (w6.alloc ob).cell? ⟨w4.heap.size, 2, none⟩ = some (.int .i64 (0)) := fun ob => (((Ext.refl w6).alloc ob).cell 2 (by omega)).trans (by assumption)
            have d916 : ∀ ob, (w6.alloc ob).cell? ⟨w4.heap.size, 3, none⟩ = some (.int .i64 (zb)) := fun ob => (((Ext.refl w6).alloc ob).cell 3 (by omega)).trans (by assumption)
            go_wp2_with fail
            go_roundw
            case rel => exact ⟨_, rfl, k + 1, by omega, by go_num, (HTB.out _).2 ⟨by (first | assumption | (simp [go_sem]; done) | (simp [go_sem, *]; done)), by (first | assumption | (simp [go_sem]; done) | (simp [go_sem, *]; done)), by (first | assumption | (simp [go_sem]; done) | (simp [go_sem, *]; done)), by (first | assumption | (simp [go_sem]; done) | (simp [go_sem, *]; done)), by repeat (first | exact Ext.refl _ | assumption | refine Ext.drewN ?_ _ | refine Ext.drew ?_ | refine Ext.alloc ?_ _ | refine Ext.setCell ?_ (by dsimp only; omega) _ | refine Ext.trans ?_ (by assumption))⟩⟩
            case measure => simp [intOf]; omega
          · have b0 : w5.cell? ⟨w.heap.size, 0, none⟩ = some (.int .i64 a0) := HR.out.t.a0
            have b1 : w5.cell? ⟨w.heap.size, 1, none⟩ = some (.int .i64 a0') := HR.out.t.a1
            have b2 : w5.cell? ⟨w.heap.size + 1, 0, none⟩ = some (.int .i64 a1) := HR.out.t.b0
            have b3 : w5.cell? ⟨w.heap.size + 1, 1, none⟩ = some (.int .i64 a1') := HR.out.t.b1
            have g0 : w5.cell? ⟨w4.heap.size, 0, none⟩ = some (.int .i64 (zl)) := by have := HR.out.f.c0; rw [hzl] at this; exact this
            have g1 : w5.cell? ⟨w4.heap.size, 1, none⟩ = some (.int .i64 (zh)) := by have := HR.out.f.c1; rw [hzh] at this; exact this
            have g2 : w5.cell? ⟨w4.heap.size, 2, none⟩ = some (.int .i64 (zn)) := by have := HR.out.f.c2; rw [hzn] at this; exact this
            have g3 : w5.cell? ⟨w4.heap.size, 3, none⟩ = some (.int .i64 (zb)) := by have := HR.out.f.c3; rw [hzb] at this; exact this
            clear hzl hzh hzn hzb HR
            have y4 : decide (0 < zb) = true := by simpa using h3
            clear h3
            have H1 := Lib.hid h1
            clear h1
            have H2 := Lib.hid h2
            clear h2
            go_wp2_with fail
            refine (spread_any (k : Int) a0 a0' a1 a1' _ HOP.out HV1.out HV2.out).mono ?_
            rintro e w6 ⟨rfl, hx6⟩
            rw [H1.out, H2.out]
            have s6 := hx6.size
            try simp at s6
            have c901 : w6.cell? ⟨w.heap.size, 0, none⟩ = some (.int .i64 a0) := (hx6.cell 0 (by first | (simp; done) | (simp; omega) | omega)).trans (by first | assumption | (simp [go_sem]; done) | exact ((((Ext.refl _).alloc _).cell _ (by omega)).trans (by assumption)) | (simp [go_sem, *]; done))
            have c902 : w6.cell? ⟨w.heap.size, 1, none⟩ = some (.int .i64 a0') := (hx6.cell 1 (by first | (simp; done) | (simp; omega) | omega)).trans (by first | assumption | (simp [go_sem]; done) | exact ((((Ext.refl _).alloc _).cell _ (by omega)).trans (by assumption)) | (simp [go_sem, *]; done))
            have c903 : w6.cell? ⟨w.heap.size + 1, 0, none⟩ = some (.int .i64 a1) := (hx6.cell 0 (by first | (simp; done) | (simp; omega) | omega)).trans (by first | assumption | (simp [go_sem]; done) | exact ((((Ext.refl _).alloc _).cell _ (by omega)).trans (by assumption)) | (simp [go_sem, *]; done))
            have c904 : w6.cell? ⟨w.heap.size + 1, 1, none⟩ = some (.int .i64 a1') := (hx6.cell 1 (by first | (simp; done) | (simp; omega) | omega)).trans (by first | assumption | (simp [go_sem]; done) | exact ((((Ext.refl _).alloc _).cell _ (by omega)).trans (by assumption)) | (simp [go_sem, *]; done))
            have c905 : w6.cell? ⟨w4.heap.size, 0, none⟩ = some (.int .i64 (zl)) := (hx6.cell 0 (by first | (simp; done) | (simp; omega) | omega)).trans (by first | assumption | (simp [go_sem]; done) | exact ((((Ext.refl _).alloc _).cell _ (by omega)).trans (by assumption)) | (simp [go_sem, *]; done))
            have c906 : w6.cell? ⟨w4.heap.size, 1, none⟩ = some (.int .i64 (zh)) := (hx6.cell 1 (by first | (simp; done) | (simp; omega) | omega)).trans (by first | assumption | (simp [go_sem]; done) | exact ((((Ext.refl _).alloc _).cell _ (by omega)).trans (by assumption)) | (simp [go_sem, *]; done))
            have c907 : w6.cell? ⟨w4.heap.size, 2, none⟩ = some (.int .i64 (zn)) := (hx6.cell 2 (by first | (simp; done) | (simp; omega) | omega)).trans (by first | assumption | (simp [go_sem]; done) | exact ((((Ext.refl _).alloc _).cell _ (by omega)).trans (by assumption)) | (simp [go_sem, *]; done))
            have c908 : w6.cell? ⟨w4.heap.size, 3, none⟩ = some (.int .i64 (zb)) := (hx6.cell 3 (by first | (simp; done) | (simp; omega) | omega)).trans (by first | assumption | (simp [go_sem]; done) | exact ((((Ext.refl _).alloc _).cell _ (by omega)).trans (by assumption)) | (simp [go_sem, *]; done))
            clear b0 b1 b2 b3 g0 g1 g2 g3
            have d909 : ∀ ob, (w6.alloc ob).cell? ⟨w.heap.size, 0, none⟩ = some (.int .i64 a0) := fun ob => (((Ext.refl w6).alloc ob).cell 0 (by omega)).trans (by assumption)
            have d910 : ∀ ob, (w6.alloc ob).cell? ⟨w.heap.size, 1, none⟩ = some (.int .i64 a0') := fun ob => (((Ext.refl w6).alloc ob).cell 1 (by omega)).trans (by assumption)
            have d911 : ∀ ob, (w6.alloc ob).cell? ⟨w.heap.size + 1, 0, none⟩ = some (.int .i64 a1) := fun ob => (((Ext.refl w6).alloc ob).cell 0 (by omega)).trans (by assumption)
            have d912 : ∀ ob, (w6.alloc ob).cell? ⟨w.heap.size + 1, 1, none⟩ = some (.int .i64 a1') := fun ob => (((Ext.refl w6).alloc ob).cell 1 (by omega)).trans (by assumption)
            have d913 : ∀ ob, (w6.alloc ob).cell? ⟨w4.heap.size, 0, none⟩ = some (.int .i64 (zl)) := fun ob => (((Ext.refl w6).alloc ob).cell 0 (by omega)).trans (by assumption)
            have d914 : ∀ ob, (w6.alloc ob).cell? ⟨w4.heap.size, 1, none⟩ = some (.int .i64 (zh)) := fun ob => (((Ext.refl w6).alloc ob).cell 1 (by omega)).trans (by assumption)
            have d915 : ∀ ob, (w6.alloc ob).cell? ⟨w4.heap.size, 2, none⟩ = some (.int .i64 (zn)) := fun ob => (((Ext.refl w6).alloc ob).cell 2 (by omega)).trans (by assumption)
            have d916 : ∀ ob, (w6.alloc ob).cell? ⟨w4.heap.size, 3, none⟩ = some (.int .i64 (zb)) := fun ob => (((Ext.refl w6).alloc ob).cell 3 (by omega)).trans (by assumption)
            go_wp2_with fail
            go_roundw
            case rel => exact ⟨_, rfl, k + 1, by omega, by go_num, (HTB.out _).2 ⟨by (first | assumption | (simp [go_sem]; done) | (simp [go_sem, *]; done)), by (first | assumption | (simp [go_sem]; done) | (simp [go_sem, *]; done)), by (first | assumption | (simp [go_sem]; done) | (simp [go_sem, *]; done)), by (first | assumption | (simp [go_sem]; done) | (simp [go_sem, *]; done)), by repeat (first | exact Ext.refl _ | assumption | refine Ext.drewN ?_ _ | refine Ext.drew ?_ | refine Ext.alloc ?_ _ | refine Ext.setCell ?_ (by dsimp only; omega) _ | refine Ext.trans ?_ (by assumption))⟩⟩
            case measure => simp [intOf]; omega
          · have b0 : w5.cell? ⟨w.heap.size, 0, none⟩ = some (.int .i64 a0) := HR.out.t.a0
            have b1 : w5.cell? ⟨w.heap.size, 1, none⟩ = some (.int .i64 a0') := HR.out.t.a1
            have b2 : w5.cell? ⟨w.heap.size + 1, 0, none⟩ = some (.int .i64 a1) := HR.out.t.b0
            have b3 : w5.cell? ⟨w.heap.size + 1, 1, none⟩ = some (.int .i64 a1') := HR.out.t.b1
            have g0 : w5.cell? ⟨w4.heap.size, 0, none⟩ = some (.int .i64 (zl)) := by have := HR.out.f.c0; rw [hzl] at this; exact this
            have g1 : w5.cell? ⟨w4.heap.size, 1, none⟩ = some (.int .i64 (zh)) := by have := HR.out.f.c1; rw [hzh] at this; exact this
            have g2 : w5.cell? ⟨w4.heap.size, 2, none⟩ = some (.int .i64 (zn)) := by have := HR.out.f.c2; rw [hzn] at this; exact this
            have g3 : w5.cell? ⟨w4.heap.size, 3, none⟩ = some (.int .i64 (0)) := by have := HR.out.f.c3; rw [hzb] at this; exact this
            clear hzl hzh hzn hzb HR
            have H1 := Lib.hid h1
            clear h1
            have H2 := Lib.hid h2
            clear h2
            have H3 := Lib.hid h3
            clear h3
            have H4 := Lib.hid h4
            clear h4
            go_wp2_with fail
            refine (spread_any (k : Int) a0 a0' a1 a1' _ HOP.out HV1.out HV2.out).mono ?_
            rintro e w6 ⟨rfl, hx6⟩
            rw [H1.out, H2.out, ← H3.out, ← H4.out]
            have s6 := hx6.size
            try simp at s6
            have c901 : w6.cell? ⟨w.heap.size, 0, none⟩ = some (.int .i64 a0) := (hx6.cell 0 (by first | (simp; done) | (simp; omega) | omega)).trans (by first | assumption | (simp [go_sem]; done) | exact ((((Ext.refl _).alloc _).cell _ (by omega)).trans (by assumption)) | (simp [go_sem, *]; done))
            have c902 : w6.cell? ⟨w.heap.size, 1, none⟩ = some (.int .i64 a0') := (hx6.cell 1 (by first | (simp; done) | (simp; omega) | omega)).trans (by first | assumption | (simp [go_sem]; done) | exact ((((Ext.refl _).alloc _).cell _ (by omega)).trans (by assumption)) | (simp [go_sem, *]; done))
            have c903 : w6.cell? ⟨w.heap.size + 1, 0, none⟩ = some (.int .i64 a1) := (hx6.cell 0 (by first | (simp; done) | (simp; omega) | omega)).trans (by first | assumption | (simp [go_sem]; done) | exact ((((Ext.refl _).alloc _).cell _ (by omega)).trans (by assumption)) | (simp [go_sem, *]; done))
            have c904 : w6.cell? ⟨w.heap.size + 1, 1, none⟩ = some (.int .i64 a1') := (hx6.cell 1 (by first | (simp; done) | (simp; omega) | omega)).trans (by first | assumption | (simp [go_sem]; done) | exact ((((Ext.refl _).alloc _).cell _ (by omega)).trans (by assumption)) | (simp [go_sem, *]; done))
            have c905 : w6.cell? ⟨w4.heap.size, 0, none⟩ = some (.int .i64 (zl)) := (hx6.cell 0 (by first | (simp; done) | (simp; omega) | omega)).trans (by first | assumption | (simp [go_sem]; done) | exact ((((Ext.refl _).alloc _).cell _ (by omega)).trans (by assumption)) | (simp [go_sem, *]; done))
            have c906 : w6.cell? ⟨w4.heap.size, 1, none⟩ = some (.int .i64 (zh)) := (hx6.cell 1 (by first | (simp; done) | (simp; omega) | omega)).trans (by first | assumption | (simp [go_sem]; done) | exact ((((Ext.refl _).alloc _).cell _ (by omega)).trans (by assumption)) | (simp [go_sem, *]; done))
            have c907 : w6.cell? ⟨w4.heap.size, 2, none⟩ = some (.int .i64 (zn)) := (hx6.cell 2 (by first | (simp; done) | (simp; omega) | omega)).trans (by first | assumption | (simp [go_sem]; done) | exact ((((Ext.refl _).alloc _).cell _ (by omega)).trans (by assumption)) | (simp [go_sem, *]; done))
            have c908 : w6.cell? ⟨w4.heap.size, 3, none⟩ = some (.int .i64 (0)) := (hx6.cell 3 (by first | (simp; done) | (simp; omega) | omega)).trans (by first | assumption | (simp [go_sem]; done) | exact ((((Ext.refl _).alloc _).cell _ (by omega)).trans (by assumption)) | (simp [go_sem, *]; done))
            clear b0 b1 b2 b3 g0 g1 g2 g3
            have d909 : ∀ ob, (w6.alloc ob).cell? ⟨w.heap.size, 0, none⟩ = some (.int .i64 a0) := fun ob => (((Ext.refl w6).alloc ob).cell 0 (by omega)).trans (by assumption)
            have d910 : ∀ ob, (w6.alloc ob).cell? ⟨w.heap.size, 1, none⟩ = some (.int .i64 a0') := fun ob => (((Ext.refl w6).alloc ob).cell 1 (by omega)).trans (by assumption)
            have d911 : ∀ ob, (w6.alloc ob).cell? ⟨w.heap.size + 1, 0, none⟩ = some (.int .i64 a1) := fun ob => (((Ext.refl w6).alloc ob).cell 0 (by omega)).trans (by assumption)
            have d912 : ∀ ob, (w6.alloc ob).cell? ⟨w.heap.size + 1, 1, none⟩ = some (.int .i64 a1') := fun ob => (((Ext.refl w6).alloc ob).cell 1 (by omega)).trans (by assumption)
            have d913 : ∀ ob, (w6.alloc ob).cell? ⟨w4.heap.size, 0, none⟩ = some (.int .i64 (zl)) := fun ob => (((Ext.refl w6).alloc ob).cell 0 (by omega)).trans (by assumption)
            have d914 : ∀ ob, (w6.alloc ob).cell? ⟨w4.heap.size, 1, none⟩ = some (.int .i64 (zh)) := fun ob => (((Ext.refl w6).alloc ob).cell 1 (by omega)).trans (by assumption)
            have d915 : ∀ ob, (w6.alloc ob).cell? ⟨w4.heap.size, 2, none⟩ = some (.int .i64 (zn)) := fun ob => (((Ext.refl w6).alloc ob).cell 2 (by omega)).trans (by assumption)
            have d916 : ∀ ob, (w6.alloc ob).cell? ⟨w4.heap.size, 3, none⟩ = some (.int .i64 (0)) := fun ob => (((Ext.refl w6).alloc ob).cell 3 (by omega)).trans (by assumption)
            go_wp2_with fail
            go_roundw
            case rel => exact ⟨_, rfl, k + 1, by omega, by go_num, (HTB.out _).2 ⟨by (first | assumption | (simp [go_sem]; done) | (simp [go_sem, *]; done)), by (first | assumption | (simp [go_sem]; done) | (simp [go_sem, *]; done)), by (first | assumption | (simp [go_sem]; done) | (simp [go_sem, *]; done)), by (first | assumption | (simp [go_sem]; done) | (simp [go_sem, *]; done)), by repeat (first | exact Ext.refl _ | assumption | refine Ext.drewN ?_ _ | refine Ext.drew ?_ | refine Ext.alloc ?_ _ | refine Ext.setCell ?_ (by dsimp only; omega) _ | refine Ext.trans ?_ (by assumption))⟩⟩
            case measure => simp [intOf]; omega
    · obtain rfl : k = 3 := by omega
      go_wp2
      go_ret
      exact ⟨rfl, by repeat (first | exact Ext.refl _ | assumption | refine Ext.drewN ?_ _ | refine Ext.drew ?_ | refine Ext.alloc ?_ _ | refine Ext.setCell ?_ (by dsimp only; omega) _ | refine Ext.trans ?_ (by assumption))⟩
end Go.Proofs.Ytmcajdfbkhaplaa.integerTight
