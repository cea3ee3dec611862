/- The walk of IntegerTighter. -/
import Derived.Test.YtmcajdfbkhaplaaSf
import Derived.Test.YtmcajdfbkhaplaaSh
import Derived.Test.YtmcajdfbkhaplaaMt
import Derived.Test.YtmcajdfbkhaplaaWc
import Derived.Deep.RegionHeld3
import Derived.Deep.QuietTactic
import Derived.BigQuiet
import Derived.IntWalk
namespace Go.Proofs.Ytmcajdfbkhaplaa.integerTighter
open Go.RowKit
set_option maxRecDepth 100000 in
set_option maxHeartbeats 8000000 in
theorem walk (a0 a0' : Int) (w0 : (Lit.int .i64 a0).wf = true) (w0' : (Lit.int .i64 a0').wf = true) (a1 a1' : Int) (w1 : (Lit.int .i64 a1).wf = true) (w1' : (Lit.int .i64 a1').wf = true) (w : World) :
    Calls Try.prog 15 #[.agg #[.int .i64 a0, .int .i64 a0'], .agg #[.int .i64 a1, .int .i64 a1']] w fun e w' => e = .returned (.bool true) ∧ Ext w w' := by
  have : True := (fun _ _ _ _ => trivial) w0 w0' w1 w1'
  clear this w0 w0' w1 w1'
  rcases (Bool.eq_false_or_eq_true (spB a0 a0')).symm with v1 | v1
  · go_enter Try.func15, Try.ntmps15
    go_wp2_with fail
    refine (wide_any _).mono ?_
    rintro e w1 ⟨rfl, hx1⟩
    have s1 := hx1.size
    try simp at s1
    have c1 : w1.cell? ⟨w.heap.size, 0, none⟩ = some (.int .i64 a0) := (hx1.cell 0 (by first | (simp; done) | (simp; omega) | omega)).trans (by first | assumption | (simp [go_sem]; done) | exact ((((Ext.refl _).alloc _).cell _ (by omega)).trans (by assumption)) | (simp [go_sem, *]; done))
    have c2 : w1.cell? ⟨w.heap.size, 1, none⟩ = some (.int .i64 a0') := (hx1.cell 1 (by first | (simp; done) | (simp; omega) | omega)).trans (by first | assumption | (simp [go_sem]; done) | exact ((((Ext.refl _).alloc _).cell _ (by omega)).trans (by assumption)) | (simp [go_sem, *]; done))
    have c3 : w1.cell? ⟨w.heap.size + 1, 0, none⟩ = some (.int .i64 a1) := (hx1.cell 0 (by first | (simp; done) | (simp; omega) | omega)).trans (by first | assumption | (simp [go_sem]; done) | exact ((((Ext.refl _).alloc _).cell _ (by omega)).trans (by assumption)) | (simp [go_sem, *]; done))
    have c4 : w1.cell? ⟨w.heap.size + 1, 1, none⟩ = some (.int .i64 a1') := (hx1.cell 1 (by first | (simp; done) | (simp; omega) | omega)).trans (by first | assumption | (simp [go_sem]; done) | exact ((((Ext.refl _).alloc _).cell _ (by omega)).trans (by assumption)) | (simp [go_sem, *]; done))
    have d5 : ∀ ob, (w1.alloc ob).cell? ⟨w.heap.size, 0, none⟩ = some (.int .i64 a0) := fun ob => (((Ext.refl w1).alloc ob).cell 0 (by omega)).trans (by assumption)
    have d6 : ∀ ob, (w1.alloc ob).cell? ⟨w.heap.size, 1, none⟩ = some (.int .i64 a0') := fun ob => (((Ext.refl w1).alloc ob).cell 1 (by omega)).trans (by assumption)
    have d7 : ∀ ob, (w1.alloc ob).cell? ⟨w.heap.size + 1, 0, none⟩ = some (.int .i64 a1) := fun ob => (((Ext.refl w1).alloc ob).cell 0 (by omega)).trans (by assumption)
    have d8 : ∀ ob, (w1.alloc ob).cell? ⟨w.heap.size + 1, 1, none⟩ = some (.int .i64 a1') := fun ob => (((Ext.refl w1).alloc ob).cell 1 (by omega)).trans (by assumption)
    go_wp2_with fail
    refine (validSpan_any a0 a0' _).mono ?_
    rintro e w2 ⟨rfl, hx2⟩
    rw [v1]
    have s2 := hx2.size
    try simp at s2
    have c9 : w2.cell? ⟨w.heap.size, 0, none⟩ = some (.int .i64 a0) := (hx2.cell 0 (by first | (simp; done) | (simp; omega) | omega)).trans (by first | assumption | (simp [go_sem]; done) | exact ((((Ext.refl _).alloc _).cell _ (by omega)).trans (by assumption)) | (simp [go_sem, *]; done))
    have c10 : w2.cell? ⟨w.heap.size, 1, none⟩ = some (.int .i64 a0') := (hx2.cell 1 (by first | (simp; done) | (simp; omega) | omega)).trans (by first | assumption | (simp [go_sem]; done) | exact ((((Ext.refl _).alloc _).cell _ (by omega)).trans (by assumption)) | (simp [go_sem, *]; done))
    have c11 : w2.cell? ⟨w.heap.size + 1, 0, none⟩ = some (.int .i64 a1) := (hx2.cell 0 (by first | (simp; done) | (simp; omega) | omega)).trans (by first | assumption | (simp [go_sem]; done) | exact ((((Ext.refl _).alloc _).cell _ (by omega)).trans (by assumption)) | (simp [go_sem, *]; done))
    have c12 : w2.cell? ⟨w.heap.size + 1, 1, none⟩ = some (.int .i64 a1') := (hx2.cell 1 (by first | (simp; done) | (simp; omega) | omega)).trans (by first | assumption | (simp [go_sem]; done) | exact ((((Ext.refl _).alloc _).cell _ (by omega)).trans (by assumption)) | (simp [go_sem, *]; done))
    clear c1 c2 c3 c4 d5 d6 d7 d8
    have d13 : ∀ ob, (w2.alloc ob).cell? ⟨w.heap.size, 0, none⟩ = some (.int .i64 a0) := fun ob => (((Ext.refl w2).alloc ob).cell 0 (by omega)).trans (by assumption)
    have d14 : ∀ ob, (w2.alloc ob).cell? ⟨w.heap.size, 1, none⟩ = some (.int .i64 a0') := fun ob => (((Ext.refl w2).alloc ob).cell 1 (by omega)).trans (by assumption)
    have d15 : ∀ ob, (w2.alloc ob).cell? ⟨w.heap.size + 1, 0, none⟩ = some (.int .i64 a1) := fun ob => (((Ext.refl w2).alloc ob).cell 0 (by omega)).trans (by assumption)
    have d16 : ∀ ob, (w2.alloc ob).cell? ⟨w.heap.size + 1, 1, none⟩ = some (.int .i64 a1') := fun ob => (((Ext.refl w2).alloc ob).cell 1 (by omega)).trans (by assumption)
    go_wp2
    go_ret
    exact ⟨rfl, by repeat (first | exact Ext.refl _ | assumption | refine Ext.drewN ?_ _ | refine Ext.drew ?_ | refine Ext.alloc ?_ _ | refine Ext.setCell ?_ (by dsimp only; omega) _ | refine Ext.trans ?_ (by assumption))⟩
  rcases (Bool.eq_false_or_eq_true (spB a1 a1')).symm with v2 | v2
  · go_enter Try.func15, Try.ntmps15
    go_wp2_with fail
    refine (wide_any _).mono ?_
    rintro e w1 ⟨rfl, hx1⟩
    have s1 := hx1.size
    try simp at s1
    have c1 : w1.cell? ⟨w.heap.size, 0, none⟩ = some (.int .i64 a0) := (hx1.cell 0 (by first | (simp; done) | (simp; omega) | omega)).trans (by first | assumption | (simp [go_sem]; done) | exact ((((Ext.refl _).alloc _).cell _ (by omega)).trans (by assumption)) | (simp [go_sem, *]; done))
    have c2 : w1.cell? ⟨w.heap.size, 1, none⟩ = some (.int .i64 a0') := (hx1.cell 1 (by first | (simp; done) | (simp; omega) | omega)).trans (by first | assumption | (simp [go_sem]; done) | exact ((((Ext.refl _).alloc _).cell _ (by omega)).trans (by assumption)) | (simp [go_sem, *]; done))
    have c3 : w1.cell? ⟨w.heap.size + 1, 0, none⟩ = some (.int .i64 a1) := (hx1.cell 0 (by first | (simp; done) | (simp; omega) | omega)).trans (by first | assumption | (simp [go_sem]; done) | exact ((((Ext.refl _).alloc _).cell _ (by omega)).trans (by assumption)) | (simp [go_sem, *]; done))
    have c4 : w1.cell? ⟨w.heap.size + 1, 1, none⟩ = some (.int .i64 a1') := (hx1.cell 1 (by first | (simp; done) | (simp; omega) | omega)).trans (by first | assumption | (simp [go_sem]; done) | exact ((((Ext.refl _).alloc _).cell _ (by omega)).trans (by assumption)) | (simp [go_sem, *]; done))
    have d5 : ∀ ob, (w1.alloc ob).cell? ⟨w.heap.size, 0, none⟩ = some (.int .i64 a0) := fun ob => (((Ext.refl w1).alloc ob).cell 0 (by omega)).trans (by assumption)
    have d6 : ∀ ob, (w1.alloc ob).cell? ⟨w.heap.size, 1, none⟩ = some (.int .i64 a0') := fun ob => (((Ext.refl w1).alloc ob).cell 1 (by omega)).trans (by assumption)
    have d7 : ∀ ob, (w1.alloc ob).cell? ⟨w.heap.size + 1, 0, none⟩ = some (.int .i64 a1) := fun ob => (((Ext.refl w1).alloc ob).cell 0 (by omega)).trans (by assumption)
    have d8 : ∀ ob, (w1.alloc ob).cell? ⟨w.heap.size + 1, 1, none⟩ = some (.int .i64 a1') := fun ob => (((Ext.refl w1).alloc ob).cell 1 (by omega)).trans (by assumption)
    go_wp2_with fail
    refine (validSpan_any a0 a0' _).mono ?_
    rintro e w2 ⟨rfl, hx2⟩
    rw [v1]
    have s2 := hx2.size
    try simp at s2
    have c9 : w2.cell? ⟨w.heap.size, 0, none⟩ = some (.int .i64 a0) := (hx2.cell 0 (by first | (simp; done) | (simp; omega) | omega)).trans (by first | assumption | (simp [go_sem]; done) | exact ((((Ext.refl _).alloc _).cell _ (by omega)).trans (by assumption)) | (simp [go_sem, *]; done))
    have c10 : w2.cell? ⟨w.heap.size, 1, none⟩ = some (.int .i64 a0') := (hx2.cell 1 (by first | (simp; done) | (simp; omega) | omega)).trans (by first | assumption | (simp [go_sem]; done) | exact ((((Ext.refl _).alloc _).cell _ (by omega)).trans (by assumption)) | (simp [go_sem, *]; done))
    have c11 : w2.cell? ⟨w.heap.size + 1, 0, none⟩ = some (.int .i64 a1) := (hx2.cell 0 (by first | (simp; done) | (simp; omega) | omega)).trans (by first | assumption | (simp [go_sem]; done) | exact ((((Ext.refl _).alloc _).cell _ (by omega)).trans (by assumption)) | (simp [go_sem, *]; done))
    have c12 : w2.cell? ⟨w.heap.size + 1, 1, none⟩ = some (.int .i64 a1') := (hx2.cell 1 (by first | (simp; done) | (simp; omega) | omega)).trans (by first | assumption | (simp [go_sem]; done) | exact ((((Ext.refl _).alloc _).cell _ (by omega)).trans (by assumption)) | (simp [go_sem, *]; done))
    clear c1 c2 c3 c4 d5 d6 d7 d8
    have d13 : ∀ ob, (w2.alloc ob).cell? ⟨w.heap.size, 0, none⟩ = some (.int .i64 a0) := fun ob => (((Ext.refl w2).alloc ob).cell 0 (by omega)).trans (by assumption)
    have d14 : ∀ ob, (w2.alloc ob).cell? ⟨w.heap.size, 1, none⟩ = some (.int .i64 a0') := fun ob => (((Ext.refl w2).alloc ob).cell 1 (by omega)).trans (by assumption)
    have d15 : ∀ ob, (w2.alloc ob).cell? ⟨w.heap.size + 1, 0, none⟩ = some (.int .i64 a1) := fun ob => (((Ext.refl w2).alloc ob).cell 0 (by omega)).trans (by assumption)
    have d16 : ∀ ob, (w2.alloc ob).cell? ⟨w.heap.size + 1, 1, none⟩ = some (.int .i64 a1') := fun ob => (((Ext.refl w2).alloc ob).cell 1 (by omega)).trans (by assumption)
    go_wp2_with fail
    refine (validSpan_any a1 a1' _).mono ?_
    rintro e w3 ⟨rfl, hx3⟩
    rw [v2]
    have s3 := hx3.size
    try simp at s3
    have c17 : w3.cell? ⟨w.heap.size, 0, none⟩ = some (.int .i64 a0) := (hx3.cell 0 (by first | (simp; done) | (simp; omega) | omega)).trans (by first | assumption | (simp [go_sem]; done) | exact ((((Ext.refl _).alloc _).cell _ (by omega)).trans (by assumption)) | (simp [go_sem, *]; done))
    have c18 : w3.cell? ⟨w.heap.size, 1, none⟩ = some (.int .i64 a0') := (hx3.cell 1 (by first | (simp; done) | (simp; omega) | omega)).trans (by first | assumption | (simp [go_sem]; done) | exact ((((Ext.refl _).alloc _).cell _ (by omega)).trans (by assumption)) | (simp [go_sem, *]; done))
    have c19 : w3.cell? ⟨w.heap.size + 1, 0, none⟩ = some (.int .i64 a1) := (hx3.cell 0 (by first | (simp; done) | (simp; omega) | omega)).trans (by first | assumption | (simp [go_sem]; done) | exact ((((Ext.refl _).alloc _).cell _ (by omega)).trans (by assumption)) | (simp [go_sem, *]; done))
    have c20 : w3.cell? ⟨w.heap.size + 1, 1, none⟩ = some (.int .i64 a1') := (hx3.cell 1 (by first | (simp; done) | (simp; omega) | omega)).trans (by first | assumption | (simp [go_sem]; done) | exact ((((Ext.refl _).alloc _).cell _ (by omega)).trans (by assumption)) | (simp [go_sem, *]; done))
    clear c9 c10 c11 c12 d13 d14 d15 d16
    have d21 : ∀ ob, (w3.alloc ob).cell? ⟨w.heap.size, 0, none⟩ = some (.int .i64 a0) := fun ob => (((Ext.refl w3).alloc ob).cell 0 (by omega)).trans (by assumption)
    have d22 : ∀ ob, (w3.alloc ob).cell? ⟨w.heap.size, 1, none⟩ = some (.int .i64 a0') := fun ob => (((Ext.refl w3).alloc ob).cell 1 (by omega)).trans (by assumption)
    have d23 : ∀ ob, (w3.alloc ob).cell? ⟨w.heap.size + 1, 0, none⟩ = some (.int .i64 a1) := fun ob => (((Ext.refl w3).alloc ob).cell 0 (by omega)).trans (by assumption)
    have d24 : ∀ ob, (w3.alloc ob).cell? ⟨w.heap.size + 1, 1, none⟩ = some (.int .i64 a1') := fun ob => (((Ext.refl w3).alloc ob).cell 1 (by omega)).trans (by assumption)
    go_wp2
    go_ret
    exact ⟨rfl, by repeat (first | exact Ext.refl _ | assumption | refine Ext.drewN ?_ _ | refine Ext.drew ?_ | refine Ext.alloc ?_ _ | refine Ext.setCell ?_ (by dsimp only; omega) _ | refine Ext.trans ?_ (by assumption))⟩
  have oa := (spB_t v1).1
  have ob := (spB_t v1).2.1
  have oc := (spB_t v2).1
  have od := (spB_t v2).2.1
  have HA := Lib.hid oa
  have HB := Lib.hid ob
  have HC := Lib.hid oc
  have HD := Lib.hid od
  have HV1 := Lib.hid v1
  have HV2 := Lib.hid v2
  clear oa ob oc od
  go_enter Try.func15, Try.ntmps15
  go_wp2_with fail
  refine (wide_any _).mono ?_
  rintro e w1 ⟨rfl, hx1⟩
  have s1 := hx1.size
  try simp at s1
  have c1 : w1.cell? ⟨w.heap.size, 0, none⟩ = some (.int .i64 a0) := (hx1.cell 0 (by first | (simp; done) | (simp; omega) | omega)).trans (by first | assumption | (simp [go_sem]; done) | exact ((((Ext.refl _).alloc _).cell _ (by omega)).trans (by assumption)) | (simp [go_sem, *]; done))
  have c2 : w1.cell? ⟨w.heap.size, 1, none⟩ = some (.int .i64 a0') := (hx1.cell 1 (by first | (simp; done) | (simp; omega) | omega)).trans (by first | assumption | (simp [go_sem]; done) | exact ((((Ext.refl _).alloc _).cell _ (by omega)).trans (by assumption)) | (simp [go_sem, *]; done))
  have c3 : w1.cell? ⟨w.heap.size + 1, 0, none⟩ = some (.int .i64 a1) := (hx1.cell 0 (by first | (simp; done) | (simp; omega) | omega)).trans (by first | assumption | (simp [go_sem]; done) | exact ((((Ext.refl _).alloc _).cell _ (by omega)).trans (by assumption)) | (simp [go_sem, *]; done))
  have c4 : w1.cell? ⟨w.heap.size + 1, 1, none⟩ = some (.int .i64 a1') := (hx1.cell 1 (by first | (simp; done) | (simp; omega) | omega)).trans (by first | assumption | (simp [go_sem]; done) | exact ((((Ext.refl _).alloc _).cell _ (by omega)).trans (by assumption)) | (simp [go_sem, *]; done))
  have d5 : ∀ ob, (w1.alloc ob).cell? ⟨w.heap.size, 0, none⟩ = some (.int .i64 a0) := fun ob => (((Ext.refl w1).alloc ob).cell 0 (by omega)).trans (by assumption)
  have d6 : ∀ ob, (w1.alloc ob).cell? ⟨w.heap.size, 1, none⟩ = some (.int .i64 a0') := fun ob => (((Ext.refl w1).alloc ob).cell 1 (by omega)).trans (by assumption)
  have d7 : ∀ ob, (w1.alloc ob).cell? ⟨w.heap.size + 1, 0, none⟩ = some (.int .i64 a1) := fun ob => (((Ext.refl w1).alloc ob).cell 0 (by omega)).trans (by assumption)
  have d8 : ∀ ob, (w1.alloc ob).cell? ⟨w.heap.size + 1, 1, none⟩ = some (.int .i64 a1') := fun ob => (((Ext.refl w1).alloc ob).cell 1 (by omega)).trans (by assumption)
  go_wp2_with fail
  refine (validSpan_any a0 a0' _).mono ?_
  rintro e w2 ⟨rfl, hx2⟩
  rw [v1]
  have s2 := hx2.size
  try simp at s2
  have c9 : w2.cell? ⟨w.heap.size, 0, none⟩ = some (.int .i64 a0) := (hx2.cell 0 (by first | (simp; done) | (simp; omega) | omega)).trans (by first | assumption | (simp [go_sem]; done) | exact ((((Ext.refl _).alloc _).cell _ (by omega)).trans (by assumption)) | (simp [go_sem, *]; done))
  have c10 : w2.cell? ⟨w.heap.size, 1, none⟩ = some (.int .i64 a0') := (hx2.cell 1 (by first | (simp; done) | (simp; omega) | omega)).trans (by first | assumption | (simp [go_sem]; done) | exact ((((Ext.refl _).alloc _).cell _ (by omega)).trans (by assumption)) | (simp [go_sem, *]; done))
  have c11 : w2.cell? ⟨w.heap.size + 1, 0, none⟩ = some (.int .i64 a1) := (hx2.cell 0 (by first | (simp; done) | (simp; omega) | omega)).trans (by first | assumption | (simp [go_sem]; done) | exact ((((Ext.refl _).alloc _).cell _ (by omega)).trans (by assumption)) | (simp [go_sem, *]; done))
  have c12 : w2.cell? ⟨w.heap.size + 1, 1, none⟩ = some (.int .i64 a1') := (hx2.cell 1 (by first | (simp; done) | (simp; omega) | omega)).trans (by first | assumption | (simp [go_sem]; done) | exact ((((Ext.refl _).alloc _).cell _ (by omega)).trans (by assumption)) | (simp [go_sem, *]; done))
  clear c1 c2 c3 c4 d5 d6 d7 d8
  have d13 : ∀ ob, (w2.alloc ob).cell? ⟨w.heap.size, 0, none⟩ = some (.int .i64 a0) := fun ob => (((Ext.refl w2).alloc ob).cell 0 (by omega)).trans (by assumption)
  have d14 : ∀ ob, (w2.alloc ob).cell? ⟨w.heap.size, 1, none⟩ = some (.int .i64 a0') := fun ob => (((Ext.refl w2).alloc ob).cell 1 (by omega)).trans (by assumption)
  have d15 : ∀ ob, (w2.alloc ob).cell? ⟨w.heap.size + 1, 0, none⟩ = some (.int .i64 a1) := fun ob => (((Ext.refl w2).alloc ob).cell 0 (by omega)).trans (by assumption)
  have d16 : ∀ ob, (w2.alloc ob).cell? ⟨w.heap.size + 1, 1, none⟩ = some (.int .i64 a1') := fun ob => (((Ext.refl w2).alloc ob).cell 1 (by omega)).trans (by assumption)
  go_wp2_with fail
  refine (validSpan_any a1 a1' _).mono ?_
  rintro e w3 ⟨rfl, hx3⟩
  rw [v2]
  have s3 := hx3.size
  try simp at s3
  have c17 : w3.cell? ⟨w.heap.size, 0, none⟩ = some (.int .i64 a0) := (hx3.cell 0 (by first | (simp; done) | (simp; omega) | omega)).trans (by first | assumption | (simp [go_sem]; done) | exact ((((Ext.refl _).alloc _).cell _ (by omega)).trans (by assumption)) | (simp [go_sem, *]; done))
  have c18 : w3.cell? ⟨w.heap.size, 1, none⟩ = some (.int .i64 a0') := (hx3.cell 1 (by first | (simp; done) | (simp; omega) | omega)).trans (by first | assumption | (simp [go_sem]; done) | exact ((((Ext.refl _).alloc _).cell _ (by omega)).trans (by assumption)) | (simp [go_sem, *]; done))
  have c19 : w3.cell? ⟨w.heap.size + 1, 0, none⟩ = some (.int .i64 a1) := (hx3.cell 0 (by first | (simp; done) | (simp; omega) | omega)).trans (by first | assumption | (simp [go_sem]; done) | exact ((((Ext.refl _).alloc _).cell _ (by omega)).trans (by assumption)) | (simp [go_sem, *]; done))
  have c20 : w3.cell? ⟨w.heap.size + 1, 1, none⟩ = some (.int .i64 a1') := (hx3.cell 1 (by first | (simp; done) | (simp; omega) | omega)).trans (by first | assumption | (simp [go_sem]; done) | exact ((((Ext.refl _).alloc _).cell _ (by omega)).trans (by assumption)) | (simp [go_sem, *]; done))
  clear c9 c10 c11 c12 d13 d14 d15 d16
  have d21 : ∀ ob, (w3.alloc ob).cell? ⟨w.heap.size, 0, none⟩ = some (.int .i64 a0) := fun ob => (((Ext.refl w3).alloc ob).cell 0 (by omega)).trans (by assumption)
  have d22 : ∀ ob, (w3.alloc ob).cell? ⟨w.heap.size, 1, none⟩ = some (.int .i64 a0') := fun ob => (((Ext.refl w3).alloc ob).cell 1 (by omega)).trans (by assumption)
  have d23 : ∀ ob, (w3.alloc ob).cell? ⟨w.heap.size + 1, 0, none⟩ = some (.int .i64 a1) := fun ob => (((Ext.refl w3).alloc ob).cell 0 (by omega)).trans (by assumption)
  have d24 : ∀ ob, (w3.alloc ob).cell? ⟨w.heap.size + 1, 1, none⟩ = some (.int .i64 a1') := fun ob => (((Ext.refl w3).alloc ob).cell 1 (by omega)).trans (by assumption)
  clear v1 v2
  have m0b : ∀ oe oc, ((w3.alloc oe).alloc oc).cell? ⟨w.heap.size, 0, none⟩ = some (.int .i64 a0) := fun oe oc => ((((Ext.refl w3).alloc oe).alloc oc).cell 0 (by omega)).trans (by assumption)
  have m1b : ∀ oe oc, ((w3.alloc oe).alloc oc).cell? ⟨w.heap.size, 1, none⟩ = some (.int .i64 a0') := fun oe oc => ((((Ext.refl w3).alloc oe).alloc oc).cell 1 (by omega)).trans (by assumption)
  have m2b : ∀ oe oc, ((w3.alloc oe).alloc oc).cell? ⟨w.heap.size + 1, 0, none⟩ = some (.int .i64 a1) := fun oe oc => ((((Ext.refl w3).alloc oe).alloc oc).cell 0 (by omega)).trans (by assumption)
  have m3b : ∀ oe oc, ((w3.alloc oe).alloc oc).cell? ⟨w.heap.size + 1, 1, none⟩ = some (.int .i64 a1') := fun oe oc => ((((Ext.refl w3).alloc oe).alloc oc).cell 1 (by omega)).trans (by assumption)
  go_wp2_with fail
  go_loopw [8] (fun i u => ∃ w4 : World, w4 = u ∧ ∃ k : Nat, k ≤ 4 ∧ i = .int .i64 k ∧ TQ a0 a0' a1 a1' w3 (w.heap.size) (w.heap.size + 1) (w3.heap.size) (w3.heap.size + 1) k w4) (fun i _ => 4 - (intOf i).toNat)
  case atStart =>
    refine ⟨_, rfl, 0, Nat.zero_le _, rfl, ⟨{ a0 := by (first | (simp [go_sem]; done) | (simp [go_sem, tL, tH, tN]; done) | (simp [go_sem, *]; done)), a1 := by (first | (simp [go_sem]; done) | (simp [go_sem, tL, tH, tN]; done) | (simp [go_sem, *]; done)), b0 := by (first | (simp [go_sem]; done) | (simp [go_sem, tL, tH, tN]; done) | (simp [go_sem, *]; done)), b1 := by (first | (simp [go_sem]; done) | (simp [go_sem, tL, tH, tN]; done) | (simp [go_sem, *]; done)), y0 := by (first | (simp [go_sem]; done) | (simp [go_sem, tL, tH, tN]; done) | (simp [go_sem, *]; done)), y1 := by (first | (simp [go_sem]; done) | (simp [go_sem, tL, tH, tN]; done) | (simp [go_sem, *]; done)), y2 := by (first | (simp [go_sem]; done) | (simp [go_sem, tL, tH, tN]; done) | (simp [go_sem, *]; done)), y3 := by (first | (simp [go_sem]; done) | (simp [go_sem, tL, tH, tN]; done) | (simp [go_sem, *]; done)) }, { c0 := by (first | (simp [go_sem]; done) | (simp [go_sem, tL, tH, tN]; done) | (simp [go_sem, *]; done)), c1 := by (first | (simp [go_sem]; done) | (simp [go_sem, tL, tH, tN]; done) | (simp [go_sem, *]; done)), c2 := by (first | (simp [go_sem]; done) | (simp [go_sem, tL, tH, tN]; done) | (simp [go_sem, *]; done)), c3 := by (first | (simp [go_sem]; done) | (simp [go_sem, tL, tH, tN]; done) | (simp [go_sem, *]; done)), f0 := by (first | (simp [go_sem]; done) | (simp [go_sem, tL, tH, tN]; done) | (simp [go_sem, *]; done)), f1 := by (first | (simp [go_sem]; done) | (simp [go_sem, tL, tH, tN]; done) | (simp [go_sem, *]; done)), f2 := by (first | (simp [go_sem]; done) | (simp [go_sem, tL, tH, tN]; done) | (simp [go_sem, *]; done)), f3 := by (first | (simp [go_sem]; done) | (simp [go_sem, tL, tH, tN]; done) | (simp [go_sem, *]; done)), oc := fun _ _ _ => rfl, of := fun _ _ => rfl, sz := rfl, ext := by repeat (first | exact Ext.refl _ | assumption | refine Ext.drewN ?_ _ | refine Ext.drew ?_ | refine Ext.alloc ?_ _ | refine Ext.setCell ?_ (by dsimp only; omega) _ | refine Ext.trans ?_ (by assumption)) }⟩⟩
  case round =>
    obtain ⟨w4, hw4, k, hk, rfl, hR⟩ := hrel
    subst hw4
    by_cases hlt : k < 4
    · have hy := hR.t.y hlt
      obtain ⟨v, hv⟩ : ∃ v, dvt a1 a1' k = v := ⟨_, rfl⟩
      rw [hv] at hy
      have HV := Lib.hid hv
      clear hv
      have hb0 := hR.t.b0
      have hb1 := hR.t.b1
      obtain ⟨RR, hRR⟩ : ∃ RR : World → Prop, ∀ u, RR u ↔ TQ a0 a0' a1 a1' w3 (w.heap.size) (w.heap.size + 1) (w3.heap.size) (w3.heap.size + 1) k u := ⟨_, fun _ => Iff.rfl⟩
      have keepE : ∀ u u' : World, (fun w' : World => (w'.cell? ⟨w3.heap.size + 1, k, none⟩ = some (.int .i64 v) ∧ w'.cell? ⟨w.heap.size + 1, 0, none⟩ = some (.int .i64 a1) ∧ w'.cell? ⟨w.heap.size + 1, 1, none⟩ = some (.int .i64 a1') ∧ RR w')) u → Ext u u' → (fun w' : World => (w'.cell? ⟨w3.heap.size + 1, k, none⟩ = some (.int .i64 v) ∧ w'.cell? ⟨w.heap.size + 1, 0, none⟩ = some (.int .i64 a1) ∧ w'.cell? ⟨w.heap.size + 1, 1, none⟩ = some (.int .i64 a1') ∧ RR w')) u' := by
        rintro u u' ⟨g0, g1, g2, r⟩ hx
        exact ⟨(hx.cell k (World.block_lt_of_cell? u _ g0)).trans g0, (hx.cell 0 (World.block_lt_of_cell? u _ g1)).trans g1, (hx.cell 1 (World.block_lt_of_cell? u _ g2)).trans g2, (hRR _).2 (((hRR _).1 r).later hx)⟩
      have keep0 : (fun w' : World => (w'.cell? ⟨w3.heap.size + 1, k, none⟩ = some (.int .i64 v) ∧ w'.cell? ⟨w.heap.size + 1, 0, none⟩ = some (.int .i64 a1) ∧ w'.cell? ⟨w.heap.size + 1, 1, none⟩ = some (.int .i64 a1') ∧ RR w')) w4 := ⟨hy, hb0, hb1, (hRR _).2 hR⟩
      have KE := Lib.hid keepE
      have K0 := Lib.hid keep0
      have HRR := Lib.hid hRR
      clear keepE keep0 hRR hR hy hb0 hb1
      rcases Bool.eq_false_or_eq_true (v == 0) with hz | hz
      · obtain rfl : v = 0 := by simpa using hz
        clear hz
        go_wp2_with fail
        have hy0 := K0.out.1
        go_quiet (fail)
        clear hy0
        go_wp2_with fail
        go_roundw
        case rel => exact ⟨_, rfl, k + 1, by omega, by go_num, TQ.skip ((HRR.out _).1 (KE.out _ _ K0.out (by (repeat (first | exact Ext.refl _ | assumption | refine Ext.drew ?_ | refine Ext.drewN ?_ _ | refine Ext.trans ?_ (by assumption))))).2.2.2) (by rw [HV.out]; simp [cnt])⟩
        case measure => simp [intOf]; omega
      · rcases Bool.eq_false_or_eq_true (inB v a1 a1') with hn | hn
        · have hvz : v ≠ 0 := by simpa using hz
          have hvo : okB v = true := okB_t.2 (by have := inB_t.1 hn; have := okB_t.1 HC.out; have := okB_t.1 HD.out; omega)
          obtain ⟨pp, hp⟩ : ∃ p, a0.tdiv v = p := ⟨_, rfl⟩
          obtain ⟨qq, hq⟩ : ∃ q, a0'.tdiv v = q := ⟨_, rfl⟩
          have Q1 := fun W => quo_q HA.out hvo hvz hp W
          have Q2 := fun W => quo_q HB.out hvo hvz hq W
          have HQ1 := Lib.hid Q1
          have HQ2 := Lib.hid Q2
          have HP := Lib.hid hp
          have HQ := Lib.hid hq
          have HN := Lib.hid hn
          have HZ := Lib.hid hz
          clear Q1 Q2 hp hq hvo hvz
          have tb := tN_bd a1 a1' k
          go_wp2_with fail
          go_region_held3 (fun w' : World => (w'.cell? ⟨w3.heap.size + 1, k, none⟩ = some (.int .i64 v) ∧ w'.cell? ⟨w.heap.size + 1, 0, none⟩ = some (.int .i64 a1) ∧ w'.cell? ⟨w.heap.size + 1, 1, none⟩ = some (.int .i64 a1') ∧ RR w')) ((refine KE.out _ _ K0.out ?_; (repeat (first | exact Ext.refl _ | assumption | refine Ext.drew ?_ | refine Ext.drewN ?_ _ | refine Ext.trans ?_ (by assumption))); done)) ((go_at_call 69; refine (in_any _ _ _ _).mono ?_; rintro e w5 ⟨rfl, hx⟩))
          have hS3 := (HRR.out _).1 (KE.out _ w5 K0.out (by (repeat (first | exact Ext.refl _ | assumption | refine Ext.drew ?_ | refine Ext.drewN ?_ _ | refine Ext.trans ?_ (by assumption))))).2.2.2
          have hT5 := hS3
          have xa0 := hT5.t.a0
          have xa1 := hT5.t.a1
          have xy5 := hT5.t.y hlt
          rw [HV.out] at xy5
          have HT5 := Lib.hid hT5
          clear hT5 hS3 hn hz
          go_wp2_with fail
          go_quiet ((go_at_call 35; exact Calls.quiet_of_same (HQ1.out _)))
          clear xa0 xa1 xy5
          go_wp2_with fail
          refine (meets_ok w3 _ (w3.heap.size) _ _ _ _ _ (HT5.out.f.later ((Ext.refl _).drewN _)) (by omega) tb.1 (by omega)).mono ?_
          rintro e w6 ⟨rfl, hf6⟩
          have hT6 := (HT5.out.t.later ((Ext.refl w5).drewN _)).meet hf6 (by omega) (by omega) (by omega)
          have xa0 := hT6.a0
          have xa1 := hT6.a1
          have xy6 := hT6.y hlt
          rw [HV.out] at xy6
          have HF6 := Lib.hid hf6
          have HT6 := Lib.hid hT6
          clear hf6 hT6
          go_wp2_with fail
          go_quiet ((go_at_call 35; exact Calls.quiet_of_same (HQ2.out _)))
          clear xa0 xa1 xy6
          go_wp2_with fail
          refine (meets_ok w3 _ (w3.heap.size) _ _ _ _ _ (HF6.out.later ((Ext.refl _).drewN _)) (by omega) (by omega) (by omega)).mono ?_
          rintro e w7 ⟨rfl, hf7⟩
          have hT7 := (HT6.out.later ((Ext.refl w6).drewN _)).meet hf7 (by omega) (by omega) (by omega)
          have HF7 := Lib.hid hf7
          have HT7 := Lib.hid hT7
          clear hf7 hT7
          go_wp2_with fail
          go_roundw
          case rel => exact ⟨_, rfl, k + 1, by omega, by go_num, TQ.step HT7.out HV.out (by simp [cnt, HZ.out, HN.out]) HP.out HQ.out HF7.out.here⟩
          case measure => simp [intOf]; omega
        · go_wp2_with fail
          go_region_held3 (fun w' : World => (w'.cell? ⟨w3.heap.size + 1, k, none⟩ = some (.int .i64 v) ∧ w'.cell? ⟨w.heap.size + 1, 0, none⟩ = some (.int .i64 a1) ∧ w'.cell? ⟨w.heap.size + 1, 1, none⟩ = some (.int .i64 a1') ∧ RR w')) ((refine KE.out _ _ K0.out ?_; (repeat (first | exact Ext.refl _ | assumption | refine Ext.drew ?_ | refine Ext.drewN ?_ _ | refine Ext.trans ?_ (by assumption))); done)) ((go_at_call 69; refine (in_any _ _ _ _).mono ?_; rintro e w5 ⟨rfl, hx⟩))
          go_wp2_with fail
          go_roundw
          case rel => exact ⟨_, rfl, k + 1, by omega, by go_num, TQ.skip ((HRR.out _).1 (KE.out _ _ K0.out (by (repeat (first | exact Ext.refl _ | assumption | refine Ext.drew ?_ | refine Ext.drewN ?_ _ | refine Ext.trans ?_ (by assumption))))).2.2.2) (by rw [HV.out]; simp [cnt, hz, hn])⟩
          case measure => simp [intOf]; omega
    · obtain rfl : k = 4 := by omega
      have hx4 : Ext w3 w4 := hR.f.ext
      have hN0 : tN a1 a1' 0 = 0 := rfl
      clear hN0
      have s4 := hx4.size
      have L4 := World.block_lt_of_cell? _ _ hR.f.c0
      simp only [] at L4
      have HR := Lib.hid hR
      clear hR
      have k1 : twoS (spB a0 a0' && spB a1 a1') (cmpI a0 a1') = cmpI a0 a1' := by simp [twoS, HV1.out, HV2.out]
      have k2 : twoS (spB a0 a0' && spB a1 a1') (cmpI a0' a1) = cmpI a0' a1 := by simp [twoS, HV1.out, HV2.out]
      have k3 : oneS (spB a0 a0' && spB a1 a1') = 0 := by simp [oneS, HV1.out, HV2.out]
      have k4 : cmpV a0 a1' = cmpI a0 a1' := by simp [cmpV, HA.out, HD.out]
      have k5 : cmpV a0' a1 = cmpI a0' a1 := by simp [cmpV, HB.out, HC.out]
      have k6 : twoE a0 a1' = 0 := by simp [twoE, HA.out, HD.out]
      have k7 : twoE a0' a1 = 0 := by simp [twoE, HB.out, HC.out]
      have K1 := Lib.hid k1
      have K2 := Lib.hid k2
      have K3 := Lib.hid k3
      clear k1 k2 k3
      by_cases hcd : a1 = 0 ∧ a1' = 0
      · have z1 : sqE a0 a0' a1 a1' = 5 := by (obtain ⟨rfl, rfl⟩ := hcd; simp [sqE, HV1.out, HV2.out])
        have z2 : sqM a0 a0' a1 a1' = false := by simp [sqM, z1]
        have z3 := t0 hcd
        clear hcd
        have b0 : w4.cell? ⟨w.heap.size, 0, none⟩ = some (.int .i64 a0) := HR.out.t.a0
        have b1 : w4.cell? ⟨w.heap.size, 1, none⟩ = some (.int .i64 a0') := HR.out.t.a1
        have b2 : w4.cell? ⟨w.heap.size + 1, 0, none⟩ = some (.int .i64 a1) := HR.out.t.b0
        have b3 : w4.cell? ⟨w.heap.size + 1, 1, none⟩ = some (.int .i64 a1') := HR.out.t.b1
        have g0 : w4.cell? ⟨w3.heap.size, 0, none⟩ = some (.int .i64 (tL a0 a0' a1 a1' 4)) := HR.out.f.c0
        have g1 : w4.cell? ⟨w3.heap.size, 1, none⟩ = some (.int .i64 (tH a0 a0' a1 a1' 4)) := HR.out.f.c1
        have g2 : w4.cell? ⟨w3.heap.size, 2, none⟩ = some (.int .i64 (0)) := by have := HR.out.f.c2; rw [z3] at this; exact this
        clear z3
        have Z1 := Lib.hid z1
        clear z1
        have Z2 := Lib.hid z2
        clear z2
        go_wp2_with fail
        refine (spanquo_any a0 a0' a1 a1' _).mono ?_
        rintro e w5 ⟨rfl, hx5⟩
        rw [Z1.out, Z2.out]
        have s5 := hx5.size
        try simp at s5
        have c901 : w5.cell? ⟨w.heap.size, 0, none⟩ = some (.int .i64 a0) := (hx5.cell 0 (by first | (simp; done) | (simp; omega) | omega)).trans (by first | assumption | (simp [go_sem]; done) | exact ((((Ext.refl _).alloc _).cell _ (by omega)).trans (by assumption)) | (simp [go_sem, *]; done))
        have c902 : w5.cell? ⟨w.heap.size, 1, none⟩ = some (.int .i64 a0') := (hx5.cell 1 (by first | (simp; done) | (simp; omega) | omega)).trans (by first | assumption | (simp [go_sem]; done) | exact ((((Ext.refl _).alloc _).cell _ (by omega)).trans (by assumption)) | (simp [go_sem, *]; done))
        have c903 : w5.cell? ⟨w.heap.size + 1, 0, none⟩ = some (.int .i64 a1) := (hx5.cell 0 (by first | (simp; done) | (simp; omega) | omega)).trans (by first | assumption | (simp [go_sem]; done) | exact ((((Ext.refl _).alloc _).cell _ (by omega)).trans (by assumption)) | (simp [go_sem, *]; done))
        have c904 : w5.cell? ⟨w.heap.size + 1, 1, none⟩ = some (.int .i64 a1') := (hx5.cell 1 (by first | (simp; done) | (simp; omega) | omega)).trans (by first | assumption | (simp [go_sem]; done) | exact ((((Ext.refl _).alloc _).cell _ (by omega)).trans (by assumption)) | (simp [go_sem, *]; done))
        have c905 : w5.cell? ⟨w3.heap.size, 0, none⟩ = some (.int .i64 (tL a0 a0' a1 a1' 4)) := (hx5.cell 0 (by first | (simp; done) | (simp; omega) | omega)).trans (by first | assumption | (simp [go_sem]; done) | exact ((((Ext.refl _).alloc _).cell _ (by omega)).trans (by assumption)) | (simp [go_sem, *]; done))
        have c906 : w5.cell? ⟨w3.heap.size, 1, none⟩ = some (.int .i64 (tH a0 a0' a1 a1' 4)) := (hx5.cell 1 (by first | (simp; done) | (simp; omega) | omega)).trans (by first | assumption | (simp [go_sem]; done) | exact ((((Ext.refl _).alloc _).cell _ (by omega)).trans (by assumption)) | (simp [go_sem, *]; done))
        have c907 : w5.cell? ⟨w3.heap.size, 2, none⟩ = some (.int .i64 (0)) := (hx5.cell 2 (by first | (simp; done) | (simp; omega) | omega)).trans (by first | assumption | (simp [go_sem]; done) | exact ((((Ext.refl _).alloc _).cell _ (by omega)).trans (by assumption)) | (simp [go_sem, *]; done))
        clear b0 b1 b2 b3 g0 g1 g2
        have d908 : ∀ ob, (w5.alloc ob).cell? ⟨w.heap.size, 0, none⟩ = some (.int .i64 a0) := fun ob => (((Ext.refl w5).alloc ob).cell 0 (by omega)).trans (by assumption)
        have d909 : ∀ ob, (w5.alloc ob).cell? ⟨w.heap.size, 1, none⟩ = some (.int .i64 a0') := fun ob => (((Ext.refl w5).alloc ob).cell 1 (by omega)).trans (by assumption)
        have d910 : ∀ ob, (w5.alloc ob).cell? ⟨w.heap.size + 1, 0, none⟩ = some (.int .i64 a1) := fun ob => (((Ext.refl w5).alloc ob).cell 0 (by omega)).trans (by assumption)
        have d911 : ∀ ob, (w5.alloc ob).cell? ⟨w.heap.size + 1, 1, none⟩ = some (.int .i64 a1') := fun ob => (((Ext.refl w5).alloc ob).cell 1 (by omega)).trans (by assumption)
        have d912 : ∀ ob, (w5.alloc ob).cell? ⟨w3.heap.size, 0, none⟩ = some (.int .i64 (tL a0 a0' a1 a1' 4)) := fun ob => (((Ext.refl w5).alloc ob).cell 0 (by omega)).trans (by assumption)
        have d913 : ∀ ob, (w5.alloc ob).cell? ⟨w3.heap.size, 1, none⟩ = some (.int .i64 (tH a0 a0' a1 a1' 4)) := fun ob => (((Ext.refl w5).alloc ob).cell 1 (by omega)).trans (by assumption)
        have d914 : ∀ ob, (w5.alloc ob).cell? ⟨w3.heap.size, 2, none⟩ = some (.int .i64 (0)) := fun ob => (((Ext.refl w5).alloc ob).cell 2 (by omega)).trans (by assumption)
        go_wp2_with fail
        refine (spancmp_any a0 a0' a1 a1' _).mono ?_
        rintro e w6 ⟨rfl, hx6⟩
        rw [K1.out, K2.out, K3.out]
        have s6 := hx6.size
        try simp at s6
        have c915 : w6.cell? ⟨w.heap.size, 0, none⟩ = some (.int .i64 a0) := (hx6.cell 0 (by first | (simp; done) | (simp; omega) | omega)).trans (by first | assumption | (simp [go_sem]; done) | exact ((((Ext.refl _).alloc _).cell _ (by omega)).trans (by assumption)) | (simp [go_sem, *]; done))
        have c916 : w6.cell? ⟨w.heap.size, 1, none⟩ = some (.int .i64 a0') := (hx6.cell 1 (by first | (simp; done) | (simp; omega) | omega)).trans (by first | assumption | (simp [go_sem]; done) | exact ((((Ext.refl _).alloc _).cell _ (by omega)).trans (by assumption)) | (simp [go_sem, *]; done))
        have c917 : w6.cell? ⟨w.heap.size + 1, 0, none⟩ = some (.int .i64 a1) := (hx6.cell 0 (by first | (simp; done) | (simp; omega) | omega)).trans (by first | assumption | (simp [go_sem]; done) | exact ((((Ext.refl _).alloc _).cell _ (by omega)).trans (by assumption)) | (simp [go_sem, *]; done))
        have c918 : w6.cell? ⟨w.heap.size + 1, 1, none⟩ = some (.int .i64 a1') := (hx6.cell 1 (by first | (simp; done) | (simp; omega) | omega)).trans (by first | assumption | (simp [go_sem]; done) | exact ((((Ext.refl _).alloc _).cell _ (by omega)).trans (by assumption)) | (simp [go_sem, *]; done))
        have c919 : w6.cell? ⟨w3.heap.size, 0, none⟩ = some (.int .i64 (tL a0 a0' a1 a1' 4)) := (hx6.cell 0 (by first | (simp; done) | (simp; omega) | omega)).trans (by first | assumption | (simp [go_sem]; done) | exact ((((Ext.refl _).alloc _).cell _ (by omega)).trans (by assumption)) | (simp [go_sem, *]; done))
        have c920 : w6.cell? ⟨w3.heap.size, 1, none⟩ = some (.int .i64 (tH a0 a0' a1 a1' 4)) := (hx6.cell 1 (by first | (simp; done) | (simp; omega) | omega)).trans (by first | assumption | (simp [go_sem]; done) | exact ((((Ext.refl _).alloc _).cell _ (by omega)).trans (by assumption)) | (simp [go_sem, *]; done))
        have c921 : w6.cell? ⟨w3.heap.size, 2, none⟩ = some (.int .i64 (0)) := (hx6.cell 2 (by first | (simp; done) | (simp; omega) | omega)).trans (by first | assumption | (simp [go_sem]; done) | exact ((((Ext.refl _).alloc _).cell _ (by omega)).trans (by assumption)) | (simp [go_sem, *]; done))
        have c922 : w6.cell? ⟨w5.heap.size, 0, none⟩ = some (.int .i64 (sqL a0 a0' a1 a1')) := (hx6.cell 0 (by first | (simp; done) | (simp; omega) | omega)).trans (by first | assumption | (simp [go_sem]; done) | exact ((((Ext.refl _).alloc _).cell _ (by omega)).trans (by assumption)) | (simp [go_sem, *]; done))
        have c923 : w6.cell? ⟨w5.heap.size, 1, none⟩ = some (.int .i64 (sqH a0 a0' a1 a1')) := (hx6.cell 1 (by first | (simp; done) | (simp; omega) | omega)).trans (by first | assumption | (simp [go_sem]; done) | exact ((((Ext.refl _).alloc _).cell _ (by omega)).trans (by assumption)) | (simp [go_sem, *]; done))
        have c924 : w6.frozen? ⟨w5.heap.size, 0, none⟩ = false := (hx6.froz 0 (by first | (simp; done) | (simp; omega) | omega)).trans (by first | assumption | (simp [go_sem]; done) | exact ((((Ext.refl _).alloc _).froz _ (by omega)).trans (by assumption)) | (simp [go_sem, *]; done))
        have c925 : w6.frozen? ⟨w5.heap.size, 1, none⟩ = false := (hx6.froz 1 (by first | (simp; done) | (simp; omega) | omega)).trans (by first | assumption | (simp [go_sem]; done) | exact ((((Ext.refl _).alloc _).froz _ (by omega)).trans (by assumption)) | (simp [go_sem, *]; done))
        clear c901 c902 c903 c904 c905 c906 c907 d908 d909 d910 d911 d912 d913 d914
        have d926 : ∀ ob, (w6.alloc ob).cell? ⟨w.heap.size, 0, none⟩ = some (.int .i64 a0) := fun ob => (((Ext.refl w6).alloc ob).cell 0 (by omega)).trans (by assumption)
        have d927 : ∀ ob, (w6.alloc ob).cell? ⟨w.heap.size, 1, none⟩ = some (.int .i64 a0') := fun ob => (((Ext.refl w6).alloc ob).cell 1 (by omega)).trans (by assumption)
        have d928 : ∀ ob, (w6.alloc ob).cell? ⟨w.heap.size + 1, 0, none⟩ = some (.int .i64 a1) := fun ob => (((Ext.refl w6).alloc ob).cell 0 (by omega)).trans (by assumption)
        have d929 : ∀ ob, (w6.alloc ob).cell? ⟨w.heap.size + 1, 1, none⟩ = some (.int .i64 a1') := fun ob => (((Ext.refl w6).alloc ob).cell 1 (by omega)).trans (by assumption)
        have d930 : ∀ ob, (w6.alloc ob).cell? ⟨w3.heap.size, 0, none⟩ = some (.int .i64 (tL a0 a0' a1 a1' 4)) := fun ob => (((Ext.refl w6).alloc ob).cell 0 (by omega)).trans (by assumption)
        have d931 : ∀ ob, (w6.alloc ob).cell? ⟨w3.heap.size, 1, none⟩ = some (.int .i64 (tH a0 a0' a1 a1' 4)) := fun ob => (((Ext.refl w6).alloc ob).cell 1 (by omega)).trans (by assumption)
        have d932 : ∀ ob, (w6.alloc ob).cell? ⟨w3.heap.size, 2, none⟩ = some (.int .i64 (0)) := fun ob => (((Ext.refl w6).alloc ob).cell 2 (by omega)).trans (by assumption)
        have d933 : ∀ ob, (w6.alloc ob).cell? ⟨w5.heap.size, 0, none⟩ = some (.int .i64 (sqL a0 a0' a1 a1')) := fun ob => (((Ext.refl w6).alloc ob).cell 0 (by omega)).trans (by assumption)
        have d934 : ∀ ob, (w6.alloc ob).cell? ⟨w5.heap.size, 1, none⟩ = some (.int .i64 (sqH a0 a0' a1 a1')) := fun ob => (((Ext.refl w6).alloc ob).cell 1 (by omega)).trans (by assumption)
        have d935 : ∀ ob, (w6.alloc ob).frozen? ⟨w5.heap.size, 0, none⟩ = false := fun ob => (((Ext.refl w6).alloc ob).froz 0 (by omega)).trans (by assumption)
        have d936 : ∀ ob, (w6.alloc ob).frozen? ⟨w5.heap.size, 1, none⟩ = false := fun ob => (((Ext.refl w6).alloc ob).froz 1 (by omega)).trans (by assumption)
        go_wp2_with (first | (go_at_call 32; refine (cmp_any _ _ _).mono ?_; rintro e w' ⟨rfl, rfl⟩))
        go_ret
        exact ⟨by first | rfl | (simp; done), by repeat (first | exact Ext.refl _ | assumption | refine Ext.drewN ?_ _ | refine Ext.drew ?_ | refine Ext.alloc ?_ _ | refine Ext.setCell ?_ (by dsimp only; omega) _ | refine Ext.trans ?_ (by assumption))⟩
      · have z1 : sqE a0 a0' a1 a1' = 0 := by simp [sqE, HV1.out, HV2.out, hcd]
        have z2 : sqM a0 a0' a1 a1' = inB 0 a1 a1' := by simp [sqM, z1, inB]
        obtain ⟨y1, y2, y3⟩ := t4 HV2.out z1 hcd
        clear hcd
        obtain ⟨nn, hnn⟩ : ∃ x, tN a1 a1' 4 = x := ⟨_, rfl⟩
        rw [hnn] at y1
        have y4 : decide (0 < nn) = true := by simpa using y1
        have b0 : w4.cell? ⟨w.heap.size, 0, none⟩ = some (.int .i64 a0) := HR.out.t.a0
        have b1 : w4.cell? ⟨w.heap.size, 1, none⟩ = some (.int .i64 a0') := HR.out.t.a1
        have b2 : w4.cell? ⟨w.heap.size + 1, 0, none⟩ = some (.int .i64 a1) := HR.out.t.b0
        have b3 : w4.cell? ⟨w.heap.size + 1, 1, none⟩ = some (.int .i64 a1') := HR.out.t.b1
        have g0 : w4.cell? ⟨w3.heap.size, 0, none⟩ = some (.int .i64 (sqL a0 a0' a1 a1')) := by have := HR.out.f.c0; rw [y2] at this; exact this
        have g1 : w4.cell? ⟨w3.heap.size, 1, none⟩ = some (.int .i64 (sqH a0 a0' a1 a1')) := by have := HR.out.f.c1; rw [y3] at this; exact this
        have g2 : w4.cell? ⟨w3.heap.size, 2, none⟩ = some (.int .i64 (nn)) := by have := HR.out.f.c2; rw [hnn] at this; exact this
        clear y1 y2 y3 hnn
        have Z1 := Lib.hid z1
        clear z1
        have Z2 := Lib.hid z2
        clear z2
        go_wp2_with fail
        refine (spanquo_any a0 a0' a1 a1' _).mono ?_
        rintro e w5 ⟨rfl, hx5⟩
        rw [Z1.out, Z2.out]
        have s5 := hx5.size
        try simp at s5
        have c901 : w5.cell? ⟨w.heap.size, 0, none⟩ = some (.int .i64 a0) := (hx5.cell 0 (by first | (simp; done) | (simp; omega) | omega)).trans (by first | assumption | (simp [go_sem]; done) | exact ((((Ext.refl _).alloc _).cell _ (by omega)).trans (by assumption)) | (simp [go_sem, *]; done))
        have c902 : w5.cell? ⟨w.heap.size, 1, none⟩ = some (.int .i64 a0') := (hx5.cell 1 (by first | (simp; done) | (simp; omega) | omega)).trans (by first | assumption | (simp [go_sem]; done) | exact ((((Ext.refl _).alloc _).cell _ (by omega)).trans (by assumption)) | (simp [go_sem, *]; done))
        have c903 : w5.cell? ⟨w.heap.size + 1, 0, none⟩ = some (.int .i64 a1) := (hx5.cell 0 (by first | (simp; done) | (simp; omega) | omega)).trans (by first | assumption | (simp [go_sem]; done) | exact ((((Ext.refl _).alloc _).cell _ (by omega)).trans (by assumption)) | (simp [go_sem, *]; done))
        have c904 : w5.cell? ⟨w.heap.size + 1, 1, none⟩ = some (.int .i64 a1') := (hx5.cell 1 (by first | (simp; done) | (simp; omega) | omega)).trans (by first | assumption | (simp [go_sem]; done) | exact ((((Ext.refl _).alloc _).cell _ (by omega)).trans (by assumption)) | (simp [go_sem, *]; done))
        have c905 : w5.cell? ⟨w3.heap.size, 0, none⟩ = some (.int .i64 (sqL a0 a0' a1 a1')) := (hx5.cell 0 (by first | (simp; done) | (simp; omega) | omega)).trans (by first | assumption | (simp [go_sem]; done) | exact ((((Ext.refl _).alloc _).cell _ (by omega)).trans (by assumption)) | (simp [go_sem, *]; done))
        have c906 : w5.cell? ⟨w3.heap.size, 1, none⟩ = some (.int .i64 (sqH a0 a0' a1 a1')) := (hx5.cell 1 (by first | (simp; done) | (simp; omega) | omega)).trans (by first | assumption | (simp [go_sem]; done) | exact ((((Ext.refl _).alloc _).cell _ (by omega)).trans (by assumption)) | (simp [go_sem, *]; done))
        have c907 : w5.cell? ⟨w3.heap.size, 2, none⟩ = some (.int .i64 (nn)) := (hx5.cell 2 (by first | (simp; done) | (simp; omega) | omega)).trans (by first | assumption | (simp [go_sem]; done) | exact ((((Ext.refl _).alloc _).cell _ (by omega)).trans (by assumption)) | (simp [go_sem, *]; done))
        clear b0 b1 b2 b3 g0 g1 g2
        have d908 : ∀ ob, (w5.alloc ob).cell? ⟨w.heap.size, 0, none⟩ = some (.int .i64 a0) := fun ob => (((Ext.refl w5).alloc ob).cell 0 (by omega)).trans (by assumption)
        have d909 : ∀ ob, (w5.alloc ob).cell? ⟨w.heap.size, 1, none⟩ = some (.int .i64 a0') := fun ob => (((Ext.refl w5).alloc ob).cell 1 (by omega)).trans (by assumption)
        have d910 : ∀ ob, (w5.alloc ob).cell? ⟨w.heap.size + 1, 0, none⟩ = some (.int .i64 a1) := fun ob => (((Ext.refl w5).alloc ob).cell 0 (by omega)).trans (by assumption)
        have d911 : ∀ ob, (w5.alloc ob).cell? ⟨w.heap.size + 1, 1, none⟩ = some (.int .i64 a1') := fun ob => (((Ext.refl w5).alloc ob).cell 1 (by omega)).trans (by assumption)
        have d912 : ∀ ob, (w5.alloc ob).cell? ⟨w3.heap.size, 0, none⟩ = some (.int .i64 (sqL a0 a0' a1 a1')) := fun ob => (((Ext.refl w5).alloc ob).cell 0 (by omega)).trans (by assumption)
        have d913 : ∀ ob, (w5.alloc ob).cell? ⟨w3.heap.size, 1, none⟩ = some (.int .i64 (sqH a0 a0' a1 a1')) := fun ob => (((Ext.refl w5).alloc ob).cell 1 (by omega)).trans (by assumption)
        have d914 : ∀ ob, (w5.alloc ob).cell? ⟨w3.heap.size, 2, none⟩ = some (.int .i64 (nn)) := fun ob => (((Ext.refl w5).alloc ob).cell 2 (by omega)).trans (by assumption)
        go_wp2_with fail
        refine (in_any 0 a1 a1' _).mono ?_
        rintro e w6 ⟨rfl, hx6⟩
        have s6 := hx6.size
        try simp at s6
        have c915 : w6.cell? ⟨w.heap.size, 0, none⟩ = some (.int .i64 a0) := (hx6.cell 0 (by first | (simp; done) | (simp; omega) | omega)).trans (by first | assumption | (simp [go_sem]; done) | exact ((((Ext.refl _).alloc _).cell _ (by omega)).trans (by assumption)) | (simp [go_sem, *]; done))
        have c916 : w6.cell? ⟨w.heap.size, 1, none⟩ = some (.int .i64 a0') := (hx6.cell 1 (by first | (simp; done) | (simp; omega) | omega)).trans (by first | assumption | (simp [go_sem]; done) | exact ((((Ext.refl _).alloc _).cell _ (by omega)).trans (by assumption)) | (simp [go_sem, *]; done))
        have c917 : w6.cell? ⟨w.heap.size + 1, 0, none⟩ = some (.int .i64 a1) := (hx6.cell 0 (by first | (simp; done) | (simp; omega) | omega)).trans (by first | assumption | (simp [go_sem]; done) | exact ((((Ext.refl _).alloc _).cell _ (by omega)).trans (by assumption)) | (simp [go_sem, *]; done))
        have c918 : w6.cell? ⟨w.heap.size + 1, 1, none⟩ = some (.int .i64 a1') := (hx6.cell 1 (by first | (simp; done) | (simp; omega) | omega)).trans (by first | assumption | (simp [go_sem]; done) | exact ((((Ext.refl _).alloc _).cell _ (by omega)).trans (by assumption)) | (simp [go_sem, *]; done))
        have c919 : w6.cell? ⟨w3.heap.size, 0, none⟩ = some (.int .i64 (sqL a0 a0' a1 a1')) := (hx6.cell 0 (by first | (simp; done) | (simp; omega) | omega)).trans (by first | assumption | (simp [go_sem]; done) | exact ((((Ext.refl _).alloc _).cell _ (by omega)).trans (by assumption)) | (simp [go_sem, *]; done))
        have c920 : w6.cell? ⟨w3.heap.size, 1, none⟩ = some (.int .i64 (sqH a0 a0' a1 a1')) := (hx6.cell 1 (by first | (simp; done) | (simp; omega) | omega)).trans (by first | assumption | (simp [go_sem]; done) | exact ((((Ext.refl _).alloc _).cell _ (by omega)).trans (by assumption)) | (simp [go_sem, *]; done))
        have c921 : w6.cell? ⟨w3.heap.size, 2, none⟩ = some (.int .i64 (nn)) := (hx6.cell 2 (by first | (simp; done) | (simp; omega) | omega)).trans (by first | assumption | (simp [go_sem]; done) | exact ((((Ext.refl _).alloc _).cell _ (by omega)).trans (by assumption)) | (simp [go_sem, *]; done))
        have c922 : w6.cell? ⟨w5.heap.size, 0, none⟩ = some (.int .i64 (sqL a0 a0' a1 a1')) := (hx6.cell 0 (by first | (simp; done) | (simp; omega) | omega)).trans (by first | assumption | (simp [go_sem]; done) | exact ((((Ext.refl _).alloc _).cell _ (by omega)).trans (by assumption)) | (simp [go_sem, *]; done))
        have c923 : w6.cell? ⟨w5.heap.size, 1, none⟩ = some (.int .i64 (sqH a0 a0' a1 a1')) := (hx6.cell 1 (by first | (simp; done) | (simp; omega) | omega)).trans (by first | assumption | (simp [go_sem]; done) | exact ((((Ext.refl _).alloc _).cell _ (by omega)).trans (by assumption)) | (simp [go_sem, *]; done))
        have c924 : w6.frozen? ⟨w5.heap.size, 0, none⟩ = false := (hx6.froz 0 (by first | (simp; done) | (simp; omega) | omega)).trans (by first | assumption | (simp [go_sem]; done) | exact ((((Ext.refl _).alloc _).froz _ (by omega)).trans (by assumption)) | (simp [go_sem, *]; done))
        have c925 : w6.frozen? ⟨w5.heap.size, 1, none⟩ = false := (hx6.froz 1 (by first | (simp; done) | (simp; omega) | omega)).trans (by first | assumption | (simp [go_sem]; done) | exact ((((Ext.refl _).alloc _).froz _ (by omega)).trans (by assumption)) | (simp [go_sem, *]; done))
        clear c901 c902 c903 c904 c905 c906 c907 d908 d909 d910 d911 d912 d913 d914
        have d926 : ∀ ob, (w6.alloc ob).cell? ⟨w.heap.size, 0, none⟩ = some (.int .i64 a0) := fun ob => (((Ext.refl w6).alloc ob).cell 0 (by omega)).trans (by assumption)
        have d927 : ∀ ob, (w6.alloc ob).cell? ⟨w.heap.size, 1, none⟩ = some (.int .i64 a0') := fun ob => (((Ext.refl w6).alloc ob).cell 1 (by omega)).trans (by assumption)
        have d928 : ∀ ob, (w6.alloc ob).cell? ⟨w.heap.size + 1, 0, none⟩ = some (.int .i64 a1) := fun ob => (((Ext.refl w6).alloc ob).cell 0 (by omega)).trans (by assumption)
        have d929 : ∀ ob, (w6.alloc ob).cell? ⟨w.heap.size + 1, 1, none⟩ = some (.int .i64 a1') := fun ob => (((Ext.refl w6).alloc ob).cell 1 (by omega)).trans (by assumption)
        have d930 : ∀ ob, (w6.alloc ob).cell? ⟨w3.heap.size, 0, none⟩ = some (.int .i64 (sqL a0 a0' a1 a1')) := fun ob => (((Ext.refl w6).alloc ob).cell 0 (by omega)).trans (by assumption)
        have d931 : ∀ ob, (w6.alloc ob).cell? ⟨w3.heap.size, 1, none⟩ = some (.int .i64 (sqH a0 a0' a1 a1')) := fun ob => (((Ext.refl w6).alloc ob).cell 1 (by omega)).trans (by assumption)
        have d932 : ∀ ob, (w6.alloc ob).cell? ⟨w3.heap.size, 2, none⟩ = some (.int .i64 (nn)) := fun ob => (((Ext.refl w6).alloc ob).cell 2 (by omega)).trans (by assumption)
        have d933 : ∀ ob, (w6.alloc ob).cell? ⟨w5.heap.size, 0, none⟩ = some (.int .i64 (sqL a0 a0' a1 a1')) := fun ob => (((Ext.refl w6).alloc ob).cell 0 (by omega)).trans (by assumption)
        have d934 : ∀ ob, (w6.alloc ob).cell? ⟨w5.heap.size, 1, none⟩ = some (.int .i64 (sqH a0 a0' a1 a1')) := fun ob => (((Ext.refl w6).alloc ob).cell 1 (by omega)).trans (by assumption)
        have d935 : ∀ ob, (w6.alloc ob).frozen? ⟨w5.heap.size, 0, none⟩ = false := fun ob => (((Ext.refl w6).alloc ob).froz 0 (by omega)).trans (by assumption)
        have d936 : ∀ ob, (w6.alloc ob).frozen? ⟨w5.heap.size, 1, none⟩ = false := fun ob => (((Ext.refl w6).alloc ob).froz 1 (by omega)).trans (by assumption)
        go_wp2_with fail
        refine (spancmp_any a0 a0' a1 a1' _).mono ?_
        rintro e w7 ⟨rfl, hx7⟩
        rw [K1.out, K2.out, K3.out]
        have s7 := hx7.size
        try simp at s7
        have c937 : w7.cell? ⟨w.heap.size, 0, none⟩ = some (.int .i64 a0) := (hx7.cell 0 (by first | (simp; done) | (simp; omega) | omega)).trans (by first | assumption | (simp [go_sem]; done) | exact ((((Ext.refl _).alloc _).cell _ (by omega)).trans (by assumption)) | (simp [go_sem, *]; done))
        have c938 : w7.cell? ⟨w.heap.size, 1, none⟩ = some (.int .i64 a0') := (hx7.cell 1 (by first | (simp; done) | (simp; omega) | omega)).trans (by first | assumption | (simp [go_sem]; done) | exact ((((Ext.refl _).alloc _).cell _ (by omega)).trans (by assumption)) | (simp [go_sem, *]; done))
        have c939 : w7.cell? ⟨w.heap.size + 1, 0, none⟩ = some (.int .i64 a1) := (hx7.cell 0 (by first | (simp; done) | (simp; omega) | omega)).trans (by first | assumption | (simp [go_sem]; done) | exact ((((Ext.refl _).alloc _).cell _ (by omega)).trans (by assumption)) | (simp [go_sem, *]; done))
        have c940 : w7.cell? ⟨w.heap.size + 1, 1, none⟩ = some (.int .i64 a1') := (hx7.cell 1 (by first | (simp; done) | (simp; omega) | omega)).trans (by first | assumption | (simp [go_sem]; done) | exact ((((Ext.refl _).alloc _).cell _ (by omega)).trans (by assumption)) | (simp [go_sem, *]; done))
        have c941 : w7.cell? ⟨w3.heap.size, 0, none⟩ = some (.int .i64 (sqL a0 a0' a1 a1')) := (hx7.cell 0 (by first | (simp; done) | (simp; omega) | omega)).trans (by first | assumption | (simp [go_sem]; done) | exact ((((Ext.refl _).alloc _).cell _ (by omega)).trans (by assumption)) | (simp [go_sem, *]; done))
        have c942 : w7.cell? ⟨w3.heap.size, 1, none⟩ = some (.int .i64 (sqH a0 a0' a1 a1')) := (hx7.cell 1 (by first | (simp; done) | (simp; omega) | omega)).trans (by first | assumption | (simp [go_sem]; done) | exact ((((Ext.refl _).alloc _).cell _ (by omega)).trans (by assumption)) | (simp [go_sem, *]; done))
        have c943 : w7.cell? ⟨w3.heap.size, 2, none⟩ = some (.int .i64 (nn)) := (hx7.cell 2 (by first | (simp; done) | (simp; omega) | omega)).trans (by first | assumption | (simp [go_sem]; done) | exact ((((Ext.refl _).alloc _).cell _ (by omega)).trans (by assumption)) | (simp [go_sem, *]; done))
        have c944 : w7.cell? ⟨w5.heap.size, 0, none⟩ = some (.int .i64 (sqL a0 a0' a1 a1')) := (hx7.cell 0 (by first | (simp; done) | (simp; omega) | omega)).trans (by first | assumption | (simp [go_sem]; done) | exact ((((Ext.refl _).alloc _).cell _ (by omega)).trans (by assumption)) | (simp [go_sem, *]; done))
        have c945 : w7.cell? ⟨w5.heap.size, 1, none⟩ = some (.int .i64 (sqH a0 a0' a1 a1')) := (hx7.cell 1 (by first | (simp; done) | (simp; omega) | omega)).trans (by first | assumption | (simp [go_sem]; done) | exact ((((Ext.refl _).alloc _).cell _ (by omega)).trans (by assumption)) | (simp [go_sem, *]; done))
        have c946 : w7.frozen? ⟨w5.heap.size, 0, none⟩ = false := (hx7.froz 0 (by first | (simp; done) | (simp; omega) | omega)).trans (by first | assumption | (simp [go_sem]; done) | exact ((((Ext.refl _).alloc _).froz _ (by omega)).trans (by assumption)) | (simp [go_sem, *]; done))
        have c947 : w7.frozen? ⟨w5.heap.size, 1, none⟩ = false := (hx7.froz 1 (by first | (simp; done) | (simp; omega) | omega)).trans (by first | assumption | (simp [go_sem]; done) | exact ((((Ext.refl _).alloc _).froz _ (by omega)).trans (by assumption)) | (simp [go_sem, *]; done))
        clear c915 c916 c917 c918 c919 c920 c921 c922 c923 c924 c925 d926 d927 d928 d929 d930 d931 d932 d933 d934 d935 d936
        have d948 : ∀ ob, (w7.alloc ob).cell? ⟨w.heap.size, 0, none⟩ = some (.int .i64 a0) := fun ob => (((Ext.refl w7).alloc ob).cell 0 (by omega)).trans (by assumption)
        have d949 : ∀ ob, (w7.alloc ob).cell? ⟨w.heap.size, 1, none⟩ = some (.int .i64 a0') := fun ob => (((Ext.refl w7).alloc ob).cell 1 (by omega)).trans (by assumption)
        have d950 : ∀ ob, (w7.alloc ob).cell? ⟨w.heap.size + 1, 0, none⟩ = some (.int .i64 a1) := fun ob => (((Ext.refl w7).alloc ob).cell 0 (by omega)).trans (by assumption)
        have d951 : ∀ ob, (w7.alloc ob).cell? ⟨w.heap.size + 1, 1, none⟩ = some (.int .i64 a1') := fun ob => (((Ext.refl w7).alloc ob).cell 1 (by omega)).trans (by assumption)
        have d952 : ∀ ob, (w7.alloc ob).cell? ⟨w3.heap.size, 0, none⟩ = some (.int .i64 (sqL a0 a0' a1 a1')) := fun ob => (((Ext.refl w7).alloc ob).cell 0 (by omega)).trans (by assumption)
        have d953 : ∀ ob, (w7.alloc ob).cell? ⟨w3.heap.size, 1, none⟩ = some (.int .i64 (sqH a0 a0' a1 a1')) := fun ob => (((Ext.refl w7).alloc ob).cell 1 (by omega)).trans (by assumption)
        have d954 : ∀ ob, (w7.alloc ob).cell? ⟨w3.heap.size, 2, none⟩ = some (.int .i64 (nn)) := fun ob => (((Ext.refl w7).alloc ob).cell 2 (by omega)).trans (by assumption)
        have d955 : ∀ ob, (w7.alloc ob).cell? ⟨w5.heap.size, 0, none⟩ = some (.int .i64 (sqL a0 a0' a1 a1')) := fun ob => (((Ext.refl w7).alloc ob).cell 0 (by omega)).trans (by assumption)
        have d956 : ∀ ob, (w7.alloc ob).cell? ⟨w5.heap.size, 1, none⟩ = some (.int .i64 (sqH a0 a0' a1 a1')) := fun ob => (((Ext.refl w7).alloc ob).cell 1 (by omega)).trans (by assumption)
        have d957 : ∀ ob, (w7.alloc ob).frozen? ⟨w5.heap.size, 0, none⟩ = false := fun ob => (((Ext.refl w7).alloc ob).froz 0 (by omega)).trans (by assumption)
        have d958 : ∀ ob, (w7.alloc ob).frozen? ⟨w5.heap.size, 1, none⟩ = false := fun ob => (((Ext.refl w7).alloc ob).froz 1 (by omega)).trans (by assumption)
        go_wp2_with (first | (go_at_call 32; refine (cmp_any _ _ _).mono ?_; rintro e w' ⟨rfl, rfl⟩))
        go_ret
        exact ⟨by first | rfl | (simp; done), by repeat (first | exact Ext.refl _ | assumption | refine Ext.drewN ?_ _ | refine Ext.drew ?_ | refine Ext.alloc ?_ _ | refine Ext.setCell ?_ (by dsimp only; omega) _ | refine Ext.trans ?_ (by assumption))⟩
end Go.Proofs.Ytmcajdfbkhaplaa.integerTighter
