/- The walk of IntegerSpans. -/
import Derived.Test.YtmcajdfbkhaplaaSf
import Derived.Test.YtmcajdfbkhaplaaSi
import Derived.Test.YtmcajdfbkhaplaaSj
import Derived.Deep.RegionHeld3
namespace Go.Proofs.Ytmcajdfbkhaplaa.integerSpans
open Go.RowKit
set_option maxRecDepth 100000 in
set_option maxHeartbeats 8000000 in
theorem walk (a0 a0' : Int) (w0 : (Lit.int .i64 a0).wf = true) (w0' : (Lit.int .i64 a0').wf = true) (a1 a1' : Int) (w1 : (Lit.int .i64 a1).wf = true) (w1' : (Lit.int .i64 a1').wf = true) (w : World) :
    Calls Try.prog 6 #[.agg #[.int .i64 a0, .int .i64 a0'], .agg #[.int .i64 a1, .int .i64 a1']] w fun e w' => e = .returned (.bool true) ∧ Ext w w' := by
  have : True := (fun _ _ _ _ => trivial) w0 w0' w1 w1'
  clear this w0 w0' w1 w1'
  go_enter Try.func6, Try.ntmps6
  go_wp2_with fail
  refine (spanneg_any a0 a0' _).mono ?_
  rintro e w1 ⟨rfl, hx1⟩
  have s1 := hx1.size
  try simp at s1
  have c1 : w1.cell? ⟨w.heap.size, 0, none⟩ = some (.int .i64 a0) := (hx1.cell 0 (by first | (simp; done) | (simp; omega) | omega)).trans (by first | assumption | (simp [go_sem]; done) | exact ((((Ext.refl _).alloc _).cell _ (by omega)).trans (by assumption)) | (simp [go_sem, *]; done))
  have c2 : w1.cell? ⟨w.heap.size, 1, none⟩ = some (.int .i64 a0') := (hx1.cell 1 (by first | (simp; done) | (simp; omega) | omega)).trans (by first | assumption | (simp [go_sem]; done) | exact ((((Ext.refl _).alloc _).cell _ (by omega)).trans (by assumption)) | (simp [go_sem, *]; done))
  have c3 : w1.cell? ⟨w.heap.size + 1, 0, none⟩ = some (.int .i64 a1) := (hx1.cell 0 (by first | (simp; done) | (simp; omega) | omega)).trans (by first | assumption | (simp [go_sem]; done) | exact ((((Ext.refl _).alloc _).cell _ (by omega)).trans (by assumption)) | (simp [go_sem, *]; done))
  have c4 : w1.cell? ⟨w.heap.size + 1, 1, none⟩ = some (.int .i64 a1') := (hx1.cell 1 (by first | (simp; done) | (simp; omega) | omega)).trans (by first | assumption | (simp [go_sem]; done) | exact ((((Ext.refl _).alloc _).cell _ (by omega)).trans (by assumption)) | (simp [go_sem, *]; done))
  have d5 : ∀ ob, (w1.alloc ob).cell? ⟨w.heap.size, 0, none⟩ = some (.int .i64 a0) := fun ob => (((Ext.refl w1).alloc ob).cell 0 (by omega)).trans (by assumption)
  have d6 : ∀ ob, (w1.alloc ob).cell? ⟨w.heap.size, 1, none⟩ = some (.int .i64 a0') := fun ob => (((Ext.refl w1).alloc ob).cell 1 (by omega)).trans (by assumption)
  have d7 : ∀ ob, (w1.alloc ob).cell? ⟨w.heap.size + 1, 0, none⟩ = some (.int .i64 a1) := fun ob => (((Ext.refl w1).alloc ob).cell 0 (by omega)).trans (by assumption)
  have d8 : ∀ ob, (w1.alloc ob).cell? ⟨w.heap.size + 1, 1, none⟩ = some (.int .i64 a1') := fun ob => (((Ext.refl w1).alloc ob).cell 1 (by omega)).trans (by assumption)
  go_wp2_with fail
  refine (rspanneg_any a0 a0' _).mono ?_
  rintro e w2 ⟨rfl, hx2⟩
  have s2 := hx2.size
  try simp at s2
  have c9 : w2.cell? ⟨w.heap.size, 0, none⟩ = some (.int .i64 a0) := (hx2.cell 0 (by first | (simp; done) | (simp; omega) | omega)).trans (by first | assumption | (simp [go_sem]; done) | exact ((((Ext.refl _).alloc _).cell _ (by omega)).trans (by assumption)) | (simp [go_sem, *]; done))
  have c10 : w2.cell? ⟨w.heap.size, 1, none⟩ = some (.int .i64 a0') := (hx2.cell 1 (by first | (simp; done) | (simp; omega) | omega)).trans (by first | assumption | (simp [go_sem]; done) | exact ((((Ext.refl _).alloc _).cell _ (by omega)).trans (by assumption)) | (simp [go_sem, *]; done))
  have c11 : w2.cell? ⟨w.heap.size + 1, 0, none⟩ = some (.int .i64 a1) := (hx2.cell 0 (by first | (simp; done) | (simp; omega) | omega)).trans (by first | assumption | (simp [go_sem]; done) | exact ((((Ext.refl _).alloc _).cell _ (by omega)).trans (by assumption)) | (simp [go_sem, *]; done))
  have c12 : w2.cell? ⟨w.heap.size + 1, 1, none⟩ = some (.int .i64 a1') := (hx2.cell 1 (by first | (simp; done) | (simp; omega) | omega)).trans (by first | assumption | (simp [go_sem]; done) | exact ((((Ext.refl _).alloc _).cell _ (by omega)).trans (by assumption)) | (simp [go_sem, *]; done))
  have c13 : w2.cell? ⟨w1.heap.size, 0, none⟩ = some (.int .i64 (negL a0 a0')) := (hx2.cell 0 (by first | (simp; done) | (simp; omega) | omega)).trans (by first | assumption | (simp [go_sem]; done) | exact ((((Ext.refl _).alloc _).cell _ (by omega)).trans (by assumption)) | (simp [go_sem, *]; done))
  have c14 : w2.cell? ⟨w1.heap.size, 1, none⟩ = some (.int .i64 (negH a0 a0')) := (hx2.cell 1 (by first | (simp; done) | (simp; omega) | omega)).trans (by first | assumption | (simp [go_sem]; done) | exact ((((Ext.refl _).alloc _).cell _ (by omega)).trans (by assumption)) | (simp [go_sem, *]; done))
  have c15 : w2.frozen? ⟨w1.heap.size, 0, none⟩ = false := (hx2.froz 0 (by first | (simp; done) | (simp; omega) | omega)).trans (by first | assumption | (simp [go_sem]; done) | exact ((((Ext.refl _).alloc _).froz _ (by omega)).trans (by assumption)) | (simp [go_sem, *]; done))
  have c16 : w2.frozen? ⟨w1.heap.size, 1, none⟩ = false := (hx2.froz 1 (by first | (simp; done) | (simp; omega) | omega)).trans (by first | assumption | (simp [go_sem]; done) | exact ((((Ext.refl _).alloc _).froz _ (by omega)).trans (by assumption)) | (simp [go_sem, *]; done))
  clear c1 c2 c3 c4 d5 d6 d7 d8
  have d17 : ∀ ob, (w2.alloc ob).cell? ⟨w.heap.size, 0, none⟩ = some (.int .i64 a0) := fun ob => (((Ext.refl w2).alloc ob).cell 0 (by omega)).trans (by assumption)
  have d18 : ∀ ob, (w2.alloc ob).cell? ⟨w.heap.size, 1, none⟩ = some (.int .i64 a0') := fun ob => (((Ext.refl w2).alloc ob).cell 1 (by omega)).trans (by assumption)
  have d19 : ∀ ob, (w2.alloc ob).cell? ⟨w.heap.size + 1, 0, none⟩ = some (.int .i64 a1) := fun ob => (((Ext.refl w2).alloc ob).cell 0 (by omega)).trans (by assumption)
  have d20 : ∀ ob, (w2.alloc ob).cell? ⟨w.heap.size + 1, 1, none⟩ = some (.int .i64 a1') := fun ob => (((Ext.refl w2).alloc ob).cell 1 (by omega)).trans (by assumption)
  have d21 : ∀ ob, (w2.alloc ob).cell? ⟨w1.heap.size, 0, none⟩ = some (.int .i64 (negL a0 a0')) := fun ob => (((Ext.refl w2).alloc ob).cell 0 (by omega)).trans (by assumption)
  have d22 : ∀ ob, (w2.alloc ob).cell? ⟨w1.heap.size, 1, none⟩ = some (.int .i64 (negH a0 a0')) := fun ob => (((Ext.refl w2).alloc ob).cell 1 (by omega)).trans (by assumption)
  have d23 : ∀ ob, (w2.alloc ob).frozen? ⟨w1.heap.size, 0, none⟩ = false := fun ob => (((Ext.refl w2).alloc ob).froz 0 (by omega)).trans (by assumption)
  have d24 : ∀ ob, (w2.alloc ob).frozen? ⟨w1.heap.size, 1, none⟩ = false := fun ob => (((Ext.refl w2).alloc ob).froz 1 (by omega)).trans (by assumption)
  go_wp2_with fail
  have keepE : ∀ u u' : World, (fun w' : World => (w'.cell? ⟨w.heap.size, 0, none⟩ = some (.int .i64 a0) ∧ w'.cell? ⟨w.heap.size, 1, none⟩ = some (.int .i64 a0') ∧ w'.cell? ⟨w.heap.size + 1, 0, none⟩ = some (.int .i64 a1) ∧ w'.cell? ⟨w.heap.size + 1, 1, none⟩ = some (.int .i64 a1') ∧ w'.cell? ⟨w1.heap.size, 0, none⟩ = some (.int .i64 (negL a0 a0')) ∧ w'.cell? ⟨w1.heap.size, 1, none⟩ = some (.int .i64 (negH a0 a0')) ∧ w'.cell? ⟨w2.heap.size, 0, none⟩ = some (.int .i64 (negL a0 a0')) ∧ w'.cell? ⟨w2.heap.size, 1, none⟩ = some (.int .i64 (negH a0 a0')) ∧ w'.frozen? ⟨w1.heap.size, 0, none⟩ = false ∧ w'.frozen? ⟨w1.heap.size, 1, none⟩ = false ∧ w'.frozen? ⟨w2.heap.size, 0, none⟩ = false ∧ w'.frozen? ⟨w2.heap.size, 1, none⟩ = false)) u → Ext u u' → (fun w' : World => (w'.cell? ⟨w.heap.size, 0, none⟩ = some (.int .i64 a0) ∧ w'.cell? ⟨w.heap.size, 1, none⟩ = some (.int .i64 a0') ∧ w'.cell? ⟨w.heap.size + 1, 0, none⟩ = some (.int .i64 a1) ∧ w'.cell? ⟨w.heap.size + 1, 1, none⟩ = some (.int .i64 a1') ∧ w'.cell? ⟨w1.heap.size, 0, none⟩ = some (.int .i64 (negL a0 a0')) ∧ w'.cell? ⟨w1.heap.size, 1, none⟩ = some (.int .i64 (negH a0 a0')) ∧ w'.cell? ⟨w2.heap.size, 0, none⟩ = some (.int .i64 (negL a0 a0')) ∧ w'.cell? ⟨w2.heap.size, 1, none⟩ = some (.int .i64 (negH a0 a0')) ∧ w'.frozen? ⟨w1.heap.size, 0, none⟩ = false ∧ w'.frozen? ⟨w1.heap.size, 1, none⟩ = false ∧ w'.frozen? ⟨w2.heap.size, 0, none⟩ = false ∧ w'.frozen? ⟨w2.heap.size, 1, none⟩ = false)) u' := by
    rintro u u' ⟨g0, g1, g2, g3, g4, g5, g6, g7, g8, g9, g10, g11⟩ hx
    exact ⟨(hx.cell 0 (World.block_lt_of_cell? u _ g0)).trans g0, (hx.cell 1 (World.block_lt_of_cell? u _ g1)).trans g1, (hx.cell 0 (World.block_lt_of_cell? u _ g2)).trans g2, (hx.cell 1 (World.block_lt_of_cell? u _ g3)).trans g3, (hx.cell 0 (World.block_lt_of_cell? u _ g4)).trans g4, (hx.cell 1 (World.block_lt_of_cell? u _ g5)).trans g5, (hx.cell 0 (World.block_lt_of_cell? u _ g6)).trans g6, (hx.cell 1 (World.block_lt_of_cell? u _ g7)).trans g7, (hx.froz 0 (World.block_lt_of_cell? u _ g4)).trans g8, (hx.froz 1 (World.block_lt_of_cell? u _ g4)).trans g9, (hx.froz 0 (World.block_lt_of_cell? u _ g6)).trans g10, (hx.froz 1 (World.block_lt_of_cell? u _ g6)).trans g11⟩
  obtain ⟨u0, hu0⟩ : ∃ u : World, u = w2.alloc (.cells #[.int .i64 (negL a0 a0'), .int .i64 (negH a0 a0')] 35) := ⟨_, rfl⟩
  have keep0 : (fun w' : World => (w'.cell? ⟨w.heap.size, 0, none⟩ = some (.int .i64 a0) ∧ w'.cell? ⟨w.heap.size, 1, none⟩ = some (.int .i64 a0') ∧ w'.cell? ⟨w.heap.size + 1, 0, none⟩ = some (.int .i64 a1) ∧ w'.cell? ⟨w.heap.size + 1, 1, none⟩ = some (.int .i64 a1') ∧ w'.cell? ⟨w1.heap.size, 0, none⟩ = some (.int .i64 (negL a0 a0')) ∧ w'.cell? ⟨w1.heap.size, 1, none⟩ = some (.int .i64 (negH a0 a0')) ∧ w'.cell? ⟨w2.heap.size, 0, none⟩ = some (.int .i64 (negL a0 a0')) ∧ w'.cell? ⟨w2.heap.size, 1, none⟩ = some (.int .i64 (negH a0 a0')) ∧ w'.frozen? ⟨w1.heap.size, 0, none⟩ = false ∧ w'.frozen? ⟨w1.heap.size, 1, none⟩ = false ∧ w'.frozen? ⟨w2.heap.size, 0, none⟩ = false ∧ w'.frozen? ⟨w2.heap.size, 1, none⟩ = false)) (w2.alloc (.cells #[.int .i64 (negL a0 a0'), .int .i64 (negH a0 a0')] 35)) := ⟨(by first | assumption | (simp [go_sem]; done) | (simp [go_sem, *]; done)), (by first | assumption | (simp [go_sem]; done) | (simp [go_sem, *]; done)), (by first | assumption | (simp [go_sem]; done) | (simp [go_sem, *]; done)), (by first | assumption | (simp [go_sem]; done) | (simp [go_sem, *]; done)), (by first | assumption | (simp [go_sem]; done) | (simp [go_sem, *]; done)), (by first | assumption | (simp [go_sem]; done) | (simp [go_sem, *]; done)), (by first | assumption | (simp [go_sem]; done) | (simp [go_sem, *]; done)), (by first | assumption | (simp [go_sem]; done) | (simp [go_sem, *]; done)), (by first | assumption | (simp [go_sem]; done) | (simp [go_sem, *]; done)), (by first | assumption | (simp [go_sem]; done) | (simp [go_sem, *]; done)), (by first | assumption | (simp [go_sem]; done) | (simp [go_sem, *]; done)), (by first | assumption | (simp [go_sem]; done) | (simp [go_sem, *]; done))⟩
  have KE := Lib.hid keepE
  rw [← hu0] at keep0 ⊢
  have K0 := Lib.hid keep0
  have HU := Lib.hid hu0
  clear keepE keep0 hu0
  clear c9 c10 c11 c12 c13 c14 c15 c16 d17 d18 d19 d20 d21 d22 d23 d24
  go_region_held3 (fun w' : World => (w'.cell? ⟨w.heap.size, 0, none⟩ = some (.int .i64 a0) ∧ w'.cell? ⟨w.heap.size, 1, none⟩ = some (.int .i64 a0') ∧ w'.cell? ⟨w.heap.size + 1, 0, none⟩ = some (.int .i64 a1) ∧ w'.cell? ⟨w.heap.size + 1, 1, none⟩ = some (.int .i64 a1') ∧ w'.cell? ⟨w1.heap.size, 0, none⟩ = some (.int .i64 (negL a0 a0')) ∧ w'.cell? ⟨w1.heap.size, 1, none⟩ = some (.int .i64 (negH a0 a0')) ∧ w'.cell? ⟨w2.heap.size, 0, none⟩ = some (.int .i64 (negL a0 a0')) ∧ w'.cell? ⟨w2.heap.size, 1, none⟩ = some (.int .i64 (negH a0 a0')) ∧ w'.frozen? ⟨w1.heap.size, 0, none⟩ = false ∧ w'.frozen? ⟨w1.heap.size, 1, none⟩ = false ∧ w'.frozen? ⟨w2.heap.size, 0, none⟩ = false ∧ w'.frozen? ⟨w2.heap.size, 1, none⟩ = false)) ((refine KE.out _ _ K0.out ?_; (repeat (first | exact Ext.refl _ | assumption | refine Ext.drew ?_ | refine Ext.drewN ?_ _ | refine Ext.trans ?_ (by assumption))); done)) (first | (go_at_call 51; refine (validSpan_any _ _ _).mono ?_; rintro e w3 ⟨rfl, hx⟩) | (go_at_call 52; refine (rvalidSpan_any _ _ _).mono ?_; rintro e w3 ⟨rfl, hx⟩))
  have hS : (fun w' : World => (w'.cell? ⟨w.heap.size, 0, none⟩ = some (.int .i64 a0) ∧ w'.cell? ⟨w.heap.size, 1, none⟩ = some (.int .i64 a0') ∧ w'.cell? ⟨w.heap.size + 1, 0, none⟩ = some (.int .i64 a1) ∧ w'.cell? ⟨w.heap.size + 1, 1, none⟩ = some (.int .i64 a1') ∧ w'.cell? ⟨w1.heap.size, 0, none⟩ = some (.int .i64 (negL a0 a0')) ∧ w'.cell? ⟨w1.heap.size, 1, none⟩ = some (.int .i64 (negH a0 a0')) ∧ w'.cell? ⟨w2.heap.size, 0, none⟩ = some (.int .i64 (negL a0 a0')) ∧ w'.cell? ⟨w2.heap.size, 1, none⟩ = some (.int .i64 (negH a0 a0')) ∧ w'.frozen? ⟨w1.heap.size, 0, none⟩ = false ∧ w'.frozen? ⟨w1.heap.size, 1, none⟩ = false ∧ w'.frozen? ⟨w2.heap.size, 0, none⟩ = false ∧ w'.frozen? ⟨w2.heap.size, 1, none⟩ = false)) w3 := by first | assumption | exact KE.out _ _ K0.out (by (repeat (first | exact Ext.refl _ | assumption | refine Ext.drew ?_ | refine Ext.drewN ?_ _ | refine Ext.trans ?_ (by assumption))))
  have hx3 : Ext (w2.alloc (.cells #[.int .i64 (negL a0 a0'), .int .i64 (negH a0 a0')] 35)) w3 := by
    rw [← HU.out]
    (repeat (first | exact Ext.refl _ | assumption | refine Ext.drew ?_ | refine Ext.drewN ?_ _ | refine Ext.trans ?_ (by assumption)))
  clear KE K0 HU
  have s3 := hx3.size
  try simp at s3
  obtain ⟨c25, c26, c27, c28, c29, c30, c31, c32, c33, c34, c35, c36⟩ := hS
  go_wp2_with fail
  refine (spanadd_any a0 a0' a1 a1' _).mono ?_
  rintro e w4 ⟨rfl, hx4⟩
  have s4 := hx4.size
  try simp at s4
  have c37 : w4.cell? ⟨w.heap.size, 0, none⟩ = some (.int .i64 a0) := (hx4.cell 0 (by first | (simp; done) | (simp; omega) | omega)).trans (by first | assumption | (simp [go_sem]; done) | exact ((((Ext.refl _).alloc _).cell _ (by omega)).trans (by assumption)) | (simp [go_sem, *]; done))
  have c38 : w4.cell? ⟨w.heap.size, 1, none⟩ = some (.int .i64 a0') := (hx4.cell 1 (by first | (simp; done) | (simp; omega) | omega)).trans (by first | assumption | (simp [go_sem]; done) | exact ((((Ext.refl _).alloc _).cell _ (by omega)).trans (by assumption)) | (simp [go_sem, *]; done))
  have c39 : w4.cell? ⟨w.heap.size + 1, 0, none⟩ = some (.int .i64 a1) := (hx4.cell 0 (by first | (simp; done) | (simp; omega) | omega)).trans (by first | assumption | (simp [go_sem]; done) | exact ((((Ext.refl _).alloc _).cell _ (by omega)).trans (by assumption)) | (simp [go_sem, *]; done))
  have c40 : w4.cell? ⟨w.heap.size + 1, 1, none⟩ = some (.int .i64 a1') := (hx4.cell 1 (by first | (simp; done) | (simp; omega) | omega)).trans (by first | assumption | (simp [go_sem]; done) | exact ((((Ext.refl _).alloc _).cell _ (by omega)).trans (by assumption)) | (simp [go_sem, *]; done))
  have c41 : w4.cell? ⟨w1.heap.size, 0, none⟩ = some (.int .i64 (negL a0 a0')) := (hx4.cell 0 (by first | (simp; done) | (simp; omega) | omega)).trans (by first | assumption | (simp [go_sem]; done) | exact ((((Ext.refl _).alloc _).cell _ (by omega)).trans (by assumption)) | (simp [go_sem, *]; done))
  have c42 : w4.cell? ⟨w1.heap.size, 1, none⟩ = some (.int .i64 (negH a0 a0')) := (hx4.cell 1 (by first | (simp; done) | (simp; omega) | omega)).trans (by first | assumption | (simp [go_sem]; done) | exact ((((Ext.refl _).alloc _).cell _ (by omega)).trans (by assumption)) | (simp [go_sem, *]; done))
  have c43 : w4.cell? ⟨w2.heap.size, 0, none⟩ = some (.int .i64 (negL a0 a0')) := (hx4.cell 0 (by first | (simp; done) | (simp; omega) | omega)).trans (by first | assumption | (simp [go_sem]; done) | exact ((((Ext.refl _).alloc _).cell _ (by omega)).trans (by assumption)) | (simp [go_sem, *]; done))
  have c44 : w4.cell? ⟨w2.heap.size, 1, none⟩ = some (.int .i64 (negH a0 a0')) := (hx4.cell 1 (by first | (simp; done) | (simp; omega) | omega)).trans (by first | assumption | (simp [go_sem]; done) | exact ((((Ext.refl _).alloc _).cell _ (by omega)).trans (by assumption)) | (simp [go_sem, *]; done))
  have c45 : w4.frozen? ⟨w1.heap.size, 0, none⟩ = false := (hx4.froz 0 (by first | (simp; done) | (simp; omega) | omega)).trans (by first | assumption | (simp [go_sem]; done) | exact ((((Ext.refl _).alloc _).froz _ (by omega)).trans (by assumption)) | (simp [go_sem, *]; done))
  have c46 : w4.frozen? ⟨w1.heap.size, 1, none⟩ = false := (hx4.froz 1 (by first | (simp; done) | (simp; omega) | omega)).trans (by first | assumption | (simp [go_sem]; done) | exact ((((Ext.refl _).alloc _).froz _ (by omega)).trans (by assumption)) | (simp [go_sem, *]; done))
  have c47 : w4.frozen? ⟨w2.heap.size, 0, none⟩ = false := (hx4.froz 0 (by first | (simp; done) | (simp; omega) | omega)).trans (by first | assumption | (simp [go_sem]; done) | exact ((((Ext.refl _).alloc _).froz _ (by omega)).trans (by assumption)) | (simp [go_sem, *]; done))
  have c48 : w4.frozen? ⟨w2.heap.size, 1, none⟩ = false := (hx4.froz 1 (by first | (simp; done) | (simp; omega) | omega)).trans (by first | assumption | (simp [go_sem]; done) | exact ((((Ext.refl _).alloc _).froz _ (by omega)).trans (by assumption)) | (simp [go_sem, *]; done))
  clear c25 c26 c27 c28 c29 c30 c31 c32 c33 c34 c35 c36
  have d49 : ∀ ob, (w4.alloc ob).cell? ⟨w.heap.size, 0, none⟩ = some (.int .i64 a0) := fun ob => (((Ext.refl w4).alloc ob).cell 0 (by omega)).trans (by assumption)
  have d50 : ∀ ob, (w4.alloc ob).cell? ⟨w.heap.size, 1, none⟩ = some (.int .i64 a0') := fun ob => (((Ext.refl w4).alloc ob).cell 1 (by omega)).trans (by assumption)
  have d51 : ∀ ob, (w4.alloc ob).cell? ⟨w.heap.size + 1, 0, none⟩ = some (.int .i64 a1) := fun ob => (((Ext.refl w4).alloc ob).cell 0 (by omega)).trans (by assumption)
  have d52 : ∀ ob, (w4.alloc ob).cell? ⟨w.heap.size + 1, 1, none⟩ = some (.int .i64 a1') := fun ob => (((Ext.refl w4).alloc ob).cell 1 (by omega)).trans (by assumption)
  have d53 : ∀ ob, (w4.alloc ob).cell? ⟨w1.heap.size, 0, none⟩ = some (.int .i64 (negL a0 a0')) := fun ob => (((Ext.refl w4).alloc ob).cell 0 (by omega)).trans (by assumption)
  have d54 : ∀ ob, (w4.alloc ob).cell? ⟨w1.heap.size, 1, none⟩ = some (.int .i64 (negH a0 a0')) := fun ob => (((Ext.refl w4).alloc ob).cell 1 (by omega)).trans (by assumption)
  have d55 : ∀ ob, (w4.alloc ob).cell? ⟨w2.heap.size, 0, none⟩ = some (.int .i64 (negL a0 a0')) := fun ob => (((Ext.refl w4).alloc ob).cell 0 (by omega)).trans (by assumption)
  have d56 : ∀ ob, (w4.alloc ob).cell? ⟨w2.heap.size, 1, none⟩ = some (.int .i64 (negH a0 a0')) := fun ob => (((Ext.refl w4).alloc ob).cell 1 (by omega)).trans (by assumption)
  have d57 : ∀ ob, (w4.alloc ob).frozen? ⟨w1.heap.size, 0, none⟩ = false := fun ob => (((Ext.refl w4).alloc ob).froz 0 (by omega)).trans (by assumption)
  have d58 : ∀ ob, (w4.alloc ob).frozen? ⟨w1.heap.size, 1, none⟩ = false := fun ob => (((Ext.refl w4).alloc ob).froz 1 (by omega)).trans (by assumption)
  have d59 : ∀ ob, (w4.alloc ob).frozen? ⟨w2.heap.size, 0, none⟩ = false := fun ob => (((Ext.refl w4).alloc ob).froz 0 (by omega)).trans (by assumption)
  have d60 : ∀ ob, (w4.alloc ob).frozen? ⟨w2.heap.size, 1, none⟩ = false := fun ob => (((Ext.refl w4).alloc ob).froz 1 (by omega)).trans (by assumption)
  have e61 : w.heap.size ≠ w1.heap.size := by omega
  have f61 : w1.heap.size ≠ w.heap.size := by omega
  have e62 : w.heap.size + 1 ≠ w1.heap.size := by omega
  have f62 : w1.heap.size ≠ w.heap.size + 1 := by omega
  have e63 : w2.heap.size ≠ w1.heap.size := by omega
  have f63 : w1.heap.size ≠ w2.heap.size := by omega
  have e64 : w.heap.size ≠ w2.heap.size := by omega
  have f64 : w2.heap.size ≠ w.heap.size := by omega
  have e65 : w.heap.size + 1 ≠ w2.heap.size := by omega
  have f65 : w2.heap.size ≠ w.heap.size + 1 := by omega
  go_wp2_with fail
  refine (rspanadd_any a0 a0' a1 a1' _).mono ?_
  rintro e w5 ⟨rfl, hx5⟩
  have s5 := hx5.size
  try simp at s5
  have c66 : w5.cell? ⟨w.heap.size, 0, none⟩ = some (.int .i64 a0) := (hx5.cell 0 (by first | (simp; done) | (simp; omega) | omega)).trans (by first | assumption | (simp [go_sem]; done) | exact ((((Ext.refl _).alloc _).cell _ (by omega)).trans (by assumption)) | (simp [go_sem, *]; done))
  have c67 : w5.cell? ⟨w.heap.size, 1, none⟩ = some (.int .i64 a0') := (hx5.cell 1 (by first | (simp; done) | (simp; omega) | omega)).trans (by first | assumption | (simp [go_sem]; done) | exact ((((Ext.refl _).alloc _).cell _ (by omega)).trans (by assumption)) | (simp [go_sem, *]; done))
  have c68 : w5.cell? ⟨w.heap.size + 1, 0, none⟩ = some (.int .i64 a1) := (hx5.cell 0 (by first | (simp; done) | (simp; omega) | omega)).trans (by first | assumption | (simp [go_sem]; done) | exact ((((Ext.refl _).alloc _).cell _ (by omega)).trans (by assumption)) | (simp [go_sem, *]; done))
  have c69 : w5.cell? ⟨w.heap.size + 1, 1, none⟩ = some (.int .i64 a1') := (hx5.cell 1 (by first | (simp; done) | (simp; omega) | omega)).trans (by first | assumption | (simp [go_sem]; done) | exact ((((Ext.refl _).alloc _).cell _ (by omega)).trans (by assumption)) | (simp [go_sem, *]; done))
  have c70 : w5.cell? ⟨w2.heap.size, 0, none⟩ = some (.int .i64 (negL a0 a0')) := (hx5.cell 0 (by first | (simp; done) | (simp; omega) | omega)).trans (by first | assumption | (simp [go_sem]; done) | exact ((((Ext.refl _).alloc _).cell _ (by omega)).trans (by assumption)) | (simp [go_sem, *]; done))
  have c71 : w5.cell? ⟨w2.heap.size, 1, none⟩ = some (.int .i64 (negH a0 a0')) := (hx5.cell 1 (by first | (simp; done) | (simp; omega) | omega)).trans (by first | assumption | (simp [go_sem]; done) | exact ((((Ext.refl _).alloc _).cell _ (by omega)).trans (by assumption)) | (simp [go_sem, *]; done))
  have c72 : w5.cell? ⟨w1.heap.size, 0, none⟩ = some (.int .i64 (sL (spB a0 a0' && spB a1 a1') (a0 + a1) (a0' + a1'))) := (hx5.cell 0 (by first | (simp; done) | (simp; omega) | omega)).trans (by first | assumption | (simp [go_sem]; done) | exact ((((Ext.refl _).alloc _).cell _ (by omega)).trans (by assumption)) | (simp [go_sem, *]; done))
  have c73 : w5.cell? ⟨w1.heap.size, 1, none⟩ = some (.int .i64 (sH (spB a0 a0' && spB a1 a1') (a0 + a1) (a0' + a1'))) := (hx5.cell 1 (by first | (simp; done) | (simp; omega) | omega)).trans (by first | assumption | (simp [go_sem]; done) | exact ((((Ext.refl _).alloc _).cell _ (by omega)).trans (by assumption)) | (simp [go_sem, *]; done))
  have c74 : w5.frozen? ⟨w1.heap.size, 0, none⟩ = false := (hx5.froz 0 (by first | (simp; done) | (simp; omega) | omega)).trans (by first | assumption | (simp [go_sem]; done) | exact ((((Ext.refl _).alloc _).froz _ (by omega)).trans (by assumption)) | (simp [go_sem, *]; done))
  have c75 : w5.frozen? ⟨w1.heap.size, 1, none⟩ = false := (hx5.froz 1 (by first | (simp; done) | (simp; omega) | omega)).trans (by first | assumption | (simp [go_sem]; done) | exact ((((Ext.refl _).alloc _).froz _ (by omega)).trans (by assumption)) | (simp [go_sem, *]; done))
  have c76 : w5.frozen? ⟨w2.heap.size, 0, none⟩ = false := (hx5.froz 0 (by first | (simp; done) | (simp; omega) | omega)).trans (by first | assumption | (simp [go_sem]; done) | exact ((((Ext.refl _).alloc _).froz _ (by omega)).trans (by assumption)) | (simp [go_sem, *]; done))
  have c77 : w5.frozen? ⟨w2.heap.size, 1, none⟩ = false := (hx5.froz 1 (by first | (simp; done) | (simp; omega) | omega)).trans (by first | assumption | (simp [go_sem]; done) | exact ((((Ext.refl _).alloc _).froz _ (by omega)).trans (by assumption)) | (simp [go_sem, *]; done))
  clear c37 c38 c39 c40 c41 c42 c43 c44 c45 c46 c47 c48 d49 d50 d51 d52 d53 d54 d55 d56 d57 d58 d59 d60
  have d78 : ∀ ob, (w5.alloc ob).cell? ⟨w.heap.size, 0, none⟩ = some (.int .i64 a0) := fun ob => (((Ext.refl w5).alloc ob).cell 0 (by omega)).trans (by assumption)
  have d79 : ∀ ob, (w5.alloc ob).cell? ⟨w.heap.size, 1, none⟩ = some (.int .i64 a0') := fun ob => (((Ext.refl w5).alloc ob).cell 1 (by omega)).trans (by assumption)
  have d80 : ∀ ob, (w5.alloc ob).cell? ⟨w.heap.size + 1, 0, none⟩ = some (.int .i64 a1) := fun ob => (((Ext.refl w5).alloc ob).cell 0 (by omega)).trans (by assumption)
  have d81 : ∀ ob, (w5.alloc ob).cell? ⟨w.heap.size + 1, 1, none⟩ = some (.int .i64 a1') := fun ob => (((Ext.refl w5).alloc ob).cell 1 (by omega)).trans (by assumption)
  have d82 : ∀ ob, (w5.alloc ob).cell? ⟨w2.heap.size, 0, none⟩ = some (.int .i64 (negL a0 a0')) := fun ob => (((Ext.refl w5).alloc ob).cell 0 (by omega)).trans (by assumption)
  have d83 : ∀ ob, (w5.alloc ob).cell? ⟨w2.heap.size, 1, none⟩ = some (.int .i64 (negH a0 a0')) := fun ob => (((Ext.refl w5).alloc ob).cell 1 (by omega)).trans (by assumption)
  have d84 : ∀ ob, (w5.alloc ob).cell? ⟨w1.heap.size, 0, none⟩ = some (.int .i64 (sL (spB a0 a0' && spB a1 a1') (a0 + a1) (a0' + a1'))) := fun ob => (((Ext.refl w5).alloc ob).cell 0 (by omega)).trans (by assumption)
  have d85 : ∀ ob, (w5.alloc ob).cell? ⟨w1.heap.size, 1, none⟩ = some (.int .i64 (sH (spB a0 a0' && spB a1 a1') (a0 + a1) (a0' + a1'))) := fun ob => (((Ext.refl w5).alloc ob).cell 1 (by omega)).trans (by assumption)
  have d86 : ∀ ob, (w5.alloc ob).frozen? ⟨w1.heap.size, 0, none⟩ = false := fun ob => (((Ext.refl w5).alloc ob).froz 0 (by omega)).trans (by assumption)
  have d87 : ∀ ob, (w5.alloc ob).frozen? ⟨w1.heap.size, 1, none⟩ = false := fun ob => (((Ext.refl w5).alloc ob).froz 1 (by omega)).trans (by assumption)
  have d88 : ∀ ob, (w5.alloc ob).frozen? ⟨w2.heap.size, 0, none⟩ = false := fun ob => (((Ext.refl w5).alloc ob).froz 0 (by omega)).trans (by assumption)
  have d89 : ∀ ob, (w5.alloc ob).frozen? ⟨w2.heap.size, 1, none⟩ = false := fun ob => (((Ext.refl w5).alloc ob).froz 1 (by omega)).trans (by assumption)
  go_wp2_with fail
  refine (spansub_any a0 a0' a1 a1' _).mono ?_
  rintro e w6 ⟨rfl, hx6⟩
  have s6 := hx6.size
  try simp at s6
  have c90 : w6.cell? ⟨w.heap.size, 0, none⟩ = some (.int .i64 a0) := (hx6.cell 0 (by first | (simp; done) | (simp; omega) | omega)).trans (by first | assumption | (simp [go_sem]; done) | exact ((((Ext.refl _).alloc _).cell _ (by omega)).trans (by assumption)) | (simp [go_sem, *]; done))
  have c91 : w6.cell? ⟨w.heap.size, 1, none⟩ = some (.int .i64 a0') := (hx6.cell 1 (by first | (simp; done) | (simp; omega) | omega)).trans (by first | assumption | (simp [go_sem]; done) | exact ((((Ext.refl _).alloc _).cell _ (by omega)).trans (by assumption)) | (simp [go_sem, *]; done))
  have c92 : w6.cell? ⟨w.heap.size + 1, 0, none⟩ = some (.int .i64 a1) := (hx6.cell 0 (by first | (simp; done) | (simp; omega) | omega)).trans (by first | assumption | (simp [go_sem]; done) | exact ((((Ext.refl _).alloc _).cell _ (by omega)).trans (by assumption)) | (simp [go_sem, *]; done))
  have c93 : w6.cell? ⟨w.heap.size + 1, 1, none⟩ = some (.int .i64 a1') := (hx6.cell 1 (by first | (simp; done) | (simp; omega) | omega)).trans (by first | assumption | (simp [go_sem]; done) | exact ((((Ext.refl _).alloc _).cell _ (by omega)).trans (by assumption)) | (simp [go_sem, *]; done))
  have c94 : w6.cell? ⟨w1.heap.size, 0, none⟩ = some (.int .i64 (sL (spB a0 a0' && spB a1 a1') (a0 + a1) (a0' + a1'))) := (hx6.cell 0 (by first | (simp; done) | (simp; omega) | omega)).trans (by first | assumption | (simp [go_sem]; done) | exact ((((Ext.refl _).alloc _).cell _ (by omega)).trans (by assumption)) | (simp [go_sem, *]; done))
  have c95 : w6.cell? ⟨w1.heap.size, 1, none⟩ = some (.int .i64 (sH (spB a0 a0' && spB a1 a1') (a0 + a1) (a0' + a1'))) := (hx6.cell 1 (by first | (simp; done) | (simp; omega) | omega)).trans (by first | assumption | (simp [go_sem]; done) | exact ((((Ext.refl _).alloc _).cell _ (by omega)).trans (by assumption)) | (simp [go_sem, *]; done))
  have c96 : w6.cell? ⟨w2.heap.size, 0, none⟩ = some (.int .i64 (sL (spB a0 a0' && spB a1 a1') (a0 + a1) (a0' + a1'))) := (hx6.cell 0 (by first | (simp; done) | (simp; omega) | omega)).trans (by first | assumption | (simp [go_sem]; done) | exact ((((Ext.refl _).alloc _).cell _ (by omega)).trans (by assumption)) | (simp [go_sem, *]; done))
  have c97 : w6.cell? ⟨w2.heap.size, 1, none⟩ = some (.int .i64 (sH (spB a0 a0' && spB a1 a1') (a0 + a1) (a0' + a1'))) := (hx6.cell 1 (by first | (simp; done) | (simp; omega) | omega)).trans (by first | assumption | (simp [go_sem]; done) | exact ((((Ext.refl _).alloc _).cell _ (by omega)).trans (by assumption)) | (simp [go_sem, *]; done))
  have c98 : w6.frozen? ⟨w1.heap.size, 0, none⟩ = false := (hx6.froz 0 (by first | (simp; done) | (simp; omega) | omega)).trans (by first | assumption | (simp [go_sem]; done) | exact ((((Ext.refl _).alloc _).froz _ (by omega)).trans (by assumption)) | (simp [go_sem, *]; done))
  have c99 : w6.frozen? ⟨w1.heap.size, 1, none⟩ = false := (hx6.froz 1 (by first | (simp; done) | (simp; omega) | omega)).trans (by first | assumption | (simp [go_sem]; done) | exact ((((Ext.refl _).alloc _).froz _ (by omega)).trans (by assumption)) | (simp [go_sem, *]; done))
  have c100 : w6.frozen? ⟨w2.heap.size, 0, none⟩ = false := (hx6.froz 0 (by first | (simp; done) | (simp; omega) | omega)).trans (by first | assumption | (simp [go_sem]; done) | exact ((((Ext.refl _).alloc _).froz _ (by omega)).trans (by assumption)) | (simp [go_sem, *]; done))
  have c101 : w6.frozen? ⟨w2.heap.size, 1, none⟩ = false := (hx6.froz 1 (by first | (simp; done) | (simp; omega) | omega)).trans (by first | assumption | (simp [go_sem]; done) | exact ((((Ext.refl _).alloc _).froz _ (by omega)).trans (by assumption)) | (simp [go_sem, *]; done))
  clear c66 c67 c68 c69 c70 c71 c72 c73 c74 c75 c76 c77 d78 d79 d80 d81 d82 d83 d84 d85 d86 d87 d88 d89
  have d102 : ∀ ob, (w6.alloc ob).cell? ⟨w.heap.size, 0, none⟩ = some (.int .i64 a0) := fun ob => (((Ext.refl w6).alloc ob).cell 0 (by omega)).trans (by assumption)
  have d103 : ∀ ob, (w6.alloc ob).cell? ⟨w.heap.size, 1, none⟩ = some (.int .i64 a0') := fun ob => (((Ext.refl w6).alloc ob).cell 1 (by omega)).trans (by assumption)
  have d104 : ∀ ob, (w6.alloc ob).cell? ⟨w.heap.size + 1, 0, none⟩ = some (.int .i64 a1) := fun ob => (((Ext.refl w6).alloc ob).cell 0 (by omega)).trans (by assumption)
  have d105 : ∀ ob, (w6.alloc ob).cell? ⟨w.heap.size + 1, 1, none⟩ = some (.int .i64 a1') := fun ob => (((Ext.refl w6).alloc ob).cell 1 (by omega)).trans (by assumption)
  have d106 : ∀ ob, (w6.alloc ob).cell? ⟨w1.heap.size, 0, none⟩ = some (.int .i64 (sL (spB a0 a0' && spB a1 a1') (a0 + a1) (a0' + a1'))) := fun ob => (((Ext.refl w6).alloc ob).cell 0 (by omega)).trans (by assumption)
  have d107 : ∀ ob, (w6.alloc ob).cell? ⟨w1.heap.size, 1, none⟩ = some (.int .i64 (sH (spB a0 a0' && spB a1 a1') (a0 + a1) (a0' + a1'))) := fun ob => (((Ext.refl w6).alloc ob).cell 1 (by omega)).trans (by assumption)
  have d108 : ∀ ob, (w6.alloc ob).cell? ⟨w2.heap.size, 0, none⟩ = some (.int .i64 (sL (spB a0 a0' && spB a1 a1') (a0 + a1) (a0' + a1'))) := fun ob => (((Ext.refl w6).alloc ob).cell 0 (by omega)).trans (by assumption)
  have d109 : ∀ ob, (w6.alloc ob).cell? ⟨w2.heap.size, 1, none⟩ = some (.int .i64 (sH (spB a0 a0' && spB a1 a1') (a0 + a1) (a0' + a1'))) := fun ob => (((Ext.refl w6).alloc ob).cell 1 (by omega)).trans (by assumption)
  have d110 : ∀ ob, (w6.alloc ob).frozen? ⟨w1.heap.size, 0, none⟩ = false := fun ob => (((Ext.refl w6).alloc ob).froz 0 (by omega)).trans (by assumption)
  have d111 : ∀ ob, (w6.alloc ob).frozen? ⟨w1.heap.size, 1, none⟩ = false := fun ob => (((Ext.refl w6).alloc ob).froz 1 (by omega)).trans (by assumption)
  have d112 : ∀ ob, (w6.alloc ob).frozen? ⟨w2.heap.size, 0, none⟩ = false := fun ob => (((Ext.refl w6).alloc ob).froz 0 (by omega)).trans (by assumption)
  have d113 : ∀ ob, (w6.alloc ob).frozen? ⟨w2.heap.size, 1, none⟩ = false := fun ob => (((Ext.refl w6).alloc ob).froz 1 (by omega)).trans (by assumption)
  go_wp2_with fail
  refine (rspansub_any a0 a0' a1 a1' _).mono ?_
  rintro e w7 ⟨rfl, hx7⟩
  have s7 := hx7.size
  try simp at s7
  have c114 : w7.cell? ⟨w.heap.size, 0, none⟩ = some (.int .i64 a0) := (hx7.cell 0 (by first | (simp; done) | (simp; omega) | omega)).trans (by first | assumption | (simp [go_sem]; done) | exact ((((Ext.refl _).alloc _).cell _ (by omega)).trans (by assumption)) | (simp [go_sem, *]; done))
  have c115 : w7.cell? ⟨w.heap.size, 1, none⟩ = some (.int .i64 a0') := (hx7.cell 1 (by first | (simp; done) | (simp; omega) | omega)).trans (by first | assumption | (simp [go_sem]; done) | exact ((((Ext.refl _).alloc _).cell _ (by omega)).trans (by assumption)) | (simp [go_sem, *]; done))
  have c116 : w7.cell? ⟨w.heap.size + 1, 0, none⟩ = some (.int .i64 a1) := (hx7.cell 0 (by first | (simp; done) | (simp; omega) | omega)).trans (by first | assumption | (simp [go_sem]; done) | exact ((((Ext.refl _).alloc _).cell _ (by omega)).trans (by assumption)) | (simp [go_sem, *]; done))
  have c117 : w7.cell? ⟨w.heap.size + 1, 1, none⟩ = some (.int .i64 a1') := (hx7.cell 1 (by first | (simp; done) | (simp; omega) | omega)).trans (by first | assumption | (simp [go_sem]; done) | exact ((((Ext.refl _).alloc _).cell _ (by omega)).trans (by assumption)) | (simp [go_sem, *]; done))
  have c118 : w7.cell? ⟨w2.heap.size, 0, none⟩ = some (.int .i64 (sL (spB a0 a0' && spB a1 a1') (a0 + a1) (a0' + a1'))) := (hx7.cell 0 (by first | (simp; done) | (simp; omega) | omega)).trans (by first | assumption | (simp [go_sem]; done) | exact ((((Ext.refl _).alloc _).cell _ (by omega)).trans (by assumption)) | (simp [go_sem, *]; done))
  have c119 : w7.cell? ⟨w2.heap.size, 1, none⟩ = some (.int .i64 (sH (spB a0 a0' && spB a1 a1') (a0 + a1) (a0' + a1'))) := (hx7.cell 1 (by first | (simp; done) | (simp; omega) | omega)).trans (by first | assumption | (simp [go_sem]; done) | exact ((((Ext.refl _).alloc _).cell _ (by omega)).trans (by assumption)) | (simp [go_sem, *]; done))
  have c120 : w7.cell? ⟨w1.heap.size, 0, none⟩ = some (.int .i64 (sL (spB a0 a0' && spB a1 a1') (a0 - a1') (a0' - a1))) := (hx7.cell 0 (by first | (simp; done) | (simp; omega) | omega)).trans (by first | assumption | (simp [go_sem]; done) | exact ((((Ext.refl _).alloc _).cell _ (by omega)).trans (by assumption)) | (simp [go_sem, *]; done))
  have c121 : w7.cell? ⟨w1.heap.size, 1, none⟩ = some (.int .i64 (sH (spB a0 a0' && spB a1 a1') (a0 - a1') (a0' - a1))) := (hx7.cell 1 (by first | (simp; done) | (simp; omega) | omega)).trans (by first | assumption | (simp [go_sem]; done) | exact ((((Ext.refl _).alloc _).cell _ (by omega)).trans (by assumption)) | (simp [go_sem, *]; done))
  have c122 : w7.frozen? ⟨w1.heap.size, 0, none⟩ = false := (hx7.froz 0 (by first | (simp; done) | (simp; omega) | omega)).trans (by first | assumption | (simp [go_sem]; done) | exact ((((Ext.refl _).alloc _).froz _ (by omega)).trans (by assumption)) | (simp [go_sem, *]; done))
  have c123 : w7.frozen? ⟨w1.heap.size, 1, none⟩ = false := (hx7.froz 1 (by first | (simp; done) | (simp; omega) | omega)).trans (by first | assumption | (simp [go_sem]; done) | exact ((((Ext.refl _).alloc _).froz _ (by omega)).trans (by assumption)) | (simp [go_sem, *]; done))
  have c124 : w7.frozen? ⟨w2.heap.size, 0, none⟩ = false := (hx7.froz 0 (by first | (simp; done) | (simp; omega) | omega)).trans (by first | assumption | (simp [go_sem]; done) | exact ((((Ext.refl _).alloc _).froz _ (by omega)).trans (by assumption)) | (simp [go_sem, *]; done))
  have c125 : w7.frozen? ⟨w2.heap.size, 1, none⟩ = false := (hx7.froz 1 (by first | (simp; done) | (simp; omega) | omega)).trans (by first | assumption | (simp [go_sem]; done) | exact ((((Ext.refl _).alloc _).froz _ (by omega)).trans (by assumption)) | (simp [go_sem, *]; done))
  clear c90 c91 c92 c93 c94 c95 c96 c97 c98 c99 c100 c101 d102 d103 d104 d105 d106 d107 d108 d109 d110 d111 d112 d113
  have d126 : ∀ ob, (w7.alloc ob).cell? ⟨w.heap.size, 0, none⟩ = some (.int .i64 a0) := fun ob => (((Ext.refl w7).alloc ob).cell 0 (by omega)).trans (by assumption)
  have d127 : ∀ ob, (w7.alloc ob).cell? ⟨w.heap.size, 1, none⟩ = some (.int .i64 a0') := fun ob => (((Ext.refl w7).alloc ob).cell 1 (by omega)).trans (by assumption)
  have d128 : ∀ ob, (w7.alloc ob).cell? ⟨w.heap.size + 1, 0, none⟩ = some (.int .i64 a1) := fun ob => (((Ext.refl w7).alloc ob).cell 0 (by omega)).trans (by assumption)
  have d129 : ∀ ob, (w7.alloc ob).cell? ⟨w.heap.size + 1, 1, none⟩ = some (.int .i64 a1') := fun ob => (((Ext.refl w7).alloc ob).cell 1 (by omega)).trans (by assumption)
  have d130 : ∀ ob, (w7.alloc ob).cell? ⟨w2.heap.size, 0, none⟩ = some (.int .i64 (sL (spB a0 a0' && spB a1 a1') (a0 + a1) (a0' + a1'))) := fun ob => (((Ext.refl w7).alloc ob).cell 0 (by omega)).trans (by assumption)
  have d131 : ∀ ob, (w7.alloc ob).cell? ⟨w2.heap.size, 1, none⟩ = some (.int .i64 (sH (spB a0 a0' && spB a1 a1') (a0 + a1) (a0' + a1'))) := fun ob => (((Ext.refl w7).alloc ob).cell 1 (by omega)).trans (by assumption)
  have d132 : ∀ ob, (w7.alloc ob).cell? ⟨w1.heap.size, 0, none⟩ = some (.int .i64 (sL (spB a0 a0' && spB a1 a1') (a0 - a1') (a0' - a1))) := fun ob => (((Ext.refl w7).alloc ob).cell 0 (by omega)).trans (by assumption)
  have d133 : ∀ ob, (w7.alloc ob).cell? ⟨w1.heap.size, 1, none⟩ = some (.int .i64 (sH (spB a0 a0' && spB a1 a1') (a0 - a1') (a0' - a1))) := fun ob => (((Ext.refl w7).alloc ob).cell 1 (by omega)).trans (by assumption)
  have d134 : ∀ ob, (w7.alloc ob).frozen? ⟨w1.heap.size, 0, none⟩ = false := fun ob => (((Ext.refl w7).alloc ob).froz 0 (by omega)).trans (by assumption)
  have d135 : ∀ ob, (w7.alloc ob).frozen? ⟨w1.heap.size, 1, none⟩ = false := fun ob => (((Ext.refl w7).alloc ob).froz 1 (by omega)).trans (by assumption)
  have d136 : ∀ ob, (w7.alloc ob).frozen? ⟨w2.heap.size, 0, none⟩ = false := fun ob => (((Ext.refl w7).alloc ob).froz 0 (by omega)).trans (by assumption)
  have d137 : ∀ ob, (w7.alloc ob).frozen? ⟨w2.heap.size, 1, none⟩ = false := fun ob => (((Ext.refl w7).alloc ob).froz 1 (by omega)).trans (by assumption)
  go_wp2_with fail
  refine (spanmul_any a0 a0' a1 a1' _).mono ?_
  rintro e w8 ⟨rfl, hx8⟩
  have s8 := hx8.size
  try simp at s8
  have c138 : w8.cell? ⟨w.heap.size, 0, none⟩ = some (.int .i64 a0) := (hx8.cell 0 (by first | (simp; done) | (simp; omega) | omega)).trans (by first | assumption | (simp [go_sem]; done) | exact ((((Ext.refl _).alloc _).cell _ (by omega)).trans (by assumption)) | (simp [go_sem, *]; done))
  have c139 : w8.cell? ⟨w.heap.size, 1, none⟩ = some (.int .i64 a0') := (hx8.cell 1 (by first | (simp; done) | (simp; omega) | omega)).trans (by first | assumption | (simp [go_sem]; done) | exact ((((Ext.refl _).alloc _).cell _ (by omega)).trans (by assumption)) | (simp [go_sem, *]; done))
  have c140 : w8.cell? ⟨w.heap.size + 1, 0, none⟩ = some (.int .i64 a1) := (hx8.cell 0 (by first | (simp; done) | (simp; omega) | omega)).trans (by first | assumption | (simp [go_sem]; done) | exact ((((Ext.refl _).alloc _).cell _ (by omega)).trans (by assumption)) | (simp [go_sem, *]; done))
  have c141 : w8.cell? ⟨w.heap.size + 1, 1, none⟩ = some (.int .i64 a1') := (hx8.cell 1 (by first | (simp; done) | (simp; omega) | omega)).trans (by first | assumption | (simp [go_sem]; done) | exact ((((Ext.refl _).alloc _).cell _ (by omega)).trans (by assumption)) | (simp [go_sem, *]; done))
  have c142 : w8.cell? ⟨w1.heap.size, 0, none⟩ = some (.int .i64 (sL (spB a0 a0' && spB a1 a1') (a0 - a1') (a0' - a1))) := (hx8.cell 0 (by first | (simp; done) | (simp; omega) | omega)).trans (by first | assumption | (simp [go_sem]; done) | exact ((((Ext.refl _).alloc _).cell _ (by omega)).trans (by assumption)) | (simp [go_sem, *]; done))
  have c143 : w8.cell? ⟨w1.heap.size, 1, none⟩ = some (.int .i64 (sH (spB a0 a0' && spB a1 a1') (a0 - a1') (a0' - a1))) := (hx8.cell 1 (by first | (simp; done) | (simp; omega) | omega)).trans (by first | assumption | (simp [go_sem]; done) | exact ((((Ext.refl _).alloc _).cell _ (by omega)).trans (by assumption)) | (simp [go_sem, *]; done))
  have c144 : w8.cell? ⟨w2.heap.size, 0, none⟩ = some (.int .i64 (sL (spB a0 a0' && spB a1 a1') (a0 - a1') (a0' - a1))) := (hx8.cell 0 (by first | (simp; done) | (simp; omega) | omega)).trans (by first | assumption | (simp [go_sem]; done) | exact ((((Ext.refl _).alloc _).cell _ (by omega)).trans (by assumption)) | (simp [go_sem, *]; done))
  have c145 : w8.cell? ⟨w2.heap.size, 1, none⟩ = some (.int .i64 (sH (spB a0 a0' && spB a1 a1') (a0 - a1') (a0' - a1))) := (hx8.cell 1 (by first | (simp; done) | (simp; omega) | omega)).trans (by first | assumption | (simp [go_sem]; done) | exact ((((Ext.refl _).alloc _).cell _ (by omega)).trans (by assumption)) | (simp [go_sem, *]; done))
  have c146 : w8.frozen? ⟨w1.heap.size, 0, none⟩ = false := (hx8.froz 0 (by first | (simp; done) | (simp; omega) | omega)).trans (by first | assumption | (simp [go_sem]; done) | exact ((((Ext.refl _).alloc _).froz _ (by omega)).trans (by assumption)) | (simp [go_sem, *]; done))
  have c147 : w8.frozen? ⟨w1.heap.size, 1, none⟩ = false := (hx8.froz 1 (by first | (simp; done) | (simp; omega) | omega)).trans (by first | assumption | (simp [go_sem]; done) | exact ((((Ext.refl _).alloc _).froz _ (by omega)).trans (by assumption)) | (simp [go_sem, *]; done))
  have c148 : w8.frozen? ⟨w2.heap.size, 0, none⟩ = false := (hx8.froz 0 (by first | (simp; done) | (simp; omega) | omega)).trans (by first | assumption | (simp [go_sem]; done) | exact ((((Ext.refl _).alloc _).froz _ (by omega)).trans (by assumption)) | (simp [go_sem, *]; done))
  have c149 : w8.frozen? ⟨w2.heap.size, 1, none⟩ = false := (hx8.froz 1 (by first | (simp; done) | (simp; omega) | omega)).trans (by first | assumption | (simp [go_sem]; done) | exact ((((Ext.refl _).alloc _).froz _ (by omega)).trans (by assumption)) | (simp [go_sem, *]; done))
  clear c114 c115 c116 c117 c118 c119 c120 c121 c122 c123 c124 c125 d126 d127 d128 d129 d130 d131 d132 d133 d134 d135 d136 d137
  have d150 : ∀ ob, (w8.alloc ob).cell? ⟨w.heap.size, 0, none⟩ = some (.int .i64 a0) := fun ob => (((Ext.refl w8).alloc ob).cell 0 (by omega)).trans (by assumption)
  have d151 : ∀ ob, (w8.alloc ob).cell? ⟨w.heap.size, 1, none⟩ = some (.int .i64 a0') := fun ob => (((Ext.refl w8).alloc ob).cell 1 (by omega)).trans (by assumption)
  have d152 : ∀ ob, (w8.alloc ob).cell? ⟨w.heap.size + 1, 0, none⟩ = some (.int .i64 a1) := fun ob => (((Ext.refl w8).alloc ob).cell 0 (by omega)).trans (by assumption)
  have d153 : ∀ ob, (w8.alloc ob).cell? ⟨w.heap.size + 1, 1, none⟩ = some (.int .i64 a1') := fun ob => (((Ext.refl w8).alloc ob).cell 1 (by omega)).trans (by assumption)
  have d154 : ∀ ob, (w8.alloc ob).cell? ⟨w1.heap.size, 0, none⟩ = some (.int .i64 (sL (spB a0 a0' && spB a1 a1') (a0 - a1') (a0' - a1))) := fun ob => (((Ext.refl w8).alloc ob).cell 0 (by omega)).trans (by assumption)
  have d155 : ∀ ob, (w8.alloc ob).cell? ⟨w1.heap.size, 1, none⟩ = some (.int .i64 (sH (spB a0 a0' && spB a1 a1') (a0 - a1') (a0' - a1))) := fun ob => (((Ext.refl w8).alloc ob).cell 1 (by omega)).trans (by assumption)
  have d156 : ∀ ob, (w8.alloc ob).cell? ⟨w2.heap.size, 0, none⟩ = some (.int .i64 (sL (spB a0 a0' && spB a1 a1') (a0 - a1') (a0' - a1))) := fun ob => (((Ext.refl w8).alloc ob).cell 0 (by omega)).trans (by assumption)
  have d157 : ∀ ob, (w8.alloc ob).cell? ⟨w2.heap.size, 1, none⟩ = some (.int .i64 (sH (spB a0 a0' && spB a1 a1') (a0 - a1') (a0' - a1))) := fun ob => (((Ext.refl w8).alloc ob).cell 1 (by omega)).trans (by assumption)
  have d158 : ∀ ob, (w8.alloc ob).frozen? ⟨w1.heap.size, 0, none⟩ = false := fun ob => (((Ext.refl w8).alloc ob).froz 0 (by omega)).trans (by assumption)
  have d159 : ∀ ob, (w8.alloc ob).frozen? ⟨w1.heap.size, 1, none⟩ = false := fun ob => (((Ext.refl w8).alloc ob).froz 1 (by omega)).trans (by assumption)
  have d160 : ∀ ob, (w8.alloc ob).frozen? ⟨w2.heap.size, 0, none⟩ = false := fun ob => (((Ext.refl w8).alloc ob).froz 0 (by omega)).trans (by assumption)
  have d161 : ∀ ob, (w8.alloc ob).frozen? ⟨w2.heap.size, 1, none⟩ = false := fun ob => (((Ext.refl w8).alloc ob).froz 1 (by omega)).trans (by assumption)
  go_wp2_with fail
  refine (rspanmul_any a0 a0' a1 a1' _).mono ?_
  rintro e w9 ⟨rfl, hx9⟩
  have s9 := hx9.size
  try simp at s9
  have c162 : w9.cell? ⟨w.heap.size, 0, none⟩ = some (.int .i64 a0) := (hx9.cell 0 (by first | (simp; done) | (simp; omega) | omega)).trans (by first | assumption | (simp [go_sem]; done) | exact ((((Ext.refl _).alloc _).cell _ (by omega)).trans (by assumption)) | (simp [go_sem, *]; done))
  have c163 : w9.cell? ⟨w.heap.size, 1, none⟩ = some (.int .i64 a0') := (hx9.cell 1 (by first | (simp; done) | (simp; omega) | omega)).trans (by first | assumption | (simp [go_sem]; done) | exact ((((Ext.refl _).alloc _).cell _ (by omega)).trans (by assumption)) | (simp [go_sem, *]; done))
  have c164 : w9.cell? ⟨w.heap.size + 1, 0, none⟩ = some (.int .i64 a1) := (hx9.cell 0 (by first | (simp; done) | (simp; omega) | omega)).trans (by first | assumption | (simp [go_sem]; done) | exact ((((Ext.refl _).alloc _).cell _ (by omega)).trans (by assumption)) | (simp [go_sem, *]; done))
  have c165 : w9.cell? ⟨w.heap.size + 1, 1, none⟩ = some (.int .i64 a1') := (hx9.cell 1 (by first | (simp; done) | (simp; omega) | omega)).trans (by first | assumption | (simp [go_sem]; done) | exact ((((Ext.refl _).alloc _).cell _ (by omega)).trans (by assumption)) | (simp [go_sem, *]; done))
  have c166 : w9.cell? ⟨w2.heap.size, 0, none⟩ = some (.int .i64 (sL (spB a0 a0' && spB a1 a1') (a0 - a1') (a0' - a1))) := (hx9.cell 0 (by first | (simp; done) | (simp; omega) | omega)).trans (by first | assumption | (simp [go_sem]; done) | exact ((((Ext.refl _).alloc _).cell _ (by omega)).trans (by assumption)) | (simp [go_sem, *]; done))
  have c167 : w9.cell? ⟨w2.heap.size, 1, none⟩ = some (.int .i64 (sH (spB a0 a0' && spB a1 a1') (a0 - a1') (a0' - a1))) := (hx9.cell 1 (by first | (simp; done) | (simp; omega) | omega)).trans (by first | assumption | (simp [go_sem]; done) | exact ((((Ext.refl _).alloc _).cell _ (by omega)).trans (by assumption)) | (simp [go_sem, *]; done))
  have c168 : w9.cell? ⟨w1.heap.size, 0, none⟩ = some (.int .i64 (sL (spB a0 a0' && spB a1 a1') (mn4 (· * ·) a0 a0' a1 a1') (mx4 (· * ·) a0 a0' a1 a1'))) := (hx9.cell 0 (by first | (simp; done) | (simp; omega) | omega)).trans (by first | assumption | (simp [go_sem]; done) | exact ((((Ext.refl _).alloc _).cell _ (by omega)).trans (by assumption)) | (simp [go_sem, *]; done))
  have c169 : w9.cell? ⟨w1.heap.size, 1, none⟩ = some (.int .i64 (sH (spB a0 a0' && spB a1 a1') (mn4 (· * ·) a0 a0' a1 a1') (mx4 (· * ·) a0 a0' a1 a1'))) := (hx9.cell 1 (by first | (simp; done) | (simp; omega) | omega)).trans (by first | assumption | (simp [go_sem]; done) | exact ((((Ext.refl _).alloc _).cell _ (by omega)).trans (by assumption)) | (simp [go_sem, *]; done))
  have c170 : w9.frozen? ⟨w1.heap.size, 0, none⟩ = false := (hx9.froz 0 (by first | (simp; done) | (simp; omega) | omega)).trans (by first | assumption | (simp [go_sem]; done) | exact ((((Ext.refl _).alloc _).froz _ (by omega)).trans (by assumption)) | (simp [go_sem, *]; done))
  have c171 : w9.frozen? ⟨w1.heap.size, 1, none⟩ = false := (hx9.froz 1 (by first | (simp; done) | (simp; omega) | omega)).trans (by first | assumption | (simp [go_sem]; done) | exact ((((Ext.refl _).alloc _).froz _ (by omega)).trans (by assumption)) | (simp [go_sem, *]; done))
  have c172 : w9.frozen? ⟨w2.heap.size, 0, none⟩ = false := (hx9.froz 0 (by first | (simp; done) | (simp; omega) | omega)).trans (by first | assumption | (simp [go_sem]; done) | exact ((((Ext.refl _).alloc _).froz _ (by omega)).trans (by assumption)) | (simp [go_sem, *]; done))
  have c173 : w9.frozen? ⟨w2.heap.size, 1, none⟩ = false := (hx9.froz 1 (by first | (simp; done) | (simp; omega) | omega)).trans (by first | assumption | (simp [go_sem]; done) | exact ((((Ext.refl _).alloc _).froz _ (by omega)).trans (by assumption)) | (simp [go_sem, *]; done))
  clear c138 c139 c140 c141 c142 c143 c144 c145 c146 c147 c148 c149 d150 d151 d152 d153 d154 d155 d156 d157 d158 d159 d160 d161
  have d174 : ∀ ob, (w9.alloc ob).cell? ⟨w.heap.size, 0, none⟩ = some (.int .i64 a0) := fun ob => (((Ext.refl w9).alloc ob).cell 0 (by omega)).trans (by assumption)
  have d175 : ∀ ob, (w9.alloc ob).cell? ⟨w.heap.size, 1, none⟩ = some (.int .i64 a0') := fun ob => (((Ext.refl w9).alloc ob).cell 1 (by omega)).trans (by assumption)
  have d176 : ∀ ob, (w9.alloc ob).cell? ⟨w.heap.size + 1, 0, none⟩ = some (.int .i64 a1) := fun ob => (((Ext.refl w9).alloc ob).cell 0 (by omega)).trans (by assumption)
  have d177 : ∀ ob, (w9.alloc ob).cell? ⟨w.heap.size + 1, 1, none⟩ = some (.int .i64 a1') := fun ob => (((Ext.refl w9).alloc ob).cell 1 (by omega)).trans (by assumption)
  have d178 : ∀ ob, (w9.alloc ob).cell? ⟨w2.heap.size, 0, none⟩ = some (.int .i64 (sL (spB a0 a0' && spB a1 a1') (a0 - a1') (a0' - a1))) := fun ob => (((Ext.refl w9).alloc ob).cell 0 (by omega)).trans (by assumption)
  have d179 : ∀ ob, (w9.alloc ob).cell? ⟨w2.heap.size, 1, none⟩ = some (.int .i64 (sH (spB a0 a0' && spB a1 a1') (a0 - a1') (a0' - a1))) := fun ob => (((Ext.refl w9).alloc ob).cell 1 (by omega)).trans (by assumption)
  have d180 : ∀ ob, (w9.alloc ob).cell? ⟨w1.heap.size, 0, none⟩ = some (.int .i64 (sL (spB a0 a0' && spB a1 a1') (mn4 (· * ·) a0 a0' a1 a1') (mx4 (· * ·) a0 a0' a1 a1'))) := fun ob => (((Ext.refl w9).alloc ob).cell 0 (by omega)).trans (by assumption)
  have d181 : ∀ ob, (w9.alloc ob).cell? ⟨w1.heap.size, 1, none⟩ = some (.int .i64 (sH (spB a0 a0' && spB a1 a1') (mn4 (· * ·) a0 a0' a1 a1') (mx4 (· * ·) a0 a0' a1 a1'))) := fun ob => (((Ext.refl w9).alloc ob).cell 1 (by omega)).trans (by assumption)
  have d182 : ∀ ob, (w9.alloc ob).frozen? ⟨w1.heap.size, 0, none⟩ = false := fun ob => (((Ext.refl w9).alloc ob).froz 0 (by omega)).trans (by assumption)
  have d183 : ∀ ob, (w9.alloc ob).frozen? ⟨w1.heap.size, 1, none⟩ = false := fun ob => (((Ext.refl w9).alloc ob).froz 1 (by omega)).trans (by assumption)
  have d184 : ∀ ob, (w9.alloc ob).frozen? ⟨w2.heap.size, 0, none⟩ = false := fun ob => (((Ext.refl w9).alloc ob).froz 0 (by omega)).trans (by assumption)
  have d185 : ∀ ob, (w9.alloc ob).frozen? ⟨w2.heap.size, 1, none⟩ = false := fun ob => (((Ext.refl w9).alloc ob).froz 1 (by omega)).trans (by assumption)
  go_wp2_with fail
  refine (spanquo_any a0 a0' a1 a1' _).mono ?_
  rintro e w10 ⟨rfl, hx10⟩
  have s10 := hx10.size
  try simp at s10
  have c186 : w10.cell? ⟨w.heap.size, 0, none⟩ = some (.int .i64 a0) := (hx10.cell 0 (by first | (simp; done) | (simp; omega) | omega)).trans (by first | assumption | (simp [go_sem]; done) | exact ((((Ext.refl _).alloc _).cell _ (by omega)).trans (by assumption)) | (simp [go_sem, *]; done))
  have c187 : w10.cell? ⟨w.heap.size, 1, none⟩ = some (.int .i64 a0') := (hx10.cell 1 (by first | (simp; done) | (simp; omega) | omega)).trans (by first | assumption | (simp [go_sem]; done) | exact ((((Ext.refl _).alloc _).cell _ (by omega)).trans (by assumption)) | (simp [go_sem, *]; done))
  have c188 : w10.cell? ⟨w.heap.size + 1, 0, none⟩ = some (.int .i64 a1) := (hx10.cell 0 (by first | (simp; done) | (simp; omega) | omega)).trans (by first | assumption | (simp [go_sem]; done) | exact ((((Ext.refl _).alloc _).cell _ (by omega)).trans (by assumption)) | (simp [go_sem, *]; done))
  have c189 : w10.cell? ⟨w.heap.size + 1, 1, none⟩ = some (.int .i64 a1') := (hx10.cell 1 (by first | (simp; done) | (simp; omega) | omega)).trans (by first | assumption | (simp [go_sem]; done) | exact ((((Ext.refl _).alloc _).cell _ (by omega)).trans (by assumption)) | (simp [go_sem, *]; done))
  have c190 : w10.cell? ⟨w1.heap.size, 0, none⟩ = some (.int .i64 (sL (spB a0 a0' && spB a1 a1') (mn4 (· * ·) a0 a0' a1 a1') (mx4 (· * ·) a0 a0' a1 a1'))) := (hx10.cell 0 (by first | (simp; done) | (simp; omega) | omega)).trans (by first | assumption | (simp [go_sem]; done) | exact ((((Ext.refl _).alloc _).cell _ (by omega)).trans (by assumption)) | (simp [go_sem, *]; done))
  have c191 : w10.cell? ⟨w1.heap.size, 1, none⟩ = some (.int .i64 (sH (spB a0 a0' && spB a1 a1') (mn4 (· * ·) a0 a0' a1 a1') (mx4 (· * ·) a0 a0' a1 a1'))) := (hx10.cell 1 (by first | (simp; done) | (simp; omega) | omega)).trans (by first | assumption | (simp [go_sem]; done) | exact ((((Ext.refl _).alloc _).cell _ (by omega)).trans (by assumption)) | (simp [go_sem, *]; done))
  have c192 : w10.cell? ⟨w2.heap.size, 0, none⟩ = some (.int .i64 (sL (spB a0 a0' && spB a1 a1') (mn4 (· * ·) a0 a0' a1 a1') (mx4 (· * ·) a0 a0' a1 a1'))) := (hx10.cell 0 (by first | (simp; done) | (simp; omega) | omega)).trans (by first | assumption | (simp [go_sem]; done) | exact ((((Ext.refl _).alloc _).cell _ (by omega)).trans (by assumption)) | (simp [go_sem, *]; done))
  have c193 : w10.cell? ⟨w2.heap.size, 1, none⟩ = some (.int .i64 (sH (spB a0 a0' && spB a1 a1') (mn4 (· * ·) a0 a0' a1 a1') (mx4 (· * ·) a0 a0' a1 a1'))) := (hx10.cell 1 (by first | (simp; done) | (simp; omega) | omega)).trans (by first | assumption | (simp [go_sem]; done) | exact ((((Ext.refl _).alloc _).cell _ (by omega)).trans (by assumption)) | (simp [go_sem, *]; done))
  have c194 : w10.frozen? ⟨w1.heap.size, 0, none⟩ = false := (hx10.froz 0 (by first | (simp; done) | (simp; omega) | omega)).trans (by first | assumption | (simp [go_sem]; done) | exact ((((Ext.refl _).alloc _).froz _ (by omega)).trans (by assumption)) | (simp [go_sem, *]; done))
  have c195 : w10.frozen? ⟨w1.heap.size, 1, none⟩ = false := (hx10.froz 1 (by first | (simp; done) | (simp; omega) | omega)).trans (by first | assumption | (simp [go_sem]; done) | exact ((((Ext.refl _).alloc _).froz _ (by omega)).trans (by assumption)) | (simp [go_sem, *]; done))
  have c196 : w10.frozen? ⟨w2.heap.size, 0, none⟩ = false := (hx10.froz 0 (by first | (simp; done) | (simp; omega) | omega)).trans (by first | assumption | (simp [go_sem]; done) | exact ((((Ext.refl _).alloc _).froz _ (by omega)).trans (by assumption)) | (simp [go_sem, *]; done))
  have c197 : w10.frozen? ⟨w2.heap.size, 1, none⟩ = false := (hx10.froz 1 (by first | (simp; done) | (simp; omega) | omega)).trans (by first | assumption | (simp [go_sem]; done) | exact ((((Ext.refl _).alloc _).froz _ (by omega)).trans (by assumption)) | (simp [go_sem, *]; done))
  clear c162 c163 c164 c165 c166 c167 c168 c169 c170 c171 c172 c173 d174 d175 d176 d177 d178 d179 d180 d181 d182 d183 d184 d185
  have d198 : ∀ ob, (w10.alloc ob).cell? ⟨w.heap.size, 0, none⟩ = some (.int .i64 a0) := fun ob => (((Ext.refl w10).alloc ob).cell 0 (by omega)).trans (by assumption)
  have d199 : ∀ ob, (w10.alloc ob).cell? ⟨w.heap.size, 1, none⟩ = some (.int .i64 a0') := fun ob => (((Ext.refl w10).alloc ob).cell 1 (by omega)).trans (by assumption)
  have d200 : ∀ ob, (w10.alloc ob).cell? ⟨w.heap.size + 1, 0, none⟩ = some (.int .i64 a1) := fun ob => (((Ext.refl w10).alloc ob).cell 0 (by omega)).trans (by assumption)
  have d201 : ∀ ob, (w10.alloc ob).cell? ⟨w.heap.size + 1, 1, none⟩ = some (.int .i64 a1') := fun ob => (((Ext.refl w10).alloc ob).cell 1 (by omega)).trans (by assumption)
  have d202 : ∀ ob, (w10.alloc ob).cell? ⟨w1.heap.size, 0, none⟩ = some (.int .i64 (sL (spB a0 a0' && spB a1 a1') (mn4 (· * ·) a0 a0' a1 a1') (mx4 (· * ·) a0 a0' a1 a1'))) := fun ob => (((Ext.refl w10).alloc ob).cell 0 (by omega)).trans (by assumption)
  have d203 : ∀ ob, (w10.alloc ob).cell? ⟨w1.heap.size, 1, none⟩ = some (.int .i64 (sH (spB a0 a0' && spB a1 a1') (mn4 (· * ·) a0 a0' a1 a1') (mx4 (· * ·) a0 a0' a1 a1'))) := fun ob => (((Ext.refl w10).alloc ob).cell 1 (by omega)).trans (by assumption)
  have d204 : ∀ ob, (w10.alloc ob).cell? ⟨w2.heap.size, 0, none⟩ = some (.int .i64 (sL (spB a0 a0' && spB a1 a1') (mn4 (· * ·) a0 a0' a1 a1') (mx4 (· * ·) a0 a0' a1 a1'))) := fun ob => (((Ext.refl w10).alloc ob).cell 0 (by omega)).trans (by assumption)
  have d205 : ∀ ob, (w10.alloc ob).cell? ⟨w2.heap.size, 1, none⟩ = some (.int .i64 (sH (spB a0 a0' && spB a1 a1') (mn4 (· * ·) a0 a0' a1 a1') (mx4 (· * ·) a0 a0' a1 a1'))) := fun ob => (((Ext.refl w10).alloc ob).cell 1 (by omega)).trans (by assumption)
  have d206 : ∀ ob, (w10.alloc ob).frozen? ⟨w1.heap.size, 0, none⟩ = false := fun ob => (((Ext.refl w10).alloc ob).froz 0 (by omega)).trans (by assumption)
  have d207 : ∀ ob, (w10.alloc ob).frozen? ⟨w1.heap.size, 1, none⟩ = false := fun ob => (((Ext.refl w10).alloc ob).froz 1 (by omega)).trans (by assumption)
  have d208 : ∀ ob, (w10.alloc ob).frozen? ⟨w2.heap.size, 0, none⟩ = false := fun ob => (((Ext.refl w10).alloc ob).froz 0 (by omega)).trans (by assumption)
  have d209 : ∀ ob, (w10.alloc ob).frozen? ⟨w2.heap.size, 1, none⟩ = false := fun ob => (((Ext.refl w10).alloc ob).froz 1 (by omega)).trans (by assumption)
  go_wp2_with fail
  refine (rspanquo_any a0 a0' a1 a1' _).mono ?_
  rintro e w11 ⟨rfl, hx11⟩
  have s11 := hx11.size
  try simp at s11
  have c210 : w11.cell? ⟨w.heap.size, 0, none⟩ = some (.int .i64 a0) := (hx11.cell 0 (by first | (simp; done) | (simp; omega) | omega)).trans (by first | assumption | (simp [go_sem]; done) | exact ((((Ext.refl _).alloc _).cell _ (by omega)).trans (by assumption)) | (simp [go_sem, *]; done))
  have c211 : w11.cell? ⟨w.heap.size, 1, none⟩ = some (.int .i64 a0') := (hx11.cell 1 (by first | (simp; done) | (simp; omega) | omega)).trans (by first | assumption | (simp [go_sem]; done) | exact ((((Ext.refl _).alloc _).cell _ (by omega)).trans (by assumption)) | (simp [go_sem, *]; done))
  have c212 : w11.cell? ⟨w.heap.size + 1, 0, none⟩ = some (.int .i64 a1) := (hx11.cell 0 (by first | (simp; done) | (simp; omega) | omega)).trans (by first | assumption | (simp [go_sem]; done) | exact ((((Ext.refl _).alloc _).cell _ (by omega)).trans (by assumption)) | (simp [go_sem, *]; done))
  have c213 : w11.cell? ⟨w.heap.size + 1, 1, none⟩ = some (.int .i64 a1') := (hx11.cell 1 (by first | (simp; done) | (simp; omega) | omega)).trans (by first | assumption | (simp [go_sem]; done) | exact ((((Ext.refl _).alloc _).cell _ (by omega)).trans (by assumption)) | (simp [go_sem, *]; done))
  have c214 : w11.cell? ⟨w2.heap.size, 0, none⟩ = some (.int .i64 (sL (spB a0 a0' && spB a1 a1') (mn4 (· * ·) a0 a0' a1 a1') (mx4 (· * ·) a0 a0' a1 a1'))) := (hx11.cell 0 (by first | (simp; done) | (simp; omega) | omega)).trans (by first | assumption | (simp [go_sem]; done) | exact ((((Ext.refl _).alloc _).cell _ (by omega)).trans (by assumption)) | (simp [go_sem, *]; done))
  have c215 : w11.cell? ⟨w2.heap.size, 1, none⟩ = some (.int .i64 (sH (spB a0 a0' && spB a1 a1') (mn4 (· * ·) a0 a0' a1 a1') (mx4 (· * ·) a0 a0' a1 a1'))) := (hx11.cell 1 (by first | (simp; done) | (simp; omega) | omega)).trans (by first | assumption | (simp [go_sem]; done) | exact ((((Ext.refl _).alloc _).cell _ (by omega)).trans (by assumption)) | (simp [go_sem, *]; done))
  have c216 : w11.cell? ⟨w1.heap.size, 0, none⟩ = some (.int .i64 (sqL a0 a0' a1 a1')) := (hx11.cell 0 (by first | (simp; done) | (simp; omega) | omega)).trans (by first | assumption | (simp [go_sem]; done) | exact ((((Ext.refl _).alloc _).cell _ (by omega)).trans (by assumption)) | (simp [go_sem, *]; done))
  have c217 : w11.cell? ⟨w1.heap.size, 1, none⟩ = some (.int .i64 (sqH a0 a0' a1 a1')) := (hx11.cell 1 (by first | (simp; done) | (simp; omega) | omega)).trans (by first | assumption | (simp [go_sem]; done) | exact ((((Ext.refl _).alloc _).cell _ (by omega)).trans (by assumption)) | (simp [go_sem, *]; done))
  have c218 : w11.frozen? ⟨w1.heap.size, 0, none⟩ = false := (hx11.froz 0 (by first | (simp; done) | (simp; omega) | omega)).trans (by first | assumption | (simp [go_sem]; done) | exact ((((Ext.refl _).alloc _).froz _ (by omega)).trans (by assumption)) | (simp [go_sem, *]; done))
  have c219 : w11.frozen? ⟨w1.heap.size, 1, none⟩ = false := (hx11.froz 1 (by first | (simp; done) | (simp; omega) | omega)).trans (by first | assumption | (simp [go_sem]; done) | exact ((((Ext.refl _).alloc _).froz _ (by omega)).trans (by assumption)) | (simp [go_sem, *]; done))
  have c220 : w11.frozen? ⟨w2.heap.size, 0, none⟩ = false := (hx11.froz 0 (by first | (simp; done) | (simp; omega) | omega)).trans (by first | assumption | (simp [go_sem]; done) | exact ((((Ext.refl _).alloc _).froz _ (by omega)).trans (by assumption)) | (simp [go_sem, *]; done))
  have c221 : w11.frozen? ⟨w2.heap.size, 1, none⟩ = false := (hx11.froz 1 (by first | (simp; done) | (simp; omega) | omega)).trans (by first | assumption | (simp [go_sem]; done) | exact ((((Ext.refl _).alloc _).froz _ (by omega)).trans (by assumption)) | (simp [go_sem, *]; done))
  clear c186 c187 c188 c189 c190 c191 c192 c193 c194 c195 c196 c197 d198 d199 d200 d201 d202 d203 d204 d205 d206 d207 d208 d209
  have d222 : ∀ ob, (w11.alloc ob).cell? ⟨w.heap.size, 0, none⟩ = some (.int .i64 a0) := fun ob => (((Ext.refl w11).alloc ob).cell 0 (by omega)).trans (by assumption)
  have d223 : ∀ ob, (w11.alloc ob).cell? ⟨w.heap.size, 1, none⟩ = some (.int .i64 a0') := fun ob => (((Ext.refl w11).alloc ob).cell 1 (by omega)).trans (by assumption)
  have d224 : ∀ ob, (w11.alloc ob).cell? ⟨w.heap.size + 1, 0, none⟩ = some (.int .i64 a1) := fun ob => (((Ext.refl w11).alloc ob).cell 0 (by omega)).trans (by assumption)
  have d225 : ∀ ob, (w11.alloc ob).cell? ⟨w.heap.size + 1, 1, none⟩ = some (.int .i64 a1') := fun ob => (((Ext.refl w11).alloc ob).cell 1 (by omega)).trans (by assumption)
  have d226 : ∀ ob, (w11.alloc ob).cell? ⟨w2.heap.size, 0, none⟩ = some (.int .i64 (sL (spB a0 a0' && spB a1 a1') (mn4 (· * ·) a0 a0' a1 a1') (mx4 (· * ·) a0 a0' a1 a1'))) := fun ob => (((Ext.refl w11).alloc ob).cell 0 (by omega)).trans (by assumption)
  have d227 : ∀ ob, (w11.alloc ob).cell? ⟨w2.heap.size, 1, none⟩ = some (.int .i64 (sH (spB a0 a0' && spB a1 a1') (mn4 (· * ·) a0 a0' a1 a1') (mx4 (· * ·) a0 a0' a1 a1'))) := fun ob => (((Ext.refl w11).alloc ob).cell 1 (by omega)).trans (by assumption)
  have d228 : ∀ ob, (w11.alloc ob).cell? ⟨w1.heap.size, 0, none⟩ = some (.int .i64 (sqL a0 a0' a1 a1')) := fun ob => (((Ext.refl w11).alloc ob).cell 0 (by omega)).trans (by assumption)
  have d229 : ∀ ob, (w11.alloc ob).cell? ⟨w1.heap.size, 1, none⟩ = some (.int .i64 (sqH a0 a0' a1 a1')) := fun ob => (((Ext.refl w11).alloc ob).cell 1 (by omega)).trans (by assumption)
  have d230 : ∀ ob, (w11.alloc ob).frozen? ⟨w1.heap.size, 0, none⟩ = false := fun ob => (((Ext.refl w11).alloc ob).froz 0 (by omega)).trans (by assumption)
  have d231 : ∀ ob, (w11.alloc ob).frozen? ⟨w1.heap.size, 1, none⟩ = false := fun ob => (((Ext.refl w11).alloc ob).froz 1 (by omega)).trans (by assumption)
  have d232 : ∀ ob, (w11.alloc ob).frozen? ⟨w2.heap.size, 0, none⟩ = false := fun ob => (((Ext.refl w11).alloc ob).froz 0 (by omega)).trans (by assumption)
  have d233 : ∀ ob, (w11.alloc ob).frozen? ⟨w2.heap.size, 1, none⟩ = false := fun ob => (((Ext.refl w11).alloc ob).froz 1 (by omega)).trans (by assumption)
  go_wp2_with fail
  refine (wide_any _).mono ?_
  rintro e w12 ⟨rfl, hx12⟩
  have s12 := hx12.size
  try simp at s12
  have c234 : w12.cell? ⟨w.heap.size, 0, none⟩ = some (.int .i64 a0) := (hx12.cell 0 (by first | (simp; done) | (simp; omega) | omega)).trans (by first | assumption | (simp [go_sem]; done) | exact ((((Ext.refl _).alloc _).cell _ (by omega)).trans (by assumption)) | (simp [go_sem, *]; done))
  have c235 : w12.cell? ⟨w.heap.size, 1, none⟩ = some (.int .i64 a0') := (hx12.cell 1 (by first | (simp; done) | (simp; omega) | omega)).trans (by first | assumption | (simp [go_sem]; done) | exact ((((Ext.refl _).alloc _).cell _ (by omega)).trans (by assumption)) | (simp [go_sem, *]; done))
  have c236 : w12.cell? ⟨w.heap.size + 1, 0, none⟩ = some (.int .i64 a1) := (hx12.cell 0 (by first | (simp; done) | (simp; omega) | omega)).trans (by first | assumption | (simp [go_sem]; done) | exact ((((Ext.refl _).alloc _).cell _ (by omega)).trans (by assumption)) | (simp [go_sem, *]; done))
  have c237 : w12.cell? ⟨w.heap.size + 1, 1, none⟩ = some (.int .i64 a1') := (hx12.cell 1 (by first | (simp; done) | (simp; omega) | omega)).trans (by first | assumption | (simp [go_sem]; done) | exact ((((Ext.refl _).alloc _).cell _ (by omega)).trans (by assumption)) | (simp [go_sem, *]; done))
  have c238 : w12.cell? ⟨w1.heap.size, 0, none⟩ = some (.int .i64 (sqL a0 a0' a1 a1')) := (hx12.cell 0 (by first | (simp; done) | (simp; omega) | omega)).trans (by first | assumption | (simp [go_sem]; done) | exact ((((Ext.refl _).alloc _).cell _ (by omega)).trans (by assumption)) | (simp [go_sem, *]; done))
  have c239 : w12.cell? ⟨w1.heap.size, 1, none⟩ = some (.int .i64 (sqH a0 a0' a1 a1')) := (hx12.cell 1 (by first | (simp; done) | (simp; omega) | omega)).trans (by first | assumption | (simp [go_sem]; done) | exact ((((Ext.refl _).alloc _).cell _ (by omega)).trans (by assumption)) | (simp [go_sem, *]; done))
  have c240 : w12.cell? ⟨w2.heap.size, 0, none⟩ = some (.int .i64 (sqL a0 a0' a1 a1')) := (hx12.cell 0 (by first | (simp; done) | (simp; omega) | omega)).trans (by first | assumption | (simp [go_sem]; done) | exact ((((Ext.refl _).alloc _).cell _ (by omega)).trans (by assumption)) | (simp [go_sem, *]; done))
  have c241 : w12.cell? ⟨w2.heap.size, 1, none⟩ = some (.int .i64 (sqH a0 a0' a1 a1')) := (hx12.cell 1 (by first | (simp; done) | (simp; omega) | omega)).trans (by first | assumption | (simp [go_sem]; done) | exact ((((Ext.refl _).alloc _).cell _ (by omega)).trans (by assumption)) | (simp [go_sem, *]; done))
  have c242 : w12.frozen? ⟨w1.heap.size, 0, none⟩ = false := (hx12.froz 0 (by first | (simp; done) | (simp; omega) | omega)).trans (by first | assumption | (simp [go_sem]; done) | exact ((((Ext.refl _).alloc _).froz _ (by omega)).trans (by assumption)) | (simp [go_sem, *]; done))
  have c243 : w12.frozen? ⟨w1.heap.size, 1, none⟩ = false := (hx12.froz 1 (by first | (simp; done) | (simp; omega) | omega)).trans (by first | assumption | (simp [go_sem]; done) | exact ((((Ext.refl _).alloc _).froz _ (by omega)).trans (by assumption)) | (simp [go_sem, *]; done))
  have c244 : w12.frozen? ⟨w2.heap.size, 0, none⟩ = false := (hx12.froz 0 (by first | (simp; done) | (simp; omega) | omega)).trans (by first | assumption | (simp [go_sem]; done) | exact ((((Ext.refl _).alloc _).froz _ (by omega)).trans (by assumption)) | (simp [go_sem, *]; done))
  have c245 : w12.frozen? ⟨w2.heap.size, 1, none⟩ = false := (hx12.froz 1 (by first | (simp; done) | (simp; omega) | omega)).trans (by first | assumption | (simp [go_sem]; done) | exact ((((Ext.refl _).alloc _).froz _ (by omega)).trans (by assumption)) | (simp [go_sem, *]; done))
  clear c210 c211 c212 c213 c214 c215 c216 c217 c218 c219 c220 c221 d222 d223 d224 d225 d226 d227 d228 d229 d230 d231 d232 d233
  have d246 : ∀ ob, (w12.alloc ob).cell? ⟨w.heap.size, 0, none⟩ = some (.int .i64 a0) := fun ob => (((Ext.refl w12).alloc ob).cell 0 (by omega)).trans (by assumption)
  have d247 : ∀ ob, (w12.alloc ob).cell? ⟨w.heap.size, 1, none⟩ = some (.int .i64 a0') := fun ob => (((Ext.refl w12).alloc ob).cell 1 (by omega)).trans (by assumption)
  have d248 : ∀ ob, (w12.alloc ob).cell? ⟨w.heap.size + 1, 0, none⟩ = some (.int .i64 a1) := fun ob => (((Ext.refl w12).alloc ob).cell 0 (by omega)).trans (by assumption)
  have d249 : ∀ ob, (w12.alloc ob).cell? ⟨w.heap.size + 1, 1, none⟩ = some (.int .i64 a1') := fun ob => (((Ext.refl w12).alloc ob).cell 1 (by omega)).trans (by assumption)
  have d250 : ∀ ob, (w12.alloc ob).cell? ⟨w1.heap.size, 0, none⟩ = some (.int .i64 (sqL a0 a0' a1 a1')) := fun ob => (((Ext.refl w12).alloc ob).cell 0 (by omega)).trans (by assumption)
  have d251 : ∀ ob, (w12.alloc ob).cell? ⟨w1.heap.size, 1, none⟩ = some (.int .i64 (sqH a0 a0' a1 a1')) := fun ob => (((Ext.refl w12).alloc ob).cell 1 (by omega)).trans (by assumption)
  have d252 : ∀ ob, (w12.alloc ob).cell? ⟨w2.heap.size, 0, none⟩ = some (.int .i64 (sqL a0 a0' a1 a1')) := fun ob => (((Ext.refl w12).alloc ob).cell 0 (by omega)).trans (by assumption)
  have d253 : ∀ ob, (w12.alloc ob).cell? ⟨w2.heap.size, 1, none⟩ = some (.int .i64 (sqH a0 a0' a1 a1')) := fun ob => (((Ext.refl w12).alloc ob).cell 1 (by omega)).trans (by assumption)
  have d254 : ∀ ob, (w12.alloc ob).frozen? ⟨w1.heap.size, 0, none⟩ = false := fun ob => (((Ext.refl w12).alloc ob).froz 0 (by omega)).trans (by assumption)
  have d255 : ∀ ob, (w12.alloc ob).frozen? ⟨w1.heap.size, 1, none⟩ = false := fun ob => (((Ext.refl w12).alloc ob).froz 1 (by omega)).trans (by assumption)
  have d256 : ∀ ob, (w12.alloc ob).frozen? ⟨w2.heap.size, 0, none⟩ = false := fun ob => (((Ext.refl w12).alloc ob).froz 0 (by omega)).trans (by assumption)
  have d257 : ∀ ob, (w12.alloc ob).frozen? ⟨w2.heap.size, 1, none⟩ = false := fun ob => (((Ext.refl w12).alloc ob).froz 1 (by omega)).trans (by assumption)
  go_wp2
  go_ret
  exact ⟨rfl, by repeat (first | exact Ext.refl _ | assumption | refine Ext.drewN ?_ _ | refine Ext.drew ?_ | refine Ext.alloc ?_ _ | refine Ext.setCell ?_ (by dsimp only; omega) _ | refine Ext.trans ?_ (by assumption))⟩
end Go.Proofs.Ytmcajdfbkhaplaa.integerSpans
