/- The walk of RealPowers. -/
import Derived.Test.YthmndafjogndaaaGreatDoorUz
import Derived.Test.YthmndafjogndaaaGreatDoorTh
import Derived.Test.YthmndafjogndaaaGreatDoorGr
namespace Go.Proofs.YthmndafjogndaaaGreatDoor.realPowers
open Go.ChangeShapes Go.WideShapes Go.ChangeAt Go.RowKit

theorem eq_same (a b : Int) : (a == a && b == b) = true := by simp

set_option maxRecDepth 100000 in
set_option maxHeartbeats 8000000 in
theorem bad (w : World) (ht : Tb w) (pm px n : Int) (PO : Ret 39 #[.agg #[.int .i64 pm, .int .i64 px], .int .i64 n] (.tuple #[.agg #[.int .i64 0, .int .i64 0], .int .i64 1])) (VX : Ret 16 #[.agg #[.int .i64 pm, .int .i64 px]] (.bool false)) (SN : ∀ u, Tb u → Calls Tryz.prog 23 #[] u fun e u' => e = .returned (.bool true) ∧ Ext u u') :
    Calls Tryz.prog 6 #[.agg #[.int .i64 pm, .int .i64 px], .int .i64 n] w fun e w' => e = .returned (.bool true) ∧ Ext w w' := by
  have HT := Lib.hid ht; clear ht
  have FR := Lib.hid (Fr.nil w)
  have eqR := eqReal
  go_enter Tryz.func6, Tryz.ntmps6
  go_wp2_with fail
  refine (PO _).mono ?_
  rintro e w1 ⟨rfl, hx⟩
  have FR2 : Hid (Fr w w1 [(w.heap.size, pm, px)]) := Lib.hid ((FR.out.lay (pm) (px) 23).later hx)
  clear hx FR; have FR := FR2; clear FR2
  have cx0 := FR.out.g0 (b := w.heap.size) (.head _); have cx1 := FR.out.g1 (b := w.heap.size) (.head _)
  go_wp2_with fail
  refine (VX _).mono ?_
  rintro e w2 ⟨rfl, hx⟩
  have FR2 : Hid (Fr w w2 [(w1.heap.size, 0, 0), (w.heap.size, pm, px)]) := Lib.hid ((FR.out.lay (0) (0) 23).later hx)
  clear cx0 cx1
  clear hx FR; have FR := FR2; clear FR2
  go_wp2_with fail
  refine (SN _ (HT.out.later FR.out.x)).mono ?_
  rintro e w3 ⟨rfl, hx⟩
  have FR2 : Hid (Fr w w3 [(w1.heap.size, 0, 0), (w.heap.size, pm, px)]) := Lib.hid (FR.out.later hx)
  clear hx FR; have FR := FR2; clear FR2
  have ca0 := FR.out.c0 (b := w1.heap.size) (.head _); have ca1 := FR.out.c1 (b := w1.heap.size) (.head _)
  go_wp2
  go_ret
  exact ⟨rfl, FR.out.x⟩
set_option maxRecDepth 100000 in
set_option maxHeartbeats 8000000 in
theorem good (w : World) (ht : Tb w) (pm px n am ax ae : Int) (PO : Ret 39 #[.agg #[.int .i64 pm, .int .i64 px], .int .i64 n] (.tuple #[.agg #[.int .i64 am, .int .i64 ax], .int .i64 ae])) (VX : Ret 16 #[.agg #[.int .i64 pm, .int .i64 px]] (.bool true)) (RP : Ret 40 #[.agg #[.int .i64 pm, .int .i64 px], .int .i64 n] (.agg #[.int .i64 am, .int .i64 ax, .int .i64 ae])) (SN : ∀ u, Tb u → Calls Tryz.prog 23 #[] u fun e u' => e = .returned (.bool true) ∧ Ext u u') :
    Calls Tryz.prog 6 #[.agg #[.int .i64 pm, .int .i64 px], .int .i64 n] w fun e w' => e = .returned (.bool true) ∧ Ext w w' := by
  have HT := Lib.hid ht; clear ht
  have FR := Lib.hid (Fr.nil w)
  have eqR := eqReal
  go_enter Tryz.func6, Tryz.ntmps6
  go_wp2_with fail
  refine (PO _).mono ?_
  rintro e w1 ⟨rfl, hx⟩
  have FR2 : Hid (Fr w w1 [(w.heap.size, pm, px)]) := Lib.hid ((FR.out.lay (pm) (px) 23).later hx)
  clear hx FR; have FR := FR2; clear FR2
  have cx0 := FR.out.g0 (b := w.heap.size) (.head _); have cx1 := FR.out.g1 (b := w.heap.size) (.head _)
  go_wp2_with fail
  refine (VX _).mono ?_
  rintro e w2 ⟨rfl, hx⟩
  have FR2 : Hid (Fr w w2 [(w1.heap.size, am, ax), (w.heap.size, pm, px)]) := Lib.hid ((FR.out.lay (am) (ax) 23).later hx)
  clear cx0 cx1
  clear hx FR; have FR := FR2; clear FR2
  have cx0 := FR.out.c0 (b := w.heap.size) (.tail _ (.head _)); have cx1 := FR.out.c1 (b := w.heap.size) (.tail _ (.head _))
  go_wp2_with fail
  refine (RP _).mono ?_
  rintro e w3 ⟨rfl, hx⟩
  have FR2 : Hid (Fr w w3 [(w1.heap.size, am, ax), (w.heap.size, pm, px)]) := Lib.hid (FR.out.later hx)
  clear cx0 cx1
  clear hx FR; have FR := FR2; clear FR2
  have HTT := HT.out.later (FR.out.x.alloc (.cells #[.int .i64 am, .int .i64 ax, .int .i64 ae] 48))
  go_wp2_with fail
  refine (SN _ HTT).mono ?_
  rintro e w9 ⟨rfl, hx⟩
  have b0 : w9.cell? ⟨w3.heap.size, 0, none⟩ = some (.int .i64 am) := (hx.cell 0 (by simp)).trans (by simp [go_sem])
  have b1 : w9.cell? ⟨w3.heap.size, 1, none⟩ = some (.int .i64 ax) := (hx.cell 1 (by simp)).trans (by simp [go_sem])
  have b2 : w9.cell? ⟨w3.heap.size, 2, none⟩ = some (.int .i64 ae) := (hx.cell 2 (by simp)).trans (by simp [go_sem])
  have FR2 : Hid (Fr w w9 [(w1.heap.size, am, ax), (w.heap.size, pm, px)]) := Lib.hid (FR.out.later (((Ext.refl _).alloc (.cells #[.int .i64 am, .int .i64 ax, .int .i64 ae] 48)).trans hx))
  clear hx FR HTT; have FR := FR2; clear FR2
  have ca0 := FR.out.c0 (b := w1.heap.size) (.head _); have ca1 := FR.out.c1 (b := w1.heap.size) (.head _)
  go_wp2
  go_ret
  exact ⟨rfl, FR.out.x⟩
theorem walk (m x : Int) (wm : (Lit.int .i64 m).wf = true) (_wx : (Lit.int .i64 x).wf = true) (n : Int) (wn : (Lit.int .i64 n).wf = true) (w : World) (ht : Tb w) :
    Calls Tryz.prog 6 #[.agg #[.int .i64 m, .int .i64 x], .int .i64 n] w fun e w' => e = .returned (.bool true) ∧ Ext w w' := by
  have VX := refvalid_any m x (bdI wm).1 (bdI wm).2
  cases hv : validV m x with
  | false =>
    rw [hv] at VX
    exact bad w ht m x n (fun w => Pow_bad hv w) VX sanity_any
  | true =>
    rw [hv] at VX
    have h := vd_iff.1 hv
    exact good w ht m x n _ _ _ (Pow_two h (bdI wn).1 (bdI wn).2) VX (pow_ref h (bdI wn).1 (bdI wn).2) sanity_any
end Go.Proofs.YthmndafjogndaaaGreatDoor.realPowers
