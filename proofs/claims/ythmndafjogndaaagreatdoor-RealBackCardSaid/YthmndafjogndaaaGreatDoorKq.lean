/- Layer 2: Print of 0, and RealBack's walk at 0. -/
import Derived.Test.YthmndafjogndaaaGreatDoorKp
import Derived.Test.YthmndafjogndaaaGreatDoorGr
namespace Go.Proofs.YthmndafjogndaaaGreatDoor
open Go.RowKit

theorem print_zero (w : World) : Calls Tryz.prog 47 #[.agg #[.int .i64 0, .int .i64 0]] w fun e w' => e = .returned (.tuple #[.string ⟨#[48, 46, 48]⟩, .int .i64 0]) ∧ Ext w w' := by
  have A := Lib.hid (valid_any 0 0)
  rw [show validV 0 0 = true by decide] at A
  have eqR := eqReal
  go_enter Tryz.func47, Tryz.ntmps47
  go_wp2_with fail
  refine (A.out _).mono ?_
  rintro e w1 ⟨rfl, hx⟩
  have X : Hid (Ext w w1) := Lib.hid (Ext.trans (by repeat (first | with_reducible exact Ext.refl _ | with_reducible refine Ext.alloc ?_ _)) hx)
  have p0 : w1.cell? ⟨w.heap.size, 0, none⟩ = some (.int .i64 0) := (hx.cell 0 (by simp)).trans (by simp [go_sem])
  have p1 : w1.cell? ⟨w.heap.size, 1, none⟩ = some (.int .i64 0) := (hx.cell 1 (by simp)).trans (by simp [go_sem])
  clear hx
  go_wp2
  first | (go_ret2; exact ⟨rfl, X.out⟩) | (refine bodyPost_ret (v := .tuple #[.string ⟨#[48, 46, 48]⟩, .int .i64 0]) ?_ rfl ⟨rfl, X.out⟩; simp [results, Tryz.results47, go_sem])
theorem digits_zero (w : World) : Calls Tryz.prog 50 #[.string ⟨#[48, 46, 48]⟩] w fun e w' => e = .returned (.tuple #[.int .i64 (-1), .int .i64 (-1)]) ∧ Ext w w' :=
  digitsOf_any [48, 46, 48] (by decide) (-1) (-1) (by decide) w
theorem parse_zero (w : World) (ht : PowR w) : Calls Tryz.prog 45 #[.string ⟨#[48, 46, 48]⟩] w fun e w' => e = .returned (.tuple #[.agg #[.int .i64 0, .int .i64 0], .int .i64 0]) ∧ Ext w w' := by
  have h := parse_any [48, 46, 48] (by decide) w ht
  rw [show rparseV [48, 46, 48] = (0, 0) by decide +kernel, show rparseE [48, 46, 48] = 0 by decide +kernel] at h
  exact h
set_option maxRecDepth 100000 in
set_option maxHeartbeats 2000000 in
theorem back_zero (w : World) (ht : Tb w) (i : Int) (A : Ret 49 #[.int .i64 i] (.agg #[.int .i64 0, .int .i64 0])) :
    Calls Tryz.prog 9 #[.int .i64 i] w fun e w' => e = .returned (.bool true) ∧ Ext w w' := by
  have HT := Lib.hid ht; clear ht
  have FR := Lib.hid (Fr.nil w)
  have eqR := eqReal
  go_enter Tryz.func9, Tryz.ntmps9
  go_wp2_with fail
  refine (A _).mono ?_
  rintro e w1 ⟨rfl, hx⟩
  have FR2 : Hid (Fr w w1 []) := Lib.hid (FR.out.later hx)
  clear hx FR; have FR := FR2; clear FR2
  go_wp2_with fail
  refine (print_zero _).mono ?_
  rintro e w2 ⟨rfl, hx⟩
  have FR2 : Hid (Fr w w2 [(w1.heap.size, 0, 0)]) := Lib.hid ((FR.out.lay (0) (0) 23).later hx)
  clear hx FR; have FR := FR2; clear FR2
  go_wp2_with fail
  refine (parse_zero _ (HT.out.later FR.out.x).r).mono ?_
  rintro e w3 ⟨rfl, hx⟩
  have FR2 : Hid (Fr w w3 [(w1.heap.size, 0, 0)]) := Lib.hid (FR.out.later hx)
  clear hx FR; have FR := FR2; clear FR2
  have cx0 := FR.out.g0 (b := w1.heap.size) (.head _); have cx1 := FR.out.g1 (b := w1.heap.size) (.head _)
  go_wp2_with fail
  refine (is_true 0 0 _).mono ?_
  rintro e w4 ⟨rfl, hx⟩
  have FR2 : Hid (Fr w w4 [(w3.heap.size, 0, 0), (w1.heap.size, 0, 0)]) := Lib.hid ((FR.out.lay (0) (0) 23).later hx)
  clear cx0 cx1
  clear hx FR; have FR := FR2; clear FR2
  go_wp2_with fail
  refine (digits_zero _).mono ?_
  rintro e w5 ⟨rfl, hx⟩
  have FR2 : Hid (Fr w w5 [(w3.heap.size, 0, 0), (w1.heap.size, 0, 0)]) := Lib.hid (FR.out.later hx)
  clear hx FR; have FR := FR2; clear FR2
  have cx0 := FR.out.c0 (b := w1.heap.size) (.tail _ (.head _)); have cx1 := FR.out.c1 (b := w1.heap.size) (.tail _ (.head _))
  go_wp2_with fail
  refine (sanity_any _ (HT.out.later FR.out.x)).mono ?_
  rintro e w6 ⟨rfl, hx⟩
  have FR2 : Hid (Fr w w6 [(w3.heap.size, 0, 0), (w1.heap.size, 0, 0)]) := Lib.hid (FR.out.later hx)
  clear cx0 cx1
  clear hx FR; have FR := FR2; clear FR2
  go_wp2
  go_ret
  exact ⟨rfl, FR.out.x⟩
end Go.Proofs.YthmndafjogndaaaGreatDoor
