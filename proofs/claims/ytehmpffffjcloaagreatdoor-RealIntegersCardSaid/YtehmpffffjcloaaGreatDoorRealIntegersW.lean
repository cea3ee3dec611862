/- The walk of RealIntegers. -/
import Derived.Test.YtehmpffffjcloaaGreatDoorTg
import Derived.Test.YtehmpffffjcloaaGreatDoorTh
import Derived.Test.YtehmpffffjcloaaGreatDoorGr
namespace Go.Proofs.YtehmpffffjcloaaGreatDoor.realIntegers
open Go.RowKit

set_option maxRecDepth 100000 in
set_option maxHeartbeats 4000000 in
theorem ints_bad (w : World) (ht : Tb w) (m x : Int) (EN : Ret 48 #[.agg #[.int .i64 m, .int .i64 x]] (.tuple #[.int .i64 0, .int .i64 1])) (RO : Ret 49 #[.agg #[.int .i64 m, .int .i64 x]] (.tuple #[.int .i64 0, .int .i64 1])) (VA : Ret 23 #[.agg #[.int .i64 m, .int .i64 x]] (.bool false)) (SN : ∀ u, Tb u → Calls Tryz.prog 30 #[] u fun e u' => e = .returned (.bool true) ∧ Ext u u') : Calls Tryz.prog 7 #[.agg #[.int .i64 m, .int .i64 x]] w fun e w' => e = .returned (.bool true) ∧ Ext w w' := by
  have HT := Lib.hid ht; clear ht
  have FR := Lib.hid (Fr.nil w)
  have eqR := eqReal
  go_enter Tryz.func7, Tryz.ntmps7
  go_wp2_with fail
  refine (EN _).mono ?_
  rintro e w1 ⟨rfl, hx⟩
  have FR2 : Hid (Fr w w1 [(w.heap.size, m, x)]) := Lib.hid ((FR.out.lay (m) (x) 23).later hx)
  clear hx FR; have FR := FR2; clear FR2
  have cp0 := FR.out.c0 (b := w.heap.size) (.head _); have cp1 := FR.out.c1 (b := w.heap.size) (.head _)
  go_wp2_with fail
  refine (RO _).mono ?_
  rintro e w2 ⟨rfl, hx⟩
  have FR2 : Hid (Fr w w2 [(w.heap.size, m, x)]) := Lib.hid (FR.out.later hx)
  clear cp0 cp1
  clear hx FR; have FR := FR2; clear FR2
  have cp0 := FR.out.c0 (b := w.heap.size) (.head _); have cp1 := FR.out.c1 (b := w.heap.size) (.head _)
  go_wp2_with fail
  refine (VA _).mono ?_
  rintro e w3 ⟨rfl, hx⟩
  have FR2 : Hid (Fr w w3 [(w.heap.size, m, x)]) := Lib.hid (FR.out.later hx)
  clear cp0 cp1
  clear hx FR; have FR := FR2; clear FR2
  go_wp2_with fail
  refine (SN _ (HT.out.later FR.out.x)).mono ?_
  rintro e w4 ⟨rfl, hx⟩
  have FR2 : Hid (Fr w w4 [(w.heap.size, m, x)]) := Lib.hid (FR.out.later hx)
  clear hx FR; have FR := FR2; clear FR2
  go_wp2
  go_ret
  exact ⟨rfl, FR.out.x⟩
set_option maxRecDepth 100000 in
set_option maxHeartbeats 4000000 in
theorem ints_good (w : World) (ht : Tb w) (m x n e n' e' : Int) (EN : Ret 48 #[.agg #[.int .i64 m, .int .i64 x]] (.tuple #[.int .i64 n, .int .i64 e])) (RO : Ret 49 #[.agg #[.int .i64 m, .int .i64 x]] (.tuple #[.int .i64 n', .int .i64 e'])) (VA : Ret 23 #[.agg #[.int .i64 m, .int .i64 x]] (.bool true)) (RE : Ret 50 #[.agg #[.int .i64 m, .int .i64 x]] (.agg #[.int .i64 n, .int .i64 e])) (RR : Ret 51 #[.agg #[.int .i64 m, .int .i64 x]] (.agg #[.int .i64 n', .int .i64 e'])) (SN : ∀ u, Tb u → Calls Tryz.prog 30 #[] u fun e u' => e = .returned (.bool true) ∧ Ext u u') : Calls Tryz.prog 7 #[.agg #[.int .i64 m, .int .i64 x]] w fun e w' => e = .returned (.bool true) ∧ Ext w w' := by
  have HT := Lib.hid ht; clear ht
  have FR := Lib.hid (Fr.nil w)
  have eqR := eqReal
  go_enter Tryz.func7, Tryz.ntmps7
  go_wp2_with fail
  refine (EN _).mono ?_
  rintro e w1 ⟨rfl, hx⟩
  have FR2 : Hid (Fr w w1 [(w.heap.size, m, x)]) := Lib.hid ((FR.out.lay (m) (x) 23).later hx)
  clear hx FR; have FR := FR2; clear FR2
  have cp0 := FR.out.c0 (b := w.heap.size) (.head _); have cp1 := FR.out.c1 (b := w.heap.size) (.head _)
  go_wp2_with fail
  refine (RO _).mono ?_
  rintro e w2 ⟨rfl, hx⟩
  have FR2 : Hid (Fr w w2 [(w.heap.size, m, x)]) := Lib.hid (FR.out.later hx)
  clear cp0 cp1
  clear hx FR; have FR := FR2; clear FR2
  have cp0 := FR.out.c0 (b := w.heap.size) (.head _); have cp1 := FR.out.c1 (b := w.heap.size) (.head _)
  go_wp2_with fail
  refine (VA _).mono ?_
  rintro e w3 ⟨rfl, hx⟩
  have FR2 : Hid (Fr w w3 [(w.heap.size, m, x)]) := Lib.hid (FR.out.later hx)
  clear cp0 cp1
  clear hx FR; have FR := FR2; clear FR2
  have cp0 := FR.out.c0 (b := w.heap.size) (.head _); have cp1 := FR.out.c1 (b := w.heap.size) (.head _)
  go_wp2_with fail
  refine (RE _).mono ?_
  rintro e w4 ⟨rfl, hx⟩
  have FR2 : Hid (Fr w w4 [(w.heap.size, m, x)]) := Lib.hid (FR.out.later hx)
  clear cp0 cp1
  clear hx FR; have FR := FR2; clear FR2
  have cp0 := FR.out.g0 (b := w.heap.size) (.head _); have cp1 := FR.out.g1 (b := w.heap.size) (.head _)
  go_wp2_with fail
  refine (RR _).mono ?_
  rintro e w5 ⟨rfl, hx⟩
  have FR2 : Hid (Fr w w5 [(w4.heap.size, n, e), (w.heap.size, m, x)]) := Lib.hid ((FR.out.lay (n) (e) 52).later hx)
  clear cp0 cp1
  clear hx FR; have FR := FR2; clear FR2
  go_wp2_with fail
  refine (SN _ (HT.out.later (FR.out.lay _ _ _).x)).mono ?_
  rintro e w6 ⟨rfl, hx⟩
  have FR2 : Hid (Fr w w6 [(w5.heap.size, n', e'), (w4.heap.size, n, e), (w.heap.size, m, x)]) := Lib.hid ((FR.out.lay (n') (e') 52).later hx)
  clear hx FR; have FR := FR2; clear FR2
  have ca0 := FR.out.c0 (b := w4.heap.size) (.tail _ (.head _)); have ca1 := FR.out.c1 (b := w4.heap.size) (.tail _ (.head _))
  have cb0 := FR.out.c0 (b := w5.heap.size) (.head _); have cb1 := FR.out.c1 (b := w5.heap.size) (.head _)
  go_wp2
  go_ret
  exact ⟨rfl, FR.out.x⟩
theorem walk (a0 a0' : Int) (w0 : (Lit.int .i64 a0).wf = true) (_ : (Lit.int .i64 a0').wf = true) (w : World) (ht : Tb w) :
    Calls Tryz.prog 7 #[.agg #[.int .i64 a0, .int .i64 a0']] w fun e w' => e = .returned (.bool true) ∧ Ext w w' := by
  obtain ⟨h1, h2⟩ := bdI w0
  have EN : Ret 48 #[.agg #[.int .i64 a0, .int .i64 a0']] _ := entier_any a0 a0'
  have RO : Ret 49 #[.agg #[.int .i64 a0, .int .i64 a0']] _ := roundR_any a0 a0'
  have VA := refvalid_any a0 a0' h1 h2
  cases hv : validV a0 a0' with
  | false =>
    have e : ∀ p, wholeR a0 a0' p = (0, 1) := fun p => by unfold wholeR; rw [hv]; rfl
    rw [hv] at VA; rw [e] at EN RO
    exact ints_bad w ht a0 a0' EN RO VA sanity_any
  | true =>
    have hd := vd_iff.1 hv
    rw [hv] at VA
    have RE := ref_entier a0 a0' (by have := hd.1; omega) hd.2.1
    have RR := rounds_any a0 a0' (by have := hd.1; omega)
    rw [entier_eq hd] at RE
    rw [rounds_eq hd] at RR
    rw [whole_U hd 0 (.inl rfl), Int.zero_mul, Int.add_zero] at EN
    rw [whole_U hd 1 (.inr rfl), Int.one_mul] at RO
    exact ints_good w ht a0 a0' _ _ _ _ EN RO VA RE RR sanity_any
end Go.Proofs.YtehmpffffjcloaaGreatDoor.realIntegers
