/- Layer 2: the walk of RealNearest, exponents: zero, small. -/
import Derived.Test.YtehmpffffjcloaaGreatDoorTe
namespace Go.Proofs.YtehmpffffjcloaaGreatDoor
open Go.RowKit

set_option maxRecDepth 100000 in
set_option maxHeartbeats 8000000 in
theorem near_zero_small_1 (w : World) (ht : Tb w) (i j k qm qx zm zx sm sx dm dx a b c u v : Int) (A : Ret 56 #[.int .i64 i] (.agg #[.int .i64 0, .int .i64 0])) (B : Ret 56 #[.int .i64 j] (.agg #[.int .i64 qm, .int .i64 qx])) (C : Ret 56 #[.int .i64 k] (.agg #[.int .i64 zm, .int .i64 zx])) (SA : Ret 57 #[.agg #[.int .i64 0, .int .i64 0]] (.tuple #[.int .i64 a, .bool true])) (SB : Ret 57 #[.agg #[.int .i64 qm, .int .i64 qx]] (.tuple #[.int .i64 b, .bool true])) (SC : Ret 57 #[.agg #[.int .i64 zm, .int .i64 zx]] (.tuple #[.int .i64 c, .bool true])) (AD : Ret 35 #[.agg #[.int .i64 0, .int .i64 0], .agg #[.int .i64 qm, .int .i64 qx]] (.tuple #[.agg #[.int .i64 sm, .int .i64 sx], .int .i64 0])) (SU : Ret 36 #[.agg #[.int .i64 0, .int .i64 0], .agg #[.int .i64 qm, .int .i64 qx]] (.tuple #[.agg #[.int .i64 dm, .int .i64 dx], .int .i64 0])) (SN : ∀ u, Tb u → Calls Tryz.prog 30 #[] u fun e u' => e = .returned (.bool true) ∧ Ext u u') (xq : ¬ qx > -24) (SS : Ret 57 #[.agg #[.int .i64 sm, .int .i64 sx]] (.tuple #[.int .i64 u, .bool false])) (SD : Ret 57 #[.agg #[.int .i64 dm, .int .i64 dx]] (.tuple #[.int .i64 v, .bool true])) (xs : ¬ sx ≥ -60) :
    Calls Tryz.prog 10 #[.int .i64 i, .int .i64 j, .int .i64 k] w fun e w' => e = .returned (.bool true) ∧ Ext w w' := by
  have HT := Lib.hid ht; clear ht
  have FR := Lib.hid (Fr.nil w)
  have eqR := eqReal
  go_enter Tryz.func10, Tryz.ntmps10
  go_wp2_with fail
  refine (A _).mono ?_
  rintro e w1 ⟨rfl, hx⟩
  have FR2 : Hid (Fr w w1 []) := Lib.hid (FR.out.later hx)
  clear hx FR; have FR := FR2; clear FR2
  go_wp2_with fail
  refine (B _).mono ?_
  rintro e w2 ⟨rfl, hx⟩
  have FR2 : Hid (Fr w w2 [(w1.heap.size, 0, 0)]) := Lib.hid ((FR.out.lay (0) (0) 23).later hx)
  clear hx FR; have FR := FR2; clear FR2
  go_wp2_with fail
  refine (C _).mono ?_
  rintro e w3 ⟨rfl, hx⟩
  have FR2 : Hid (Fr w w3 [(w2.heap.size, qm, qx), (w1.heap.size, 0, 0)]) := Lib.hid ((FR.out.lay (qm) (qx) 23).later hx)
  clear hx FR; have FR := FR2; clear FR2
  have cp0 := FR.out.g0 (b := w1.heap.size) (.tail _ (.head _)); have cp1 := FR.out.g1 (b := w1.heap.size) (.tail _ (.head _))
  go_wp2_with fail
  refine (SA _).mono ?_
  rintro e w4 ⟨rfl, hx⟩
  have FR2 : Hid (Fr w w4 [(w3.heap.size, zm, zx), (w2.heap.size, qm, qx), (w1.heap.size, 0, 0)]) := Lib.hid ((FR.out.lay (zm) (zx) 23).later hx)
  clear cp0 cp1
  clear hx FR; have FR := FR2; clear FR2
  have cq0 := FR.out.c0 (b := w2.heap.size) (.tail _ (.head _)); have cq1 := FR.out.c1 (b := w2.heap.size) (.tail _ (.head _))
  go_wp2_with fail
  refine (SB _).mono ?_
  rintro e w5 ⟨rfl, hx⟩
  have FR2 : Hid (Fr w w5 [(w3.heap.size, zm, zx), (w2.heap.size, qm, qx), (w1.heap.size, 0, 0)]) := Lib.hid (FR.out.later hx)
  clear cq0 cq1
  clear hx FR; have FR := FR2; clear FR2
  have cz0 := FR.out.c0 (b := w3.heap.size) (.head _); have cz1 := FR.out.c1 (b := w3.heap.size) (.head _)
  go_wp2_with fail
  refine (SC _).mono ?_
  rintro e w6 ⟨rfl, hx⟩
  have FR2 : Hid (Fr w w6 [(w3.heap.size, zm, zx), (w2.heap.size, qm, qx), (w1.heap.size, 0, 0)]) := Lib.hid (FR.out.later hx)
  clear cz0 cz1
  clear hx FR; have FR := FR2; clear FR2
  have cp0 := FR.out.c0 (b := w1.heap.size) (.tail _ (.tail _ (.head _))); have cp1 := FR.out.c1 (b := w1.heap.size) (.tail _ (.tail _ (.head _)))
  have cq0 := FR.out.c0 (b := w2.heap.size) (.tail _ (.head _)); have cq1 := FR.out.c1 (b := w2.heap.size) (.tail _ (.head _))
  go_wp2_with fail
  refine (AD _).mono ?_
  rintro e w7 ⟨rfl, hx⟩
  have FR2 : Hid (Fr w w7 [(w3.heap.size, zm, zx), (w2.heap.size, qm, qx), (w1.heap.size, 0, 0)]) := Lib.hid (FR.out.later hx)
  clear cp0 cp1 cq0 cq1
  clear hx FR; have FR := FR2; clear FR2
  have cp0 := FR.out.g0 (b := w1.heap.size) (.tail _ (.tail _ (.head _))); have cp1 := FR.out.g1 (b := w1.heap.size) (.tail _ (.tail _ (.head _)))
  have cq0 := FR.out.g0 (b := w2.heap.size) (.tail _ (.head _)); have cq1 := FR.out.g1 (b := w2.heap.size) (.tail _ (.head _))
  go_wp2_with fail
  refine (SU _).mono ?_
  rintro e w8 ⟨rfl, hx⟩
  have FR2 : Hid (Fr w w8 [(w7.heap.size, sm, sx), (w3.heap.size, zm, zx), (w2.heap.size, qm, qx), (w1.heap.size, 0, 0)]) := Lib.hid ((FR.out.lay (sm) (sx) 23).later hx)
  clear cp0 cp1 cq0 cq1
  clear hx FR; have FR := FR2; clear FR2
  have cp0 := FR.out.g0 (b := w1.heap.size) (.tail _ (.tail _ (.tail _ (.head _)))); have cp1 := FR.out.g1 (b := w1.heap.size) (.tail _ (.tail _ (.tail _ (.head _))))
  have cq0 := FR.out.g0 (b := w2.heap.size) (.tail _ (.tail _ (.head _))); have cq1 := FR.out.g1 (b := w2.heap.size) (.tail _ (.tail _ (.head _)))
  have cs0 := FR.out.g0 (b := w7.heap.size) (.head _); have cs1 := FR.out.g1 (b := w7.heap.size) (.head _)
  go_wp2_with fail
  refine (SS _).mono ?_
  rintro e w9 ⟨rfl, hx⟩
  have FR2 : Hid (Fr w w9 [(w8.heap.size, dm, dx), (w7.heap.size, sm, sx), (w3.heap.size, zm, zx), (w2.heap.size, qm, qx), (w1.heap.size, 0, 0)]) := Lib.hid ((FR.out.lay (dm) (dx) 23).later hx)
  clear cp0 cp1 cq0 cq1 cs0 cs1
  clear hx FR; have FR := FR2; clear FR2
  have cd0 := FR.out.c0 (b := w8.heap.size) (.head _); have cd1 := FR.out.c1 (b := w8.heap.size) (.head _)
  go_wp2_with fail
  refine (SD _).mono ?_
  rintro e w10 ⟨rfl, hx⟩
  have FR2 : Hid (Fr w w10 [(w8.heap.size, dm, dx), (w7.heap.size, sm, sx), (w3.heap.size, zm, zx), (w2.heap.size, qm, qx), (w1.heap.size, 0, 0)]) := Lib.hid (FR.out.later hx)
  clear cd0 cd1
  clear hx FR; have FR := FR2; clear FR2
  have cs0 := FR.out.c0 (b := w7.heap.size) (.tail _ (.head _)); have cs1 := FR.out.c1 (b := w7.heap.size) (.tail _ (.head _))
  have cd0 := FR.out.c0 (b := w8.heap.size) (.head _); have cd1 := FR.out.c1 (b := w8.heap.size) (.head _)
  go_wp2_with fail
  refine (SN _ (HT.out.later FR.out.x)).mono ?_
  rintro e w11 ⟨rfl, hx⟩
  have FR2 : Hid (Fr w w11 [(w8.heap.size, dm, dx), (w7.heap.size, sm, sx), (w3.heap.size, zm, zx), (w2.heap.size, qm, qx), (w1.heap.size, 0, 0)]) := Lib.hid (FR.out.later hx)
  clear cs0 cs1 cd0 cd1
  clear hx FR; have FR := FR2; clear FR2
  go_wp2
  go_ret
  exact ⟨rfl, FR.out.x⟩
set_option maxRecDepth 100000 in
set_option maxHeartbeats 8000000 in
theorem near_zero_small_2 (w : World) (ht : Tb w) (i j k qm qx zm zx sm sx dm dx a b c u v : Int) (A : Ret 56 #[.int .i64 i] (.agg #[.int .i64 0, .int .i64 0])) (B : Ret 56 #[.int .i64 j] (.agg #[.int .i64 qm, .int .i64 qx])) (C : Ret 56 #[.int .i64 k] (.agg #[.int .i64 zm, .int .i64 zx])) (SA : Ret 57 #[.agg #[.int .i64 0, .int .i64 0]] (.tuple #[.int .i64 a, .bool true])) (SB : Ret 57 #[.agg #[.int .i64 qm, .int .i64 qx]] (.tuple #[.int .i64 b, .bool true])) (SC : Ret 57 #[.agg #[.int .i64 zm, .int .i64 zx]] (.tuple #[.int .i64 c, .bool true])) (AD : Ret 35 #[.agg #[.int .i64 0, .int .i64 0], .agg #[.int .i64 qm, .int .i64 qx]] (.tuple #[.agg #[.int .i64 sm, .int .i64 sx], .int .i64 0])) (SU : Ret 36 #[.agg #[.int .i64 0, .int .i64 0], .agg #[.int .i64 qm, .int .i64 qx]] (.tuple #[.agg #[.int .i64 dm, .int .i64 dx], .int .i64 0])) (SN : ∀ u, Tb u → Calls Tryz.prog 30 #[] u fun e u' => e = .returned (.bool true) ∧ Ext u u') (xq : ¬ qx > -24) (SS : Ret 57 #[.agg #[.int .i64 sm, .int .i64 sx]] (.tuple #[.int .i64 u, .bool false])) (SD : Ret 57 #[.agg #[.int .i64 dm, .int .i64 dx]] (.tuple #[.int .i64 v, .bool false])) (xs : ¬ sx ≥ -60) (xd : ¬ dx ≥ -60) :
    Calls Tryz.prog 10 #[.int .i64 i, .int .i64 j, .int .i64 k] w fun e w' => e = .returned (.bool true) ∧ Ext w w' := by
  have HT := Lib.hid ht; clear ht
  have FR := Lib.hid (Fr.nil w)
  have eqR := eqReal
  go_enter Tryz.func10, Tryz.ntmps10
  go_wp2_with fail
  refine (A _).mono ?_
  rintro e w1 ⟨rfl, hx⟩
  have FR2 : Hid (Fr w w1 []) := Lib.hid (FR.out.later hx)
  clear hx FR; have FR := FR2; clear FR2
  go_wp2_with fail
  refine (B _).mono ?_
  rintro e w2 ⟨rfl, hx⟩
  have FR2 : Hid (Fr w w2 [(w1.heap.size, 0, 0)]) := Lib.hid ((FR.out.lay (0) (0) 23).later hx)
  clear hx FR; have FR := FR2; clear FR2
  go_wp2_with fail
  refine (C _).mono ?_
  rintro e w3 ⟨rfl, hx⟩
  have FR2 : Hid (Fr w w3 [(w2.heap.size, qm, qx), (w1.heap.size, 0, 0)]) := Lib.hid ((FR.out.lay (qm) (qx) 23).later hx)
  clear hx FR; have FR := FR2; clear FR2
  have cp0 := FR.out.g0 (b := w1.heap.size) (.tail _ (.head _)); have cp1 := FR.out.g1 (b := w1.heap.size) (.tail _ (.head _))
  go_wp2_with fail
  refine (SA _).mono ?_
  rintro e w4 ⟨rfl, hx⟩
  have FR2 : Hid (Fr w w4 [(w3.heap.size, zm, zx), (w2.heap.size, qm, qx), (w1.heap.size, 0, 0)]) := Lib.hid ((FR.out.lay (zm) (zx) 23).later hx)
  clear cp0 cp1
  clear hx FR; have FR := FR2; clear FR2
  have cq0 := FR.out.c0 (b := w2.heap.size) (.tail _ (.head _)); have cq1 := FR.out.c1 (b := w2.heap.size) (.tail _ (.head _))
  go_wp2_with fail
  refine (SB _).mono ?_
  rintro e w5 ⟨rfl, hx⟩
  have FR2 : Hid (Fr w w5 [(w3.heap.size, zm, zx), (w2.heap.size, qm, qx), (w1.heap.size, 0, 0)]) := Lib.hid (FR.out.later hx)
  clear cq0 cq1
  clear hx FR; have FR := FR2; clear FR2
  have cz0 := FR.out.c0 (b := w3.heap.size) (.head _); have cz1 := FR.out.c1 (b := w3.heap.size) (.head _)
  go_wp2_with fail
  refine (SC _).mono ?_
  rintro e w6 ⟨rfl, hx⟩
  have FR2 : Hid (Fr w w6 [(w3.heap.size, zm, zx), (w2.heap.size, qm, qx), (w1.heap.size, 0, 0)]) := Lib.hid (FR.out.later hx)
  clear cz0 cz1
  clear hx FR; have FR := FR2; clear FR2
  have cp0 := FR.out.c0 (b := w1.heap.size) (.tail _ (.tail _ (.head _))); have cp1 := FR.out.c1 (b := w1.heap.size) (.tail _ (.tail _ (.head _)))
  have cq0 := FR.out.c0 (b := w2.heap.size) (.tail _ (.head _)); have cq1 := FR.out.c1 (b := w2.heap.size) (.tail _ (.head _))
  go_wp2_with fail
  refine (AD _).mono ?_
  rintro e w7 ⟨rfl, hx⟩
  have FR2 : Hid (Fr w w7 [(w3.heap.size, zm, zx), (w2.heap.size, qm, qx), (w1.heap.size, 0, 0)]) := Lib.hid (FR.out.later hx)
  clear cp0 cp1 cq0 cq1
  clear hx FR; have FR := FR2; clear FR2
  have cp0 := FR.out.g0 (b := w1.heap.size) (.tail _ (.tail _ (.head _))); have cp1 := FR.out.g1 (b := w1.heap.size) (.tail _ (.tail _ (.head _)))
  have cq0 := FR.out.g0 (b := w2.heap.size) (.tail _ (.head _)); have cq1 := FR.out.g1 (b := w2.heap.size) (.tail _ (.head _))
  go_wp2_with fail
  refine (SU _).mono ?_
  rintro e w8 ⟨rfl, hx⟩
  have FR2 : Hid (Fr w w8 [(w7.heap.size, sm, sx), (w3.heap.size, zm, zx), (w2.heap.size, qm, qx), (w1.heap.size, 0, 0)]) := Lib.hid ((FR.out.lay (sm) (sx) 23).later hx)
  clear cp0 cp1 cq0 cq1
  clear hx FR; have FR := FR2; clear FR2
  have cp0 := FR.out.g0 (b := w1.heap.size) (.tail _ (.tail _ (.tail _ (.head _)))); have cp1 := FR.out.g1 (b := w1.heap.size) (.tail _ (.tail _ (.tail _ (.head _))))
  have cq0 := FR.out.g0 (b := w2.heap.size) (.tail _ (.tail _ (.head _))); have cq1 := FR.out.g1 (b := w2.heap.size) (.tail _ (.tail _ (.head _)))
  have cs0 := FR.out.g0 (b := w7.heap.size) (.head _); have cs1 := FR.out.g1 (b := w7.heap.size) (.head _)
  go_wp2_with fail
  refine (SS _).mono ?_
  rintro e w9 ⟨rfl, hx⟩
  have FR2 : Hid (Fr w w9 [(w8.heap.size, dm, dx), (w7.heap.size, sm, sx), (w3.heap.size, zm, zx), (w2.heap.size, qm, qx), (w1.heap.size, 0, 0)]) := Lib.hid ((FR.out.lay (dm) (dx) 23).later hx)
  clear cp0 cp1 cq0 cq1 cs0 cs1
  clear hx FR; have FR := FR2; clear FR2
  have cd0 := FR.out.c0 (b := w8.heap.size) (.head _); have cd1 := FR.out.c1 (b := w8.heap.size) (.head _)
  go_wp2_with fail
  refine (SD _).mono ?_
  rintro e w10 ⟨rfl, hx⟩
  have FR2 : Hid (Fr w w10 [(w8.heap.size, dm, dx), (w7.heap.size, sm, sx), (w3.heap.size, zm, zx), (w2.heap.size, qm, qx), (w1.heap.size, 0, 0)]) := Lib.hid (FR.out.later hx)
  clear cd0 cd1
  clear hx FR; have FR := FR2; clear FR2
  have cs0 := FR.out.c0 (b := w7.heap.size) (.tail _ (.head _)); have cs1 := FR.out.c1 (b := w7.heap.size) (.tail _ (.head _))
  have cd0 := FR.out.c0 (b := w8.heap.size) (.head _); have cd1 := FR.out.c1 (b := w8.heap.size) (.head _)
  go_wp2_with fail
  refine (SN _ (HT.out.later FR.out.x)).mono ?_
  rintro e w11 ⟨rfl, hx⟩
  have FR2 : Hid (Fr w w11 [(w8.heap.size, dm, dx), (w7.heap.size, sm, sx), (w3.heap.size, zm, zx), (w2.heap.size, qm, qx), (w1.heap.size, 0, 0)]) := Lib.hid (FR.out.later hx)
  clear cs0 cs1 cd0 cd1
  clear hx FR; have FR := FR2; clear FR2
  go_wp2
  go_ret
  exact ⟨rfl, FR.out.x⟩
set_option maxRecDepth 100000 in
set_option maxHeartbeats 8000000 in
theorem near_zero_small_3 (w : World) (ht : Tb w) (i j k qm qx zm zx sm sx dm dx a b c u v : Int) (A : Ret 56 #[.int .i64 i] (.agg #[.int .i64 0, .int .i64 0])) (B : Ret 56 #[.int .i64 j] (.agg #[.int .i64 qm, .int .i64 qx])) (C : Ret 56 #[.int .i64 k] (.agg #[.int .i64 zm, .int .i64 zx])) (SA : Ret 57 #[.agg #[.int .i64 0, .int .i64 0]] (.tuple #[.int .i64 a, .bool true])) (SB : Ret 57 #[.agg #[.int .i64 qm, .int .i64 qx]] (.tuple #[.int .i64 b, .bool true])) (SC : Ret 57 #[.agg #[.int .i64 zm, .int .i64 zx]] (.tuple #[.int .i64 c, .bool true])) (AD : Ret 35 #[.agg #[.int .i64 0, .int .i64 0], .agg #[.int .i64 qm, .int .i64 qx]] (.tuple #[.agg #[.int .i64 sm, .int .i64 sx], .int .i64 0])) (SU : Ret 36 #[.agg #[.int .i64 0, .int .i64 0], .agg #[.int .i64 qm, .int .i64 qx]] (.tuple #[.agg #[.int .i64 dm, .int .i64 dx], .int .i64 0])) (SN : ∀ u, Tb u → Calls Tryz.prog 30 #[] u fun e u' => e = .returned (.bool true) ∧ Ext u u') (xq : ¬ qx > -24) (SS : Ret 57 #[.agg #[.int .i64 sm, .int .i64 sx]] (.tuple #[.int .i64 u, .bool true])) (SD : Ret 57 #[.agg #[.int .i64 dm, .int .i64 dx]] (.tuple #[.int .i64 v, .bool false])) (xd : ¬ dx ≥ -60) :
    Calls Tryz.prog 10 #[.int .i64 i, .int .i64 j, .int .i64 k] w fun e w' => e = .returned (.bool true) ∧ Ext w w' := by
  have HT := Lib.hid ht; clear ht
  have FR := Lib.hid (Fr.nil w)
  have eqR := eqReal
  go_enter Tryz.func10, Tryz.ntmps10
  go_wp2_with fail
  refine (A _).mono ?_
  rintro e w1 ⟨rfl, hx⟩
  have FR2 : Hid (Fr w w1 []) := Lib.hid (FR.out.later hx)
  clear hx FR; have FR := FR2; clear FR2
  go_wp2_with fail
  refine (B _).mono ?_
  rintro e w2 ⟨rfl, hx⟩
  have FR2 : Hid (Fr w w2 [(w1.heap.size, 0, 0)]) := Lib.hid ((FR.out.lay (0) (0) 23).later hx)
  clear hx FR; have FR := FR2; clear FR2
  go_wp2_with fail
  refine (C _).mono ?_
  rintro e w3 ⟨rfl, hx⟩
  have FR2 : Hid (Fr w w3 [(w2.heap.size, qm, qx), (w1.heap.size, 0, 0)]) := Lib.hid ((FR.out.lay (qm) (qx) 23).later hx)
  clear hx FR; have FR := FR2; clear FR2
  have cp0 := FR.out.g0 (b := w1.heap.size) (.tail _ (.head _)); have cp1 := FR.out.g1 (b := w1.heap.size) (.tail _ (.head _))
  go_wp2_with fail
  refine (SA _).mono ?_
  rintro e w4 ⟨rfl, hx⟩
  have FR2 : Hid (Fr w w4 [(w3.heap.size, zm, zx), (w2.heap.size, qm, qx), (w1.heap.size, 0, 0)]) := Lib.hid ((FR.out.lay (zm) (zx) 23).later hx)
  clear cp0 cp1
  clear hx FR; have FR := FR2; clear FR2
  have cq0 := FR.out.c0 (b := w2.heap.size) (.tail _ (.head _)); have cq1 := FR.out.c1 (b := w2.heap.size) (.tail _ (.head _))
  go_wp2_with fail
  refine (SB _).mono ?_
  rintro e w5 ⟨rfl, hx⟩
  have FR2 : Hid (Fr w w5 [(w3.heap.size, zm, zx), (w2.heap.size, qm, qx), (w1.heap.size, 0, 0)]) := Lib.hid (FR.out.later hx)
  clear cq0 cq1
  clear hx FR; have FR := FR2; clear FR2
  have cz0 := FR.out.c0 (b := w3.heap.size) (.head _); have cz1 := FR.out.c1 (b := w3.heap.size) (.head _)
  go_wp2_with fail
  refine (SC _).mono ?_
  rintro e w6 ⟨rfl, hx⟩
  have FR2 : Hid (Fr w w6 [(w3.heap.size, zm, zx), (w2.heap.size, qm, qx), (w1.heap.size, 0, 0)]) := Lib.hid (FR.out.later hx)
  clear cz0 cz1
  clear hx FR; have FR := FR2; clear FR2
  have cp0 := FR.out.c0 (b := w1.heap.size) (.tail _ (.tail _ (.head _))); have cp1 := FR.out.c1 (b := w1.heap.size) (.tail _ (.tail _ (.head _)))
  have cq0 := FR.out.c0 (b := w2.heap.size) (.tail _ (.head _)); have cq1 := FR.out.c1 (b := w2.heap.size) (.tail _ (.head _))
  go_wp2_with fail
  refine (AD _).mono ?_
  rintro e w7 ⟨rfl, hx⟩
  have FR2 : Hid (Fr w w7 [(w3.heap.size, zm, zx), (w2.heap.size, qm, qx), (w1.heap.size, 0, 0)]) := Lib.hid (FR.out.later hx)
  clear cp0 cp1 cq0 cq1
  clear hx FR; have FR := FR2; clear FR2
  have cp0 := FR.out.g0 (b := w1.heap.size) (.tail _ (.tail _ (.head _))); have cp1 := FR.out.g1 (b := w1.heap.size) (.tail _ (.tail _ (.head _)))
  have cq0 := FR.out.g0 (b := w2.heap.size) (.tail _ (.head _)); have cq1 := FR.out.g1 (b := w2.heap.size) (.tail _ (.head _))
  go_wp2_with fail
  refine (SU _).mono ?_
  rintro e w8 ⟨rfl, hx⟩
  have FR2 : Hid (Fr w w8 [(w7.heap.size, sm, sx), (w3.heap.size, zm, zx), (w2.heap.size, qm, qx), (w1.heap.size, 0, 0)]) := Lib.hid ((FR.out.lay (sm) (sx) 23).later hx)
  clear cp0 cp1 cq0 cq1
  clear hx FR; have FR := FR2; clear FR2
  have cp0 := FR.out.g0 (b := w1.heap.size) (.tail _ (.tail _ (.tail _ (.head _)))); have cp1 := FR.out.g1 (b := w1.heap.size) (.tail _ (.tail _ (.tail _ (.head _))))
  have cq0 := FR.out.g0 (b := w2.heap.size) (.tail _ (.tail _ (.head _))); have cq1 := FR.out.g1 (b := w2.heap.size) (.tail _ (.tail _ (.head _)))
  have cs0 := FR.out.g0 (b := w7.heap.size) (.head _); have cs1 := FR.out.g1 (b := w7.heap.size) (.head _)
  go_wp2_with fail
  refine (SS _).mono ?_
  rintro e w9 ⟨rfl, hx⟩
  have FR2 : Hid (Fr w w9 [(w8.heap.size, dm, dx), (w7.heap.size, sm, sx), (w3.heap.size, zm, zx), (w2.heap.size, qm, qx), (w1.heap.size, 0, 0)]) := Lib.hid ((FR.out.lay (dm) (dx) 23).later hx)
  clear cp0 cp1 cq0 cq1 cs0 cs1
  clear hx FR; have FR := FR2; clear FR2
  have cd0 := FR.out.c0 (b := w8.heap.size) (.head _); have cd1 := FR.out.c1 (b := w8.heap.size) (.head _)
  go_wp2_with fail
  refine (SD _).mono ?_
  rintro e w10 ⟨rfl, hx⟩
  have FR2 : Hid (Fr w w10 [(w8.heap.size, dm, dx), (w7.heap.size, sm, sx), (w3.heap.size, zm, zx), (w2.heap.size, qm, qx), (w1.heap.size, 0, 0)]) := Lib.hid (FR.out.later hx)
  clear cd0 cd1
  clear hx FR; have FR := FR2; clear FR2
  have cs0 := FR.out.c0 (b := w7.heap.size) (.tail _ (.head _)); have cs1 := FR.out.c1 (b := w7.heap.size) (.tail _ (.head _))
  have cd0 := FR.out.c0 (b := w8.heap.size) (.head _); have cd1 := FR.out.c1 (b := w8.heap.size) (.head _)
  go_wp2_with fail
  refine (SN _ (HT.out.later FR.out.x)).mono ?_
  rintro e w11 ⟨rfl, hx⟩
  have FR2 : Hid (Fr w w11 [(w8.heap.size, dm, dx), (w7.heap.size, sm, sx), (w3.heap.size, zm, zx), (w2.heap.size, qm, qx), (w1.heap.size, 0, 0)]) := Lib.hid (FR.out.later hx)
  clear cs0 cs1 cd0 cd1
  clear hx FR; have FR := FR2; clear FR2
  go_wp2
  go_ret
  exact ⟨rfl, FR.out.x⟩
set_option maxRecDepth 100000 in
set_option maxHeartbeats 8000000 in
theorem near_zero_small_4 (w : World) (ht : Tb w) (i j k qm qx zm zx sm sx dm dx a b c u v : Int) (A : Ret 56 #[.int .i64 i] (.agg #[.int .i64 0, .int .i64 0])) (B : Ret 56 #[.int .i64 j] (.agg #[.int .i64 qm, .int .i64 qx])) (C : Ret 56 #[.int .i64 k] (.agg #[.int .i64 zm, .int .i64 zx])) (SA : Ret 57 #[.agg #[.int .i64 0, .int .i64 0]] (.tuple #[.int .i64 a, .bool true])) (SB : Ret 57 #[.agg #[.int .i64 qm, .int .i64 qx]] (.tuple #[.int .i64 b, .bool true])) (SC : Ret 57 #[.agg #[.int .i64 zm, .int .i64 zx]] (.tuple #[.int .i64 c, .bool true])) (AD : Ret 35 #[.agg #[.int .i64 0, .int .i64 0], .agg #[.int .i64 qm, .int .i64 qx]] (.tuple #[.agg #[.int .i64 sm, .int .i64 sx], .int .i64 0])) (SU : Ret 36 #[.agg #[.int .i64 0, .int .i64 0], .agg #[.int .i64 qm, .int .i64 qx]] (.tuple #[.agg #[.int .i64 dm, .int .i64 dx], .int .i64 0])) (SN : ∀ u, Tb u → Calls Tryz.prog 30 #[] u fun e u' => e = .returned (.bool true) ∧ Ext u u') (xq : ¬ qx > -24) (SS : Ret 57 #[.agg #[.int .i64 sm, .int .i64 sx]] (.tuple #[.int .i64 u, .bool true])) (SD : Ret 57 #[.agg #[.int .i64 dm, .int .i64 dx]] (.tuple #[.int .i64 v, .bool true])) (D1 D2 D3 D4 T1 T2 : Int) (wa : IntKind.i64.wrap (a + b) = T1) (wb : IntKind.i64.wrap (a - b) = T2) (_wa' : wrap64 (a + b) = T1) (_wb' : wrap64 (a - b) = T2) (DD1 : Ret 58 #[.int .i64 u, .int .i64 T1] (.int .i64 D1)) (DD2 : Ret 58 #[.int .i64 c, .int .i64 T1] (.int .i64 D2)) (DD3 : Ret 58 #[.int .i64 v, .int .i64 T2] (.int .i64 D3)) (DD4 : Ret 58 #[.int .i64 c, .int .i64 T2] (.int .i64 D4)) (l1 : D1 ≤ D2) (l2 : D3 ≤ D4) (ca : ¬ c = T1) (cb : ¬ c = T2) (_ca' : (c == T1) = false) (_cb' : (c == T2) = false) :
    Calls Tryz.prog 10 #[.int .i64 i, .int .i64 j, .int .i64 k] w fun e w' => e = .returned (.bool true) ∧ Ext w w' := by
  have HT := Lib.hid ht; clear ht
  have FR := Lib.hid (Fr.nil w)
  have eqR := eqReal
  go_enter Tryz.func10, Tryz.ntmps10
  go_wp2_with fail
  refine (A _).mono ?_
  rintro e w1 ⟨rfl, hx⟩
  have FR2 : Hid (Fr w w1 []) := Lib.hid (FR.out.later hx)
  clear hx FR; have FR := FR2; clear FR2
  go_wp2_with fail
  refine (B _).mono ?_
  rintro e w2 ⟨rfl, hx⟩
  have FR2 : Hid (Fr w w2 [(w1.heap.size, 0, 0)]) := Lib.hid ((FR.out.lay (0) (0) 23).later hx)
  clear hx FR; have FR := FR2; clear FR2
  go_wp2_with fail
  refine (C _).mono ?_
  rintro e w3 ⟨rfl, hx⟩
  have FR2 : Hid (Fr w w3 [(w2.heap.size, qm, qx), (w1.heap.size, 0, 0)]) := Lib.hid ((FR.out.lay (qm) (qx) 23).later hx)
  clear hx FR; have FR := FR2; clear FR2
  have cp0 := FR.out.g0 (b := w1.heap.size) (.tail _ (.head _)); have cp1 := FR.out.g1 (b := w1.heap.size) (.tail _ (.head _))
  go_wp2_with fail
  refine (SA _).mono ?_
  rintro e w4 ⟨rfl, hx⟩
  have FR2 : Hid (Fr w w4 [(w3.heap.size, zm, zx), (w2.heap.size, qm, qx), (w1.heap.size, 0, 0)]) := Lib.hid ((FR.out.lay (zm) (zx) 23).later hx)
  clear cp0 cp1
  clear hx FR; have FR := FR2; clear FR2
  have cq0 := FR.out.c0 (b := w2.heap.size) (.tail _ (.head _)); have cq1 := FR.out.c1 (b := w2.heap.size) (.tail _ (.head _))
  go_wp2_with fail
  refine (SB _).mono ?_
  rintro e w5 ⟨rfl, hx⟩
  have FR2 : Hid (Fr w w5 [(w3.heap.size, zm, zx), (w2.heap.size, qm, qx), (w1.heap.size, 0, 0)]) := Lib.hid (FR.out.later hx)
  clear cq0 cq1
  clear hx FR; have FR := FR2; clear FR2
  have cz0 := FR.out.c0 (b := w3.heap.size) (.head _); have cz1 := FR.out.c1 (b := w3.heap.size) (.head _)
  go_wp2_with fail
  refine (SC _).mono ?_
  rintro e w6 ⟨rfl, hx⟩
  have FR2 : Hid (Fr w w6 [(w3.heap.size, zm, zx), (w2.heap.size, qm, qx), (w1.heap.size, 0, 0)]) := Lib.hid (FR.out.later hx)
  clear cz0 cz1
  clear hx FR; have FR := FR2; clear FR2
  have cp0 := FR.out.c0 (b := w1.heap.size) (.tail _ (.tail _ (.head _))); have cp1 := FR.out.c1 (b := w1.heap.size) (.tail _ (.tail _ (.head _)))
  have cq0 := FR.out.c0 (b := w2.heap.size) (.tail _ (.head _)); have cq1 := FR.out.c1 (b := w2.heap.size) (.tail _ (.head _))
  go_wp2_with fail
  refine (AD _).mono ?_
  rintro e w7 ⟨rfl, hx⟩
  have FR2 : Hid (Fr w w7 [(w3.heap.size, zm, zx), (w2.heap.size, qm, qx), (w1.heap.size, 0, 0)]) := Lib.hid (FR.out.later hx)
  clear cp0 cp1 cq0 cq1
  clear hx FR; have FR := FR2; clear FR2
  have cp0 := FR.out.g0 (b := w1.heap.size) (.tail _ (.tail _ (.head _))); have cp1 := FR.out.g1 (b := w1.heap.size) (.tail _ (.tail _ (.head _)))
  have cq0 := FR.out.g0 (b := w2.heap.size) (.tail _ (.head _)); have cq1 := FR.out.g1 (b := w2.heap.size) (.tail _ (.head _))
  go_wp2_with fail
  refine (SU _).mono ?_
  rintro e w8 ⟨rfl, hx⟩
  have FR2 : Hid (Fr w w8 [(w7.heap.size, sm, sx), (w3.heap.size, zm, zx), (w2.heap.size, qm, qx), (w1.heap.size, 0, 0)]) := Lib.hid ((FR.out.lay (sm) (sx) 23).later hx)
  clear cp0 cp1 cq0 cq1
  clear hx FR; have FR := FR2; clear FR2
  have cp0 := FR.out.g0 (b := w1.heap.size) (.tail _ (.tail _ (.tail _ (.head _)))); have cp1 := FR.out.g1 (b := w1.heap.size) (.tail _ (.tail _ (.tail _ (.head _))))
  have cq0 := FR.out.g0 (b := w2.heap.size) (.tail _ (.tail _ (.head _))); have cq1 := FR.out.g1 (b := w2.heap.size) (.tail _ (.tail _ (.head _)))
  have cs0 := FR.out.g0 (b := w7.heap.size) (.head _); have cs1 := FR.out.g1 (b := w7.heap.size) (.head _)
  go_wp2_with fail
  refine (SS _).mono ?_
  rintro e w9 ⟨rfl, hx⟩
  have FR2 : Hid (Fr w w9 [(w8.heap.size, dm, dx), (w7.heap.size, sm, sx), (w3.heap.size, zm, zx), (w2.heap.size, qm, qx), (w1.heap.size, 0, 0)]) := Lib.hid ((FR.out.lay (dm) (dx) 23).later hx)
  clear cp0 cp1 cq0 cq1 cs0 cs1
  clear hx FR; have FR := FR2; clear FR2
  have cd0 := FR.out.c0 (b := w8.heap.size) (.head _); have cd1 := FR.out.c1 (b := w8.heap.size) (.head _)
  go_wp2_with fail
  refine (SD _).mono ?_
  rintro e w10 ⟨rfl, hx⟩
  have FR2 : Hid (Fr w w10 [(w8.heap.size, dm, dx), (w7.heap.size, sm, sx), (w3.heap.size, zm, zx), (w2.heap.size, qm, qx), (w1.heap.size, 0, 0)]) := Lib.hid (FR.out.later hx)
  clear cd0 cd1
  clear hx FR; have FR := FR2; clear FR2
  have cs0 := FR.out.c0 (b := w7.heap.size) (.tail _ (.head _)); have cs1 := FR.out.c1 (b := w7.heap.size) (.tail _ (.head _))
  have cd0 := FR.out.c0 (b := w8.heap.size) (.head _); have cd1 := FR.out.c1 (b := w8.heap.size) (.head _)
  go_wp2_with fail
  refine (DD1 _).mono ?_
  rintro e w11 ⟨rfl, hx⟩
  have FR2 : Hid (Fr w w11 [(w8.heap.size, dm, dx), (w7.heap.size, sm, sx), (w3.heap.size, zm, zx), (w2.heap.size, qm, qx), (w1.heap.size, 0, 0)]) := Lib.hid (FR.out.later hx)
  clear cs0 cs1 cd0 cd1
  clear hx FR; have FR := FR2; clear FR2
  go_wp2_with fail
  refine (DD2 _).mono ?_
  rintro e w12 ⟨rfl, hx⟩
  have FR2 : Hid (Fr w w12 [(w8.heap.size, dm, dx), (w7.heap.size, sm, sx), (w3.heap.size, zm, zx), (w2.heap.size, qm, qx), (w1.heap.size, 0, 0)]) := Lib.hid (FR.out.later hx)
  clear hx FR; have FR := FR2; clear FR2
  go_wp2_with fail
  refine (DD3 _).mono ?_
  rintro e w13 ⟨rfl, hx⟩
  have FR2 : Hid (Fr w w13 [(w8.heap.size, dm, dx), (w7.heap.size, sm, sx), (w3.heap.size, zm, zx), (w2.heap.size, qm, qx), (w1.heap.size, 0, 0)]) := Lib.hid (FR.out.later hx)
  clear hx FR; have FR := FR2; clear FR2
  go_wp2_with fail
  refine (DD4 _).mono ?_
  rintro e w14 ⟨rfl, hx⟩
  have FR2 : Hid (Fr w w14 [(w8.heap.size, dm, dx), (w7.heap.size, sm, sx), (w3.heap.size, zm, zx), (w2.heap.size, qm, qx), (w1.heap.size, 0, 0)]) := Lib.hid (FR.out.later hx)
  clear hx FR; have FR := FR2; clear FR2
  go_wp2_with fail
  refine (SN _ (HT.out.later FR.out.x)).mono ?_
  rintro e w15 ⟨rfl, hx⟩
  have FR2 : Hid (Fr w w15 [(w8.heap.size, dm, dx), (w7.heap.size, sm, sx), (w3.heap.size, zm, zx), (w2.heap.size, qm, qx), (w1.heap.size, 0, 0)]) := Lib.hid (FR.out.later hx)
  clear hx FR; have FR := FR2; clear FR2
  have cs0 := FR.out.c0 (b := w7.heap.size) (.tail _ (.head _)); have cs1 := FR.out.c1 (b := w7.heap.size) (.tail _ (.head _))
  have cz0 := FR.out.c0 (b := w3.heap.size) (.tail _ (.tail _ (.head _))); have cz1 := FR.out.c1 (b := w3.heap.size) (.tail _ (.tail _ (.head _)))
  have cd0 := FR.out.c0 (b := w8.heap.size) (.head _); have cd1 := FR.out.c1 (b := w8.heap.size) (.head _)
  go_wp2
  go_ret
  exact ⟨rfl, FR.out.x⟩
set_option maxRecDepth 100000 in
set_option maxHeartbeats 8000000 in
theorem near_zero_small_5 (w : World) (ht : Tb w) (T1 T2 i j k qm qx zm zx dm dx a b u v : Int) (A : Ret 56 #[.int .i64 i] (.agg #[.int .i64 0, .int .i64 0])) (B : Ret 56 #[.int .i64 j] (.agg #[.int .i64 qm, .int .i64 qx])) (C : Ret 56 #[.int .i64 k] (.agg #[.int .i64 zm, .int .i64 zx])) (SA : Ret 57 #[.agg #[.int .i64 0, .int .i64 0]] (.tuple #[.int .i64 a, .bool true])) (SB : Ret 57 #[.agg #[.int .i64 qm, .int .i64 qx]] (.tuple #[.int .i64 b, .bool true])) (SC : Ret 57 #[.agg #[.int .i64 zm, .int .i64 zx]] (.tuple #[.int .i64 T1, .bool true])) (AD : Ret 35 #[.agg #[.int .i64 0, .int .i64 0], .agg #[.int .i64 qm, .int .i64 qx]] (.tuple #[.agg #[.int .i64 zm, .int .i64 zx], .int .i64 0])) (SU : Ret 36 #[.agg #[.int .i64 0, .int .i64 0], .agg #[.int .i64 qm, .int .i64 qx]] (.tuple #[.agg #[.int .i64 dm, .int .i64 dx], .int .i64 0])) (SN : ∀ u, Tb u → Calls Tryz.prog 30 #[] u fun e u' => e = .returned (.bool true) ∧ Ext u u') (xq : ¬ qx > -24) (SS : Ret 57 #[.agg #[.int .i64 zm, .int .i64 zx]] (.tuple #[.int .i64 u, .bool true])) (SD : Ret 57 #[.agg #[.int .i64 dm, .int .i64 dx]] (.tuple #[.int .i64 v, .bool true])) (D1 D2 D3 D4 : Int) (wa : IntKind.i64.wrap (a + b) = T1) (wb : IntKind.i64.wrap (a - b) = T2) (_wa' : wrap64 (a + b) = T1) (_wb' : wrap64 (a - b) = T2) (DD1 : Ret 58 #[.int .i64 u, .int .i64 T1] (.int .i64 D1)) (DD2 : Ret 58 #[.int .i64 T1, .int .i64 T1] (.int .i64 D2)) (DD3 : Ret 58 #[.int .i64 v, .int .i64 T2] (.int .i64 D3)) (DD4 : Ret 58 #[.int .i64 T1, .int .i64 T2] (.int .i64 D4)) (l1 : D1 ≤ D2) (l2 : D3 ≤ D4) (cb : ¬ T1 = T2) (_cb' : (T1 == T2) = false) :
    Calls Tryz.prog 10 #[.int .i64 i, .int .i64 j, .int .i64 k] w fun e w' => e = .returned (.bool true) ∧ Ext w w' := by
  have HT := Lib.hid ht; clear ht
  have FR := Lib.hid (Fr.nil w)
  have eqR := eqReal
  go_enter Tryz.func10, Tryz.ntmps10
  go_wp2_with fail
  refine (A _).mono ?_
  rintro e w1 ⟨rfl, hx⟩
  have FR2 : Hid (Fr w w1 []) := Lib.hid (FR.out.later hx)
  clear hx FR; have FR := FR2; clear FR2
  go_wp2_with fail
  refine (B _).mono ?_
  rintro e w2 ⟨rfl, hx⟩
  have FR2 : Hid (Fr w w2 [(w1.heap.size, 0, 0)]) := Lib.hid ((FR.out.lay (0) (0) 23).later hx)
  clear hx FR; have FR := FR2; clear FR2
  go_wp2_with fail
  refine (C _).mono ?_
  rintro e w3 ⟨rfl, hx⟩
  have FR2 : Hid (Fr w w3 [(w2.heap.size, qm, qx), (w1.heap.size, 0, 0)]) := Lib.hid ((FR.out.lay (qm) (qx) 23).later hx)
  clear hx FR; have FR := FR2; clear FR2
  have cp0 := FR.out.g0 (b := w1.heap.size) (.tail _ (.head _)); have cp1 := FR.out.g1 (b := w1.heap.size) (.tail _ (.head _))
  go_wp2_with fail
  refine (SA _).mono ?_
  rintro e w4 ⟨rfl, hx⟩
  have FR2 : Hid (Fr w w4 [(w3.heap.size, zm, zx), (w2.heap.size, qm, qx), (w1.heap.size, 0, 0)]) := Lib.hid ((FR.out.lay (zm) (zx) 23).later hx)
  clear cp0 cp1
  clear hx FR; have FR := FR2; clear FR2
  have cq0 := FR.out.c0 (b := w2.heap.size) (.tail _ (.head _)); have cq1 := FR.out.c1 (b := w2.heap.size) (.tail _ (.head _))
  go_wp2_with fail
  refine (SB _).mono ?_
  rintro e w5 ⟨rfl, hx⟩
  have FR2 : Hid (Fr w w5 [(w3.heap.size, zm, zx), (w2.heap.size, qm, qx), (w1.heap.size, 0, 0)]) := Lib.hid (FR.out.later hx)
  clear cq0 cq1
  clear hx FR; have FR := FR2; clear FR2
  have cz0 := FR.out.c0 (b := w3.heap.size) (.head _); have cz1 := FR.out.c1 (b := w3.heap.size) (.head _)
  go_wp2_with fail
  refine (SC _).mono ?_
  rintro e w6 ⟨rfl, hx⟩
  have FR2 : Hid (Fr w w6 [(w3.heap.size, zm, zx), (w2.heap.size, qm, qx), (w1.heap.size, 0, 0)]) := Lib.hid (FR.out.later hx)
  clear cz0 cz1
  clear hx FR; have FR := FR2; clear FR2
  have cp0 := FR.out.c0 (b := w1.heap.size) (.tail _ (.tail _ (.head _))); have cp1 := FR.out.c1 (b := w1.heap.size) (.tail _ (.tail _ (.head _)))
  have cq0 := FR.out.c0 (b := w2.heap.size) (.tail _ (.head _)); have cq1 := FR.out.c1 (b := w2.heap.size) (.tail _ (.head _))
  go_wp2_with fail
  refine (AD _).mono ?_
  rintro e w7 ⟨rfl, hx⟩
  have FR2 : Hid (Fr w w7 [(w3.heap.size, zm, zx), (w2.heap.size, qm, qx), (w1.heap.size, 0, 0)]) := Lib.hid (FR.out.later hx)
  clear cp0 cp1 cq0 cq1
  clear hx FR; have FR := FR2; clear FR2
  have cp0 := FR.out.g0 (b := w1.heap.size) (.tail _ (.tail _ (.head _))); have cp1 := FR.out.g1 (b := w1.heap.size) (.tail _ (.tail _ (.head _)))
  have cq0 := FR.out.g0 (b := w2.heap.size) (.tail _ (.head _)); have cq1 := FR.out.g1 (b := w2.heap.size) (.tail _ (.head _))
  go_wp2_with fail
  refine (SU _).mono ?_
  rintro e w8 ⟨rfl, hx⟩
  have FR2 : Hid (Fr w w8 [(w7.heap.size, zm, zx), (w3.heap.size, zm, zx), (w2.heap.size, qm, qx), (w1.heap.size, 0, 0)]) := Lib.hid ((FR.out.lay (zm) (zx) 23).later hx)
  clear cp0 cp1 cq0 cq1
  clear hx FR; have FR := FR2; clear FR2
  have cp0 := FR.out.g0 (b := w1.heap.size) (.tail _ (.tail _ (.tail _ (.head _)))); have cp1 := FR.out.g1 (b := w1.heap.size) (.tail _ (.tail _ (.tail _ (.head _))))
  have cq0 := FR.out.g0 (b := w2.heap.size) (.tail _ (.tail _ (.head _))); have cq1 := FR.out.g1 (b := w2.heap.size) (.tail _ (.tail _ (.head _)))
  have cs0 := FR.out.g0 (b := w7.heap.size) (.head _); have cs1 := FR.out.g1 (b := w7.heap.size) (.head _)
  go_wp2_with fail
  refine (SS _).mono ?_
  rintro e w9 ⟨rfl, hx⟩
  have FR2 : Hid (Fr w w9 [(w8.heap.size, dm, dx), (w7.heap.size, zm, zx), (w3.heap.size, zm, zx), (w2.heap.size, qm, qx), (w1.heap.size, 0, 0)]) := Lib.hid ((FR.out.lay (dm) (dx) 23).later hx)
  clear cp0 cp1 cq0 cq1 cs0 cs1
  clear hx FR; have FR := FR2; clear FR2
  have cd0 := FR.out.c0 (b := w8.heap.size) (.head _); have cd1 := FR.out.c1 (b := w8.heap.size) (.head _)
  go_wp2_with fail
  refine (SD _).mono ?_
  rintro e w10 ⟨rfl, hx⟩
  have FR2 : Hid (Fr w w10 [(w8.heap.size, dm, dx), (w7.heap.size, zm, zx), (w3.heap.size, zm, zx), (w2.heap.size, qm, qx), (w1.heap.size, 0, 0)]) := Lib.hid (FR.out.later hx)
  clear cd0 cd1
  clear hx FR; have FR := FR2; clear FR2
  have cs0 := FR.out.c0 (b := w7.heap.size) (.tail _ (.head _)); have cs1 := FR.out.c1 (b := w7.heap.size) (.tail _ (.head _))
  have cd0 := FR.out.c0 (b := w8.heap.size) (.head _); have cd1 := FR.out.c1 (b := w8.heap.size) (.head _)
  go_wp2_with fail
  refine (DD1 _).mono ?_
  rintro e w11 ⟨rfl, hx⟩
  have FR2 : Hid (Fr w w11 [(w8.heap.size, dm, dx), (w7.heap.size, zm, zx), (w3.heap.size, zm, zx), (w2.heap.size, qm, qx), (w1.heap.size, 0, 0)]) := Lib.hid (FR.out.later hx)
  clear cs0 cs1 cd0 cd1
  clear hx FR; have FR := FR2; clear FR2
  go_wp2_with fail
  refine (DD2 _).mono ?_
  rintro e w12 ⟨rfl, hx⟩
  have FR2 : Hid (Fr w w12 [(w8.heap.size, dm, dx), (w7.heap.size, zm, zx), (w3.heap.size, zm, zx), (w2.heap.size, qm, qx), (w1.heap.size, 0, 0)]) := Lib.hid (FR.out.later hx)
  clear hx FR; have FR := FR2; clear FR2
  go_wp2_with fail
  refine (DD3 _).mono ?_
  rintro e w13 ⟨rfl, hx⟩
  have FR2 : Hid (Fr w w13 [(w8.heap.size, dm, dx), (w7.heap.size, zm, zx), (w3.heap.size, zm, zx), (w2.heap.size, qm, qx), (w1.heap.size, 0, 0)]) := Lib.hid (FR.out.later hx)
  clear hx FR; have FR := FR2; clear FR2
  go_wp2_with fail
  refine (DD4 _).mono ?_
  rintro e w14 ⟨rfl, hx⟩
  have FR2 : Hid (Fr w w14 [(w8.heap.size, dm, dx), (w7.heap.size, zm, zx), (w3.heap.size, zm, zx), (w2.heap.size, qm, qx), (w1.heap.size, 0, 0)]) := Lib.hid (FR.out.later hx)
  clear hx FR; have FR := FR2; clear FR2
  go_wp2_with fail
  refine (SN _ (HT.out.later FR.out.x)).mono ?_
  rintro e w15 ⟨rfl, hx⟩
  have FR2 : Hid (Fr w w15 [(w8.heap.size, dm, dx), (w7.heap.size, zm, zx), (w3.heap.size, zm, zx), (w2.heap.size, qm, qx), (w1.heap.size, 0, 0)]) := Lib.hid (FR.out.later hx)
  clear hx FR; have FR := FR2; clear FR2
  have cs0 := FR.out.c0 (b := w7.heap.size) (.tail _ (.head _)); have cs1 := FR.out.c1 (b := w7.heap.size) (.tail _ (.head _))
  have cz0 := FR.out.c0 (b := w3.heap.size) (.tail _ (.tail _ (.head _))); have cz1 := FR.out.c1 (b := w3.heap.size) (.tail _ (.tail _ (.head _)))
  have cd0 := FR.out.c0 (b := w8.heap.size) (.head _); have cd1 := FR.out.c1 (b := w8.heap.size) (.head _)
  go_wp2
  go_ret
  exact ⟨rfl, FR.out.x⟩
set_option maxRecDepth 100000 in
set_option maxHeartbeats 8000000 in
theorem near_zero_small_6 (w : World) (ht : Tb w) (T1 T2 i j k qm qx zm zx sm sx a b u v : Int) (A : Ret 56 #[.int .i64 i] (.agg #[.int .i64 0, .int .i64 0])) (B : Ret 56 #[.int .i64 j] (.agg #[.int .i64 qm, .int .i64 qx])) (C : Ret 56 #[.int .i64 k] (.agg #[.int .i64 zm, .int .i64 zx])) (SA : Ret 57 #[.agg #[.int .i64 0, .int .i64 0]] (.tuple #[.int .i64 a, .bool true])) (SB : Ret 57 #[.agg #[.int .i64 qm, .int .i64 qx]] (.tuple #[.int .i64 b, .bool true])) (SC : Ret 57 #[.agg #[.int .i64 zm, .int .i64 zx]] (.tuple #[.int .i64 T2, .bool true])) (AD : Ret 35 #[.agg #[.int .i64 0, .int .i64 0], .agg #[.int .i64 qm, .int .i64 qx]] (.tuple #[.agg #[.int .i64 sm, .int .i64 sx], .int .i64 0])) (SU : Ret 36 #[.agg #[.int .i64 0, .int .i64 0], .agg #[.int .i64 qm, .int .i64 qx]] (.tuple #[.agg #[.int .i64 zm, .int .i64 zx], .int .i64 0])) (SN : ∀ u, Tb u → Calls Tryz.prog 30 #[] u fun e u' => e = .returned (.bool true) ∧ Ext u u') (xq : ¬ qx > -24) (SS : Ret 57 #[.agg #[.int .i64 sm, .int .i64 sx]] (.tuple #[.int .i64 u, .bool true])) (SD : Ret 57 #[.agg #[.int .i64 zm, .int .i64 zx]] (.tuple #[.int .i64 v, .bool true])) (D1 D2 D3 D4 : Int) (wa : IntKind.i64.wrap (a + b) = T1) (wb : IntKind.i64.wrap (a - b) = T2) (_wa' : wrap64 (a + b) = T1) (_wb' : wrap64 (a - b) = T2) (DD1 : Ret 58 #[.int .i64 u, .int .i64 T1] (.int .i64 D1)) (DD2 : Ret 58 #[.int .i64 T2, .int .i64 T1] (.int .i64 D2)) (DD3 : Ret 58 #[.int .i64 v, .int .i64 T2] (.int .i64 D3)) (DD4 : Ret 58 #[.int .i64 T2, .int .i64 T2] (.int .i64 D4)) (l1 : D1 ≤ D2) (l2 : D3 ≤ D4) (cb : ¬ T2 = T1) (_cb' : (T2 == T1) = false) :
    Calls Tryz.prog 10 #[.int .i64 i, .int .i64 j, .int .i64 k] w fun e w' => e = .returned (.bool true) ∧ Ext w w' := by
  have HT := Lib.hid ht; clear ht
  have FR := Lib.hid (Fr.nil w)
  have eqR := eqReal
  go_enter Tryz.func10, Tryz.ntmps10
  go_wp2_with fail
  refine (A _).mono ?_
  rintro e w1 ⟨rfl, hx⟩
  have FR2 : Hid (Fr w w1 []) := Lib.hid (FR.out.later hx)
  clear hx FR; have FR := FR2; clear FR2
  go_wp2_with fail
  refine (B _).mono ?_
  rintro e w2 ⟨rfl, hx⟩
  have FR2 : Hid (Fr w w2 [(w1.heap.size, 0, 0)]) := Lib.hid ((FR.out.lay (0) (0) 23).later hx)
  clear hx FR; have FR := FR2; clear FR2
  go_wp2_with fail
  refine (C _).mono ?_
  rintro e w3 ⟨rfl, hx⟩
  have FR2 : Hid (Fr w w3 [(w2.heap.size, qm, qx), (w1.heap.size, 0, 0)]) := Lib.hid ((FR.out.lay (qm) (qx) 23).later hx)
  clear hx FR; have FR := FR2; clear FR2
  have cp0 := FR.out.g0 (b := w1.heap.size) (.tail _ (.head _)); have cp1 := FR.out.g1 (b := w1.heap.size) (.tail _ (.head _))
  go_wp2_with fail
  refine (SA _).mono ?_
  rintro e w4 ⟨rfl, hx⟩
  have FR2 : Hid (Fr w w4 [(w3.heap.size, zm, zx), (w2.heap.size, qm, qx), (w1.heap.size, 0, 0)]) := Lib.hid ((FR.out.lay (zm) (zx) 23).later hx)
  clear cp0 cp1
  clear hx FR; have FR := FR2; clear FR2
  have cq0 := FR.out.c0 (b := w2.heap.size) (.tail _ (.head _)); have cq1 := FR.out.c1 (b := w2.heap.size) (.tail _ (.head _))
  go_wp2_with fail
  refine (SB _).mono ?_
  rintro e w5 ⟨rfl, hx⟩
  have FR2 : Hid (Fr w w5 [(w3.heap.size, zm, zx), (w2.heap.size, qm, qx), (w1.heap.size, 0, 0)]) := Lib.hid (FR.out.later hx)
  clear cq0 cq1
  clear hx FR; have FR := FR2; clear FR2
  have cz0 := FR.out.c0 (b := w3.heap.size) (.head _); have cz1 := FR.out.c1 (b := w3.heap.size) (.head _)
  go_wp2_with fail
  refine (SC _).mono ?_
  rintro e w6 ⟨rfl, hx⟩
  have FR2 : Hid (Fr w w6 [(w3.heap.size, zm, zx), (w2.heap.size, qm, qx), (w1.heap.size, 0, 0)]) := Lib.hid (FR.out.later hx)
  clear cz0 cz1
  clear hx FR; have FR := FR2; clear FR2
  have cp0 := FR.out.c0 (b := w1.heap.size) (.tail _ (.tail _ (.head _))); have cp1 := FR.out.c1 (b := w1.heap.size) (.tail _ (.tail _ (.head _)))
  have cq0 := FR.out.c0 (b := w2.heap.size) (.tail _ (.head _)); have cq1 := FR.out.c1 (b := w2.heap.size) (.tail _ (.head _))
  go_wp2_with fail
  refine (AD _).mono ?_
  rintro e w7 ⟨rfl, hx⟩
  have FR2 : Hid (Fr w w7 [(w3.heap.size, zm, zx), (w2.heap.size, qm, qx), (w1.heap.size, 0, 0)]) := Lib.hid (FR.out.later hx)
  clear cp0 cp1 cq0 cq1
  clear hx FR; have FR := FR2; clear FR2
  have cp0 := FR.out.g0 (b := w1.heap.size) (.tail _ (.tail _ (.head _))); have cp1 := FR.out.g1 (b := w1.heap.size) (.tail _ (.tail _ (.head _)))
  have cq0 := FR.out.g0 (b := w2.heap.size) (.tail _ (.head _)); have cq1 := FR.out.g1 (b := w2.heap.size) (.tail _ (.head _))
  go_wp2_with fail
  refine (SU _).mono ?_
  rintro e w8 ⟨rfl, hx⟩
  have FR2 : Hid (Fr w w8 [(w7.heap.size, sm, sx), (w3.heap.size, zm, zx), (w2.heap.size, qm, qx), (w1.heap.size, 0, 0)]) := Lib.hid ((FR.out.lay (sm) (sx) 23).later hx)
  clear cp0 cp1 cq0 cq1
  clear hx FR; have FR := FR2; clear FR2
  have cp0 := FR.out.g0 (b := w1.heap.size) (.tail _ (.tail _ (.tail _ (.head _)))); have cp1 := FR.out.g1 (b := w1.heap.size) (.tail _ (.tail _ (.tail _ (.head _))))
  have cq0 := FR.out.g0 (b := w2.heap.size) (.tail _ (.tail _ (.head _))); have cq1 := FR.out.g1 (b := w2.heap.size) (.tail _ (.tail _ (.head _)))
  have cs0 := FR.out.g0 (b := w7.heap.size) (.head _); have cs1 := FR.out.g1 (b := w7.heap.size) (.head _)
  go_wp2_with fail
  refine (SS _).mono ?_
  rintro e w9 ⟨rfl, hx⟩
  have FR2 : Hid (Fr w w9 [(w8.heap.size, zm, zx), (w7.heap.size, sm, sx), (w3.heap.size, zm, zx), (w2.heap.size, qm, qx), (w1.heap.size, 0, 0)]) := Lib.hid ((FR.out.lay (zm) (zx) 23).later hx)
  clear cp0 cp1 cq0 cq1 cs0 cs1
  clear hx FR; have FR := FR2; clear FR2
  have cd0 := FR.out.c0 (b := w8.heap.size) (.head _); have cd1 := FR.out.c1 (b := w8.heap.size) (.head _)
  go_wp2_with fail
  refine (SD _).mono ?_
  rintro e w10 ⟨rfl, hx⟩
  have FR2 : Hid (Fr w w10 [(w8.heap.size, zm, zx), (w7.heap.size, sm, sx), (w3.heap.size, zm, zx), (w2.heap.size, qm, qx), (w1.heap.size, 0, 0)]) := Lib.hid (FR.out.later hx)
  clear cd0 cd1
  clear hx FR; have FR := FR2; clear FR2
  have cs0 := FR.out.c0 (b := w7.heap.size) (.tail _ (.head _)); have cs1 := FR.out.c1 (b := w7.heap.size) (.tail _ (.head _))
  have cd0 := FR.out.c0 (b := w8.heap.size) (.head _); have cd1 := FR.out.c1 (b := w8.heap.size) (.head _)
  go_wp2_with fail
  refine (DD1 _).mono ?_
  rintro e w11 ⟨rfl, hx⟩
  have FR2 : Hid (Fr w w11 [(w8.heap.size, zm, zx), (w7.heap.size, sm, sx), (w3.heap.size, zm, zx), (w2.heap.size, qm, qx), (w1.heap.size, 0, 0)]) := Lib.hid (FR.out.later hx)
  clear cs0 cs1 cd0 cd1
  clear hx FR; have FR := FR2; clear FR2
  go_wp2_with fail
  refine (DD2 _).mono ?_
  rintro e w12 ⟨rfl, hx⟩
  have FR2 : Hid (Fr w w12 [(w8.heap.size, zm, zx), (w7.heap.size, sm, sx), (w3.heap.size, zm, zx), (w2.heap.size, qm, qx), (w1.heap.size, 0, 0)]) := Lib.hid (FR.out.later hx)
  clear hx FR; have FR := FR2; clear FR2
  go_wp2_with fail
  refine (DD3 _).mono ?_
  rintro e w13 ⟨rfl, hx⟩
  have FR2 : Hid (Fr w w13 [(w8.heap.size, zm, zx), (w7.heap.size, sm, sx), (w3.heap.size, zm, zx), (w2.heap.size, qm, qx), (w1.heap.size, 0, 0)]) := Lib.hid (FR.out.later hx)
  clear hx FR; have FR := FR2; clear FR2
  go_wp2_with fail
  refine (DD4 _).mono ?_
  rintro e w14 ⟨rfl, hx⟩
  have FR2 : Hid (Fr w w14 [(w8.heap.size, zm, zx), (w7.heap.size, sm, sx), (w3.heap.size, zm, zx), (w2.heap.size, qm, qx), (w1.heap.size, 0, 0)]) := Lib.hid (FR.out.later hx)
  clear hx FR; have FR := FR2; clear FR2
  go_wp2_with fail
  refine (SN _ (HT.out.later FR.out.x)).mono ?_
  rintro e w15 ⟨rfl, hx⟩
  have FR2 : Hid (Fr w w15 [(w8.heap.size, zm, zx), (w7.heap.size, sm, sx), (w3.heap.size, zm, zx), (w2.heap.size, qm, qx), (w1.heap.size, 0, 0)]) := Lib.hid (FR.out.later hx)
  clear hx FR; have FR := FR2; clear FR2
  have cs0 := FR.out.c0 (b := w7.heap.size) (.tail _ (.head _)); have cs1 := FR.out.c1 (b := w7.heap.size) (.tail _ (.head _))
  have cz0 := FR.out.c0 (b := w3.heap.size) (.tail _ (.tail _ (.head _))); have cz1 := FR.out.c1 (b := w3.heap.size) (.tail _ (.tail _ (.head _)))
  have cd0 := FR.out.c0 (b := w8.heap.size) (.head _); have cd1 := FR.out.c1 (b := w8.heap.size) (.head _)
  go_wp2
  go_ret
  exact ⟨rfl, FR.out.x⟩
set_option maxRecDepth 100000 in
set_option maxHeartbeats 8000000 in
theorem near_zero_small_7 (w : World) (ht : Tb w) (T1 i j k qm qx zm zx a b u v : Int) (A : Ret 56 #[.int .i64 i] (.agg #[.int .i64 0, .int .i64 0])) (B : Ret 56 #[.int .i64 j] (.agg #[.int .i64 qm, .int .i64 qx])) (C : Ret 56 #[.int .i64 k] (.agg #[.int .i64 zm, .int .i64 zx])) (SA : Ret 57 #[.agg #[.int .i64 0, .int .i64 0]] (.tuple #[.int .i64 a, .bool true])) (SB : Ret 57 #[.agg #[.int .i64 qm, .int .i64 qx]] (.tuple #[.int .i64 b, .bool true])) (SC : Ret 57 #[.agg #[.int .i64 zm, .int .i64 zx]] (.tuple #[.int .i64 T1, .bool true])) (AD : Ret 35 #[.agg #[.int .i64 0, .int .i64 0], .agg #[.int .i64 qm, .int .i64 qx]] (.tuple #[.agg #[.int .i64 zm, .int .i64 zx], .int .i64 0])) (SU : Ret 36 #[.agg #[.int .i64 0, .int .i64 0], .agg #[.int .i64 qm, .int .i64 qx]] (.tuple #[.agg #[.int .i64 zm, .int .i64 zx], .int .i64 0])) (SN : ∀ u, Tb u → Calls Tryz.prog 30 #[] u fun e u' => e = .returned (.bool true) ∧ Ext u u') (xq : ¬ qx > -24) (SS : Ret 57 #[.agg #[.int .i64 zm, .int .i64 zx]] (.tuple #[.int .i64 u, .bool true])) (SD : Ret 57 #[.agg #[.int .i64 zm, .int .i64 zx]] (.tuple #[.int .i64 v, .bool true])) (D1 D2 D3 D4 : Int) (wa : IntKind.i64.wrap (a + b) = T1) (wb : IntKind.i64.wrap (a - b) = T1) (_wa' : wrap64 (a + b) = T1) (_wb' : wrap64 (a - b) = T1) (DD1 : Ret 58 #[.int .i64 u, .int .i64 T1] (.int .i64 D1)) (DD2 : Ret 58 #[.int .i64 T1, .int .i64 T1] (.int .i64 D2)) (DD3 : Ret 58 #[.int .i64 v, .int .i64 T1] (.int .i64 D3)) (DD4 : Ret 58 #[.int .i64 T1, .int .i64 T1] (.int .i64 D4)) (l1 : D1 ≤ D2) (l2 : D3 ≤ D4) :
    Calls Tryz.prog 10 #[.int .i64 i, .int .i64 j, .int .i64 k] w fun e w' => e = .returned (.bool true) ∧ Ext w w' := by
  have HT := Lib.hid ht; clear ht
  have FR := Lib.hid (Fr.nil w)
  have eqR := eqReal
  go_enter Tryz.func10, Tryz.ntmps10
  go_wp2_with fail
  refine (A _).mono ?_
  rintro e w1 ⟨rfl, hx⟩
  have FR2 : Hid (Fr w w1 []) := Lib.hid (FR.out.later hx)
  clear hx FR; have FR := FR2; clear FR2
  go_wp2_with fail
  refine (B _).mono ?_
  rintro e w2 ⟨rfl, hx⟩
  have FR2 : Hid (Fr w w2 [(w1.heap.size, 0, 0)]) := Lib.hid ((FR.out.lay (0) (0) 23).later hx)
  clear hx FR; have FR := FR2; clear FR2
  go_wp2_with fail
  refine (C _).mono ?_
  rintro e w3 ⟨rfl, hx⟩
  have FR2 : Hid (Fr w w3 [(w2.heap.size, qm, qx), (w1.heap.size, 0, 0)]) := Lib.hid ((FR.out.lay (qm) (qx) 23).later hx)
  clear hx FR; have FR := FR2; clear FR2
  have cp0 := FR.out.g0 (b := w1.heap.size) (.tail _ (.head _)); have cp1 := FR.out.g1 (b := w1.heap.size) (.tail _ (.head _))
  go_wp2_with fail
  refine (SA _).mono ?_
  rintro e w4 ⟨rfl, hx⟩
  have FR2 : Hid (Fr w w4 [(w3.heap.size, zm, zx), (w2.heap.size, qm, qx), (w1.heap.size, 0, 0)]) := Lib.hid ((FR.out.lay (zm) (zx) 23).later hx)
  clear cp0 cp1
  clear hx FR; have FR := FR2; clear FR2
  have cq0 := FR.out.c0 (b := w2.heap.size) (.tail _ (.head _)); have cq1 := FR.out.c1 (b := w2.heap.size) (.tail _ (.head _))
  go_wp2_with fail
  refine (SB _).mono ?_
  rintro e w5 ⟨rfl, hx⟩
  have FR2 : Hid (Fr w w5 [(w3.heap.size, zm, zx), (w2.heap.size, qm, qx), (w1.heap.size, 0, 0)]) := Lib.hid (FR.out.later hx)
  clear cq0 cq1
  clear hx FR; have FR := FR2; clear FR2
  have cz0 := FR.out.c0 (b := w3.heap.size) (.head _); have cz1 := FR.out.c1 (b := w3.heap.size) (.head _)
  go_wp2_with fail
  refine (SC _).mono ?_
  rintro e w6 ⟨rfl, hx⟩
  have FR2 : Hid (Fr w w6 [(w3.heap.size, zm, zx), (w2.heap.size, qm, qx), (w1.heap.size, 0, 0)]) := Lib.hid (FR.out.later hx)
  clear cz0 cz1
  clear hx FR; have FR := FR2; clear FR2
  have cp0 := FR.out.c0 (b := w1.heap.size) (.tail _ (.tail _ (.head _))); have cp1 := FR.out.c1 (b := w1.heap.size) (.tail _ (.tail _ (.head _)))
  have cq0 := FR.out.c0 (b := w2.heap.size) (.tail _ (.head _)); have cq1 := FR.out.c1 (b := w2.heap.size) (.tail _ (.head _))
  go_wp2_with fail
  refine (AD _).mono ?_
  rintro e w7 ⟨rfl, hx⟩
  have FR2 : Hid (Fr w w7 [(w3.heap.size, zm, zx), (w2.heap.size, qm, qx), (w1.heap.size, 0, 0)]) := Lib.hid (FR.out.later hx)
  clear cp0 cp1 cq0 cq1
  clear hx FR; have FR := FR2; clear FR2
  have cp0 := FR.out.g0 (b := w1.heap.size) (.tail _ (.tail _ (.head _))); have cp1 := FR.out.g1 (b := w1.heap.size) (.tail _ (.tail _ (.head _)))
  have cq0 := FR.out.g0 (b := w2.heap.size) (.tail _ (.head _)); have cq1 := FR.out.g1 (b := w2.heap.size) (.tail _ (.head _))
  go_wp2_with fail
  refine (SU _).mono ?_
  rintro e w8 ⟨rfl, hx⟩
  have FR2 : Hid (Fr w w8 [(w7.heap.size, zm, zx), (w3.heap.size, zm, zx), (w2.heap.size, qm, qx), (w1.heap.size, 0, 0)]) := Lib.hid ((FR.out.lay (zm) (zx) 23).later hx)
  clear cp0 cp1 cq0 cq1
  clear hx FR; have FR := FR2; clear FR2
  have cp0 := FR.out.g0 (b := w1.heap.size) (.tail _ (.tail _ (.tail _ (.head _)))); have cp1 := FR.out.g1 (b := w1.heap.size) (.tail _ (.tail _ (.tail _ (.head _))))
  have cq0 := FR.out.g0 (b := w2.heap.size) (.tail _ (.tail _ (.head _))); have cq1 := FR.out.g1 (b := w2.heap.size) (.tail _ (.tail _ (.head _)))
  have cs0 := FR.out.g0 (b := w7.heap.size) (.head _); have cs1 := FR.out.g1 (b := w7.heap.size) (.head _)
  go_wp2_with fail
  refine (SS _).mono ?_
  rintro e w9 ⟨rfl, hx⟩
  have FR2 : Hid (Fr w w9 [(w8.heap.size, zm, zx), (w7.heap.size, zm, zx), (w3.heap.size, zm, zx), (w2.heap.size, qm, qx), (w1.heap.size, 0, 0)]) := Lib.hid ((FR.out.lay (zm) (zx) 23).later hx)
  clear cp0 cp1 cq0 cq1 cs0 cs1
  clear hx FR; have FR := FR2; clear FR2
  have cd0 := FR.out.c0 (b := w8.heap.size) (.head _); have cd1 := FR.out.c1 (b := w8.heap.size) (.head _)
  go_wp2_with fail
  refine (SD _).mono ?_
  rintro e w10 ⟨rfl, hx⟩
  have FR2 : Hid (Fr w w10 [(w8.heap.size, zm, zx), (w7.heap.size, zm, zx), (w3.heap.size, zm, zx), (w2.heap.size, qm, qx), (w1.heap.size, 0, 0)]) := Lib.hid (FR.out.later hx)
  clear cd0 cd1
  clear hx FR; have FR := FR2; clear FR2
  have cs0 := FR.out.c0 (b := w7.heap.size) (.tail _ (.head _)); have cs1 := FR.out.c1 (b := w7.heap.size) (.tail _ (.head _))
  have cd0 := FR.out.c0 (b := w8.heap.size) (.head _); have cd1 := FR.out.c1 (b := w8.heap.size) (.head _)
  go_wp2_with fail
  refine (DD1 _).mono ?_
  rintro e w11 ⟨rfl, hx⟩
  have FR2 : Hid (Fr w w11 [(w8.heap.size, zm, zx), (w7.heap.size, zm, zx), (w3.heap.size, zm, zx), (w2.heap.size, qm, qx), (w1.heap.size, 0, 0)]) := Lib.hid (FR.out.later hx)
  clear cs0 cs1 cd0 cd1
  clear hx FR; have FR := FR2; clear FR2
  go_wp2_with fail
  refine (DD2 _).mono ?_
  rintro e w12 ⟨rfl, hx⟩
  have FR2 : Hid (Fr w w12 [(w8.heap.size, zm, zx), (w7.heap.size, zm, zx), (w3.heap.size, zm, zx), (w2.heap.size, qm, qx), (w1.heap.size, 0, 0)]) := Lib.hid (FR.out.later hx)
  clear hx FR; have FR := FR2; clear FR2
  go_wp2_with fail
  refine (DD3 _).mono ?_
  rintro e w13 ⟨rfl, hx⟩
  have FR2 : Hid (Fr w w13 [(w8.heap.size, zm, zx), (w7.heap.size, zm, zx), (w3.heap.size, zm, zx), (w2.heap.size, qm, qx), (w1.heap.size, 0, 0)]) := Lib.hid (FR.out.later hx)
  clear hx FR; have FR := FR2; clear FR2
  go_wp2_with fail
  refine (DD4 _).mono ?_
  rintro e w14 ⟨rfl, hx⟩
  have FR2 : Hid (Fr w w14 [(w8.heap.size, zm, zx), (w7.heap.size, zm, zx), (w3.heap.size, zm, zx), (w2.heap.size, qm, qx), (w1.heap.size, 0, 0)]) := Lib.hid (FR.out.later hx)
  clear hx FR; have FR := FR2; clear FR2
  go_wp2_with fail
  refine (SN _ (HT.out.later FR.out.x)).mono ?_
  rintro e w15 ⟨rfl, hx⟩
  have FR2 : Hid (Fr w w15 [(w8.heap.size, zm, zx), (w7.heap.size, zm, zx), (w3.heap.size, zm, zx), (w2.heap.size, qm, qx), (w1.heap.size, 0, 0)]) := Lib.hid (FR.out.later hx)
  clear hx FR; have FR := FR2; clear FR2
  have cs0 := FR.out.c0 (b := w7.heap.size) (.tail _ (.head _)); have cs1 := FR.out.c1 (b := w7.heap.size) (.tail _ (.head _))
  have cz0 := FR.out.c0 (b := w3.heap.size) (.tail _ (.tail _ (.head _))); have cz1 := FR.out.c1 (b := w3.heap.size) (.tail _ (.tail _ (.head _)))
  have cd0 := FR.out.c0 (b := w8.heap.size) (.head _); have cd1 := FR.out.c1 (b := w8.heap.size) (.head _)
  go_wp2
  go_ret
  exact ⟨rfl, FR.out.x⟩
end Go.Proofs.YtehmpffffjcloaaGreatDoor
