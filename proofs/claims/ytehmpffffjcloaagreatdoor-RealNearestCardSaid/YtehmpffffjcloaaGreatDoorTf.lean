/- Layer 2: the walk of RealNearest, where sanity ends it. -/
import Derived.Test.YtehmpffffjcloaaGreatDoorTe
namespace Go.Proofs.YtehmpffffjcloaaGreatDoor
open Go.RowKit

set_option maxRecDepth 100000 in
set_option maxHeartbeats 8000000 in
theorem near_o1 (w : World) (ht : Tb w) (o2 o3 : Bool) (i j k pm px qm qx zm zx sm sx dm dx a b c _u _v : Int) (A : Ret 56 #[.int .i64 i] (.agg #[.int .i64 pm, .int .i64 px])) (B : Ret 56 #[.int .i64 j] (.agg #[.int .i64 qm, .int .i64 qx])) (C : Ret 56 #[.int .i64 k] (.agg #[.int .i64 zm, .int .i64 zx])) (SA : Ret 57 #[.agg #[.int .i64 pm, .int .i64 px]] (.tuple #[.int .i64 a, .bool false])) (SB : Ret 57 #[.agg #[.int .i64 qm, .int .i64 qx]] (.tuple #[.int .i64 b, .bool o2])) (SC : Ret 57 #[.agg #[.int .i64 zm, .int .i64 zx]] (.tuple #[.int .i64 c, .bool o3])) (se de : Int) (AD : Ret 35 #[.agg #[.int .i64 pm, .int .i64 px], .agg #[.int .i64 qm, .int .i64 qx]] (.tuple #[.agg #[.int .i64 sm, .int .i64 sx], .int .i64 se])) (SU : Ret 36 #[.agg #[.int .i64 pm, .int .i64 px], .agg #[.int .i64 qm, .int .i64 qx]] (.tuple #[.agg #[.int .i64 dm, .int .i64 dx], .int .i64 de])) (SN : ∀ u, Tb u → Calls Tryz.prog 30 #[] u fun e u' => e = .returned (.bool true) ∧ Ext u u') :
    Calls Tryz.prog 10 #[.int .i64 i, .int .i64 j, .int .i64 k] w fun e w' => e = .returned (.bool true) ∧ Ext w w' := by
  have HT := Lib.hid ht; clear ht
  have FR := Lib.hid (Fr.nil w)
  have eqR := eqReal
  go_enter Tryz.func10, Tryz.ntmps10
  go_wp2_with fail
  refine (A _).mono ?_
  rintro e w1 ⟨rfl, hx⟩
  have FR2 : Hid (Fr w w1 []) := Lib.hid (FR.out.later hx)
  clear hx FR; have FR := FR2; clear FR2
  go_wp2_with fail
  refine (B _).mono ?_
  rintro e w2 ⟨rfl, hx⟩
  have FR2 : Hid (Fr w w2 [(w1.heap.size, pm, px)]) := Lib.hid ((FR.out.lay (pm) (px) 23).later hx)
  clear hx FR; have FR := FR2; clear FR2
  go_wp2_with fail
  refine (C _).mono ?_
  rintro e w3 ⟨rfl, hx⟩
  have FR2 : Hid (Fr w w3 [(w2.heap.size, qm, qx), (w1.heap.size, pm, px)]) := Lib.hid ((FR.out.lay (qm) (qx) 23).later hx)
  clear hx FR; have FR := FR2; clear FR2
  have cp0 := FR.out.g0 (b := w1.heap.size) (.tail _ (.head _)); have cp1 := FR.out.g1 (b := w1.heap.size) (.tail _ (.head _))
  go_wp2_with fail
  refine (SA _).mono ?_
  rintro e w4 ⟨rfl, hx⟩
  have FR2 : Hid (Fr w w4 [(w3.heap.size, zm, zx), (w2.heap.size, qm, qx), (w1.heap.size, pm, px)]) := Lib.hid ((FR.out.lay (zm) (zx) 23).later hx)
  clear cp0 cp1
  clear hx FR; have FR := FR2; clear FR2
  have cq0 := FR.out.c0 (b := w2.heap.size) (.tail _ (.head _)); have cq1 := FR.out.c1 (b := w2.heap.size) (.tail _ (.head _))
  go_wp2_with fail
  refine (SB _).mono ?_
  rintro e w5 ⟨rfl, hx⟩
  have FR2 : Hid (Fr w w5 [(w3.heap.size, zm, zx), (w2.heap.size, qm, qx), (w1.heap.size, pm, px)]) := Lib.hid (FR.out.later hx)
  clear cq0 cq1
  clear hx FR; have FR := FR2; clear FR2
  have cz0 := FR.out.c0 (b := w3.heap.size) (.head _); have cz1 := FR.out.c1 (b := w3.heap.size) (.head _)
  go_wp2_with fail
  refine (SC _).mono ?_
  rintro e w6 ⟨rfl, hx⟩
  have FR2 : Hid (Fr w w6 [(w3.heap.size, zm, zx), (w2.heap.size, qm, qx), (w1.heap.size, pm, px)]) := Lib.hid (FR.out.later hx)
  clear cz0 cz1
  clear hx FR; have FR := FR2; clear FR2
  have cp0 := FR.out.c0 (b := w1.heap.size) (.tail _ (.tail _ (.head _))); have cp1 := FR.out.c1 (b := w1.heap.size) (.tail _ (.tail _ (.head _)))
  have cq0 := FR.out.c0 (b := w2.heap.size) (.tail _ (.head _)); have cq1 := FR.out.c1 (b := w2.heap.size) (.tail _ (.head _))
  go_wp2_with fail
  refine (AD _).mono ?_
  rintro e w7 ⟨rfl, hx⟩
  have FR2 : Hid (Fr w w7 [(w3.heap.size, zm, zx), (w2.heap.size, qm, qx), (w1.heap.size, pm, px)]) := Lib.hid (FR.out.later hx)
  clear cp0 cp1 cq0 cq1
  clear hx FR; have FR := FR2; clear FR2
  have cp0 := FR.out.g0 (b := w1.heap.size) (.tail _ (.tail _ (.head _))); have cp1 := FR.out.g1 (b := w1.heap.size) (.tail _ (.tail _ (.head _)))
  have cq0 := FR.out.g0 (b := w2.heap.size) (.tail _ (.head _)); have cq1 := FR.out.g1 (b := w2.heap.size) (.tail _ (.head _))
  go_wp2_with fail
  refine (SU _).mono ?_
  rintro e w8 ⟨rfl, hx⟩
  have FR2 : Hid (Fr w w8 [(w7.heap.size, sm, sx), (w3.heap.size, zm, zx), (w2.heap.size, qm, qx), (w1.heap.size, pm, px)]) := Lib.hid ((FR.out.lay (sm) (sx) 23).later hx)
  clear cp0 cp1 cq0 cq1
  clear hx FR; have FR := FR2; clear FR2
  have cp0 := FR.out.g0 (b := w1.heap.size) (.tail _ (.tail _ (.tail _ (.head _)))); have cp1 := FR.out.g1 (b := w1.heap.size) (.tail _ (.tail _ (.tail _ (.head _))))
  have cq0 := FR.out.g0 (b := w2.heap.size) (.tail _ (.tail _ (.head _))); have cq1 := FR.out.g1 (b := w2.heap.size) (.tail _ (.tail _ (.head _)))
  go_wp2_with fail
  refine (SN _ (HT.out.later (FR.out.lay _ _ _).x)).mono ?_
  rintro e w9 ⟨rfl, hx⟩
  have FR2 : Hid (Fr w w9 [(w8.heap.size, dm, dx), (w7.heap.size, sm, sx), (w3.heap.size, zm, zx), (w2.heap.size, qm, qx), (w1.heap.size, pm, px)]) := Lib.hid ((FR.out.lay (dm) (dx) 23).later hx)
  clear cp0 cp1 cq0 cq1
  clear hx FR; have FR := FR2; clear FR2
  go_wp2
  go_ret
  exact ⟨rfl, FR.out.x⟩
set_option maxRecDepth 100000 in
set_option maxHeartbeats 8000000 in
theorem near_o2 (w : World) (ht : Tb w) (o3 : Bool) (i j k pm px qm qx zm zx sm sx dm dx a b c _u _v : Int) (A : Ret 56 #[.int .i64 i] (.agg #[.int .i64 pm, .int .i64 px])) (B : Ret 56 #[.int .i64 j] (.agg #[.int .i64 qm, .int .i64 qx])) (C : Ret 56 #[.int .i64 k] (.agg #[.int .i64 zm, .int .i64 zx])) (SA : Ret 57 #[.agg #[.int .i64 pm, .int .i64 px]] (.tuple #[.int .i64 a, .bool true])) (SB : Ret 57 #[.agg #[.int .i64 qm, .int .i64 qx]] (.tuple #[.int .i64 b, .bool false])) (SC : Ret 57 #[.agg #[.int .i64 zm, .int .i64 zx]] (.tuple #[.int .i64 c, .bool o3])) (se de : Int) (AD : Ret 35 #[.agg #[.int .i64 pm, .int .i64 px], .agg #[.int .i64 qm, .int .i64 qx]] (.tuple #[.agg #[.int .i64 sm, .int .i64 sx], .int .i64 se])) (SU : Ret 36 #[.agg #[.int .i64 pm, .int .i64 px], .agg #[.int .i64 qm, .int .i64 qx]] (.tuple #[.agg #[.int .i64 dm, .int .i64 dx], .int .i64 de])) (SN : ∀ u, Tb u → Calls Tryz.prog 30 #[] u fun e u' => e = .returned (.bool true) ∧ Ext u u') :
    Calls Tryz.prog 10 #[.int .i64 i, .int .i64 j, .int .i64 k] w fun e w' => e = .returned (.bool true) ∧ Ext w w' := by
  have HT := Lib.hid ht; clear ht
  have FR := Lib.hid (Fr.nil w)
  have eqR := eqReal
  go_enter Tryz.func10, Tryz.ntmps10
  go_wp2_with fail
  refine (A _).mono ?_
  rintro e w1 ⟨rfl, hx⟩
  have FR2 : Hid (Fr w w1 []) := Lib.hid (FR.out.later hx)
  clear hx FR; have FR := FR2; clear FR2
  go_wp2_with fail
  refine (B _).mono ?_
  rintro e w2 ⟨rfl, hx⟩
  have FR2 : Hid (Fr w w2 [(w1.heap.size, pm, px)]) := Lib.hid ((FR.out.lay (pm) (px) 23).later hx)
  clear hx FR; have FR := FR2; clear FR2
  go_wp2_with fail
  refine (C _).mono ?_
  rintro e w3 ⟨rfl, hx⟩
  have FR2 : Hid (Fr w w3 [(w2.heap.size, qm, qx), (w1.heap.size, pm, px)]) := Lib.hid ((FR.out.lay (qm) (qx) 23).later hx)
  clear hx FR; have FR := FR2; clear FR2
  have cp0 := FR.out.g0 (b := w1.heap.size) (.tail _ (.head _)); have cp1 := FR.out.g1 (b := w1.heap.size) (.tail _ (.head _))
  go_wp2_with fail
  refine (SA _).mono ?_
  rintro e w4 ⟨rfl, hx⟩
  have FR2 : Hid (Fr w w4 [(w3.heap.size, zm, zx), (w2.heap.size, qm, qx), (w1.heap.size, pm, px)]) := Lib.hid ((FR.out.lay (zm) (zx) 23).later hx)
  clear cp0 cp1
  clear hx FR; have FR := FR2; clear FR2
  have cq0 := FR.out.c0 (b := w2.heap.size) (.tail _ (.head _)); have cq1 := FR.out.c1 (b := w2.heap.size) (.tail _ (.head _))
  go_wp2_with fail
  refine (SB _).mono ?_
  rintro e w5 ⟨rfl, hx⟩
  have FR2 : Hid (Fr w w5 [(w3.heap.size, zm, zx), (w2.heap.size, qm, qx), (w1.heap.size, pm, px)]) := Lib.hid (FR.out.later hx)
  clear cq0 cq1
  clear hx FR; have FR := FR2; clear FR2
  have cz0 := FR.out.c0 (b := w3.heap.size) (.head _); have cz1 := FR.out.c1 (b := w3.heap.size) (.head _)
  go_wp2_with fail
  refine (SC _).mono ?_
  rintro e w6 ⟨rfl, hx⟩
  have FR2 : Hid (Fr w w6 [(w3.heap.size, zm, zx), (w2.heap.size, qm, qx), (w1.heap.size, pm, px)]) := Lib.hid (FR.out.later hx)
  clear cz0 cz1
  clear hx FR; have FR := FR2; clear FR2
  have cp0 := FR.out.c0 (b := w1.heap.size) (.tail _ (.tail _ (.head _))); have cp1 := FR.out.c1 (b := w1.heap.size) (.tail _ (.tail _ (.head _)))
  have cq0 := FR.out.c0 (b := w2.heap.size) (.tail _ (.head _)); have cq1 := FR.out.c1 (b := w2.heap.size) (.tail _ (.head _))
  go_wp2_with fail
  refine (AD _).mono ?_
  rintro e w7 ⟨rfl, hx⟩
  have FR2 : Hid (Fr w w7 [(w3.heap.size, zm, zx), (w2.heap.size, qm, qx), (w1.heap.size, pm, px)]) := Lib.hid (FR.out.later hx)
  clear cp0 cp1 cq0 cq1
  clear hx FR; have FR := FR2; clear FR2
  have cp0 := FR.out.g0 (b := w1.heap.size) (.tail _ (.tail _ (.head _))); have cp1 := FR.out.g1 (b := w1.heap.size) (.tail _ (.tail _ (.head _)))
  have cq0 := FR.out.g0 (b := w2.heap.size) (.tail _ (.head _)); have cq1 := FR.out.g1 (b := w2.heap.size) (.tail _ (.head _))
  go_wp2_with fail
  refine (SU _).mono ?_
  rintro e w8 ⟨rfl, hx⟩
  have FR2 : Hid (Fr w w8 [(w7.heap.size, sm, sx), (w3.heap.size, zm, zx), (w2.heap.size, qm, qx), (w1.heap.size, pm, px)]) := Lib.hid ((FR.out.lay (sm) (sx) 23).later hx)
  clear cp0 cp1 cq0 cq1
  clear hx FR; have FR := FR2; clear FR2
  have cp0 := FR.out.g0 (b := w1.heap.size) (.tail _ (.tail _ (.tail _ (.head _)))); have cp1 := FR.out.g1 (b := w1.heap.size) (.tail _ (.tail _ (.tail _ (.head _))))
  have cq0 := FR.out.g0 (b := w2.heap.size) (.tail _ (.tail _ (.head _))); have cq1 := FR.out.g1 (b := w2.heap.size) (.tail _ (.tail _ (.head _)))
  go_wp2_with fail
  refine (SN _ (HT.out.later (FR.out.lay _ _ _).x)).mono ?_
  rintro e w9 ⟨rfl, hx⟩
  have FR2 : Hid (Fr w w9 [(w8.heap.size, dm, dx), (w7.heap.size, sm, sx), (w3.heap.size, zm, zx), (w2.heap.size, qm, qx), (w1.heap.size, pm, px)]) := Lib.hid ((FR.out.lay (dm) (dx) 23).later hx)
  clear cp0 cp1 cq0 cq1
  clear hx FR; have FR := FR2; clear FR2
  go_wp2
  go_ret
  exact ⟨rfl, FR.out.x⟩
set_option maxRecDepth 100000 in
set_option maxHeartbeats 8000000 in
theorem near_o3 (w : World) (ht : Tb w) (i j k pm px qm qx zm zx sm sx dm dx a b c _u _v : Int) (A : Ret 56 #[.int .i64 i] (.agg #[.int .i64 pm, .int .i64 px])) (B : Ret 56 #[.int .i64 j] (.agg #[.int .i64 qm, .int .i64 qx])) (C : Ret 56 #[.int .i64 k] (.agg #[.int .i64 zm, .int .i64 zx])) (SA : Ret 57 #[.agg #[.int .i64 pm, .int .i64 px]] (.tuple #[.int .i64 a, .bool true])) (SB : Ret 57 #[.agg #[.int .i64 qm, .int .i64 qx]] (.tuple #[.int .i64 b, .bool true])) (SC : Ret 57 #[.agg #[.int .i64 zm, .int .i64 zx]] (.tuple #[.int .i64 c, .bool false])) (se de : Int) (AD : Ret 35 #[.agg #[.int .i64 pm, .int .i64 px], .agg #[.int .i64 qm, .int .i64 qx]] (.tuple #[.agg #[.int .i64 sm, .int .i64 sx], .int .i64 se])) (SU : Ret 36 #[.agg #[.int .i64 pm, .int .i64 px], .agg #[.int .i64 qm, .int .i64 qx]] (.tuple #[.agg #[.int .i64 dm, .int .i64 dx], .int .i64 de])) (SN : ∀ u, Tb u → Calls Tryz.prog 30 #[] u fun e u' => e = .returned (.bool true) ∧ Ext u u') :
    Calls Tryz.prog 10 #[.int .i64 i, .int .i64 j, .int .i64 k] w fun e w' => e = .returned (.bool true) ∧ Ext w w' := by
  have HT := Lib.hid ht; clear ht
  have FR := Lib.hid (Fr.nil w)
  have eqR := eqReal
  go_enter Tryz.func10, Tryz.ntmps10
  go_wp2_with fail
  refine (A _).mono ?_
  rintro e w1 ⟨rfl, hx⟩
  have FR2 : Hid (Fr w w1 []) := Lib.hid (FR.out.later hx)
  clear hx FR; have FR := FR2; clear FR2
  go_wp2_with fail
  refine (B _).mono ?_
  rintro e w2 ⟨rfl, hx⟩
  have FR2 : Hid (Fr w w2 [(w1.heap.size, pm, px)]) := Lib.hid ((FR.out.lay (pm) (px) 23).later hx)
  clear hx FR; have FR := FR2; clear FR2
  go_wp2_with fail
  refine (C _).mono ?_
  rintro e w3 ⟨rfl, hx⟩
  have FR2 : Hid (Fr w w3 [(w2.heap.size, qm, qx), (w1.heap.size, pm, px)]) := Lib.hid ((FR.out.lay (qm) (qx) 23).later hx)
  clear hx FR; have FR := FR2; clear FR2
  have cp0 := FR.out.g0 (b := w1.heap.size) (.tail _ (.head _)); have cp1 := FR.out.g1 (b := w1.heap.size) (.tail _ (.head _))
  go_wp2_with fail
  refine (SA _).mono ?_
  rintro e w4 ⟨rfl, hx⟩
  have FR2 : Hid (Fr w w4 [(w3.heap.size, zm, zx), (w2.heap.size, qm, qx), (w1.heap.size, pm, px)]) := Lib.hid ((FR.out.lay (zm) (zx) 23).later hx)
  clear cp0 cp1
  clear hx FR; have FR := FR2; clear FR2
  have cq0 := FR.out.c0 (b := w2.heap.size) (.tail _ (.head _)); have cq1 := FR.out.c1 (b := w2.heap.size) (.tail _ (.head _))
  go_wp2_with fail
  refine (SB _).mono ?_
  rintro e w5 ⟨rfl, hx⟩
  have FR2 : Hid (Fr w w5 [(w3.heap.size, zm, zx), (w2.heap.size, qm, qx), (w1.heap.size, pm, px)]) := Lib.hid (FR.out.later hx)
  clear cq0 cq1
  clear hx FR; have FR := FR2; clear FR2
  have cz0 := FR.out.c0 (b := w3.heap.size) (.head _); have cz1 := FR.out.c1 (b := w3.heap.size) (.head _)
  go_wp2_with fail
  refine (SC _).mono ?_
  rintro e w6 ⟨rfl, hx⟩
  have FR2 : Hid (Fr w w6 [(w3.heap.size, zm, zx), (w2.heap.size, qm, qx), (w1.heap.size, pm, px)]) := Lib.hid (FR.out.later hx)
  clear cz0 cz1
  clear hx FR; have FR := FR2; clear FR2
  have cp0 := FR.out.c0 (b := w1.heap.size) (.tail _ (.tail _ (.head _))); have cp1 := FR.out.c1 (b := w1.heap.size) (.tail _ (.tail _ (.head _)))
  have cq0 := FR.out.c0 (b := w2.heap.size) (.tail _ (.head _)); have cq1 := FR.out.c1 (b := w2.heap.size) (.tail _ (.head _))
  go_wp2_with fail
  refine (AD _).mono ?_
  rintro e w7 ⟨rfl, hx⟩
  have FR2 : Hid (Fr w w7 [(w3.heap.size, zm, zx), (w2.heap.size, qm, qx), (w1.heap.size, pm, px)]) := Lib.hid (FR.out.later hx)
  clear cp0 cp1 cq0 cq1
  clear hx FR; have FR := FR2; clear FR2
  have cp0 := FR.out.g0 (b := w1.heap.size) (.tail _ (.tail _ (.head _))); have cp1 := FR.out.g1 (b := w1.heap.size) (.tail _ (.tail _ (.head _)))
  have cq0 := FR.out.g0 (b := w2.heap.size) (.tail _ (.head _)); have cq1 := FR.out.g1 (b := w2.heap.size) (.tail _ (.head _))
  go_wp2_with fail
  refine (SU _).mono ?_
  rintro e w8 ⟨rfl, hx⟩
  have FR2 : Hid (Fr w w8 [(w7.heap.size, sm, sx), (w3.heap.size, zm, zx), (w2.heap.size, qm, qx), (w1.heap.size, pm, px)]) := Lib.hid ((FR.out.lay (sm) (sx) 23).later hx)
  clear cp0 cp1 cq0 cq1
  clear hx FR; have FR := FR2; clear FR2
  have cp0 := FR.out.g0 (b := w1.heap.size) (.tail _ (.tail _ (.tail _ (.head _)))); have cp1 := FR.out.g1 (b := w1.heap.size) (.tail _ (.tail _ (.tail _ (.head _))))
  have cq0 := FR.out.g0 (b := w2.heap.size) (.tail _ (.tail _ (.head _))); have cq1 := FR.out.g1 (b := w2.heap.size) (.tail _ (.tail _ (.head _)))
  go_wp2_with fail
  refine (SN _ (HT.out.later (FR.out.lay _ _ _).x)).mono ?_
  rintro e w9 ⟨rfl, hx⟩
  have FR2 : Hid (Fr w w9 [(w8.heap.size, dm, dx), (w7.heap.size, sm, sx), (w3.heap.size, zm, zx), (w2.heap.size, qm, qx), (w1.heap.size, pm, px)]) := Lib.hid ((FR.out.lay (dm) (dx) 23).later hx)
  clear cp0 cp1 cq0 cq1
  clear hx FR; have FR := FR2; clear FR2
  go_wp2
  go_ret
  exact ⟨rfl, FR.out.x⟩
set_option maxRecDepth 100000 in
set_option maxHeartbeats 8000000 in
theorem near_p (w : World) (ht : Tb w) (i j k pm px qm qx zm zx sm sx dm dx a b c _u _v : Int) (A : Ret 56 #[.int .i64 i] (.agg #[.int .i64 pm, .int .i64 px])) (B : Ret 56 #[.int .i64 j] (.agg #[.int .i64 qm, .int .i64 qx])) (C : Ret 56 #[.int .i64 k] (.agg #[.int .i64 zm, .int .i64 zx])) (SA : Ret 57 #[.agg #[.int .i64 pm, .int .i64 px]] (.tuple #[.int .i64 a, .bool true])) (SB : Ret 57 #[.agg #[.int .i64 qm, .int .i64 qx]] (.tuple #[.int .i64 b, .bool true])) (SC : Ret 57 #[.agg #[.int .i64 zm, .int .i64 zx]] (.tuple #[.int .i64 c, .bool true])) (se de : Int) (AD : Ret 35 #[.agg #[.int .i64 pm, .int .i64 px], .agg #[.int .i64 qm, .int .i64 qx]] (.tuple #[.agg #[.int .i64 sm, .int .i64 sx], .int .i64 se])) (SU : Ret 36 #[.agg #[.int .i64 pm, .int .i64 px], .agg #[.int .i64 qm, .int .i64 qx]] (.tuple #[.agg #[.int .i64 dm, .int .i64 dx], .int .i64 de])) (SN : ∀ u, Tb u → Calls Tryz.prog 30 #[] u fun e u' => e = .returned (.bool true) ∧ Ext u u') (xp : px > -24) (_mp : (pm == 0) = false) (np : ¬ pm = 0) :
    Calls Tryz.prog 10 #[.int .i64 i, .int .i64 j, .int .i64 k] w fun e w' => e = .returned (.bool true) ∧ Ext w w' := by
  have HT := Lib.hid ht; clear ht
  have FR := Lib.hid (Fr.nil w)
  have eqR := eqReal
  go_enter Tryz.func10, Tryz.ntmps10
  go_wp2_with fail
  refine (A _).mono ?_
  rintro e w1 ⟨rfl, hx⟩
  have FR2 : Hid (Fr w w1 []) := Lib.hid (FR.out.later hx)
  clear hx FR; have FR := FR2; clear FR2
  go_wp2_with fail
  refine (B _).mono ?_
  rintro e w2 ⟨rfl, hx⟩
  have FR2 : Hid (Fr w w2 [(w1.heap.size, pm, px)]) := Lib.hid ((FR.out.lay (pm) (px) 23).later hx)
  clear hx FR; have FR := FR2; clear FR2
  go_wp2_with fail
  refine (C _).mono ?_
  rintro e w3 ⟨rfl, hx⟩
  have FR2 : Hid (Fr w w3 [(w2.heap.size, qm, qx), (w1.heap.size, pm, px)]) := Lib.hid ((FR.out.lay (qm) (qx) 23).later hx)
  clear hx FR; have FR := FR2; clear FR2
  have cp0 := FR.out.g0 (b := w1.heap.size) (.tail _ (.head _)); have cp1 := FR.out.g1 (b := w1.heap.size) (.tail _ (.head _))
  go_wp2_with fail
  refine (SA _).mono ?_
  rintro e w4 ⟨rfl, hx⟩
  have FR2 : Hid (Fr w w4 [(w3.heap.size, zm, zx), (w2.heap.size, qm, qx), (w1.heap.size, pm, px)]) := Lib.hid ((FR.out.lay (zm) (zx) 23).later hx)
  clear cp0 cp1
  clear hx FR; have FR := FR2; clear FR2
  have cq0 := FR.out.c0 (b := w2.heap.size) (.tail _ (.head _)); have cq1 := FR.out.c1 (b := w2.heap.size) (.tail _ (.head _))
  go_wp2_with fail
  refine (SB _).mono ?_
  rintro e w5 ⟨rfl, hx⟩
  have FR2 : Hid (Fr w w5 [(w3.heap.size, zm, zx), (w2.heap.size, qm, qx), (w1.heap.size, pm, px)]) := Lib.hid (FR.out.later hx)
  clear cq0 cq1
  clear hx FR; have FR := FR2; clear FR2
  have cz0 := FR.out.c0 (b := w3.heap.size) (.head _); have cz1 := FR.out.c1 (b := w3.heap.size) (.head _)
  go_wp2_with fail
  refine (SC _).mono ?_
  rintro e w6 ⟨rfl, hx⟩
  have FR2 : Hid (Fr w w6 [(w3.heap.size, zm, zx), (w2.heap.size, qm, qx), (w1.heap.size, pm, px)]) := Lib.hid (FR.out.later hx)
  clear cz0 cz1
  clear hx FR; have FR := FR2; clear FR2
  have cp0 := FR.out.c0 (b := w1.heap.size) (.tail _ (.tail _ (.head _))); have cp1 := FR.out.c1 (b := w1.heap.size) (.tail _ (.tail _ (.head _)))
  have cq0 := FR.out.c0 (b := w2.heap.size) (.tail _ (.head _)); have cq1 := FR.out.c1 (b := w2.heap.size) (.tail _ (.head _))
  go_wp2_with fail
  refine (AD _).mono ?_
  rintro e w7 ⟨rfl, hx⟩
  have FR2 : Hid (Fr w w7 [(w3.heap.size, zm, zx), (w2.heap.size, qm, qx), (w1.heap.size, pm, px)]) := Lib.hid (FR.out.later hx)
  clear cp0 cp1 cq0 cq1
  clear hx FR; have FR := FR2; clear FR2
  have cp0 := FR.out.g0 (b := w1.heap.size) (.tail _ (.tail _ (.head _))); have cp1 := FR.out.g1 (b := w1.heap.size) (.tail _ (.tail _ (.head _)))
  have cq0 := FR.out.g0 (b := w2.heap.size) (.tail _ (.head _)); have cq1 := FR.out.g1 (b := w2.heap.size) (.tail _ (.head _))
  go_wp2_with fail
  refine (SU _).mono ?_
  rintro e w8 ⟨rfl, hx⟩
  have FR2 : Hid (Fr w w8 [(w7.heap.size, sm, sx), (w3.heap.size, zm, zx), (w2.heap.size, qm, qx), (w1.heap.size, pm, px)]) := Lib.hid ((FR.out.lay (sm) (sx) 23).later hx)
  clear cp0 cp1 cq0 cq1
  clear hx FR; have FR := FR2; clear FR2
  have cp0 := FR.out.g0 (b := w1.heap.size) (.tail _ (.tail _ (.tail _ (.head _)))); have cp1 := FR.out.g1 (b := w1.heap.size) (.tail _ (.tail _ (.tail _ (.head _))))
  have cq0 := FR.out.g0 (b := w2.heap.size) (.tail _ (.tail _ (.head _))); have cq1 := FR.out.g1 (b := w2.heap.size) (.tail _ (.tail _ (.head _)))
  go_wp2_with fail
  refine (SN _ (HT.out.later (FR.out.lay _ _ _).x)).mono ?_
  rintro e w9 ⟨rfl, hx⟩
  have FR2 : Hid (Fr w w9 [(w8.heap.size, dm, dx), (w7.heap.size, sm, sx), (w3.heap.size, zm, zx), (w2.heap.size, qm, qx), (w1.heap.size, pm, px)]) := Lib.hid ((FR.out.lay (dm) (dx) 23).later hx)
  clear cp0 cp1 cq0 cq1
  clear hx FR; have FR := FR2; clear FR2
  go_wp2
  go_ret
  exact ⟨rfl, FR.out.x⟩
set_option maxRecDepth 100000 in
set_option maxHeartbeats 8000000 in
theorem near_q1 (w : World) (ht : Tb w) (i j k pm px qm qx zm zx sm sx dm dx a b c _u _v : Int) (A : Ret 56 #[.int .i64 i] (.agg #[.int .i64 pm, .int .i64 px])) (B : Ret 56 #[.int .i64 j] (.agg #[.int .i64 qm, .int .i64 qx])) (C : Ret 56 #[.int .i64 k] (.agg #[.int .i64 zm, .int .i64 zx])) (SA : Ret 57 #[.agg #[.int .i64 pm, .int .i64 px]] (.tuple #[.int .i64 a, .bool true])) (SB : Ret 57 #[.agg #[.int .i64 qm, .int .i64 qx]] (.tuple #[.int .i64 b, .bool true])) (SC : Ret 57 #[.agg #[.int .i64 zm, .int .i64 zx]] (.tuple #[.int .i64 c, .bool true])) (se de : Int) (AD : Ret 35 #[.agg #[.int .i64 pm, .int .i64 px], .agg #[.int .i64 qm, .int .i64 qx]] (.tuple #[.agg #[.int .i64 sm, .int .i64 sx], .int .i64 se])) (SU : Ret 36 #[.agg #[.int .i64 pm, .int .i64 px], .agg #[.int .i64 qm, .int .i64 qx]] (.tuple #[.agg #[.int .i64 dm, .int .i64 dx], .int .i64 de])) (SN : ∀ u, Tb u → Calls Tryz.prog 30 #[] u fun e u' => e = .returned (.bool true) ∧ Ext u u') (xp : ¬ px > -24) (xq : qx > -24) (mq : (qm == 0) = false) (_nq : ¬ qm = 0) :
    Calls Tryz.prog 10 #[.int .i64 i, .int .i64 j, .int .i64 k] w fun e w' => e = .returned (.bool true) ∧ Ext w w' := by
  have HT := Lib.hid ht; clear ht
  have FR := Lib.hid (Fr.nil w)
  have eqR := eqReal
  go_enter Tryz.func10, Tryz.ntmps10
  go_wp2_with fail
  refine (A _).mono ?_
  rintro e w1 ⟨rfl, hx⟩
  have FR2 : Hid (Fr w w1 []) := Lib.hid (FR.out.later hx)
  clear hx FR; have FR := FR2; clear FR2
  go_wp2_with fail
  refine (B _).mono ?_
  rintro e w2 ⟨rfl, hx⟩
  have FR2 : Hid (Fr w w2 [(w1.heap.size, pm, px)]) := Lib.hid ((FR.out.lay (pm) (px) 23).later hx)
  clear hx FR; have FR := FR2; clear FR2
  go_wp2_with fail
  refine (C _).mono ?_
  rintro e w3 ⟨rfl, hx⟩
  have FR2 : Hid (Fr w w3 [(w2.heap.size, qm, qx), (w1.heap.size, pm, px)]) := Lib.hid ((FR.out.lay (qm) (qx) 23).later hx)
  clear hx FR; have FR := FR2; clear FR2
  have cp0 := FR.out.g0 (b := w1.heap.size) (.tail _ (.head _)); have cp1 := FR.out.g1 (b := w1.heap.size) (.tail _ (.head _))
  go_wp2_with fail
  refine (SA _).mono ?_
  rintro e w4 ⟨rfl, hx⟩
  have FR2 : Hid (Fr w w4 [(w3.heap.size, zm, zx), (w2.heap.size, qm, qx), (w1.heap.size, pm, px)]) := Lib.hid ((FR.out.lay (zm) (zx) 23).later hx)
  clear cp0 cp1
  clear hx FR; have FR := FR2; clear FR2
  have cq0 := FR.out.c0 (b := w2.heap.size) (.tail _ (.head _)); have cq1 := FR.out.c1 (b := w2.heap.size) (.tail _ (.head _))
  go_wp2_with fail
  refine (SB _).mono ?_
  rintro e w5 ⟨rfl, hx⟩
  have FR2 : Hid (Fr w w5 [(w3.heap.size, zm, zx), (w2.heap.size, qm, qx), (w1.heap.size, pm, px)]) := Lib.hid (FR.out.later hx)
  clear cq0 cq1
  clear hx FR; have FR := FR2; clear FR2
  have cz0 := FR.out.c0 (b := w3.heap.size) (.head _); have cz1 := FR.out.c1 (b := w3.heap.size) (.head _)
  go_wp2_with fail
  refine (SC _).mono ?_
  rintro e w6 ⟨rfl, hx⟩
  have FR2 : Hid (Fr w w6 [(w3.heap.size, zm, zx), (w2.heap.size, qm, qx), (w1.heap.size, pm, px)]) := Lib.hid (FR.out.later hx)
  clear cz0 cz1
  clear hx FR; have FR := FR2; clear FR2
  have cp0 := FR.out.c0 (b := w1.heap.size) (.tail _ (.tail _ (.head _))); have cp1 := FR.out.c1 (b := w1.heap.size) (.tail _ (.tail _ (.head _)))
  have cq0 := FR.out.c0 (b := w2.heap.size) (.tail _ (.head _)); have cq1 := FR.out.c1 (b := w2.heap.size) (.tail _ (.head _))
  go_wp2_with fail
  refine (AD _).mono ?_
  rintro e w7 ⟨rfl, hx⟩
  have FR2 : Hid (Fr w w7 [(w3.heap.size, zm, zx), (w2.heap.size, qm, qx), (w1.heap.size, pm, px)]) := Lib.hid (FR.out.later hx)
  clear cp0 cp1 cq0 cq1
  clear hx FR; have FR := FR2; clear FR2
  have cp0 := FR.out.g0 (b := w1.heap.size) (.tail _ (.tail _ (.head _))); have cp1 := FR.out.g1 (b := w1.heap.size) (.tail _ (.tail _ (.head _)))
  have cq0 := FR.out.g0 (b := w2.heap.size) (.tail _ (.head _)); have cq1 := FR.out.g1 (b := w2.heap.size) (.tail _ (.head _))
  go_wp2_with fail
  refine (SU _).mono ?_
  rintro e w8 ⟨rfl, hx⟩
  have FR2 : Hid (Fr w w8 [(w7.heap.size, sm, sx), (w3.heap.size, zm, zx), (w2.heap.size, qm, qx), (w1.heap.size, pm, px)]) := Lib.hid ((FR.out.lay (sm) (sx) 23).later hx)
  clear cp0 cp1 cq0 cq1
  clear hx FR; have FR := FR2; clear FR2
  have cp0 := FR.out.g0 (b := w1.heap.size) (.tail _ (.tail _ (.tail _ (.head _)))); have cp1 := FR.out.g1 (b := w1.heap.size) (.tail _ (.tail _ (.tail _ (.head _))))
  have cq0 := FR.out.g0 (b := w2.heap.size) (.tail _ (.tail _ (.head _))); have cq1 := FR.out.g1 (b := w2.heap.size) (.tail _ (.tail _ (.head _)))
  go_wp2_with fail
  refine (SN _ (HT.out.later (FR.out.lay _ _ _).x)).mono ?_
  rintro e w9 ⟨rfl, hx⟩
  have FR2 : Hid (Fr w w9 [(w8.heap.size, dm, dx), (w7.heap.size, sm, sx), (w3.heap.size, zm, zx), (w2.heap.size, qm, qx), (w1.heap.size, pm, px)]) := Lib.hid ((FR.out.lay (dm) (dx) 23).later hx)
  clear cp0 cp1 cq0 cq1
  clear hx FR; have FR := FR2; clear FR2
  go_wp2
  go_ret
  exact ⟨rfl, FR.out.x⟩
set_option maxRecDepth 100000 in
set_option maxHeartbeats 8000000 in
theorem near_q2 (w : World) (ht : Tb w) (i j k qm qx zm zx sm sx dm dx a b c _u _v : Int) (A : Ret 56 #[.int .i64 i] (.agg #[.int .i64 0, .int .i64 0])) (B : Ret 56 #[.int .i64 j] (.agg #[.int .i64 qm, .int .i64 qx])) (C : Ret 56 #[.int .i64 k] (.agg #[.int .i64 zm, .int .i64 zx])) (SA : Ret 57 #[.agg #[.int .i64 0, .int .i64 0]] (.tuple #[.int .i64 a, .bool true])) (SB : Ret 57 #[.agg #[.int .i64 qm, .int .i64 qx]] (.tuple #[.int .i64 b, .bool true])) (SC : Ret 57 #[.agg #[.int .i64 zm, .int .i64 zx]] (.tuple #[.int .i64 c, .bool true])) (se de : Int) (AD : Ret 35 #[.agg #[.int .i64 0, .int .i64 0], .agg #[.int .i64 qm, .int .i64 qx]] (.tuple #[.agg #[.int .i64 sm, .int .i64 sx], .int .i64 se])) (SU : Ret 36 #[.agg #[.int .i64 0, .int .i64 0], .agg #[.int .i64 qm, .int .i64 qx]] (.tuple #[.agg #[.int .i64 dm, .int .i64 dx], .int .i64 de])) (SN : ∀ u, Tb u → Calls Tryz.prog 30 #[] u fun e u' => e = .returned (.bool true) ∧ Ext u u') (xq : qx > -24) (mq : (qm == 0) = false) (_nq : ¬ qm = 0) :
    Calls Tryz.prog 10 #[.int .i64 i, .int .i64 j, .int .i64 k] w fun e w' => e = .returned (.bool true) ∧ Ext w w' := by
  have HT := Lib.hid ht; clear ht
  have FR := Lib.hid (Fr.nil w)
  have eqR := eqReal
  go_enter Tryz.func10, Tryz.ntmps10
  go_wp2_with fail
  refine (A _).mono ?_
  rintro e w1 ⟨rfl, hx⟩
  have FR2 : Hid (Fr w w1 []) := Lib.hid (FR.out.later hx)
  clear hx FR; have FR := FR2; clear FR2
  go_wp2_with fail
  refine (B _).mono ?_
  rintro e w2 ⟨rfl, hx⟩
  have FR2 : Hid (Fr w w2 [(w1.heap.size, 0, 0)]) := Lib.hid ((FR.out.lay (0) (0) 23).later hx)
  clear hx FR; have FR := FR2; clear FR2
  go_wp2_with fail
  refine (C _).mono ?_
  rintro e w3 ⟨rfl, hx⟩
  have FR2 : Hid (Fr w w3 [(w2.heap.size, qm, qx), (w1.heap.size, 0, 0)]) := Lib.hid ((FR.out.lay (qm) (qx) 23).later hx)
  clear hx FR; have FR := FR2; clear FR2
  have cp0 := FR.out.g0 (b := w1.heap.size) (.tail _ (.head _)); have cp1 := FR.out.g1 (b := w1.heap.size) (.tail _ (.head _))
  go_wp2_with fail
  refine (SA _).mono ?_
  rintro e w4 ⟨rfl, hx⟩
  have FR2 : Hid (Fr w w4 [(w3.heap.size, zm, zx), (w2.heap.size, qm, qx), (w1.heap.size, 0, 0)]) := Lib.hid ((FR.out.lay (zm) (zx) 23).later hx)
  clear cp0 cp1
  clear hx FR; have FR := FR2; clear FR2
  have cq0 := FR.out.c0 (b := w2.heap.size) (.tail _ (.head _)); have cq1 := FR.out.c1 (b := w2.heap.size) (.tail _ (.head _))
  go_wp2_with fail
  refine (SB _).mono ?_
  rintro e w5 ⟨rfl, hx⟩
  have FR2 : Hid (Fr w w5 [(w3.heap.size, zm, zx), (w2.heap.size, qm, qx), (w1.heap.size, 0, 0)]) := Lib.hid (FR.out.later hx)
  clear cq0 cq1
  clear hx FR; have FR := FR2; clear FR2
  have cz0 := FR.out.c0 (b := w3.heap.size) (.head _); have cz1 := FR.out.c1 (b := w3.heap.size) (.head _)
  go_wp2_with fail
  refine (SC _).mono ?_
  rintro e w6 ⟨rfl, hx⟩
  have FR2 : Hid (Fr w w6 [(w3.heap.size, zm, zx), (w2.heap.size, qm, qx), (w1.heap.size, 0, 0)]) := Lib.hid (FR.out.later hx)
  clear cz0 cz1
  clear hx FR; have FR := FR2; clear FR2
  have cp0 := FR.out.c0 (b := w1.heap.size) (.tail _ (.tail _ (.head _))); have cp1 := FR.out.c1 (b := w1.heap.size) (.tail _ (.tail _ (.head _)))
  have cq0 := FR.out.c0 (b := w2.heap.size) (.tail _ (.head _)); have cq1 := FR.out.c1 (b := w2.heap.size) (.tail _ (.head _))
  go_wp2_with fail
  refine (AD _).mono ?_
  rintro e w7 ⟨rfl, hx⟩
  have FR2 : Hid (Fr w w7 [(w3.heap.size, zm, zx), (w2.heap.size, qm, qx), (w1.heap.size, 0, 0)]) := Lib.hid (FR.out.later hx)
  clear cp0 cp1 cq0 cq1
  clear hx FR; have FR := FR2; clear FR2
  have cp0 := FR.out.g0 (b := w1.heap.size) (.tail _ (.tail _ (.head _))); have cp1 := FR.out.g1 (b := w1.heap.size) (.tail _ (.tail _ (.head _)))
  have cq0 := FR.out.g0 (b := w2.heap.size) (.tail _ (.head _)); have cq1 := FR.out.g1 (b := w2.heap.size) (.tail _ (.head _))
  go_wp2_with fail
  refine (SU _).mono ?_
  rintro e w8 ⟨rfl, hx⟩
  have FR2 : Hid (Fr w w8 [(w7.heap.size, sm, sx), (w3.heap.size, zm, zx), (w2.heap.size, qm, qx), (w1.heap.size, 0, 0)]) := Lib.hid ((FR.out.lay (sm) (sx) 23).later hx)
  clear cp0 cp1 cq0 cq1
  clear hx FR; have FR := FR2; clear FR2
  have cp0 := FR.out.g0 (b := w1.heap.size) (.tail _ (.tail _ (.tail _ (.head _)))); have cp1 := FR.out.g1 (b := w1.heap.size) (.tail _ (.tail _ (.tail _ (.head _))))
  have cq0 := FR.out.g0 (b := w2.heap.size) (.tail _ (.tail _ (.head _))); have cq1 := FR.out.g1 (b := w2.heap.size) (.tail _ (.tail _ (.head _)))
  go_wp2_with fail
  refine (SN _ (HT.out.later (FR.out.lay _ _ _).x)).mono ?_
  rintro e w9 ⟨rfl, hx⟩
  have FR2 : Hid (Fr w w9 [(w8.heap.size, dm, dx), (w7.heap.size, sm, sx), (w3.heap.size, zm, zx), (w2.heap.size, qm, qx), (w1.heap.size, 0, 0)]) := Lib.hid ((FR.out.lay (dm) (dx) 23).later hx)
  clear cp0 cp1 cq0 cq1
  clear hx FR; have FR := FR2; clear FR2
  go_wp2
  go_ret
  exact ⟨rfl, FR.out.x⟩
end Go.Proofs.YtehmpffffjcloaaGreatDoor
