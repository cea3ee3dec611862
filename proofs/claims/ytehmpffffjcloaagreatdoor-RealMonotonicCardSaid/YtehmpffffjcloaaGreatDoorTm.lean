/- Layer 2: the walk of RealMonotonic. -/
import Derived.Test.YtehmpffffjcloaaGreatDoorTi
namespace Go.Proofs.YtehmpffffjcloaaGreatDoor
open Go.RowKit

set_option maxRecDepth 100000 in
set_option maxHeartbeats 8000000 in
theorem mono_nn (w : World) (ht : Tb w) (i j k c : Int) (pm px qm qx zm zx am ax bm bx um ux vm vx rm rx sm sx ae be ue ve re se : Int) (A : Ret 56 #[.int .i64 i] (.agg #[.int .i64 pm, .int .i64 px])) (B : Ret 56 #[.int .i64 j] (.agg #[.int .i64 qm, .int .i64 qx])) (C : Ret 56 #[.int .i64 k] (.agg #[.int .i64 zm, .int .i64 zx])) (CM : Ret 29 #[.agg #[.int .i64 pm, .int .i64 px], .agg #[.int .i64 qm, .int .i64 qx]] (.tuple #[.int .i64 c, .int .i64 0])) (hc : ¬ c > 0) (AD1 : Ret 35 #[.agg #[.int .i64 pm, .int .i64 px], .agg #[.int .i64 zm, .int .i64 zx]] (.tuple #[.agg #[.int .i64 am, .int .i64 ax], .int .i64 ae])) (AD2 : Ret 35 #[.agg #[.int .i64 qm, .int .i64 qx], .agg #[.int .i64 zm, .int .i64 zx]] (.tuple #[.agg #[.int .i64 bm, .int .i64 bx], .int .i64 be])) (SU1 : Ret 36 #[.agg #[.int .i64 zm, .int .i64 zx], .agg #[.int .i64 qm, .int .i64 qx]] (.tuple #[.agg #[.int .i64 um, .int .i64 ux], .int .i64 ue])) (SU2 : Ret 36 #[.agg #[.int .i64 zm, .int .i64 zx], .agg #[.int .i64 pm, .int .i64 px]] (.tuple #[.agg #[.int .i64 vm, .int .i64 vx], .int .i64 ve])) (O1 : Ret 60 #[.agg #[.int .i64 am, .int .i64 ax], .int .i64 ae, .agg #[.int .i64 bm, .int .i64 bx], .int .i64 be] (.bool true)) (O2 : Ret 60 #[.agg #[.int .i64 um, .int .i64 ux], .int .i64 ue, .agg #[.int .i64 vm, .int .i64 vx], .int .i64 ve] (.bool true)) (SQ1 : Ret 42 #[.agg #[.int .i64 pm, .int .i64 px]] (.tuple #[.agg #[.int .i64 rm, .int .i64 rx], .int .i64 re])) (SQ2 : Ret 42 #[.agg #[.int .i64 qm, .int .i64 qx]] (.tuple #[.agg #[.int .i64 sm, .int .i64 sx], .int .i64 se])) (O3 : Ret 60 #[.agg #[.int .i64 rm, .int .i64 rx], .int .i64 re, .agg #[.int .i64 sm, .int .i64 sx], .int .i64 se] (.bool true)) (hz : zm ≤ 0) (SN : ∀ u, Tb u → Calls Tryz.prog 30 #[] u fun e u' => e = .returned (.bool true) ∧ Ext u u') :
    Calls Tryz.prog 12 #[.int .i64 i, .int .i64 j, .int .i64 k] w fun e w' => e = .returned (.bool true) ∧ Ext w w' := by
  have HT := Lib.hid ht; clear ht
  have FR := Lib.hid (Fr.nil w)
  have eqR := eqReal
  go_enter Tryz.func12, Tryz.ntmps12
  go_wp2_with fail
  refine (A _).mono ?_
  rintro e w1 ⟨rfl, hx⟩
  have FR2 : Hid (Fr w w1 []) := Lib.hid (FR.out.later hx)
  clear hx FR; have FR := FR2; clear FR2
  go_wp2_with fail
  refine (B _).mono ?_
  rintro e w2 ⟨rfl, hx⟩
  have FR2 : Hid (Fr w w2 [(w1.heap.size, pm, px)]) := Lib.hid ((FR.out.lay (pm) (px) 23).later hx)
  clear hx FR; have FR := FR2; clear FR2
  go_wp2_with fail
  refine (C _).mono ?_
  rintro e w3 ⟨rfl, hx⟩
  have FR2 : Hid (Fr w w3 [(w2.heap.size, qm, qx), (w1.heap.size, pm, px)]) := Lib.hid ((FR.out.lay (qm) (qx) 23).later hx)
  clear hx FR; have FR := FR2; clear FR2
  have cx0 := FR.out.g0 (b := w1.heap.size) (.tail _ (.head _)); have cx1 := FR.out.g1 (b := w1.heap.size) (.tail _ (.head _))
  have cy0 := FR.out.g0 (b := w2.heap.size) (.head _); have cy1 := FR.out.g1 (b := w2.heap.size) (.head _)
  go_wp2_with fail
  refine (CM _).mono ?_
  rintro e w4 ⟨rfl, hx⟩
  have FR2 : Hid (Fr w w4 [(w3.heap.size, zm, zx), (w2.heap.size, qm, qx), (w1.heap.size, pm, px)]) := Lib.hid ((FR.out.lay (zm) (zx) 23).later hx)
  clear cx0 cx1 cy0 cy1
  clear hx FR; have FR := FR2; clear FR2
  have cx0 := FR.out.c0 (b := w1.heap.size) (.tail _ (.tail _ (.head _))); have cx1 := FR.out.c1 (b := w1.heap.size) (.tail _ (.tail _ (.head _)))
  have cy0 := FR.out.c0 (b := w2.heap.size) (.tail _ (.head _)); have cy1 := FR.out.c1 (b := w2.heap.size) (.tail _ (.head _))
  have cz0 := FR.out.c0 (b := w3.heap.size) (.head _); have cz1 := FR.out.c1 (b := w3.heap.size) (.head _)
  go_wp2_with fail
  refine (AD1 _).mono ?_
  rintro e w5 ⟨rfl, hx⟩
  have FR2 : Hid (Fr w w5 [(w3.heap.size, zm, zx), (w2.heap.size, qm, qx), (w1.heap.size, pm, px)]) := Lib.hid (FR.out.later hx)
  clear cx0 cx1 cy0 cy1 cz0 cz1
  clear hx FR; have FR := FR2; clear FR2
  have cy0 := FR.out.g0 (b := w2.heap.size) (.tail _ (.head _)); have cy1 := FR.out.g1 (b := w2.heap.size) (.tail _ (.head _))
  have cz0 := FR.out.g0 (b := w3.heap.size) (.head _); have cz1 := FR.out.g1 (b := w3.heap.size) (.head _)
  go_wp2_with fail
  refine (AD2 _).mono ?_
  rintro e w6 ⟨rfl, hx⟩
  have FR2 : Hid (Fr w w6 [(w5.heap.size, am, ax), (w3.heap.size, zm, zx), (w2.heap.size, qm, qx), (w1.heap.size, pm, px)]) := Lib.hid ((FR.out.lay (am) (ax) 23).later hx)
  clear cy0 cy1 cz0 cz1
  clear hx FR; have FR := FR2; clear FR2
  have cy0 := FR.out.g0 (b := w2.heap.size) (.tail _ (.tail _ (.head _))); have cy1 := FR.out.g1 (b := w2.heap.size) (.tail _ (.tail _ (.head _)))
  have cz0 := FR.out.g0 (b := w3.heap.size) (.tail _ (.head _)); have cz1 := FR.out.g1 (b := w3.heap.size) (.tail _ (.head _))
  go_wp2_with fail
  refine (SU1 _).mono ?_
  rintro e w7 ⟨rfl, hx⟩
  have FR2 : Hid (Fr w w7 [(w6.heap.size, bm, bx), (w5.heap.size, am, ax), (w3.heap.size, zm, zx), (w2.heap.size, qm, qx), (w1.heap.size, pm, px)]) := Lib.hid ((FR.out.lay (bm) (bx) 23).later hx)
  clear cy0 cy1 cz0 cz1
  clear hx FR; have FR := FR2; clear FR2
  have cx0 := FR.out.g0 (b := w1.heap.size) (.tail _ (.tail _ (.tail _ (.tail _ (.head _))))); have cx1 := FR.out.g1 (b := w1.heap.size) (.tail _ (.tail _ (.tail _ (.tail _ (.head _)))))
  have cz0 := FR.out.g0 (b := w3.heap.size) (.tail _ (.tail _ (.head _))); have cz1 := FR.out.g1 (b := w3.heap.size) (.tail _ (.tail _ (.head _)))
  go_wp2_with fail
  refine (SU2 _).mono ?_
  rintro e w8 ⟨rfl, hx⟩
  have FR2 : Hid (Fr w w8 [(w7.heap.size, um, ux), (w6.heap.size, bm, bx), (w5.heap.size, am, ax), (w3.heap.size, zm, zx), (w2.heap.size, qm, qx), (w1.heap.size, pm, px)]) := Lib.hid ((FR.out.lay (um) (ux) 23).later hx)
  clear cx0 cx1 cz0 cz1
  clear hx FR; have FR := FR2; clear FR2
  have ca0 := FR.out.g0 (b := w5.heap.size) (.tail _ (.tail _ (.head _))); have ca1 := FR.out.g1 (b := w5.heap.size) (.tail _ (.tail _ (.head _)))
  have cb0 := FR.out.g0 (b := w6.heap.size) (.tail _ (.head _)); have cb1 := FR.out.g1 (b := w6.heap.size) (.tail _ (.head _))
  go_wp2_with fail
  refine (O1 _).mono ?_
  rintro e w9 ⟨rfl, hx⟩
  have FR2 : Hid (Fr w w9 [(w8.heap.size, vm, vx), (w7.heap.size, um, ux), (w6.heap.size, bm, bx), (w5.heap.size, am, ax), (w3.heap.size, zm, zx), (w2.heap.size, qm, qx), (w1.heap.size, pm, px)]) := Lib.hid ((FR.out.lay (vm) (vx) 23).later hx)
  clear ca0 ca1 cb0 cb1
  clear hx FR; have FR := FR2; clear FR2
  have cu0 := FR.out.c0 (b := w7.heap.size) (.tail _ (.head _)); have cu1 := FR.out.c1 (b := w7.heap.size) (.tail _ (.head _))
  have cv0 := FR.out.c0 (b := w8.heap.size) (.head _); have cv1 := FR.out.c1 (b := w8.heap.size) (.head _)
  go_wp2_with fail
  refine (O2 _).mono ?_
  rintro e w10 ⟨rfl, hx⟩
  have FR2 : Hid (Fr w w10 [(w8.heap.size, vm, vx), (w7.heap.size, um, ux), (w6.heap.size, bm, bx), (w5.heap.size, am, ax), (w3.heap.size, zm, zx), (w2.heap.size, qm, qx), (w1.heap.size, pm, px)]) := Lib.hid (FR.out.later hx)
  clear cu0 cu1 cv0 cv1
  clear hx FR; have FR := FR2; clear FR2
  have cx0 := FR.out.c0 (b := w1.heap.size) (.tail _ (.tail _ (.tail _ (.tail _ (.tail _ (.tail _ (.head _))))))); have cx1 := FR.out.c1 (b := w1.heap.size) (.tail _ (.tail _ (.tail _ (.tail _ (.tail _ (.tail _ (.head _)))))))
  go_wp2_with fail
  refine (SQ1 _).mono ?_
  rintro e w11 ⟨rfl, hx⟩
  have FR2 : Hid (Fr w w11 [(w8.heap.size, vm, vx), (w7.heap.size, um, ux), (w6.heap.size, bm, bx), (w5.heap.size, am, ax), (w3.heap.size, zm, zx), (w2.heap.size, qm, qx), (w1.heap.size, pm, px)]) := Lib.hid (FR.out.later hx)
  clear cx0 cx1
  clear hx FR; have FR := FR2; clear FR2
  have cy0 := FR.out.g0 (b := w2.heap.size) (.tail _ (.tail _ (.tail _ (.tail _ (.tail _ (.head _)))))); have cy1 := FR.out.g1 (b := w2.heap.size) (.tail _ (.tail _ (.tail _ (.tail _ (.tail _ (.head _))))))
  go_wp2_with fail
  refine (SQ2 _).mono ?_
  rintro e w12 ⟨rfl, hx⟩
  have FR2 : Hid (Fr w w12 [(w11.heap.size, rm, rx), (w8.heap.size, vm, vx), (w7.heap.size, um, ux), (w6.heap.size, bm, bx), (w5.heap.size, am, ax), (w3.heap.size, zm, zx), (w2.heap.size, qm, qx), (w1.heap.size, pm, px)]) := Lib.hid ((FR.out.lay (rm) (rx) 23).later hx)
  clear cy0 cy1
  clear hx FR; have FR := FR2; clear FR2
  have cr0 := FR.out.g0 (b := w11.heap.size) (.head _); have cr1 := FR.out.g1 (b := w11.heap.size) (.head _)
  go_wp2_with fail
  refine (O3 _).mono ?_
  rintro e w13 ⟨rfl, hx⟩
  have FR2 : Hid (Fr w w13 [(w12.heap.size, sm, sx), (w11.heap.size, rm, rx), (w8.heap.size, vm, vx), (w7.heap.size, um, ux), (w6.heap.size, bm, bx), (w5.heap.size, am, ax), (w3.heap.size, zm, zx), (w2.heap.size, qm, qx), (w1.heap.size, pm, px)]) := Lib.hid ((FR.out.lay (sm) (sx) 23).later hx)
  clear cr0 cr1
  clear hx FR; have FR := FR2; clear FR2
  have cz0 := FR.out.c0 (b := w3.heap.size) (.tail _ (.tail _ (.tail _ (.tail _ (.tail _ (.tail _ (.head _))))))); have cz1 := FR.out.c1 (b := w3.heap.size) (.tail _ (.tail _ (.tail _ (.tail _ (.tail _ (.tail _ (.head _)))))))
  go_wp2_with fail
  refine (SN _ (HT.out.later FR.out.x)).mono ?_
  rintro e w14 ⟨rfl, hx⟩
  have FR2 : Hid (Fr w w14 [(w12.heap.size, sm, sx), (w11.heap.size, rm, rx), (w8.heap.size, vm, vx), (w7.heap.size, um, ux), (w6.heap.size, bm, bx), (w5.heap.size, am, ax), (w3.heap.size, zm, zx), (w2.heap.size, qm, qx), (w1.heap.size, pm, px)]) := Lib.hid (FR.out.later hx)
  clear cz0 cz1
  clear hx FR; have FR := FR2; clear FR2
  go_wp2
  go_ret
  exact ⟨rfl, FR.out.x⟩
set_option maxRecDepth 100000 in
set_option maxHeartbeats 8000000 in
theorem mono_np (w : World) (ht : Tb w) (i j k c : Int) (pm px qm qx zm zx am ax bm bx um ux vm vx rm rx sm sx a'm a'x b'm b'x u'm u'x v'm v'x ae be ue ve re se a'e b'e u'e v'e : Int) (A : Ret 56 #[.int .i64 i] (.agg #[.int .i64 pm, .int .i64 px])) (B : Ret 56 #[.int .i64 j] (.agg #[.int .i64 qm, .int .i64 qx])) (C : Ret 56 #[.int .i64 k] (.agg #[.int .i64 zm, .int .i64 zx])) (CM : Ret 29 #[.agg #[.int .i64 pm, .int .i64 px], .agg #[.int .i64 qm, .int .i64 qx]] (.tuple #[.int .i64 c, .int .i64 0])) (hc : ¬ c > 0) (AD1 : Ret 35 #[.agg #[.int .i64 pm, .int .i64 px], .agg #[.int .i64 zm, .int .i64 zx]] (.tuple #[.agg #[.int .i64 am, .int .i64 ax], .int .i64 ae])) (AD2 : Ret 35 #[.agg #[.int .i64 qm, .int .i64 qx], .agg #[.int .i64 zm, .int .i64 zx]] (.tuple #[.agg #[.int .i64 bm, .int .i64 bx], .int .i64 be])) (SU1 : Ret 36 #[.agg #[.int .i64 zm, .int .i64 zx], .agg #[.int .i64 qm, .int .i64 qx]] (.tuple #[.agg #[.int .i64 um, .int .i64 ux], .int .i64 ue])) (SU2 : Ret 36 #[.agg #[.int .i64 zm, .int .i64 zx], .agg #[.int .i64 pm, .int .i64 px]] (.tuple #[.agg #[.int .i64 vm, .int .i64 vx], .int .i64 ve])) (O1 : Ret 60 #[.agg #[.int .i64 am, .int .i64 ax], .int .i64 ae, .agg #[.int .i64 bm, .int .i64 bx], .int .i64 be] (.bool true)) (O2 : Ret 60 #[.agg #[.int .i64 um, .int .i64 ux], .int .i64 ue, .agg #[.int .i64 vm, .int .i64 vx], .int .i64 ve] (.bool true)) (SQ1 : Ret 42 #[.agg #[.int .i64 pm, .int .i64 px]] (.tuple #[.agg #[.int .i64 rm, .int .i64 rx], .int .i64 re])) (SQ2 : Ret 42 #[.agg #[.int .i64 qm, .int .i64 qx]] (.tuple #[.agg #[.int .i64 sm, .int .i64 sx], .int .i64 se])) (O3 : Ret 60 #[.agg #[.int .i64 rm, .int .i64 rx], .int .i64 re, .agg #[.int .i64 sm, .int .i64 sx], .int .i64 se] (.bool true)) (hz : ¬ zm ≤ 0) (MU1 : Ret 40 #[.agg #[.int .i64 pm, .int .i64 px], .agg #[.int .i64 zm, .int .i64 zx]] (.tuple #[.agg #[.int .i64 a'm, .int .i64 a'x], .int .i64 a'e])) (MU2 : Ret 40 #[.agg #[.int .i64 qm, .int .i64 qx], .agg #[.int .i64 zm, .int .i64 zx]] (.tuple #[.agg #[.int .i64 b'm, .int .i64 b'x], .int .i64 b'e])) (DV1 : Ret 41 #[.agg #[.int .i64 pm, .int .i64 px], .agg #[.int .i64 zm, .int .i64 zx]] (.tuple #[.agg #[.int .i64 u'm, .int .i64 u'x], .int .i64 u'e])) (DV2 : Ret 41 #[.agg #[.int .i64 qm, .int .i64 qx], .agg #[.int .i64 zm, .int .i64 zx]] (.tuple #[.agg #[.int .i64 v'm, .int .i64 v'x], .int .i64 v'e])) (O4 : Ret 60 #[.agg #[.int .i64 a'm, .int .i64 a'x], .int .i64 a'e, .agg #[.int .i64 b'm, .int .i64 b'x], .int .i64 b'e] (.bool true)) (O5 : Ret 60 #[.agg #[.int .i64 u'm, .int .i64 u'x], .int .i64 u'e, .agg #[.int .i64 v'm, .int .i64 v'x], .int .i64 v'e] (.bool true)) (SN : ∀ u, Tb u → Calls Tryz.prog 30 #[] u fun e u' => e = .returned (.bool true) ∧ Ext u u') :
    Calls Tryz.prog 12 #[.int .i64 i, .int .i64 j, .int .i64 k] w fun e w' => e = .returned (.bool true) ∧ Ext w w' := by
  have HT := Lib.hid ht; clear ht
  have FR := Lib.hid (Fr.nil w)
  have eqR := eqReal
  go_enter Tryz.func12, Tryz.ntmps12
  go_wp2_with fail
  refine (A _).mono ?_
  rintro e w1 ⟨rfl, hx⟩
  have FR2 : Hid (Fr w w1 []) := Lib.hid (FR.out.later hx)
  clear hx FR; have FR := FR2; clear FR2
  go_wp2_with fail
  refine (B _).mono ?_
  rintro e w2 ⟨rfl, hx⟩
  have FR2 : Hid (Fr w w2 [(w1.heap.size, pm, px)]) := Lib.hid ((FR.out.lay (pm) (px) 23).later hx)
  clear hx FR; have FR := FR2; clear FR2
  go_wp2_with fail
  refine (C _).mono ?_
  rintro e w3 ⟨rfl, hx⟩
  have FR2 : Hid (Fr w w3 [(w2.heap.size, qm, qx), (w1.heap.size, pm, px)]) := Lib.hid ((FR.out.lay (qm) (qx) 23).later hx)
  clear hx FR; have FR := FR2; clear FR2
  have cx0 := FR.out.g0 (b := w1.heap.size) (.tail _ (.head _)); have cx1 := FR.out.g1 (b := w1.heap.size) (.tail _ (.head _))
  have cy0 := FR.out.g0 (b := w2.heap.size) (.head _); have cy1 := FR.out.g1 (b := w2.heap.size) (.head _)
  go_wp2_with fail
  refine (CM _).mono ?_
  rintro e w4 ⟨rfl, hx⟩
  have FR2 : Hid (Fr w w4 [(w3.heap.size, zm, zx), (w2.heap.size, qm, qx), (w1.heap.size, pm, px)]) := Lib.hid ((FR.out.lay (zm) (zx) 23).later hx)
  clear cx0 cx1 cy0 cy1
  clear hx FR; have FR := FR2; clear FR2
  have cx0 := FR.out.c0 (b := w1.heap.size) (.tail _ (.tail _ (.head _))); have cx1 := FR.out.c1 (b := w1.heap.size) (.tail _ (.tail _ (.head _)))
  have cy0 := FR.out.c0 (b := w2.heap.size) (.tail _ (.head _)); have cy1 := FR.out.c1 (b := w2.heap.size) (.tail _ (.head _))
  have cz0 := FR.out.c0 (b := w3.heap.size) (.head _); have cz1 := FR.out.c1 (b := w3.heap.size) (.head _)
  go_wp2_with fail
  refine (AD1 _).mono ?_
  rintro e w5 ⟨rfl, hx⟩
  have FR2 : Hid (Fr w w5 [(w3.heap.size, zm, zx), (w2.heap.size, qm, qx), (w1.heap.size, pm, px)]) := Lib.hid (FR.out.later hx)
  clear cx0 cx1 cy0 cy1 cz0 cz1
  clear hx FR; have FR := FR2; clear FR2
  have cy0 := FR.out.g0 (b := w2.heap.size) (.tail _ (.head _)); have cy1 := FR.out.g1 (b := w2.heap.size) (.tail _ (.head _))
  have cz0 := FR.out.g0 (b := w3.heap.size) (.head _); have cz1 := FR.out.g1 (b := w3.heap.size) (.head _)
  go_wp2_with fail
  refine (AD2 _).mono ?_
  rintro e w6 ⟨rfl, hx⟩
  have FR2 : Hid (Fr w w6 [(w5.heap.size, am, ax), (w3.heap.size, zm, zx), (w2.heap.size, qm, qx), (w1.heap.size, pm, px)]) := Lib.hid ((FR.out.lay (am) (ax) 23).later hx)
  clear cy0 cy1 cz0 cz1
  clear hx FR; have FR := FR2; clear FR2
  have cy0 := FR.out.g0 (b := w2.heap.size) (.tail _ (.tail _ (.head _))); have cy1 := FR.out.g1 (b := w2.heap.size) (.tail _ (.tail _ (.head _)))
  have cz0 := FR.out.g0 (b := w3.heap.size) (.tail _ (.head _)); have cz1 := FR.out.g1 (b := w3.heap.size) (.tail _ (.head _))
  go_wp2_with fail
  refine (SU1 _).mono ?_
  rintro e w7 ⟨rfl, hx⟩
  have FR2 : Hid (Fr w w7 [(w6.heap.size, bm, bx), (w5.heap.size, am, ax), (w3.heap.size, zm, zx), (w2.heap.size, qm, qx), (w1.heap.size, pm, px)]) := Lib.hid ((FR.out.lay (bm) (bx) 23).later hx)
  clear cy0 cy1 cz0 cz1
  clear hx FR; have FR := FR2; clear FR2
  have cx0 := FR.out.g0 (b := w1.heap.size) (.tail _ (.tail _ (.tail _ (.tail _ (.head _))))); have cx1 := FR.out.g1 (b := w1.heap.size) (.tail _ (.tail _ (.tail _ (.tail _ (.head _)))))
  have cz0 := FR.out.g0 (b := w3.heap.size) (.tail _ (.tail _ (.head _))); have cz1 := FR.out.g1 (b := w3.heap.size) (.tail _ (.tail _ (.head _)))
  go_wp2_with fail
  refine (SU2 _).mono ?_
  rintro e w8 ⟨rfl, hx⟩
  have FR2 : Hid (Fr w w8 [(w7.heap.size, um, ux), (w6.heap.size, bm, bx), (w5.heap.size, am, ax), (w3.heap.size, zm, zx), (w2.heap.size, qm, qx), (w1.heap.size, pm, px)]) := Lib.hid ((FR.out.lay (um) (ux) 23).later hx)
  clear cx0 cx1 cz0 cz1
  clear hx FR; have FR := FR2; clear FR2
  have ca0 := FR.out.g0 (b := w5.heap.size) (.tail _ (.tail _ (.head _))); have ca1 := FR.out.g1 (b := w5.heap.size) (.tail _ (.tail _ (.head _)))
  have cb0 := FR.out.g0 (b := w6.heap.size) (.tail _ (.head _)); have cb1 := FR.out.g1 (b := w6.heap.size) (.tail _ (.head _))
  go_wp2_with fail
  refine (O1 _).mono ?_
  rintro e w9 ⟨rfl, hx⟩
  have FR2 : Hid (Fr w w9 [(w8.heap.size, vm, vx), (w7.heap.size, um, ux), (w6.heap.size, bm, bx), (w5.heap.size, am, ax), (w3.heap.size, zm, zx), (w2.heap.size, qm, qx), (w1.heap.size, pm, px)]) := Lib.hid ((FR.out.lay (vm) (vx) 23).later hx)
  clear ca0 ca1 cb0 cb1
  clear hx FR; have FR := FR2; clear FR2
  have cu0 := FR.out.c0 (b := w7.heap.size) (.tail _ (.head _)); have cu1 := FR.out.c1 (b := w7.heap.size) (.tail _ (.head _))
  have cv0 := FR.out.c0 (b := w8.heap.size) (.head _); have cv1 := FR.out.c1 (b := w8.heap.size) (.head _)
  go_wp2_with fail
  refine (O2 _).mono ?_
  rintro e w10 ⟨rfl, hx⟩
  have FR2 : Hid (Fr w w10 [(w8.heap.size, vm, vx), (w7.heap.size, um, ux), (w6.heap.size, bm, bx), (w5.heap.size, am, ax), (w3.heap.size, zm, zx), (w2.heap.size, qm, qx), (w1.heap.size, pm, px)]) := Lib.hid (FR.out.later hx)
  clear cu0 cu1 cv0 cv1
  clear hx FR; have FR := FR2; clear FR2
  have cx0 := FR.out.c0 (b := w1.heap.size) (.tail _ (.tail _ (.tail _ (.tail _ (.tail _ (.tail _ (.head _))))))); have cx1 := FR.out.c1 (b := w1.heap.size) (.tail _ (.tail _ (.tail _ (.tail _ (.tail _ (.tail _ (.head _)))))))
  go_wp2_with fail
  refine (SQ1 _).mono ?_
  rintro e w11 ⟨rfl, hx⟩
  have FR2 : Hid (Fr w w11 [(w8.heap.size, vm, vx), (w7.heap.size, um, ux), (w6.heap.size, bm, bx), (w5.heap.size, am, ax), (w3.heap.size, zm, zx), (w2.heap.size, qm, qx), (w1.heap.size, pm, px)]) := Lib.hid (FR.out.later hx)
  clear cx0 cx1
  clear hx FR; have FR := FR2; clear FR2
  have cy0 := FR.out.g0 (b := w2.heap.size) (.tail _ (.tail _ (.tail _ (.tail _ (.tail _ (.head _)))))); have cy1 := FR.out.g1 (b := w2.heap.size) (.tail _ (.tail _ (.tail _ (.tail _ (.tail _ (.head _))))))
  go_wp2_with fail
  refine (SQ2 _).mono ?_
  rintro e w12 ⟨rfl, hx⟩
  have FR2 : Hid (Fr w w12 [(w11.heap.size, rm, rx), (w8.heap.size, vm, vx), (w7.heap.size, um, ux), (w6.heap.size, bm, bx), (w5.heap.size, am, ax), (w3.heap.size, zm, zx), (w2.heap.size, qm, qx), (w1.heap.size, pm, px)]) := Lib.hid ((FR.out.lay (rm) (rx) 23).later hx)
  clear cy0 cy1
  clear hx FR; have FR := FR2; clear FR2
  have cr0 := FR.out.g0 (b := w11.heap.size) (.head _); have cr1 := FR.out.g1 (b := w11.heap.size) (.head _)
  go_wp2_with fail
  refine (O3 _).mono ?_
  rintro e w13 ⟨rfl, hx⟩
  have FR2 : Hid (Fr w w13 [(w12.heap.size, sm, sx), (w11.heap.size, rm, rx), (w8.heap.size, vm, vx), (w7.heap.size, um, ux), (w6.heap.size, bm, bx), (w5.heap.size, am, ax), (w3.heap.size, zm, zx), (w2.heap.size, qm, qx), (w1.heap.size, pm, px)]) := Lib.hid ((FR.out.lay (sm) (sx) 23).later hx)
  clear cr0 cr1
  clear hx FR; have FR := FR2; clear FR2
  have cx0 := FR.out.c0 (b := w1.heap.size) (.tail _ (.tail _ (.tail _ (.tail _ (.tail _ (.tail _ (.tail _ (.tail _ (.head _))))))))); have cx1 := FR.out.c1 (b := w1.heap.size) (.tail _ (.tail _ (.tail _ (.tail _ (.tail _ (.tail _ (.tail _ (.tail _ (.head _)))))))))
  have cz0 := FR.out.c0 (b := w3.heap.size) (.tail _ (.tail _ (.tail _ (.tail _ (.tail _ (.tail _ (.head _))))))); have cz1 := FR.out.c1 (b := w3.heap.size) (.tail _ (.tail _ (.tail _ (.tail _ (.tail _ (.tail _ (.head _)))))))
  go_wp2_with fail
  refine (MU1 _).mono ?_
  rintro e w14 ⟨rfl, hx⟩
  have FR2 : Hid (Fr w w14 [(w12.heap.size, sm, sx), (w11.heap.size, rm, rx), (w8.heap.size, vm, vx), (w7.heap.size, um, ux), (w6.heap.size, bm, bx), (w5.heap.size, am, ax), (w3.heap.size, zm, zx), (w2.heap.size, qm, qx), (w1.heap.size, pm, px)]) := Lib.hid (FR.out.later hx)
  clear cx0 cx1 cz0 cz1
  clear hx FR; have FR := FR2; clear FR2
  have st0 := FR.out.c0 (b := w5.heap.size) (.tail _ (.tail _ (.tail _ (.tail _ (.tail _ (.head _)))))); have st1 := FR.out.c1 (b := w5.heap.size) (.tail _ (.tail _ (.tail _ (.tail _ (.tail _ (.head _)))))); have stf := FR.out.fz (b := w5.heap.size) (.tail _ (.tail _ (.tail _ (.tail _ (.tail _ (.head _))))))
  have FS := FR.out.set 5 rfl (a'm) (a'x)
  have FS : Fr w ((w14.setCell ⟨w5.heap.size, 0, none⟩ (.int .i64 (a'm))).setCell ⟨w5.heap.size, 1, none⟩ (.int .i64 (a'x))) [(w12.heap.size, sm, sx), (w11.heap.size, rm, rx), (w8.heap.size, vm, vx), (w7.heap.size, um, ux), (w6.heap.size, bm, bx), (w5.heap.size, a'm, a'x), (w3.heap.size, zm, zx), (w2.heap.size, qm, qx), (w1.heap.size, pm, px)] := FS
  have cy0 := FS.c0 (b := w2.heap.size) (.tail _ (.tail _ (.tail _ (.tail _ (.tail _ (.tail _ (.tail _ (.head _)))))))); have cy1 := FS.c1 (b := w2.heap.size) (.tail _ (.tail _ (.tail _ (.tail _ (.tail _ (.tail _ (.tail _ (.head _))))))))
  have cz0 := FS.c0 (b := w3.heap.size) (.tail _ (.tail _ (.tail _ (.tail _ (.tail _ (.tail _ (.head _))))))); have cz1 := FS.c1 (b := w3.heap.size) (.tail _ (.tail _ (.tail _ (.tail _ (.tail _ (.tail _ (.head _)))))))
  go_wp2_with fail
  refine (MU2 _).mono ?_
  rintro e w15 ⟨rfl, hx⟩
  have FR2 : Hid (Fr w w15 [(w12.heap.size, sm, sx), (w11.heap.size, rm, rx), (w8.heap.size, vm, vx), (w7.heap.size, um, ux), (w6.heap.size, bm, bx), (w5.heap.size, a'm, a'x), (w3.heap.size, zm, zx), (w2.heap.size, qm, qx), (w1.heap.size, pm, px)]) := Lib.hid (FS.later hx)
  clear cy0 cy1 cz0 cz1 st0 st1 stf
  clear FS
  clear hx FR; have FR := FR2; clear FR2
  have st0 := FR.out.c0 (b := w6.heap.size) (.tail _ (.tail _ (.tail _ (.tail _ (.head _))))); have st1 := FR.out.c1 (b := w6.heap.size) (.tail _ (.tail _ (.tail _ (.tail _ (.head _))))); have stf := FR.out.fz (b := w6.heap.size) (.tail _ (.tail _ (.tail _ (.tail _ (.head _)))))
  have FS := FR.out.set 4 rfl (b'm) (b'x)
  have FS : Fr w ((w15.setCell ⟨w6.heap.size, 0, none⟩ (.int .i64 (b'm))).setCell ⟨w6.heap.size, 1, none⟩ (.int .i64 (b'x))) [(w12.heap.size, sm, sx), (w11.heap.size, rm, rx), (w8.heap.size, vm, vx), (w7.heap.size, um, ux), (w6.heap.size, b'm, b'x), (w5.heap.size, a'm, a'x), (w3.heap.size, zm, zx), (w2.heap.size, qm, qx), (w1.heap.size, pm, px)] := FS
  have cx0 := FS.c0 (b := w1.heap.size) (.tail _ (.tail _ (.tail _ (.tail _ (.tail _ (.tail _ (.tail _ (.tail _ (.head _))))))))); have cx1 := FS.c1 (b := w1.heap.size) (.tail _ (.tail _ (.tail _ (.tail _ (.tail _ (.tail _ (.tail _ (.tail _ (.head _)))))))))
  have cz0 := FS.c0 (b := w3.heap.size) (.tail _ (.tail _ (.tail _ (.tail _ (.tail _ (.tail _ (.head _))))))); have cz1 := FS.c1 (b := w3.heap.size) (.tail _ (.tail _ (.tail _ (.tail _ (.tail _ (.tail _ (.head _)))))))
  go_wp2_with fail
  refine (DV1 _).mono ?_
  rintro e w16 ⟨rfl, hx⟩
  have FR2 : Hid (Fr w w16 [(w12.heap.size, sm, sx), (w11.heap.size, rm, rx), (w8.heap.size, vm, vx), (w7.heap.size, um, ux), (w6.heap.size, b'm, b'x), (w5.heap.size, a'm, a'x), (w3.heap.size, zm, zx), (w2.heap.size, qm, qx), (w1.heap.size, pm, px)]) := Lib.hid (FS.later hx)
  clear cx0 cx1 cz0 cz1 st0 st1 stf
  clear FS
  clear hx FR; have FR := FR2; clear FR2
  have st0 := FR.out.c0 (b := w7.heap.size) (.tail _ (.tail _ (.tail _ (.head _)))); have st1 := FR.out.c1 (b := w7.heap.size) (.tail _ (.tail _ (.tail _ (.head _)))); have stf := FR.out.fz (b := w7.heap.size) (.tail _ (.tail _ (.tail _ (.head _))))
  have FS := FR.out.set 3 rfl (u'm) (u'x)
  have FS : Fr w ((w16.setCell ⟨w7.heap.size, 0, none⟩ (.int .i64 (u'm))).setCell ⟨w7.heap.size, 1, none⟩ (.int .i64 (u'x))) [(w12.heap.size, sm, sx), (w11.heap.size, rm, rx), (w8.heap.size, vm, vx), (w7.heap.size, u'm, u'x), (w6.heap.size, b'm, b'x), (w5.heap.size, a'm, a'x), (w3.heap.size, zm, zx), (w2.heap.size, qm, qx), (w1.heap.size, pm, px)] := FS
  have cy0 := FS.c0 (b := w2.heap.size) (.tail _ (.tail _ (.tail _ (.tail _ (.tail _ (.tail _ (.tail _ (.head _)))))))); have cy1 := FS.c1 (b := w2.heap.size) (.tail _ (.tail _ (.tail _ (.tail _ (.tail _ (.tail _ (.tail _ (.head _))))))))
  have cz0 := FS.c0 (b := w3.heap.size) (.tail _ (.tail _ (.tail _ (.tail _ (.tail _ (.tail _ (.head _))))))); have cz1 := FS.c1 (b := w3.heap.size) (.tail _ (.tail _ (.tail _ (.tail _ (.tail _ (.tail _ (.head _)))))))
  go_wp2_with fail
  refine (DV2 _).mono ?_
  rintro e w17 ⟨rfl, hx⟩
  have FR2 : Hid (Fr w w17 [(w12.heap.size, sm, sx), (w11.heap.size, rm, rx), (w8.heap.size, vm, vx), (w7.heap.size, u'm, u'x), (w6.heap.size, b'm, b'x), (w5.heap.size, a'm, a'x), (w3.heap.size, zm, zx), (w2.heap.size, qm, qx), (w1.heap.size, pm, px)]) := Lib.hid (FS.later hx)
  clear cy0 cy1 cz0 cz1 st0 st1 stf
  clear FS
  clear hx FR; have FR := FR2; clear FR2
  have st0 := FR.out.c0 (b := w8.heap.size) (.tail _ (.tail _ (.head _))); have st1 := FR.out.c1 (b := w8.heap.size) (.tail _ (.tail _ (.head _))); have stf := FR.out.fz (b := w8.heap.size) (.tail _ (.tail _ (.head _)))
  have FS := FR.out.set 2 rfl (v'm) (v'x)
  have FS : Fr w ((w17.setCell ⟨w8.heap.size, 0, none⟩ (.int .i64 (v'm))).setCell ⟨w8.heap.size, 1, none⟩ (.int .i64 (v'x))) [(w12.heap.size, sm, sx), (w11.heap.size, rm, rx), (w8.heap.size, v'm, v'x), (w7.heap.size, u'm, u'x), (w6.heap.size, b'm, b'x), (w5.heap.size, a'm, a'x), (w3.heap.size, zm, zx), (w2.heap.size, qm, qx), (w1.heap.size, pm, px)] := FS
  go_wp2_with fail
  refine (SN _ (HT.out.later FS.x)).mono ?_
  rintro e w18 ⟨rfl, hx⟩
  have FR2 : Hid (Fr w w18 [(w12.heap.size, sm, sx), (w11.heap.size, rm, rx), (w8.heap.size, v'm, v'x), (w7.heap.size, u'm, u'x), (w6.heap.size, b'm, b'x), (w5.heap.size, a'm, a'x), (w3.heap.size, zm, zx), (w2.heap.size, qm, qx), (w1.heap.size, pm, px)]) := Lib.hid (FS.later hx)
  clear st0 st1 stf
  clear FS
  clear hx FR; have FR := FR2; clear FR2
  have ca0 := FR.out.c0 (b := w5.heap.size) (.tail _ (.tail _ (.tail _ (.tail _ (.tail _ (.head _)))))); have ca1 := FR.out.c1 (b := w5.heap.size) (.tail _ (.tail _ (.tail _ (.tail _ (.tail _ (.head _))))))
  have cb0 := FR.out.c0 (b := w6.heap.size) (.tail _ (.tail _ (.tail _ (.tail _ (.head _))))); have cb1 := FR.out.c1 (b := w6.heap.size) (.tail _ (.tail _ (.tail _ (.tail _ (.head _)))))
  go_wp2_with fail
  refine (O4 _).mono ?_
  rintro e w19 ⟨rfl, hx⟩
  have FR2 : Hid (Fr w w19 [(w12.heap.size, sm, sx), (w11.heap.size, rm, rx), (w8.heap.size, v'm, v'x), (w7.heap.size, u'm, u'x), (w6.heap.size, b'm, b'x), (w5.heap.size, a'm, a'x), (w3.heap.size, zm, zx), (w2.heap.size, qm, qx), (w1.heap.size, pm, px)]) := Lib.hid (FR.out.later hx)
  clear ca0 ca1 cb0 cb1
  clear hx FR; have FR := FR2; clear FR2
  have cu0 := FR.out.c0 (b := w7.heap.size) (.tail _ (.tail _ (.tail _ (.head _)))); have cu1 := FR.out.c1 (b := w7.heap.size) (.tail _ (.tail _ (.tail _ (.head _))))
  have cv0 := FR.out.c0 (b := w8.heap.size) (.tail _ (.tail _ (.head _))); have cv1 := FR.out.c1 (b := w8.heap.size) (.tail _ (.tail _ (.head _)))
  go_wp2_with fail
  refine (O5 _).mono ?_
  rintro e w20 ⟨rfl, hx⟩
  have FR2 : Hid (Fr w w20 [(w12.heap.size, sm, sx), (w11.heap.size, rm, rx), (w8.heap.size, v'm, v'x), (w7.heap.size, u'm, u'x), (w6.heap.size, b'm, b'x), (w5.heap.size, a'm, a'x), (w3.heap.size, zm, zx), (w2.heap.size, qm, qx), (w1.heap.size, pm, px)]) := Lib.hid (FR.out.later hx)
  clear cu0 cu1 cv0 cv1
  clear hx FR; have FR := FR2; clear FR2
  go_wp2
  go_ret
  exact ⟨rfl, FR.out.x⟩
set_option maxRecDepth 100000 in
set_option maxHeartbeats 8000000 in
theorem mono_sn (w : World) (ht : Tb w) (i j k c : Int) (pm px qm qx zm zx am ax bm bx um ux vm vx rm rx sm sx ae be ue ve re se : Int) (A : Ret 56 #[.int .i64 i] (.agg #[.int .i64 pm, .int .i64 px])) (B : Ret 56 #[.int .i64 j] (.agg #[.int .i64 qm, .int .i64 qx])) (C : Ret 56 #[.int .i64 k] (.agg #[.int .i64 zm, .int .i64 zx])) (CM : Ret 29 #[.agg #[.int .i64 pm, .int .i64 px], .agg #[.int .i64 qm, .int .i64 qx]] (.tuple #[.int .i64 c, .int .i64 0])) (hc : c > 0) (AD1 : Ret 35 #[.agg #[.int .i64 qm, .int .i64 qx], .agg #[.int .i64 zm, .int .i64 zx]] (.tuple #[.agg #[.int .i64 am, .int .i64 ax], .int .i64 ae])) (AD2 : Ret 35 #[.agg #[.int .i64 pm, .int .i64 px], .agg #[.int .i64 zm, .int .i64 zx]] (.tuple #[.agg #[.int .i64 bm, .int .i64 bx], .int .i64 be])) (SU1 : Ret 36 #[.agg #[.int .i64 zm, .int .i64 zx], .agg #[.int .i64 pm, .int .i64 px]] (.tuple #[.agg #[.int .i64 um, .int .i64 ux], .int .i64 ue])) (SU2 : Ret 36 #[.agg #[.int .i64 zm, .int .i64 zx], .agg #[.int .i64 qm, .int .i64 qx]] (.tuple #[.agg #[.int .i64 vm, .int .i64 vx], .int .i64 ve])) (O1 : Ret 60 #[.agg #[.int .i64 am, .int .i64 ax], .int .i64 ae, .agg #[.int .i64 bm, .int .i64 bx], .int .i64 be] (.bool true)) (O2 : Ret 60 #[.agg #[.int .i64 um, .int .i64 ux], .int .i64 ue, .agg #[.int .i64 vm, .int .i64 vx], .int .i64 ve] (.bool true)) (SQ1 : Ret 42 #[.agg #[.int .i64 qm, .int .i64 qx]] (.tuple #[.agg #[.int .i64 rm, .int .i64 rx], .int .i64 re])) (SQ2 : Ret 42 #[.agg #[.int .i64 pm, .int .i64 px]] (.tuple #[.agg #[.int .i64 sm, .int .i64 sx], .int .i64 se])) (O3 : Ret 60 #[.agg #[.int .i64 rm, .int .i64 rx], .int .i64 re, .agg #[.int .i64 sm, .int .i64 sx], .int .i64 se] (.bool true)) (hz : zm ≤ 0) (SN : ∀ u, Tb u → Calls Tryz.prog 30 #[] u fun e u' => e = .returned (.bool true) ∧ Ext u u') :
    Calls Tryz.prog 12 #[.int .i64 i, .int .i64 j, .int .i64 k] w fun e w' => e = .returned (.bool true) ∧ Ext w w' := by
  have HT := Lib.hid ht; clear ht
  have FR := Lib.hid (Fr.nil w)
  have eqR := eqReal
  go_enter Tryz.func12, Tryz.ntmps12
  go_wp2_with fail
  refine (A _).mono ?_
  rintro e w1 ⟨rfl, hx⟩
  have FR2 : Hid (Fr w w1 []) := Lib.hid (FR.out.later hx)
  clear hx FR; have FR := FR2; clear FR2
  go_wp2_with fail
  refine (B _).mono ?_
  rintro e w2 ⟨rfl, hx⟩
  have FR2 : Hid (Fr w w2 [(w1.heap.size, pm, px)]) := Lib.hid ((FR.out.lay (pm) (px) 23).later hx)
  clear hx FR; have FR := FR2; clear FR2
  go_wp2_with fail
  refine (C _).mono ?_
  rintro e w3 ⟨rfl, hx⟩
  have FR2 : Hid (Fr w w3 [(w2.heap.size, qm, qx), (w1.heap.size, pm, px)]) := Lib.hid ((FR.out.lay (qm) (qx) 23).later hx)
  clear hx FR; have FR := FR2; clear FR2
  have cx0 := FR.out.g0 (b := w1.heap.size) (.tail _ (.head _)); have cx1 := FR.out.g1 (b := w1.heap.size) (.tail _ (.head _))
  have cy0 := FR.out.g0 (b := w2.heap.size) (.head _); have cy1 := FR.out.g1 (b := w2.heap.size) (.head _)
  go_wp2_with fail
  refine (CM _).mono ?_
  rintro e w4 ⟨rfl, hx⟩
  have FR2 : Hid (Fr w w4 [(w3.heap.size, zm, zx), (w2.heap.size, qm, qx), (w1.heap.size, pm, px)]) := Lib.hid ((FR.out.lay (zm) (zx) 23).later hx)
  clear cx0 cx1 cy0 cy1
  clear hx FR; have FR := FR2; clear FR2
  have st0 := FR.out.c0 (b := w1.heap.size) (.tail _ (.tail _ (.head _))); have st1 := FR.out.c1 (b := w1.heap.size) (.tail _ (.tail _ (.head _))); have stf := FR.out.fz (b := w1.heap.size) (.tail _ (.tail _ (.head _)))
  have su0 := FR.out.c0 (b := w2.heap.size) (.tail _ (.head _)); have su1 := FR.out.c1 (b := w2.heap.size) (.tail _ (.head _)); have suf := FR.out.fz (b := w2.heap.size) (.tail _ (.head _))
  have sn : w1.heap.size ≠ w2.heap.size := FR.out.ne 2 1 rfl rfl (by omega)
  have sn' : w2.heap.size ≠ w1.heap.size := fun e => sn e.symm
  have FS1 := FR.out.set 2 rfl (qm) (qx)
  have FS1 : Fr w ((w4.setCell ⟨w1.heap.size, 0, none⟩ (.int .i64 (qm))).setCell ⟨w1.heap.size, 1, none⟩ (.int .i64 (qx))) [(w3.heap.size, zm, zx), (w2.heap.size, qm, qx), (w1.heap.size, qm, qx)] := FS1
  have sv0 := FS1.c0 (b := w2.heap.size) (.tail _ (.head _)); have sv1 := FS1.c1 (b := w2.heap.size) (.tail _ (.head _)); have svf := FS1.fz (b := w2.heap.size) (.tail _ (.head _))
  have FS := FS1.set 1 rfl (pm) (px)
  have FS : Fr w ((((w4.setCell ⟨w1.heap.size, 0, none⟩ (.int .i64 (qm))).setCell ⟨w1.heap.size, 1, none⟩ (.int .i64 (qx))).setCell ⟨w2.heap.size, 0, none⟩ (.int .i64 (pm))).setCell ⟨w2.heap.size, 1, none⟩ (.int .i64 (px))) [(w3.heap.size, zm, zx), (w2.heap.size, pm, px), (w1.heap.size, qm, qx)] := FS
  clear FS1
  have cx0 := FS.c0 (b := w1.heap.size) (.tail _ (.tail _ (.head _))); have cx1 := FS.c1 (b := w1.heap.size) (.tail _ (.tail _ (.head _)))
  have cy0 := FS.c0 (b := w2.heap.size) (.tail _ (.head _)); have cy1 := FS.c1 (b := w2.heap.size) (.tail _ (.head _))
  have cz0 := FS.c0 (b := w3.heap.size) (.head _); have cz1 := FS.c1 (b := w3.heap.size) (.head _)
  go_wp2_with fail
  refine (AD1 _).mono ?_
  rintro e w5 ⟨rfl, hx⟩
  have FR2 : Hid (Fr w w5 [(w3.heap.size, zm, zx), (w2.heap.size, pm, px), (w1.heap.size, qm, qx)]) := Lib.hid (FS.later hx)
  clear cx0 cx1 cy0 cy1 cz0 cz1 st0 st1 stf su0 su1 suf sn sn' sv0 sv1 svf
  clear FS
  clear hx FR; have FR := FR2; clear FR2
  have cy0 := FR.out.g0 (b := w2.heap.size) (.tail _ (.head _)); have cy1 := FR.out.g1 (b := w2.heap.size) (.tail _ (.head _))
  have cz0 := FR.out.g0 (b := w3.heap.size) (.head _); have cz1 := FR.out.g1 (b := w3.heap.size) (.head _)
  go_wp2_with fail
  refine (AD2 _).mono ?_
  rintro e w6 ⟨rfl, hx⟩
  have FR2 : Hid (Fr w w6 [(w5.heap.size, am, ax), (w3.heap.size, zm, zx), (w2.heap.size, pm, px), (w1.heap.size, qm, qx)]) := Lib.hid ((FR.out.lay (am) (ax) 23).later hx)
  clear cy0 cy1 cz0 cz1
  clear hx FR; have FR := FR2; clear FR2
  have cy0 := FR.out.g0 (b := w2.heap.size) (.tail _ (.tail _ (.head _))); have cy1 := FR.out.g1 (b := w2.heap.size) (.tail _ (.tail _ (.head _)))
  have cz0 := FR.out.g0 (b := w3.heap.size) (.tail _ (.head _)); have cz1 := FR.out.g1 (b := w3.heap.size) (.tail _ (.head _))
  go_wp2_with fail
  refine (SU1 _).mono ?_
  rintro e w7 ⟨rfl, hx⟩
  have FR2 : Hid (Fr w w7 [(w6.heap.size, bm, bx), (w5.heap.size, am, ax), (w3.heap.size, zm, zx), (w2.heap.size, pm, px), (w1.heap.size, qm, qx)]) := Lib.hid ((FR.out.lay (bm) (bx) 23).later hx)
  clear cy0 cy1 cz0 cz1
  clear hx FR; have FR := FR2; clear FR2
  have cx0 := FR.out.g0 (b := w1.heap.size) (.tail _ (.tail _ (.tail _ (.tail _ (.head _))))); have cx1 := FR.out.g1 (b := w1.heap.size) (.tail _ (.tail _ (.tail _ (.tail _ (.head _)))))
  have cz0 := FR.out.g0 (b := w3.heap.size) (.tail _ (.tail _ (.head _))); have cz1 := FR.out.g1 (b := w3.heap.size) (.tail _ (.tail _ (.head _)))
  go_wp2_with fail
  refine (SU2 _).mono ?_
  rintro e w8 ⟨rfl, hx⟩
  have FR2 : Hid (Fr w w8 [(w7.heap.size, um, ux), (w6.heap.size, bm, bx), (w5.heap.size, am, ax), (w3.heap.size, zm, zx), (w2.heap.size, pm, px), (w1.heap.size, qm, qx)]) := Lib.hid ((FR.out.lay (um) (ux) 23).later hx)
  clear cx0 cx1 cz0 cz1
  clear hx FR; have FR := FR2; clear FR2
  have ca0 := FR.out.g0 (b := w5.heap.size) (.tail _ (.tail _ (.head _))); have ca1 := FR.out.g1 (b := w5.heap.size) (.tail _ (.tail _ (.head _)))
  have cb0 := FR.out.g0 (b := w6.heap.size) (.tail _ (.head _)); have cb1 := FR.out.g1 (b := w6.heap.size) (.tail _ (.head _))
  go_wp2_with fail
  refine (O1 _).mono ?_
  rintro e w9 ⟨rfl, hx⟩
  have FR2 : Hid (Fr w w9 [(w8.heap.size, vm, vx), (w7.heap.size, um, ux), (w6.heap.size, bm, bx), (w5.heap.size, am, ax), (w3.heap.size, zm, zx), (w2.heap.size, pm, px), (w1.heap.size, qm, qx)]) := Lib.hid ((FR.out.lay (vm) (vx) 23).later hx)
  clear ca0 ca1 cb0 cb1
  clear hx FR; have FR := FR2; clear FR2
  have cu0 := FR.out.c0 (b := w7.heap.size) (.tail _ (.head _)); have cu1 := FR.out.c1 (b := w7.heap.size) (.tail _ (.head _))
  have cv0 := FR.out.c0 (b := w8.heap.size) (.head _); have cv1 := FR.out.c1 (b := w8.heap.size) (.head _)
  go_wp2_with fail
  refine (O2 _).mono ?_
  rintro e w10 ⟨rfl, hx⟩
  have FR2 : Hid (Fr w w10 [(w8.heap.size, vm, vx), (w7.heap.size, um, ux), (w6.heap.size, bm, bx), (w5.heap.size, am, ax), (w3.heap.size, zm, zx), (w2.heap.size, pm, px), (w1.heap.size, qm, qx)]) := Lib.hid (FR.out.later hx)
  clear cu0 cu1 cv0 cv1
  clear hx FR; have FR := FR2; clear FR2
  have cx0 := FR.out.c0 (b := w1.heap.size) (.tail _ (.tail _ (.tail _ (.tail _ (.tail _ (.tail _ (.head _))))))); have cx1 := FR.out.c1 (b := w1.heap.size) (.tail _ (.tail _ (.tail _ (.tail _ (.tail _ (.tail _ (.head _)))))))
  go_wp2_with fail
  refine (SQ1 _).mono ?_
  rintro e w11 ⟨rfl, hx⟩
  have FR2 : Hid (Fr w w11 [(w8.heap.size, vm, vx), (w7.heap.size, um, ux), (w6.heap.size, bm, bx), (w5.heap.size, am, ax), (w3.heap.size, zm, zx), (w2.heap.size, pm, px), (w1.heap.size, qm, qx)]) := Lib.hid (FR.out.later hx)
  clear cx0 cx1
  clear hx FR; have FR := FR2; clear FR2
  have cy0 := FR.out.g0 (b := w2.heap.size) (.tail _ (.tail _ (.tail _ (.tail _ (.tail _ (.head _)))))); have cy1 := FR.out.g1 (b := w2.heap.size) (.tail _ (.tail _ (.tail _ (.tail _ (.tail _ (.head _))))))
  go_wp2_with fail
  refine (SQ2 _).mono ?_
  rintro e w12 ⟨rfl, hx⟩
  have FR2 : Hid (Fr w w12 [(w11.heap.size, rm, rx), (w8.heap.size, vm, vx), (w7.heap.size, um, ux), (w6.heap.size, bm, bx), (w5.heap.size, am, ax), (w3.heap.size, zm, zx), (w2.heap.size, pm, px), (w1.heap.size, qm, qx)]) := Lib.hid ((FR.out.lay (rm) (rx) 23).later hx)
  clear cy0 cy1
  clear hx FR; have FR := FR2; clear FR2
  have cr0 := FR.out.g0 (b := w11.heap.size) (.head _); have cr1 := FR.out.g1 (b := w11.heap.size) (.head _)
  go_wp2_with fail
  refine (O3 _).mono ?_
  rintro e w13 ⟨rfl, hx⟩
  have FR2 : Hid (Fr w w13 [(w12.heap.size, sm, sx), (w11.heap.size, rm, rx), (w8.heap.size, vm, vx), (w7.heap.size, um, ux), (w6.heap.size, bm, bx), (w5.heap.size, am, ax), (w3.heap.size, zm, zx), (w2.heap.size, pm, px), (w1.heap.size, qm, qx)]) := Lib.hid ((FR.out.lay (sm) (sx) 23).later hx)
  clear cr0 cr1
  clear hx FR; have FR := FR2; clear FR2
  have cz0 := FR.out.c0 (b := w3.heap.size) (.tail _ (.tail _ (.tail _ (.tail _ (.tail _ (.tail _ (.head _))))))); have cz1 := FR.out.c1 (b := w3.heap.size) (.tail _ (.tail _ (.tail _ (.tail _ (.tail _ (.tail _ (.head _)))))))
  go_wp2_with fail
  refine (SN _ (HT.out.later FR.out.x)).mono ?_
  rintro e w14 ⟨rfl, hx⟩
  have FR2 : Hid (Fr w w14 [(w12.heap.size, sm, sx), (w11.heap.size, rm, rx), (w8.heap.size, vm, vx), (w7.heap.size, um, ux), (w6.heap.size, bm, bx), (w5.heap.size, am, ax), (w3.heap.size, zm, zx), (w2.heap.size, pm, px), (w1.heap.size, qm, qx)]) := Lib.hid (FR.out.later hx)
  clear cz0 cz1
  clear hx FR; have FR := FR2; clear FR2
  go_wp2
  go_ret
  exact ⟨rfl, FR.out.x⟩
set_option maxRecDepth 100000 in
set_option maxHeartbeats 8000000 in
theorem mono_sp (w : World) (ht : Tb w) (i j k c : Int) (pm px qm qx zm zx am ax bm bx um ux vm vx rm rx sm sx a'm a'x b'm b'x u'm u'x v'm v'x ae be ue ve re se a'e b'e u'e v'e : Int) (A : Ret 56 #[.int .i64 i] (.agg #[.int .i64 pm, .int .i64 px])) (B : Ret 56 #[.int .i64 j] (.agg #[.int .i64 qm, .int .i64 qx])) (C : Ret 56 #[.int .i64 k] (.agg #[.int .i64 zm, .int .i64 zx])) (CM : Ret 29 #[.agg #[.int .i64 pm, .int .i64 px], .agg #[.int .i64 qm, .int .i64 qx]] (.tuple #[.int .i64 c, .int .i64 0])) (hc : c > 0) (AD1 : Ret 35 #[.agg #[.int .i64 qm, .int .i64 qx], .agg #[.int .i64 zm, .int .i64 zx]] (.tuple #[.agg #[.int .i64 am, .int .i64 ax], .int .i64 ae])) (AD2 : Ret 35 #[.agg #[.int .i64 pm, .int .i64 px], .agg #[.int .i64 zm, .int .i64 zx]] (.tuple #[.agg #[.int .i64 bm, .int .i64 bx], .int .i64 be])) (SU1 : Ret 36 #[.agg #[.int .i64 zm, .int .i64 zx], .agg #[.int .i64 pm, .int .i64 px]] (.tuple #[.agg #[.int .i64 um, .int .i64 ux], .int .i64 ue])) (SU2 : Ret 36 #[.agg #[.int .i64 zm, .int .i64 zx], .agg #[.int .i64 qm, .int .i64 qx]] (.tuple #[.agg #[.int .i64 vm, .int .i64 vx], .int .i64 ve])) (O1 : Ret 60 #[.agg #[.int .i64 am, .int .i64 ax], .int .i64 ae, .agg #[.int .i64 bm, .int .i64 bx], .int .i64 be] (.bool true)) (O2 : Ret 60 #[.agg #[.int .i64 um, .int .i64 ux], .int .i64 ue, .agg #[.int .i64 vm, .int .i64 vx], .int .i64 ve] (.bool true)) (SQ1 : Ret 42 #[.agg #[.int .i64 qm, .int .i64 qx]] (.tuple #[.agg #[.int .i64 rm, .int .i64 rx], .int .i64 re])) (SQ2 : Ret 42 #[.agg #[.int .i64 pm, .int .i64 px]] (.tuple #[.agg #[.int .i64 sm, .int .i64 sx], .int .i64 se])) (O3 : Ret 60 #[.agg #[.int .i64 rm, .int .i64 rx], .int .i64 re, .agg #[.int .i64 sm, .int .i64 sx], .int .i64 se] (.bool true)) (hz : ¬ zm ≤ 0) (MU1 : Ret 40 #[.agg #[.int .i64 qm, .int .i64 qx], .agg #[.int .i64 zm, .int .i64 zx]] (.tuple #[.agg #[.int .i64 a'm, .int .i64 a'x], .int .i64 a'e])) (MU2 : Ret 40 #[.agg #[.int .i64 pm, .int .i64 px], .agg #[.int .i64 zm, .int .i64 zx]] (.tuple #[.agg #[.int .i64 b'm, .int .i64 b'x], .int .i64 b'e])) (DV1 : Ret 41 #[.agg #[.int .i64 qm, .int .i64 qx], .agg #[.int .i64 zm, .int .i64 zx]] (.tuple #[.agg #[.int .i64 u'm, .int .i64 u'x], .int .i64 u'e])) (DV2 : Ret 41 #[.agg #[.int .i64 pm, .int .i64 px], .agg #[.int .i64 zm, .int .i64 zx]] (.tuple #[.agg #[.int .i64 v'm, .int .i64 v'x], .int .i64 v'e])) (O4 : Ret 60 #[.agg #[.int .i64 a'm, .int .i64 a'x], .int .i64 a'e, .agg #[.int .i64 b'm, .int .i64 b'x], .int .i64 b'e] (.bool true)) (O5 : Ret 60 #[.agg #[.int .i64 u'm, .int .i64 u'x], .int .i64 u'e, .agg #[.int .i64 v'm, .int .i64 v'x], .int .i64 v'e] (.bool true)) (SN : ∀ u, Tb u → Calls Tryz.prog 30 #[] u fun e u' => e = .returned (.bool true) ∧ Ext u u') :
    Calls Tryz.prog 12 #[.int .i64 i, .int .i64 j, .int .i64 k] w fun e w' => e = .returned (.bool true) ∧ Ext w w' := by
  have HT := Lib.hid ht; clear ht
  have FR := Lib.hid (Fr.nil w)
  have eqR := eqReal
  go_enter Tryz.func12, Tryz.ntmps12
  go_wp2_with fail
  refine (A _).mono ?_
  rintro e w1 ⟨rfl, hx⟩
  have FR2 : Hid (Fr w w1 []) := Lib.hid (FR.out.later hx)
  clear hx FR; have FR := FR2; clear FR2
  go_wp2_with fail
  refine (B _).mono ?_
  rintro e w2 ⟨rfl, hx⟩
  have FR2 : Hid (Fr w w2 [(w1.heap.size, pm, px)]) := Lib.hid ((FR.out.lay (pm) (px) 23).later hx)
  clear hx FR; have FR := FR2; clear FR2
  go_wp2_with fail
  refine (C _).mono ?_
  rintro e w3 ⟨rfl, hx⟩
  have FR2 : Hid (Fr w w3 [(w2.heap.size, qm, qx), (w1.heap.size, pm, px)]) := Lib.hid ((FR.out.lay (qm) (qx) 23).later hx)
  clear hx FR; have FR := FR2; clear FR2
  have cx0 := FR.out.g0 (b := w1.heap.size) (.tail _ (.head _)); have cx1 := FR.out.g1 (b := w1.heap.size) (.tail _ (.head _))
  have cy0 := FR.out.g0 (b := w2.heap.size) (.head _); have cy1 := FR.out.g1 (b := w2.heap.size) (.head _)
  go_wp2_with fail
  refine (CM _).mono ?_
  rintro e w4 ⟨rfl, hx⟩
  have FR2 : Hid (Fr w w4 [(w3.heap.size, zm, zx), (w2.heap.size, qm, qx), (w1.heap.size, pm, px)]) := Lib.hid ((FR.out.lay (zm) (zx) 23).later hx)
  clear cx0 cx1 cy0 cy1
  clear hx FR; have FR := FR2; clear FR2
  have st0 := FR.out.c0 (b := w1.heap.size) (.tail _ (.tail _ (.head _))); have st1 := FR.out.c1 (b := w1.heap.size) (.tail _ (.tail _ (.head _))); have stf := FR.out.fz (b := w1.heap.size) (.tail _ (.tail _ (.head _)))
  have su0 := FR.out.c0 (b := w2.heap.size) (.tail _ (.head _)); have su1 := FR.out.c1 (b := w2.heap.size) (.tail _ (.head _)); have suf := FR.out.fz (b := w2.heap.size) (.tail _ (.head _))
  have sn : w1.heap.size ≠ w2.heap.size := FR.out.ne 2 1 rfl rfl (by omega)
  have sn' : w2.heap.size ≠ w1.heap.size := fun e => sn e.symm
  have FS1 := FR.out.set 2 rfl (qm) (qx)
  have FS1 : Fr w ((w4.setCell ⟨w1.heap.size, 0, none⟩ (.int .i64 (qm))).setCell ⟨w1.heap.size, 1, none⟩ (.int .i64 (qx))) [(w3.heap.size, zm, zx), (w2.heap.size, qm, qx), (w1.heap.size, qm, qx)] := FS1
  have sv0 := FS1.c0 (b := w2.heap.size) (.tail _ (.head _)); have sv1 := FS1.c1 (b := w2.heap.size) (.tail _ (.head _)); have svf := FS1.fz (b := w2.heap.size) (.tail _ (.head _))
  have FS := FS1.set 1 rfl (pm) (px)
  have FS : Fr w ((((w4.setCell ⟨w1.heap.size, 0, none⟩ (.int .i64 (qm))).setCell ⟨w1.heap.size, 1, none⟩ (.int .i64 (qx))).setCell ⟨w2.heap.size, 0, none⟩ (.int .i64 (pm))).setCell ⟨w2.heap.size, 1, none⟩ (.int .i64 (px))) [(w3.heap.size, zm, zx), (w2.heap.size, pm, px), (w1.heap.size, qm, qx)] := FS
  clear FS1
  have cx0 := FS.c0 (b := w1.heap.size) (.tail _ (.tail _ (.head _))); have cx1 := FS.c1 (b := w1.heap.size) (.tail _ (.tail _ (.head _)))
  have cy0 := FS.c0 (b := w2.heap.size) (.tail _ (.head _)); have cy1 := FS.c1 (b := w2.heap.size) (.tail _ (.head _))
  have cz0 := FS.c0 (b := w3.heap.size) (.head _); have cz1 := FS.c1 (b := w3.heap.size) (.head _)
  go_wp2_with fail
  refine (AD1 _).mono ?_
  rintro e w5 ⟨rfl, hx⟩
  have FR2 : Hid (Fr w w5 [(w3.heap.size, zm, zx), (w2.heap.size, pm, px), (w1.heap.size, qm, qx)]) := Lib.hid (FS.later hx)
  clear cx0 cx1 cy0 cy1 cz0 cz1 st0 st1 stf su0 su1 suf sn sn' sv0 sv1 svf
  clear FS
  clear hx FR; have FR := FR2; clear FR2
  have cy0 := FR.out.g0 (b := w2.heap.size) (.tail _ (.head _)); have cy1 := FR.out.g1 (b := w2.heap.size) (.tail _ (.head _))
  have cz0 := FR.out.g0 (b := w3.heap.size) (.head _); have cz1 := FR.out.g1 (b := w3.heap.size) (.head _)
  go_wp2_with fail
  refine (AD2 _).mono ?_
  rintro e w6 ⟨rfl, hx⟩
  have FR2 : Hid (Fr w w6 [(w5.heap.size, am, ax), (w3.heap.size, zm, zx), (w2.heap.size, pm, px), (w1.heap.size, qm, qx)]) := Lib.hid ((FR.out.lay (am) (ax) 23).later hx)
  clear cy0 cy1 cz0 cz1
  clear hx FR; have FR := FR2; clear FR2
  have cy0 := FR.out.g0 (b := w2.heap.size) (.tail _ (.tail _ (.head _))); have cy1 := FR.out.g1 (b := w2.heap.size) (.tail _ (.tail _ (.head _)))
  have cz0 := FR.out.g0 (b := w3.heap.size) (.tail _ (.head _)); have cz1 := FR.out.g1 (b := w3.heap.size) (.tail _ (.head _))
  go_wp2_with fail
  refine (SU1 _).mono ?_
  rintro e w7 ⟨rfl, hx⟩
  have FR2 : Hid (Fr w w7 [(w6.heap.size, bm, bx), (w5.heap.size, am, ax), (w3.heap.size, zm, zx), (w2.heap.size, pm, px), (w1.heap.size, qm, qx)]) := Lib.hid ((FR.out.lay (bm) (bx) 23).later hx)
  clear cy0 cy1 cz0 cz1
  clear hx FR; have FR := FR2; clear FR2
  have cx0 := FR.out.g0 (b := w1.heap.size) (.tail _ (.tail _ (.tail _ (.tail _ (.head _))))); have cx1 := FR.out.g1 (b := w1.heap.size) (.tail _ (.tail _ (.tail _ (.tail _ (.head _)))))
  have cz0 := FR.out.g0 (b := w3.heap.size) (.tail _ (.tail _ (.head _))); have cz1 := FR.out.g1 (b := w3.heap.size) (.tail _ (.tail _ (.head _)))
  go_wp2_with fail
  refine (SU2 _).mono ?_
  rintro e w8 ⟨rfl, hx⟩
  have FR2 : Hid (Fr w w8 [(w7.heap.size, um, ux), (w6.heap.size, bm, bx), (w5.heap.size, am, ax), (w3.heap.size, zm, zx), (w2.heap.size, pm, px), (w1.heap.size, qm, qx)]) := Lib.hid ((FR.out.lay (um) (ux) 23).later hx)
  clear cx0 cx1 cz0 cz1
  clear hx FR; have FR := FR2; clear FR2
  have ca0 := FR.out.g0 (b := w5.heap.size) (.tail _ (.tail _ (.head _))); have ca1 := FR.out.g1 (b := w5.heap.size) (.tail _ (.tail _ (.head _)))
  have cb0 := FR.out.g0 (b := w6.heap.size) (.tail _ (.head _)); have cb1 := FR.out.g1 (b := w6.heap.size) (.tail _ (.head _))
  go_wp2_with fail
  refine (O1 _).mono ?_
  rintro e w9 ⟨rfl, hx⟩
  have FR2 : Hid (Fr w w9 [(w8.heap.size, vm, vx), (w7.heap.size, um, ux), (w6.heap.size, bm, bx), (w5.heap.size, am, ax), (w3.heap.size, zm, zx), (w2.heap.size, pm, px), (w1.heap.size, qm, qx)]) := Lib.hid ((FR.out.lay (vm) (vx) 23).later hx)
  clear ca0 ca1 cb0 cb1
  clear hx FR; have FR := FR2; clear FR2
  have cu0 := FR.out.c0 (b := w7.heap.size) (.tail _ (.head _)); have cu1 := FR.out.c1 (b := w7.heap.size) (.tail _ (.head _))
  have cv0 := FR.out.c0 (b := w8.heap.size) (.head _); have cv1 := FR.out.c1 (b := w8.heap.size) (.head _)
  go_wp2_with fail
  refine (O2 _).mono ?_
  rintro e w10 ⟨rfl, hx⟩
  have FR2 : Hid (Fr w w10 [(w8.heap.size, vm, vx), (w7.heap.size, um, ux), (w6.heap.size, bm, bx), (w5.heap.size, am, ax), (w3.heap.size, zm, zx), (w2.heap.size, pm, px), (w1.heap.size, qm, qx)]) := Lib.hid (FR.out.later hx)
  clear cu0 cu1 cv0 cv1
  clear hx FR; have FR := FR2; clear FR2
  have cx0 := FR.out.c0 (b := w1.heap.size) (.tail _ (.tail _ (.tail _ (.tail _ (.tail _ (.tail _ (.head _))))))); have cx1 := FR.out.c1 (b := w1.heap.size) (.tail _ (.tail _ (.tail _ (.tail _ (.tail _ (.tail _ (.head _)))))))
  go_wp2_with fail
  refine (SQ1 _).mono ?_
  rintro e w11 ⟨rfl, hx⟩
  have FR2 : Hid (Fr w w11 [(w8.heap.size, vm, vx), (w7.heap.size, um, ux), (w6.heap.size, bm, bx), (w5.heap.size, am, ax), (w3.heap.size, zm, zx), (w2.heap.size, pm, px), (w1.heap.size, qm, qx)]) := Lib.hid (FR.out.later hx)
  clear cx0 cx1
  clear hx FR; have FR := FR2; clear FR2
  have cy0 := FR.out.g0 (b := w2.heap.size) (.tail _ (.tail _ (.tail _ (.tail _ (.tail _ (.head _)))))); have cy1 := FR.out.g1 (b := w2.heap.size) (.tail _ (.tail _ (.tail _ (.tail _ (.tail _ (.head _))))))
  go_wp2_with fail
  refine (SQ2 _).mono ?_
  rintro e w12 ⟨rfl, hx⟩
  have FR2 : Hid (Fr w w12 [(w11.heap.size, rm, rx), (w8.heap.size, vm, vx), (w7.heap.size, um, ux), (w6.heap.size, bm, bx), (w5.heap.size, am, ax), (w3.heap.size, zm, zx), (w2.heap.size, pm, px), (w1.heap.size, qm, qx)]) := Lib.hid ((FR.out.lay (rm) (rx) 23).later hx)
  clear cy0 cy1
  clear hx FR; have FR := FR2; clear FR2
  have cr0 := FR.out.g0 (b := w11.heap.size) (.head _); have cr1 := FR.out.g1 (b := w11.heap.size) (.head _)
  go_wp2_with fail
  refine (O3 _).mono ?_
  rintro e w13 ⟨rfl, hx⟩
  have FR2 : Hid (Fr w w13 [(w12.heap.size, sm, sx), (w11.heap.size, rm, rx), (w8.heap.size, vm, vx), (w7.heap.size, um, ux), (w6.heap.size, bm, bx), (w5.heap.size, am, ax), (w3.heap.size, zm, zx), (w2.heap.size, pm, px), (w1.heap.size, qm, qx)]) := Lib.hid ((FR.out.lay (sm) (sx) 23).later hx)
  clear cr0 cr1
  clear hx FR; have FR := FR2; clear FR2
  have cx0 := FR.out.c0 (b := w1.heap.size) (.tail _ (.tail _ (.tail _ (.tail _ (.tail _ (.tail _ (.tail _ (.tail _ (.head _))))))))); have cx1 := FR.out.c1 (b := w1.heap.size) (.tail _ (.tail _ (.tail _ (.tail _ (.tail _ (.tail _ (.tail _ (.tail _ (.head _)))))))))
  have cz0 := FR.out.c0 (b := w3.heap.size) (.tail _ (.tail _ (.tail _ (.tail _ (.tail _ (.tail _ (.head _))))))); have cz1 := FR.out.c1 (b := w3.heap.size) (.tail _ (.tail _ (.tail _ (.tail _ (.tail _ (.tail _ (.head _)))))))
  go_wp2_with fail
  refine (MU1 _).mono ?_
  rintro e w14 ⟨rfl, hx⟩
  have FR2 : Hid (Fr w w14 [(w12.heap.size, sm, sx), (w11.heap.size, rm, rx), (w8.heap.size, vm, vx), (w7.heap.size, um, ux), (w6.heap.size, bm, bx), (w5.heap.size, am, ax), (w3.heap.size, zm, zx), (w2.heap.size, pm, px), (w1.heap.size, qm, qx)]) := Lib.hid (FR.out.later hx)
  clear cx0 cx1 cz0 cz1
  clear hx FR; have FR := FR2; clear FR2
  have st0 := FR.out.c0 (b := w5.heap.size) (.tail _ (.tail _ (.tail _ (.tail _ (.tail _ (.head _)))))); have st1 := FR.out.c1 (b := w5.heap.size) (.tail _ (.tail _ (.tail _ (.tail _ (.tail _ (.head _)))))); have stf := FR.out.fz (b := w5.heap.size) (.tail _ (.tail _ (.tail _ (.tail _ (.tail _ (.head _))))))
  have FS := FR.out.set 5 rfl (a'm) (a'x)
  have FS : Fr w ((w14.setCell ⟨w5.heap.size, 0, none⟩ (.int .i64 (a'm))).setCell ⟨w5.heap.size, 1, none⟩ (.int .i64 (a'x))) [(w12.heap.size, sm, sx), (w11.heap.size, rm, rx), (w8.heap.size, vm, vx), (w7.heap.size, um, ux), (w6.heap.size, bm, bx), (w5.heap.size, a'm, a'x), (w3.heap.size, zm, zx), (w2.heap.size, pm, px), (w1.heap.size, qm, qx)] := FS
  have cy0 := FS.c0 (b := w2.heap.size) (.tail _ (.tail _ (.tail _ (.tail _ (.tail _ (.tail _ (.tail _ (.head _)))))))); have cy1 := FS.c1 (b := w2.heap.size) (.tail _ (.tail _ (.tail _ (.tail _ (.tail _ (.tail _ (.tail _ (.head _))))))))
  have cz0 := FS.c0 (b := w3.heap.size) (.tail _ (.tail _ (.tail _ (.tail _ (.tail _ (.tail _ (.head _))))))); have cz1 := FS.c1 (b := w3.heap.size) (.tail _ (.tail _ (.tail _ (.tail _ (.tail _ (.tail _ (.head _)))))))
  go_wp2_with fail
  refine (MU2 _).mono ?_
  rintro e w15 ⟨rfl, hx⟩
  have FR2 : Hid (Fr w w15 [(w12.heap.size, sm, sx), (w11.heap.size, rm, rx), (w8.heap.size, vm, vx), (w7.heap.size, um, ux), (w6.heap.size, bm, bx), (w5.heap.size, a'm, a'x), (w3.heap.size, zm, zx), (w2.heap.size, pm, px), (w1.heap.size, qm, qx)]) := Lib.hid (FS.later hx)
  clear cy0 cy1 cz0 cz1 st0 st1 stf
  clear FS
  clear hx FR; have FR := FR2; clear FR2
  have st0 := FR.out.c0 (b := w6.heap.size) (.tail _ (.tail _ (.tail _ (.tail _ (.head _))))); have st1 := FR.out.c1 (b := w6.heap.size) (.tail _ (.tail _ (.tail _ (.tail _ (.head _))))); have stf := FR.out.fz (b := w6.heap.size) (.tail _ (.tail _ (.tail _ (.tail _ (.head _)))))
  have FS := FR.out.set 4 rfl (b'm) (b'x)
  have FS : Fr w ((w15.setCell ⟨w6.heap.size, 0, none⟩ (.int .i64 (b'm))).setCell ⟨w6.heap.size, 1, none⟩ (.int .i64 (b'x))) [(w12.heap.size, sm, sx), (w11.heap.size, rm, rx), (w8.heap.size, vm, vx), (w7.heap.size, um, ux), (w6.heap.size, b'm, b'x), (w5.heap.size, a'm, a'x), (w3.heap.size, zm, zx), (w2.heap.size, pm, px), (w1.heap.size, qm, qx)] := FS
  have cx0 := FS.c0 (b := w1.heap.size) (.tail _ (.tail _ (.tail _ (.tail _ (.tail _ (.tail _ (.tail _ (.tail _ (.head _))))))))); have cx1 := FS.c1 (b := w1.heap.size) (.tail _ (.tail _ (.tail _ (.tail _ (.tail _ (.tail _ (.tail _ (.tail _ (.head _)))))))))
  have cz0 := FS.c0 (b := w3.heap.size) (.tail _ (.tail _ (.tail _ (.tail _ (.tail _ (.tail _ (.head _))))))); have cz1 := FS.c1 (b := w3.heap.size) (.tail _ (.tail _ (.tail _ (.tail _ (.tail _ (.tail _ (.head _)))))))
  go_wp2_with fail
  refine (DV1 _).mono ?_
  rintro e w16 ⟨rfl, hx⟩
  have FR2 : Hid (Fr w w16 [(w12.heap.size, sm, sx), (w11.heap.size, rm, rx), (w8.heap.size, vm, vx), (w7.heap.size, um, ux), (w6.heap.size, b'm, b'x), (w5.heap.size, a'm, a'x), (w3.heap.size, zm, zx), (w2.heap.size, pm, px), (w1.heap.size, qm, qx)]) := Lib.hid (FS.later hx)
  clear cx0 cx1 cz0 cz1 st0 st1 stf
  clear FS
  clear hx FR; have FR := FR2; clear FR2
  have st0 := FR.out.c0 (b := w7.heap.size) (.tail _ (.tail _ (.tail _ (.head _)))); have st1 := FR.out.c1 (b := w7.heap.size) (.tail _ (.tail _ (.tail _ (.head _)))); have stf := FR.out.fz (b := w7.heap.size) (.tail _ (.tail _ (.tail _ (.head _))))
  have FS := FR.out.set 3 rfl (u'm) (u'x)
  have FS : Fr w ((w16.setCell ⟨w7.heap.size, 0, none⟩ (.int .i64 (u'm))).setCell ⟨w7.heap.size, 1, none⟩ (.int .i64 (u'x))) [(w12.heap.size, sm, sx), (w11.heap.size, rm, rx), (w8.heap.size, vm, vx), (w7.heap.size, u'm, u'x), (w6.heap.size, b'm, b'x), (w5.heap.size, a'm, a'x), (w3.heap.size, zm, zx), (w2.heap.size, pm, px), (w1.heap.size, qm, qx)] := FS
  have cy0 := FS.c0 (b := w2.heap.size) (.tail _ (.tail _ (.tail _ (.tail _ (.tail _ (.tail _ (.tail _ (.head _)))))))); have cy1 := FS.c1 (b := w2.heap.size) (.tail _ (.tail _ (.tail _ (.tail _ (.tail _ (.tail _ (.tail _ (.head _))))))))
  have cz0 := FS.c0 (b := w3.heap.size) (.tail _ (.tail _ (.tail _ (.tail _ (.tail _ (.tail _ (.head _))))))); have cz1 := FS.c1 (b := w3.heap.size) (.tail _ (.tail _ (.tail _ (.tail _ (.tail _ (.tail _ (.head _)))))))
  go_wp2_with fail
  refine (DV2 _).mono ?_
  rintro e w17 ⟨rfl, hx⟩
  have FR2 : Hid (Fr w w17 [(w12.heap.size, sm, sx), (w11.heap.size, rm, rx), (w8.heap.size, vm, vx), (w7.heap.size, u'm, u'x), (w6.heap.size, b'm, b'x), (w5.heap.size, a'm, a'x), (w3.heap.size, zm, zx), (w2.heap.size, pm, px), (w1.heap.size, qm, qx)]) := Lib.hid (FS.later hx)
  clear cy0 cy1 cz0 cz1 st0 st1 stf
  clear FS
  clear hx FR; have FR := FR2; clear FR2
  have st0 := FR.out.c0 (b := w8.heap.size) (.tail _ (.tail _ (.head _))); have st1 := FR.out.c1 (b := w8.heap.size) (.tail _ (.tail _ (.head _))); have stf := FR.out.fz (b := w8.heap.size) (.tail _ (.tail _ (.head _)))
  have FS := FR.out.set 2 rfl (v'm) (v'x)
  have FS : Fr w ((w17.setCell ⟨w8.heap.size, 0, none⟩ (.int .i64 (v'm))).setCell ⟨w8.heap.size, 1, none⟩ (.int .i64 (v'x))) [(w12.heap.size, sm, sx), (w11.heap.size, rm, rx), (w8.heap.size, v'm, v'x), (w7.heap.size, u'm, u'x), (w6.heap.size, b'm, b'x), (w5.heap.size, a'm, a'x), (w3.heap.size, zm, zx), (w2.heap.size, pm, px), (w1.heap.size, qm, qx)] := FS
  go_wp2_with fail
  refine (SN _ (HT.out.later FS.x)).mono ?_
  rintro e w18 ⟨rfl, hx⟩
  have FR2 : Hid (Fr w w18 [(w12.heap.size, sm, sx), (w11.heap.size, rm, rx), (w8.heap.size, v'm, v'x), (w7.heap.size, u'm, u'x), (w6.heap.size, b'm, b'x), (w5.heap.size, a'm, a'x), (w3.heap.size, zm, zx), (w2.heap.size, pm, px), (w1.heap.size, qm, qx)]) := Lib.hid (FS.later hx)
  clear st0 st1 stf
  clear FS
  clear hx FR; have FR := FR2; clear FR2
  have ca0 := FR.out.c0 (b := w5.heap.size) (.tail _ (.tail _ (.tail _ (.tail _ (.tail _ (.head _)))))); have ca1 := FR.out.c1 (b := w5.heap.size) (.tail _ (.tail _ (.tail _ (.tail _ (.tail _ (.head _))))))
  have cb0 := FR.out.c0 (b := w6.heap.size) (.tail _ (.tail _ (.tail _ (.tail _ (.head _))))); have cb1 := FR.out.c1 (b := w6.heap.size) (.tail _ (.tail _ (.tail _ (.tail _ (.head _)))))
  go_wp2_with fail
  refine (O4 _).mono ?_
  rintro e w19 ⟨rfl, hx⟩
  have FR2 : Hid (Fr w w19 [(w12.heap.size, sm, sx), (w11.heap.size, rm, rx), (w8.heap.size, v'm, v'x), (w7.heap.size, u'm, u'x), (w6.heap.size, b'm, b'x), (w5.heap.size, a'm, a'x), (w3.heap.size, zm, zx), (w2.heap.size, pm, px), (w1.heap.size, qm, qx)]) := Lib.hid (FR.out.later hx)
  clear ca0 ca1 cb0 cb1
  clear hx FR; have FR := FR2; clear FR2
  have cu0 := FR.out.c0 (b := w7.heap.size) (.tail _ (.tail _ (.tail _ (.head _)))); have cu1 := FR.out.c1 (b := w7.heap.size) (.tail _ (.tail _ (.tail _ (.head _))))
  have cv0 := FR.out.c0 (b := w8.heap.size) (.tail _ (.tail _ (.head _))); have cv1 := FR.out.c1 (b := w8.heap.size) (.tail _ (.tail _ (.head _)))
  go_wp2_with fail
  refine (O5 _).mono ?_
  rintro e w20 ⟨rfl, hx⟩
  have FR2 : Hid (Fr w w20 [(w12.heap.size, sm, sx), (w11.heap.size, rm, rx), (w8.heap.size, v'm, v'x), (w7.heap.size, u'm, u'x), (w6.heap.size, b'm, b'x), (w5.heap.size, a'm, a'x), (w3.heap.size, zm, zx), (w2.heap.size, pm, px), (w1.heap.size, qm, qx)]) := Lib.hid (FR.out.later hx)
  clear cu0 cu1 cv0 cv1
  clear hx FR; have FR := FR2; clear FR2
  go_wp2
  go_ret
  exact ⟨rfl, FR.out.x⟩
end Go.Proofs.YtehmpffffjcloaaGreatDoor
