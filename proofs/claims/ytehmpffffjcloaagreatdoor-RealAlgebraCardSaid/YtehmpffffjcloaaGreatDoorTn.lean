/- Layer 2: the walk of RealAlgebra. -/
import Derived.Test.YtehmpffffjcloaaGreatDoorTi
import Derived.Test.YtehmpffffjcloaaGreatDoorGr
import Derived.Deep.Cut
namespace Go.Proofs.YtehmpffffjcloaaGreatDoor
open Go.RowKit

set_option maxRecDepth 100000 in
set_option maxHeartbeats 16000000 in
theorem alg (w : World) (ht : Tb w) (i j : Int) (pm px qm qx om ox rm rx sm sx am ax cm cx mm mx km kx dm dx gm gx bm bx ae me de f lo hi : Int) (A : Ret 56 #[.int .i64 i] (.agg #[.int .i64 pm, .int .i64 px])) (B : Ret 56 #[.int .i64 j] (.agg #[.int .i64 qm, .int .i64 qx])) (FI : Ret 20 #[.int .i64 1] (.agg #[.int .i64 om, .int .i64 ox])) (NX : Ret 26 #[.agg #[.int .i64 pm, .int .i64 px]] (.tuple #[.agg #[.int .i64 rm, .int .i64 rx], .int .i64 0])) (NY : Ret 26 #[.agg #[.int .i64 qm, .int .i64 qx]] (.tuple #[.agg #[.int .i64 sm, .int .i64 sx], .int .i64 0])) (AD1 : Ret 35 #[.agg #[.int .i64 pm, .int .i64 px], .agg #[.int .i64 qm, .int .i64 qx]] (.tuple #[.agg #[.int .i64 am, .int .i64 ax], .int .i64 ae])) (AD2 : Ret 35 #[.agg #[.int .i64 qm, .int .i64 qx], .agg #[.int .i64 pm, .int .i64 px]] (.tuple #[.agg #[.int .i64 am, .int .i64 ax], .int .i64 ae])) (AD3 : Ret 35 #[.agg #[.int .i64 rm, .int .i64 rx], .agg #[.int .i64 sm, .int .i64 sx]] (.tuple #[.agg #[.int .i64 cm, .int .i64 cx], .int .i64 ae])) (NC : Ret 26 #[.agg #[.int .i64 cm, .int .i64 cx]] (.tuple #[.agg #[.int .i64 am, .int .i64 ax], .int .i64 0])) (MU1 : Ret 40 #[.agg #[.int .i64 pm, .int .i64 px], .agg #[.int .i64 qm, .int .i64 qx]] (.tuple #[.agg #[.int .i64 mm, .int .i64 mx], .int .i64 me])) (MU2 : Ret 40 #[.agg #[.int .i64 qm, .int .i64 qx], .agg #[.int .i64 pm, .int .i64 px]] (.tuple #[.agg #[.int .i64 mm, .int .i64 mx], .int .i64 me])) (MU3 : Ret 40 #[.agg #[.int .i64 rm, .int .i64 rx], .agg #[.int .i64 qm, .int .i64 qx]] (.tuple #[.agg #[.int .i64 km, .int .i64 kx], .int .i64 me])) (NK : Ret 26 #[.agg #[.int .i64 km, .int .i64 kx]] (.tuple #[.agg #[.int .i64 mm, .int .i64 mx], .int .i64 0])) (AZ : Ret 35 #[.agg #[.int .i64 pm, .int .i64 px], .agg #[.int .i64 0, .int .i64 0]] (.tuple #[.agg #[.int .i64 pm, .int .i64 px], .int .i64 0])) (MO : Ret 40 #[.agg #[.int .i64 pm, .int .i64 px], .agg #[.int .i64 om, .int .i64 ox]] (.tuple #[.agg #[.int .i64 pm, .int .i64 px], .int .i64 0])) (DO : Ret 41 #[.agg #[.int .i64 pm, .int .i64 px], .agg #[.int .i64 om, .int .i64 ox]] (.tuple #[.agg #[.int .i64 pm, .int .i64 px], .int .i64 0])) (SU : Ret 36 #[.agg #[.int .i64 pm, .int .i64 px], .agg #[.int .i64 qm, .int .i64 qx]] (.tuple #[.agg #[.int .i64 dm, .int .i64 dx], .int .i64 de])) (hb : de = 0 → (dm == 0 && dx == 0) = (pm == qm && px == qx)) (TW : Ret 62 #[.int .i64 (-1)] (.agg #[.int .i64 8388608, .int .i64 (-24)])) (HM : Ret 40 #[.agg #[.int .i64 qm, .int .i64 qx], .agg #[.int .i64 8388608, .int .i64 (-24)]] (.tuple #[.agg #[.int .i64 gm, .int .i64 gx], .int .i64 0])) (TY : Ret 35 #[.agg #[.int .i64 qm, .int .i64 qx], .agg #[.int .i64 qm, .int .i64 qx]] (.tuple #[.agg #[.int .i64 bm, .int .i64 bx], .int .i64 f])) (CL : Ret 29 #[.agg #[.int .i64 gm, .int .i64 gx], .agg #[.int .i64 pm, .int .i64 px]] (.tuple #[.int .i64 lo, .int .i64 0])) (CH : Ret 29 #[.agg #[.int .i64 pm, .int .i64 px], .agg #[.int .i64 bm, .int .i64 bx]] (.tuple #[.int .i64 hi, .int .i64 0])) (fin : f = 0 → lo ≤ 0 → hi ≤ 0 → de = 0 ∧ Ret 35 #[.agg #[.int .i64 dm, .int .i64 dx], .agg #[.int .i64 qm, .int .i64 qx]] (.tuple #[.agg #[.int .i64 pm, .int .i64 px], .int .i64 0])) (SN : ∀ u, Tb u → Calls Tryz.prog 30 #[] u fun e u' => e = .returned (.bool true) ∧ Ext u u') :
    Calls Tryz.prog 13 #[.int .i64 i, .int .i64 j] w fun e w' => e = .returned (.bool true) ∧ Ext w w' := by
  have HT := Lib.hid ht; clear ht
  have HB := Lib.hid hb; clear hb
  have EQ1 := equal_same am ax ae
  have EQ2 := equal_same mm mx me
  have IS : Ret 18 #[.agg #[.int .i64 pm, .int .i64 px], .int .i64 0, .agg #[.int .i64 pm, .int .i64 px]] (.bool true) := is_true pm px
  have FR := Lib.hid (Fr.nil w)
  have eqR := eqReal
  go_enter Tryz.func13, Tryz.ntmps13
  go_wp2_with fail
  refine (A _).mono ?_
  rintro e w1 ⟨rfl, hx⟩
  have FR2 : Hid (Fr w w1 []) := Lib.hid (FR.out.later hx)
  clear hx FR; have FR := FR2; clear FR2
  go_wp2_with fail
  refine (B _).mono ?_
  rintro e w2 ⟨rfl, hx⟩
  have FR2 : Hid (Fr w w2 [(w1.heap.size, pm, px)]) := Lib.hid ((FR.out.lay (pm) (px) 23).later hx)
  clear hx FR; have FR := FR2; clear FR2
  go_wp2_with fail
  refine (FI _).mono ?_
  rintro e w3 ⟨rfl, hx⟩
  have FR2 : Hid (Fr w w3 [(w2.heap.size + 1, 0, 0), (w2.heap.size, qm, qx), (w1.heap.size, pm, px)]) := Lib.hid ((FR.out.lay2 (qm) (qx) (0) (0) 23).later hx)
  clear hx FR; have FR := FR2; clear FR2
  have cx0 := FR.out.g0 (b := w1.heap.size) (.tail _ (.tail _ (.head _))); have cx1 := FR.out.g1 (b := w1.heap.size) (.tail _ (.tail _ (.head _)))
  go_wp2_with fail
  refine (NX _).mono ?_
  rintro e w4 ⟨rfl, hx⟩
  have FR2 : Hid (Fr w w4 [(w3.heap.size, om, ox), (w2.heap.size + 1, 0, 0), (w2.heap.size, qm, qx), (w1.heap.size, pm, px)]) := Lib.hid ((FR.out.lay (om) (ox) 23).later hx)
  clear cx0 cx1
  clear hx FR; have FR := FR2; clear FR2
  have cy0 := FR.out.g0 (b := w2.heap.size) (.tail _ (.tail _ (.head _))); have cy1 := FR.out.g1 (b := w2.heap.size) (.tail _ (.tail _ (.head _)))
  go_wp2_with fail
  refine (NY _).mono ?_
  rintro e w5 ⟨rfl, hx⟩
  have FR2 : Hid (Fr w w5 [(w4.heap.size, rm, rx), (w3.heap.size, om, ox), (w2.heap.size + 1, 0, 0), (w2.heap.size, qm, qx), (w1.heap.size, pm, px)]) := Lib.hid ((FR.out.lay (rm) (rx) 23).later hx)
  clear cy0 cy1
  clear hx FR; have FR := FR2; clear FR2
  have cx0 := FR.out.g0 (b := w1.heap.size) (.tail _ (.tail _ (.tail _ (.tail _ (.head _))))); have cx1 := FR.out.g1 (b := w1.heap.size) (.tail _ (.tail _ (.tail _ (.tail _ (.head _)))))
  have cy0 := FR.out.g0 (b := w2.heap.size) (.tail _ (.tail _ (.tail _ (.head _)))); have cy1 := FR.out.g1 (b := w2.heap.size) (.tail _ (.tail _ (.tail _ (.head _))))
  go_wp2_with fail
  refine (AD1 _).mono ?_
  rintro e w6 ⟨rfl, hx⟩
  have FR2 : Hid (Fr w w6 [(w5.heap.size, sm, sx), (w4.heap.size, rm, rx), (w3.heap.size, om, ox), (w2.heap.size + 1, 0, 0), (w2.heap.size, qm, qx), (w1.heap.size, pm, px)]) := Lib.hid ((FR.out.lay (sm) (sx) 23).later hx)
  clear cx0 cx1 cy0 cy1
  clear hx FR; have FR := FR2; clear FR2
  have cx0 := FR.out.g0 (b := w1.heap.size) (.tail _ (.tail _ (.tail _ (.tail _ (.tail _ (.head _)))))); have cx1 := FR.out.g1 (b := w1.heap.size) (.tail _ (.tail _ (.tail _ (.tail _ (.tail _ (.head _))))))
  have cy0 := FR.out.g0 (b := w2.heap.size) (.tail _ (.tail _ (.tail _ (.tail _ (.head _))))); have cy1 := FR.out.g1 (b := w2.heap.size) (.tail _ (.tail _ (.tail _ (.tail _ (.head _)))))
  go_wp2_with fail
  refine (AD2 _).mono ?_
  rintro e w7 ⟨rfl, hx⟩
  have FR2 : Hid (Fr w w7 [(w6.heap.size, am, ax), (w5.heap.size, sm, sx), (w4.heap.size, rm, rx), (w3.heap.size, om, ox), (w2.heap.size + 1, 0, 0), (w2.heap.size, qm, qx), (w1.heap.size, pm, px)]) := Lib.hid ((FR.out.lay (am) (ax) 23).later hx)
  clear cx0 cx1 cy0 cy1
  clear hx FR; have FR := FR2; clear FR2
  have cnx0 := FR.out.g0 (b := w4.heap.size) (.tail _ (.tail _ (.head _))); have cnx1 := FR.out.g1 (b := w4.heap.size) (.tail _ (.tail _ (.head _)))
  have cny0 := FR.out.g0 (b := w5.heap.size) (.tail _ (.head _)); have cny1 := FR.out.g1 (b := w5.heap.size) (.tail _ (.head _))
  go_wp2_with fail
  refine (AD3 _).mono ?_
  rintro e w8 ⟨rfl, hx⟩
  have FR2 : Hid (Fr w w8 [(w7.heap.size, am, ax), (w6.heap.size, am, ax), (w5.heap.size, sm, sx), (w4.heap.size, rm, rx), (w3.heap.size, om, ox), (w2.heap.size + 1, 0, 0), (w2.heap.size, qm, qx), (w1.heap.size, pm, px)]) := Lib.hid ((FR.out.lay (am) (ax) 23).later hx)
  clear cnx0 cnx1 cny0 cny1
  clear hx FR; have FR := FR2; clear FR2
  go_wp2_with fail
  refine (NC _).mono ?_
  rintro e w9 ⟨rfl, hx⟩
  have FR2 : Hid (Fr w w9 [(w8.heap.size, cm, cx), (w7.heap.size, am, ax), (w6.heap.size, am, ax), (w5.heap.size, sm, sx), (w4.heap.size, rm, rx), (w3.heap.size, om, ox), (w2.heap.size + 1, 0, 0), (w2.heap.size, qm, qx), (w1.heap.size, pm, px)]) := Lib.hid ((FR.out.lay (cm) (cx) 23).later hx)
  clear hx FR; have FR := FR2; clear FR2
  have ca0 := FR.out.g0 (b := w6.heap.size) (.tail _ (.tail _ (.head _))); have ca1 := FR.out.g1 (b := w6.heap.size) (.tail _ (.tail _ (.head _)))
  have cb0 := FR.out.g0 (b := w7.heap.size) (.tail _ (.head _)); have cb1 := FR.out.g1 (b := w7.heap.size) (.tail _ (.head _))
  go_wp2_with fail
  refine (EQ1 _).mono ?_
  rintro e w10 ⟨rfl, hx⟩
  have FR2 : Hid (Fr w w10 [(w9.heap.size, am, ax), (w8.heap.size, cm, cx), (w7.heap.size, am, ax), (w6.heap.size, am, ax), (w5.heap.size, sm, sx), (w4.heap.size, rm, rx), (w3.heap.size, om, ox), (w2.heap.size + 1, 0, 0), (w2.heap.size, qm, qx), (w1.heap.size, pm, px)]) := Lib.hid ((FR.out.lay (am) (ax) 23).later hx)
  clear ca0 ca1 cb0 cb1
  clear hx FR; have FR := FR2; clear FR2
  have cx0 := FR.out.c0 (b := w1.heap.size) (.tail _ (.tail _ (.tail _ (.tail _ (.tail _ (.tail _ (.tail _ (.tail _ (.tail _ (.head _)))))))))); have cx1 := FR.out.c1 (b := w1.heap.size) (.tail _ (.tail _ (.tail _ (.tail _ (.tail _ (.tail _ (.tail _ (.tail _ (.tail _ (.head _))))))))))
  have cy0 := FR.out.c0 (b := w2.heap.size) (.tail _ (.tail _ (.tail _ (.tail _ (.tail _ (.tail _ (.tail _ (.tail _ (.head _))))))))); have cy1 := FR.out.c1 (b := w2.heap.size) (.tail _ (.tail _ (.tail _ (.tail _ (.tail _ (.tail _ (.tail _ (.tail _ (.head _)))))))))
  have cna0 := FR.out.c0 (b := w9.heap.size) (.head _); have cna1 := FR.out.c1 (b := w9.heap.size) (.head _)
  have ca0 := FR.out.c0 (b := w6.heap.size) (.tail _ (.tail _ (.tail _ (.head _)))); have ca1 := FR.out.c1 (b := w6.heap.size) (.tail _ (.tail _ (.tail _ (.head _))))
  go_wp2_with fail
  refine (MU1 _).mono ?_
  rintro e w11 ⟨rfl, hx⟩
  have FR2 : Hid (Fr w w11 [(w9.heap.size, am, ax), (w8.heap.size, cm, cx), (w7.heap.size, am, ax), (w6.heap.size, am, ax), (w5.heap.size, sm, sx), (w4.heap.size, rm, rx), (w3.heap.size, om, ox), (w2.heap.size + 1, 0, 0), (w2.heap.size, qm, qx), (w1.heap.size, pm, px)]) := Lib.hid (FR.out.later hx)
  clear cx0 cx1 cy0 cy1 cna0 cna1 ca0 ca1
  clear hx FR; have FR := FR2; clear FR2
  have st0 := FR.out.c0 (b := w6.heap.size) (.tail _ (.tail _ (.tail _ (.head _)))); have st1 := FR.out.c1 (b := w6.heap.size) (.tail _ (.tail _ (.tail _ (.head _)))); have stf := FR.out.fz (b := w6.heap.size) (.tail _ (.tail _ (.tail _ (.head _))))
  have FS := FR.out.set 3 rfl (mm) (mx)
  have FS : Fr w ((w11.setCell ⟨w6.heap.size, 0, none⟩ (.int .i64 (mm))).setCell ⟨w6.heap.size, 1, none⟩ (.int .i64 (mx))) [(w9.heap.size, am, ax), (w8.heap.size, cm, cx), (w7.heap.size, am, ax), (w6.heap.size, mm, mx), (w5.heap.size, sm, sx), (w4.heap.size, rm, rx), (w3.heap.size, om, ox), (w2.heap.size + 1, 0, 0), (w2.heap.size, qm, qx), (w1.heap.size, pm, px)] := FS
  have cx0 := FS.c0 (b := w1.heap.size) (.tail _ (.tail _ (.tail _ (.tail _ (.tail _ (.tail _ (.tail _ (.tail _ (.tail _ (.head _)))))))))); have cx1 := FS.c1 (b := w1.heap.size) (.tail _ (.tail _ (.tail _ (.tail _ (.tail _ (.tail _ (.tail _ (.tail _ (.tail _ (.head _))))))))))
  have cy0 := FS.c0 (b := w2.heap.size) (.tail _ (.tail _ (.tail _ (.tail _ (.tail _ (.tail _ (.tail _ (.tail _ (.head _))))))))); have cy1 := FS.c1 (b := w2.heap.size) (.tail _ (.tail _ (.tail _ (.tail _ (.tail _ (.tail _ (.tail _ (.tail _ (.head _)))))))))
  go_wp2_with fail
  refine (MU2 _).mono ?_
  rintro e w12 ⟨rfl, hx⟩
  have FR2 : Hid (Fr w w12 [(w9.heap.size, am, ax), (w8.heap.size, cm, cx), (w7.heap.size, am, ax), (w6.heap.size, mm, mx), (w5.heap.size, sm, sx), (w4.heap.size, rm, rx), (w3.heap.size, om, ox), (w2.heap.size + 1, 0, 0), (w2.heap.size, qm, qx), (w1.heap.size, pm, px)]) := Lib.hid (FS.later hx)
  clear cx0 cx1 cy0 cy1 st0 st1 stf
  clear FS
  clear hx FR; have FR := FR2; clear FR2
  have st0 := FR.out.c0 (b := w7.heap.size) (.tail _ (.tail _ (.head _))); have st1 := FR.out.c1 (b := w7.heap.size) (.tail _ (.tail _ (.head _))); have stf := FR.out.fz (b := w7.heap.size) (.tail _ (.tail _ (.head _)))
  have FS := FR.out.set 2 rfl (mm) (mx)
  have FS : Fr w ((w12.setCell ⟨w7.heap.size, 0, none⟩ (.int .i64 (mm))).setCell ⟨w7.heap.size, 1, none⟩ (.int .i64 (mx))) [(w9.heap.size, am, ax), (w8.heap.size, cm, cx), (w7.heap.size, mm, mx), (w6.heap.size, mm, mx), (w5.heap.size, sm, sx), (w4.heap.size, rm, rx), (w3.heap.size, om, ox), (w2.heap.size + 1, 0, 0), (w2.heap.size, qm, qx), (w1.heap.size, pm, px)] := FS
  have cnx0 := FS.c0 (b := w4.heap.size) (.tail _ (.tail _ (.tail _ (.tail _ (.tail _ (.head _)))))); have cnx1 := FS.c1 (b := w4.heap.size) (.tail _ (.tail _ (.tail _ (.tail _ (.tail _ (.head _))))))
  have cy0 := FS.c0 (b := w2.heap.size) (.tail _ (.tail _ (.tail _ (.tail _ (.tail _ (.tail _ (.tail _ (.tail _ (.head _))))))))); have cy1 := FS.c1 (b := w2.heap.size) (.tail _ (.tail _ (.tail _ (.tail _ (.tail _ (.tail _ (.tail _ (.tail _ (.head _)))))))))
  go_wp2_with fail
  refine (MU3 _).mono ?_
  rintro e w13 ⟨rfl, hx⟩
  have FR2 : Hid (Fr w w13 [(w9.heap.size, am, ax), (w8.heap.size, cm, cx), (w7.heap.size, mm, mx), (w6.heap.size, mm, mx), (w5.heap.size, sm, sx), (w4.heap.size, rm, rx), (w3.heap.size, om, ox), (w2.heap.size + 1, 0, 0), (w2.heap.size, qm, qx), (w1.heap.size, pm, px)]) := Lib.hid (FS.later hx)
  clear cnx0 cnx1 cy0 cy1 st0 st1 stf
  clear FS
  clear hx FR; have FR := FR2; clear FR2
  have st0 := FR.out.c0 (b := w8.heap.size) (.tail _ (.head _)); have st1 := FR.out.c1 (b := w8.heap.size) (.tail _ (.head _)); have stf := FR.out.fz (b := w8.heap.size) (.tail _ (.head _))
  have FS := FR.out.set 1 rfl (km) (kx)
  have FS : Fr w ((w13.setCell ⟨w8.heap.size, 0, none⟩ (.int .i64 (km))).setCell ⟨w8.heap.size, 1, none⟩ (.int .i64 (kx))) [(w9.heap.size, am, ax), (w8.heap.size, km, kx), (w7.heap.size, mm, mx), (w6.heap.size, mm, mx), (w5.heap.size, sm, sx), (w4.heap.size, rm, rx), (w3.heap.size, om, ox), (w2.heap.size + 1, 0, 0), (w2.heap.size, qm, qx), (w1.heap.size, pm, px)] := FS
  have cc0 := FS.c0 (b := w8.heap.size) (.tail _ (.head _)); have cc1 := FS.c1 (b := w8.heap.size) (.tail _ (.head _))
  go_wp2_with fail
  refine (NK _).mono ?_
  rintro e w14 ⟨rfl, hx⟩
  have FR2 : Hid (Fr w w14 [(w9.heap.size, am, ax), (w8.heap.size, km, kx), (w7.heap.size, mm, mx), (w6.heap.size, mm, mx), (w5.heap.size, sm, sx), (w4.heap.size, rm, rx), (w3.heap.size, om, ox), (w2.heap.size + 1, 0, 0), (w2.heap.size, qm, qx), (w1.heap.size, pm, px)]) := Lib.hid (FS.later hx)
  clear cc0 cc1 st0 st1 stf
  clear FS
  clear hx FR; have FR := FR2; clear FR2
  have st0 := FR.out.c0 (b := w9.heap.size) (.head _); have st1 := FR.out.c1 (b := w9.heap.size) (.head _); have stf := FR.out.fz (b := w9.heap.size) (.head _)
  have FS := FR.out.set 0 rfl (mm) (mx)
  have FS : Fr w ((w14.setCell ⟨w9.heap.size, 0, none⟩ (.int .i64 (mm))).setCell ⟨w9.heap.size, 1, none⟩ (.int .i64 (mx))) [(w9.heap.size, mm, mx), (w8.heap.size, km, kx), (w7.heap.size, mm, mx), (w6.heap.size, mm, mx), (w5.heap.size, sm, sx), (w4.heap.size, rm, rx), (w3.heap.size, om, ox), (w2.heap.size + 1, 0, 0), (w2.heap.size, qm, qx), (w1.heap.size, pm, px)] := FS
  have ca0 := FS.c0 (b := w6.heap.size) (.tail _ (.tail _ (.tail _ (.head _)))); have ca1 := FS.c1 (b := w6.heap.size) (.tail _ (.tail _ (.tail _ (.head _))))
  have cb0 := FS.c0 (b := w7.heap.size) (.tail _ (.tail _ (.head _))); have cb1 := FS.c1 (b := w7.heap.size) (.tail _ (.tail _ (.head _)))
  go_wp2_with fail
  refine (EQ2 _).mono ?_
  rintro e w15 ⟨rfl, hx⟩
  have FR2 : Hid (Fr w w15 [(w9.heap.size, mm, mx), (w8.heap.size, km, kx), (w7.heap.size, mm, mx), (w6.heap.size, mm, mx), (w5.heap.size, sm, sx), (w4.heap.size, rm, rx), (w3.heap.size, om, ox), (w2.heap.size + 1, 0, 0), (w2.heap.size, qm, qx), (w1.heap.size, pm, px)]) := Lib.hid (FS.later hx)
  clear ca0 ca1 cb0 cb1 st0 st1 stf
  clear FS
  clear hx FR; have FR := FR2; clear FR2
  have cx0 := FR.out.c0 (b := w1.heap.size) (.tail _ (.tail _ (.tail _ (.tail _ (.tail _ (.tail _ (.tail _ (.tail _ (.tail _ (.head _)))))))))); have cx1 := FR.out.c1 (b := w1.heap.size) (.tail _ (.tail _ (.tail _ (.tail _ (.tail _ (.tail _ (.tail _ (.tail _ (.tail _ (.head _))))))))))
  have czero0 := FR.out.c0 (b := w2.heap.size + 1) (.tail _ (.tail _ (.tail _ (.tail _ (.tail _ (.tail _ (.tail _ (.head _)))))))); have czero1 := FR.out.c1 (b := w2.heap.size + 1) (.tail _ (.tail _ (.tail _ (.tail _ (.tail _ (.tail _ (.tail _ (.head _))))))))
  have cna0 := FR.out.c0 (b := w9.heap.size) (.head _); have cna1 := FR.out.c1 (b := w9.heap.size) (.head _)
  have ca0 := FR.out.c0 (b := w6.heap.size) (.tail _ (.tail _ (.tail _ (.head _)))); have ca1 := FR.out.c1 (b := w6.heap.size) (.tail _ (.tail _ (.tail _ (.head _))))
  go_wp2_with fail
  refine (AZ _).mono ?_
  rintro e w16 ⟨rfl, hx⟩
  have FR2 : Hid (Fr w w16 [(w9.heap.size, mm, mx), (w8.heap.size, km, kx), (w7.heap.size, mm, mx), (w6.heap.size, mm, mx), (w5.heap.size, sm, sx), (w4.heap.size, rm, rx), (w3.heap.size, om, ox), (w2.heap.size + 1, 0, 0), (w2.heap.size, qm, qx), (w1.heap.size, pm, px)]) := Lib.hid (FR.out.later hx)
  clear cx0 cx1 czero0 czero1 cna0 cna1 ca0 ca1
  clear hx FR; have FR := FR2; clear FR2
  have st0 := FR.out.c0 (b := w6.heap.size) (.tail _ (.tail _ (.tail _ (.head _)))); have st1 := FR.out.c1 (b := w6.heap.size) (.tail _ (.tail _ (.tail _ (.head _)))); have stf := FR.out.fz (b := w6.heap.size) (.tail _ (.tail _ (.tail _ (.head _))))
  have FS := FR.out.set 3 rfl (pm) (px)
  have FS : Fr w ((w16.setCell ⟨w6.heap.size, 0, none⟩ (.int .i64 (pm))).setCell ⟨w6.heap.size, 1, none⟩ (.int .i64 (px))) [(w9.heap.size, mm, mx), (w8.heap.size, km, kx), (w7.heap.size, mm, mx), (w6.heap.size, pm, px), (w5.heap.size, sm, sx), (w4.heap.size, rm, rx), (w3.heap.size, om, ox), (w2.heap.size + 1, 0, 0), (w2.heap.size, qm, qx), (w1.heap.size, pm, px)] := FS
  have cx0 := FS.c0 (b := w1.heap.size) (.tail _ (.tail _ (.tail _ (.tail _ (.tail _ (.tail _ (.tail _ (.tail _ (.tail _ (.head _)))))))))); have cx1 := FS.c1 (b := w1.heap.size) (.tail _ (.tail _ (.tail _ (.tail _ (.tail _ (.tail _ (.tail _ (.tail _ (.tail _ (.head _))))))))))
  have cone0 := FS.c0 (b := w3.heap.size) (.tail _ (.tail _ (.tail _ (.tail _ (.tail _ (.tail _ (.head _))))))); have cone1 := FS.c1 (b := w3.heap.size) (.tail _ (.tail _ (.tail _ (.tail _ (.tail _ (.tail _ (.head _)))))))
  go_wp2_with fail
  refine (MO _).mono ?_
  rintro e w17 ⟨rfl, hx⟩
  have FR2 : Hid (Fr w w17 [(w9.heap.size, mm, mx), (w8.heap.size, km, kx), (w7.heap.size, mm, mx), (w6.heap.size, pm, px), (w5.heap.size, sm, sx), (w4.heap.size, rm, rx), (w3.heap.size, om, ox), (w2.heap.size + 1, 0, 0), (w2.heap.size, qm, qx), (w1.heap.size, pm, px)]) := Lib.hid (FS.later hx)
  clear cx0 cx1 cone0 cone1 st0 st1 stf
  clear FS
  clear hx FR; have FR := FR2; clear FR2
  have st0 := FR.out.c0 (b := w7.heap.size) (.tail _ (.tail _ (.head _))); have st1 := FR.out.c1 (b := w7.heap.size) (.tail _ (.tail _ (.head _))); have stf := FR.out.fz (b := w7.heap.size) (.tail _ (.tail _ (.head _)))
  have FS := FR.out.set 2 rfl (pm) (px)
  have FS : Fr w ((w17.setCell ⟨w7.heap.size, 0, none⟩ (.int .i64 (pm))).setCell ⟨w7.heap.size, 1, none⟩ (.int .i64 (px))) [(w9.heap.size, mm, mx), (w8.heap.size, km, kx), (w7.heap.size, pm, px), (w6.heap.size, pm, px), (w5.heap.size, sm, sx), (w4.heap.size, rm, rx), (w3.heap.size, om, ox), (w2.heap.size + 1, 0, 0), (w2.heap.size, qm, qx), (w1.heap.size, pm, px)] := FS
  have cx0 := FS.c0 (b := w1.heap.size) (.tail _ (.tail _ (.tail _ (.tail _ (.tail _ (.tail _ (.tail _ (.tail _ (.tail _ (.head _)))))))))); have cx1 := FS.c1 (b := w1.heap.size) (.tail _ (.tail _ (.tail _ (.tail _ (.tail _ (.tail _ (.tail _ (.tail _ (.tail _ (.head _))))))))))
  have cone0 := FS.c0 (b := w3.heap.size) (.tail _ (.tail _ (.tail _ (.tail _ (.tail _ (.tail _ (.head _))))))); have cone1 := FS.c1 (b := w3.heap.size) (.tail _ (.tail _ (.tail _ (.tail _ (.tail _ (.tail _ (.head _)))))))
  go_wp2_with fail
  refine (DO _).mono ?_
  rintro e w18 ⟨rfl, hx⟩
  have FR2 : Hid (Fr w w18 [(w9.heap.size, mm, mx), (w8.heap.size, km, kx), (w7.heap.size, pm, px), (w6.heap.size, pm, px), (w5.heap.size, sm, sx), (w4.heap.size, rm, rx), (w3.heap.size, om, ox), (w2.heap.size + 1, 0, 0), (w2.heap.size, qm, qx), (w1.heap.size, pm, px)]) := Lib.hid (FS.later hx)
  clear cx0 cx1 cone0 cone1 st0 st1 stf
  clear FS
  clear hx FR; have FR := FR2; clear FR2
  have st0 := FR.out.c0 (b := w8.heap.size) (.tail _ (.head _)); have st1 := FR.out.c1 (b := w8.heap.size) (.tail _ (.head _)); have stf := FR.out.fz (b := w8.heap.size) (.tail _ (.head _))
  have FS := FR.out.set 1 rfl (pm) (px)
  have FS : Fr w ((w18.setCell ⟨w8.heap.size, 0, none⟩ (.int .i64 (pm))).setCell ⟨w8.heap.size, 1, none⟩ (.int .i64 (px))) [(w9.heap.size, mm, mx), (w8.heap.size, pm, px), (w7.heap.size, pm, px), (w6.heap.size, pm, px), (w5.heap.size, sm, sx), (w4.heap.size, rm, rx), (w3.heap.size, om, ox), (w2.heap.size + 1, 0, 0), (w2.heap.size, qm, qx), (w1.heap.size, pm, px)] := FS
  have cx0 := FS.c0 (b := w1.heap.size) (.tail _ (.tail _ (.tail _ (.tail _ (.tail _ (.tail _ (.tail _ (.tail _ (.tail _ (.head _)))))))))); have cx1 := FS.c1 (b := w1.heap.size) (.tail _ (.tail _ (.tail _ (.tail _ (.tail _ (.tail _ (.tail _ (.tail _ (.tail _ (.head _))))))))))
  have cy0 := FS.c0 (b := w2.heap.size) (.tail _ (.tail _ (.tail _ (.tail _ (.tail _ (.tail _ (.tail _ (.tail _ (.head _))))))))); have cy1 := FS.c1 (b := w2.heap.size) (.tail _ (.tail _ (.tail _ (.tail _ (.tail _ (.tail _ (.tail _ (.tail _ (.head _)))))))))
  go_wp2_with fail
  refine (SU _).mono ?_
  rintro e w19 ⟨rfl, hx⟩
  have FR2 : Hid (Fr w w19 [(w9.heap.size, mm, mx), (w8.heap.size, pm, px), (w7.heap.size, pm, px), (w6.heap.size, pm, px), (w5.heap.size, sm, sx), (w4.heap.size, rm, rx), (w3.heap.size, om, ox), (w2.heap.size + 1, 0, 0), (w2.heap.size, qm, qx), (w1.heap.size, pm, px)]) := Lib.hid (FS.later hx)
  clear cx0 cx1 cy0 cy1 st0 st1 stf
  clear FS
  clear hx FR; have FR := FR2; clear FR2
  go_upto_region 25 with (fail)
  have FR2 : Hid (Fr w _ [(w19.heap.size, dm, dx), (w9.heap.size, mm, mx), (w8.heap.size, pm, px), (w7.heap.size, pm, px), (w6.heap.size, pm, px), (w5.heap.size, sm, sx), (w4.heap.size, rm, rx), (w3.heap.size, om, ox), (w2.heap.size + 1, 0, 0), (w2.heap.size, qm, qx), (w1.heap.size, pm, px)]) := Lib.hid (FR.out.lay dm dx 23); clear FR; have FR := FR2; clear FR2
  go_cut [188] from 157 (fun s wx => s = .bool false ∧ Fr w wx [(w19.heap.size, dm, dx), (w9.heap.size, mm, mx), (w8.heap.size, pm, px), (w7.heap.size, pm, px), (w6.heap.size, pm, px), (w5.heap.size, sm, sx), (w4.heap.size, rm, rx), (w3.heap.size, om, ox), (w2.heap.size + 1, 0, 0), (w2.heap.size, qm, qx), (w1.heap.size, pm, px)])
  case first =>
    by_cases hd : de = 0
    · subst hd
      have e1 := HB.out rfl
      generalize he2 : (pm == qm && px == qx) = β at e1
      clear HB
      refine wp_region_S (fun u : World => Fr w u [(w19.heap.size, dm, dx), (w9.heap.size, mm, mx), (w8.heap.size, pm, px), (w7.heap.size, pm, px), (w6.heap.size, pm, px), (w5.heap.size, sm, sx), (w4.heap.size, rm, rx), (w3.heap.size, om, ox), (w2.heap.size + 1, 0, 0), (w2.heap.size, qm, qx), (w1.heap.size, pm, px)]) 31 (by kernel_rfl) ?_
      have HS := FR.out.later (Ext.refl _).drew
      clear FR
      refine GoS.take (i := 0) (v := ?_) rfl (by kernel_rfl) (by kernel_rfl) (by kernel_rfl) (by kernel_rfl) (fun _ _ _ h => h) (Or.inl ⟨by rfl, ?hy1⟩) HS ?_
      case hy1 => ((intro u' hT; have da0 := hT.c0 (b := w6.heap.size) (.tail _ (.tail _ (.tail _ (.tail _ (.head _))))); have da1 := hT.c1 (b := w6.heap.size) (.tail _ (.tail _ (.tail _ (.tail _ (.head _))))); go_simp); try with_reducible rfl)
      try simp only [List.getElem_toArray, List.getElem_cons_zero, Act.put, List.setIfInBounds_toArray, List.set_cons_zero, List.set_cons_succ]
      refine GoS.pure (i := 1) (v := ?_) rfl (by kernel_rfl) (by kernel_rfl) (by kernel_rfl) (by kernel_rfl) (fun _ _ _ h => h) (Or.inl ⟨by rfl, ?hy2⟩) (fun _ => HS) ?_
      case hy2 => ((intro u' hT; go_simp); try with_reducible rfl)
      try simp only [List.getElem_toArray, List.getElem_cons_succ, List.getElem_cons_zero, Act.put, List.setIfInBounds_toArray, List.set_cons_zero, List.set_cons_succ]
      refine GoS.take (i := 2) (v := ?_) rfl (by kernel_rfl) (by kernel_rfl) (by kernel_rfl) (by kernel_rfl) (fun _ _ _ h => h) (Or.inl ⟨by rfl, ?hy3⟩) HS ?_
      case hy3 => ((intro u' hT; have dx0 := hT.c0 (b := w1.heap.size) (.tail _ (.tail _ (.tail _ (.tail _ (.tail _ (.tail _ (.tail _ (.tail _ (.tail _ (.tail _ (.head _))))))))))); have dx1 := hT.c1 (b := w1.heap.size) (.tail _ (.tail _ (.tail _ (.tail _ (.tail _ (.tail _ (.tail _ (.tail _ (.tail _ (.tail _ (.head _))))))))))); go_simp); try with_reducible rfl)
      try simp only [List.getElem_toArray, List.getElem_cons_succ, List.getElem_cons_zero, Act.put, List.setIfInBounds_toArray, List.set_cons_zero, List.set_cons_succ]
      refine GoS.one (i := 3) (by kernel_rfl) rfl (fun K hK => ?_)
      go_simp
      (with_reducible refine (IS.call _).mono ?_)
      rintro e q4 ⟨rfl, hx4⟩
      have HS2 := HS.later hx4
      clear HS; have HS := HS2; clear HS2 hx4
      go_wp2_with fail
      refine hK.out _ _ HS (fun _ => ?_)
      clear hK K
      try simp only [List.getElem_toArray, List.getElem_cons_succ, List.getElem_cons_zero, Act.put, List.setIfInBounds_toArray, List.set_cons_zero, List.set_cons_succ]
      refine GoS.pure (i := 4) (v := ?_) rfl (by kernel_rfl) (by kernel_rfl) (by kernel_rfl) (by kernel_rfl) (fun _ _ _ h => h) (Or.inl ⟨by rfl, ?hy5⟩) (fun _ => HS) ?_
      case hy5 => ((intro u' hT; go_simp); try with_reducible rfl)
      try simp only [List.getElem_toArray, List.getElem_cons_succ, List.getElem_cons_zero, Act.put, List.setIfInBounds_toArray, List.set_cons_zero, List.set_cons_succ]
      refine GoS.pure (i := 5) (v := ?_) rfl (by kernel_rfl) (by kernel_rfl) (by kernel_rfl) (by kernel_rfl) (fun _ _ _ h => h) (Or.inl ⟨by rfl, ?hy6⟩) (fun _ => HS) ?_
      case hy6 => ((intro u' hT; go_simp); try with_reducible rfl)
      try simp only [List.getElem_toArray, List.getElem_cons_succ, List.getElem_cons_zero, Act.put, List.setIfInBounds_toArray, List.set_cons_zero, List.set_cons_succ]
      refine GoS.take (i := 6) (v := ?_) rfl (by kernel_rfl) (by kernel_rfl) (by kernel_rfl) (by kernel_rfl) (fun _ _ _ h => h) (Or.inl ⟨by rfl, ?hy7⟩) HS ?_
      case hy7 => ((intro u' hT; have db0 := hT.c0 (b := w7.heap.size) (.tail _ (.tail _ (.tail _ (.head _)))); have db1 := hT.c1 (b := w7.heap.size) (.tail _ (.tail _ (.tail _ (.head _)))); go_simp); try with_reducible rfl)
      try simp only [List.getElem_toArray, List.getElem_cons_succ, List.getElem_cons_zero, Act.put, List.setIfInBounds_toArray, List.set_cons_zero, List.set_cons_succ]
      refine GoS.pure (i := 7) (v := ?_) rfl (by kernel_rfl) (by kernel_rfl) (by kernel_rfl) (by kernel_rfl) (fun _ _ _ h => h) (Or.inl ⟨by rfl, ?hy8⟩) (fun _ => HS) ?_
      case hy8 => ((intro u' hT; go_simp); try with_reducible rfl)
      try simp only [List.getElem_toArray, List.getElem_cons_succ, List.getElem_cons_zero, Act.put, List.setIfInBounds_toArray, List.set_cons_zero, List.set_cons_succ]
      refine GoS.take (i := 8) (v := ?_) rfl (by kernel_rfl) (by kernel_rfl) (by kernel_rfl) (by kernel_rfl) (fun _ _ _ h => h) (Or.inl ⟨by rfl, ?hy9⟩) HS ?_
      case hy9 => ((intro u' hT; have dx0 := hT.c0 (b := w1.heap.size) (.tail _ (.tail _ (.tail _ (.tail _ (.tail _ (.tail _ (.tail _ (.tail _ (.tail _ (.tail _ (.head _))))))))))); have dx1 := hT.c1 (b := w1.heap.size) (.tail _ (.tail _ (.tail _ (.tail _ (.tail _ (.tail _ (.tail _ (.tail _ (.tail _ (.tail _ (.head _))))))))))); go_simp); try with_reducible rfl)
      try simp only [List.getElem_toArray, List.getElem_cons_succ, List.getElem_cons_zero, Act.put, List.setIfInBounds_toArray, List.set_cons_zero, List.set_cons_succ]
      refine GoS.one (i := 9) (by kernel_rfl) rfl (fun K hK => ?_)
      go_simp
      (with_reducible refine (IS.call _).mono ?_)
      rintro e q10 ⟨rfl, hx10⟩
      have HS2 := HS.later hx10
      clear HS; have HS := HS2; clear HS2 hx10
      go_wp2_with fail
      refine hK.out _ _ HS (fun _ => ?_)
      clear hK K
      try simp only [List.getElem_toArray, List.getElem_cons_succ, List.getElem_cons_zero, Act.put, List.setIfInBounds_toArray, List.set_cons_zero, List.set_cons_succ]
      refine GoS.pure (i := 10) (v := ?_) rfl (by kernel_rfl) (by kernel_rfl) (by kernel_rfl) (by kernel_rfl) (fun _ _ _ h => h) (Or.inl ⟨by rfl, ?hy11⟩) (fun _ => HS) ?_
      case hy11 => ((intro u' hT; go_simp); try with_reducible rfl)
      try simp only [List.getElem_toArray, List.getElem_cons_succ, List.getElem_cons_zero, Act.put, List.setIfInBounds_toArray, List.set_cons_zero, List.set_cons_succ]
      refine GoS.pure (i := 11) (v := ?_) rfl (by kernel_rfl) (by kernel_rfl) (by kernel_rfl) (by kernel_rfl) (fun _ _ _ h => h) (Or.inl ⟨by rfl, ?hy12⟩) (fun _ => HS) ?_
      case hy12 => ((intro u' hT; go_simp); try with_reducible rfl)
      try simp only [List.getElem_toArray, List.getElem_cons_succ, List.getElem_cons_zero, Act.put, List.setIfInBounds_toArray, List.set_cons_zero, List.set_cons_succ]
      refine GoS.pure (i := 12) (v := ?_) rfl (by kernel_rfl) (by kernel_rfl) (by kernel_rfl) (by kernel_rfl) (fun _ _ _ h => h) (Or.inl ⟨by rfl, ?hy13⟩) (fun _ => HS) ?_
      case hy13 => ((intro u' hT; go_simp); try with_reducible rfl)
      try simp only [List.getElem_toArray, List.getElem_cons_succ, List.getElem_cons_zero, Act.put, List.setIfInBounds_toArray, List.set_cons_zero, List.set_cons_succ]
      refine GoS.take (i := 13) (v := ?_) rfl (by kernel_rfl) (by kernel_rfl) (by kernel_rfl) (by kernel_rfl) (fun _ _ _ h => h) (Or.inl ⟨by rfl, ?hy14⟩) HS ?_
      case hy14 => ((intro u' hT; have dc0 := hT.c0 (b := w8.heap.size) (.tail _ (.tail _ (.head _))); have dc1 := hT.c1 (b := w8.heap.size) (.tail _ (.tail _ (.head _))); go_simp); try with_reducible rfl)
      try simp only [List.getElem_toArray, List.getElem_cons_succ, List.getElem_cons_zero, Act.put, List.setIfInBounds_toArray, List.set_cons_zero, List.set_cons_succ]
      refine GoS.pure (i := 14) (v := ?_) rfl (by kernel_rfl) (by kernel_rfl) (by kernel_rfl) (by kernel_rfl) (fun _ _ _ h => h) (Or.inl ⟨by rfl, ?hy15⟩) (fun _ => HS) ?_
      case hy15 => ((intro u' hT; go_simp); try with_reducible rfl)
      try simp only [List.getElem_toArray, List.getElem_cons_succ, List.getElem_cons_zero, Act.put, List.setIfInBounds_toArray, List.set_cons_zero, List.set_cons_succ]
      refine GoS.take (i := 15) (v := ?_) rfl (by kernel_rfl) (by kernel_rfl) (by kernel_rfl) (by kernel_rfl) (fun _ _ _ h => h) (Or.inl ⟨by rfl, ?hy16⟩) HS ?_
      case hy16 => ((intro u' hT; have dx0 := hT.c0 (b := w1.heap.size) (.tail _ (.tail _ (.tail _ (.tail _ (.tail _ (.tail _ (.tail _ (.tail _ (.tail _ (.tail _ (.head _))))))))))); have dx1 := hT.c1 (b := w1.heap.size) (.tail _ (.tail _ (.tail _ (.tail _ (.tail _ (.tail _ (.tail _ (.tail _ (.tail _ (.tail _ (.head _))))))))))); go_simp); try with_reducible rfl)
      try simp only [List.getElem_toArray, List.getElem_cons_succ, List.getElem_cons_zero, Act.put, List.setIfInBounds_toArray, List.set_cons_zero, List.set_cons_succ]
      refine GoS.one (i := 16) (by kernel_rfl) rfl (fun K hK => ?_)
      go_simp
      (with_reducible refine (IS.call _).mono ?_)
      rintro e q17 ⟨rfl, hx17⟩
      have HS2 := HS.later hx17
      clear HS; have HS := HS2; clear HS2 hx17
      go_wp2_with fail
      refine hK.out _ _ HS (fun _ => ?_)
      clear hK K
      try simp only [List.getElem_toArray, List.getElem_cons_succ, List.getElem_cons_zero, Act.put, List.setIfInBounds_toArray, List.set_cons_zero, List.set_cons_succ]
      refine GoS.pure (i := 17) (v := ?_) rfl (by kernel_rfl) (by kernel_rfl) (by kernel_rfl) (by kernel_rfl) (fun _ _ _ h => h) (Or.inl ⟨by rfl, ?hy18⟩) (fun _ => HS) ?_
      case hy18 => ((intro u' hT; go_simp); try with_reducible rfl)
      try simp only [List.getElem_toArray, List.getElem_cons_succ, List.getElem_cons_zero, Act.put, List.setIfInBounds_toArray, List.set_cons_zero, List.set_cons_succ]
      refine GoS.pure (i := 18) (v := ?_) rfl (by kernel_rfl) (by kernel_rfl) (by kernel_rfl) (by kernel_rfl) (fun _ _ _ h => h) (Or.inl ⟨by rfl, ?hy19⟩) (fun _ => HS) ?_
      case hy19 => ((intro u' hT; go_simp); try with_reducible rfl)
      try simp only [List.getElem_toArray, List.getElem_cons_succ, List.getElem_cons_zero, Act.put, List.setIfInBounds_toArray, List.set_cons_zero, List.set_cons_succ]
      refine GoS.pure (i := 19) (v := ?_) rfl (by kernel_rfl) (by kernel_rfl) (by kernel_rfl) (by kernel_rfl) (fun _ _ _ h => h) (Or.inl ⟨by rfl, ?hy20⟩) (fun _ => HS) ?_
      case hy20 => ((intro u' hT; go_simp); try with_reducible rfl)
      try simp only [List.getElem_toArray, List.getElem_cons_succ, List.getElem_cons_zero, Act.put, List.setIfInBounds_toArray, List.set_cons_zero, List.set_cons_succ]
      refine GoS.pure (i := 20) (v := ?_) rfl (by kernel_rfl) (by kernel_rfl) (by kernel_rfl) (by kernel_rfl) (fun _ _ _ h => h) (Or.inl ⟨by rfl, ?hy21⟩) (fun _ => HS) ?_
      case hy21 => ((intro u' hT; go_simp); try with_reducible rfl)
      try simp only [List.getElem_toArray, List.getElem_cons_succ, List.getElem_cons_zero, Act.put, List.setIfInBounds_toArray, List.set_cons_zero, List.set_cons_succ]
      refine GoS.pure (i := 21) (v := ?_) rfl (by kernel_rfl) (by kernel_rfl) (by kernel_rfl) (by kernel_rfl) (fun _ _ _ h => h) (Or.inl ⟨by rfl, ?hy22⟩) (fun _ => HS) ?_
      case hy22 => ((intro u' hT; go_simp); try with_reducible rfl)
      try simp only [List.getElem_toArray, List.getElem_cons_succ, List.getElem_cons_zero, Act.put, List.setIfInBounds_toArray, List.set_cons_zero, List.set_cons_succ]
      refine GoS.pure (i := 22) (v := ?_) rfl (by kernel_rfl) (by kernel_rfl) (by kernel_rfl) (by kernel_rfl) (fun _ _ _ h => h) (Or.inl ⟨by rfl, ?hy23⟩) (fun _ => HS) ?_
      case hy23 => ((intro u' hT; go_simp); try with_reducible rfl)
      try simp only [List.getElem_toArray, List.getElem_cons_succ, List.getElem_cons_zero, Act.put, List.setIfInBounds_toArray, List.set_cons_zero, List.set_cons_succ]
      refine GoS.take (i := 23) (v := ?_) rfl (by kernel_rfl) (by kernel_rfl) (by kernel_rfl) (by kernel_rfl) (fun _ _ _ h => h) (Or.inl ⟨by rfl, ?hy24⟩) HS ?_
      case hy24 => ((intro u' hT; have dd0 := hT.c0 (b := w19.heap.size) (.head _); have dd1 := hT.c1 (b := w19.heap.size) (.head _); go_simp); try with_reducible rfl)
      try simp only [List.getElem_toArray, List.getElem_cons_succ, List.getElem_cons_zero, Act.put, List.setIfInBounds_toArray, List.set_cons_zero, List.set_cons_succ]
      refine GoS.take (i := 24) (v := ?_) rfl (by kernel_rfl) (by kernel_rfl) (by kernel_rfl) (by kernel_rfl) (fun _ _ _ h => h) (Or.inl ⟨by rfl, ?hy25⟩) HS ?_
      case hy25 => ((intro u' hT; have dzero0 := hT.c0 (b := w2.heap.size + 1) (.tail _ (.tail _ (.tail _ (.tail _ (.tail _ (.tail _ (.tail _ (.tail _ (.head _))))))))); have dzero1 := hT.c1 (b := w2.heap.size + 1) (.tail _ (.tail _ (.tail _ (.tail _ (.tail _ (.tail _ (.tail _ (.tail _ (.head _))))))))); go_simp); try with_reducible rfl)
      try simp only [List.getElem_toArray, List.getElem_cons_succ, List.getElem_cons_zero, Act.put, List.setIfInBounds_toArray, List.set_cons_zero, List.set_cons_succ]
      refine GoS.pure (i := 25) (v := ?_) rfl (by kernel_rfl) (by kernel_rfl) (by kernel_rfl) (by kernel_rfl) (fun _ _ _ h => h) (Or.inl ⟨by rfl, ?hy26⟩) (fun _ => HS) ?_
      case hy26 => ((intro u' hT; go_simp); try with_reducible rfl)
      try simp only [List.getElem_toArray, List.getElem_cons_succ, List.getElem_cons_zero, Act.put, List.setIfInBounds_toArray, List.set_cons_zero, List.set_cons_succ]
      refine GoS.take (i := 26) (v := ?_) rfl (by kernel_rfl) (by kernel_rfl) (by kernel_rfl) (by kernel_rfl) (fun _ _ _ h => h) (Or.inl ⟨by rfl, ?hy27⟩) HS ?_
      case hy27 => ((intro u' hT; have dx0 := hT.c0 (b := w1.heap.size) (.tail _ (.tail _ (.tail _ (.tail _ (.tail _ (.tail _ (.tail _ (.tail _ (.tail _ (.tail _ (.head _))))))))))); have dx1 := hT.c1 (b := w1.heap.size) (.tail _ (.tail _ (.tail _ (.tail _ (.tail _ (.tail _ (.tail _ (.tail _ (.tail _ (.tail _ (.head _))))))))))); go_simp); try with_reducible rfl)
      try simp only [List.getElem_toArray, List.getElem_cons_succ, List.getElem_cons_zero, Act.put, List.setIfInBounds_toArray, List.set_cons_zero, List.set_cons_succ]
      refine GoS.take (i := 27) (v := ?_) rfl (by kernel_rfl) (by kernel_rfl) (by kernel_rfl) (by kernel_rfl) (fun _ _ _ h => h) (Or.inl ⟨by rfl, ?hy28⟩) HS ?_
      case hy28 => ((intro u' hT; have dy0 := hT.c0 (b := w2.heap.size) (.tail _ (.tail _ (.tail _ (.tail _ (.tail _ (.tail _ (.tail _ (.tail _ (.tail _ (.head _)))))))))); have dy1 := hT.c1 (b := w2.heap.size) (.tail _ (.tail _ (.tail _ (.tail _ (.tail _ (.tail _ (.tail _ (.tail _ (.tail _ (.head _)))))))))); go_simp); try with_reducible rfl)
      try simp only [List.getElem_toArray, List.getElem_cons_succ, List.getElem_cons_zero, Act.put, List.setIfInBounds_toArray, List.set_cons_zero, List.set_cons_succ]
      refine GoS.pure (i := 28) (v := ?_) rfl (by kernel_rfl) (by kernel_rfl) (by kernel_rfl) (by kernel_rfl) (fun _ _ _ h => h) (Or.inl ⟨by rfl, ?hy29⟩) (fun _ => HS) ?_
      case hy29 => ((intro u' hT; go_simp); try with_reducible rfl)
      try simp only [List.getElem_toArray, List.getElem_cons_succ, List.getElem_cons_zero, Act.put, List.setIfInBounds_toArray, List.set_cons_zero, List.set_cons_succ]
      refine GoS.pure (i := 29) (v := ?_) rfl (by kernel_rfl) (by kernel_rfl) (by kernel_rfl) (by kernel_rfl) (fun _ _ _ h => h) (Or.inl ⟨by rfl, ?hy30⟩) (fun _ => HS) ?_
      case hy30 => ((intro u' hT; go_simp); try with_reducible rfl)
      try simp only [List.getElem_toArray, List.getElem_cons_succ, List.getElem_cons_zero, Act.put, List.setIfInBounds_toArray, List.set_cons_zero, List.set_cons_succ]
      refine GoS.pure (i := 30) (v := ?_) rfl (by kernel_rfl) (by kernel_rfl) (by kernel_rfl) (by kernel_rfl) (fun _ _ _ h => h) (Or.inl ⟨by rfl, ?hy31⟩) (fun _ => HS) ?_
      case hy31 => ((intro u' hT; go_simp); try with_reducible rfl)
      try simp only [List.getElem_toArray, List.getElem_cons_succ, List.getElem_cons_zero, Act.put, List.setIfInBounds_toArray, List.set_cons_zero, List.set_cons_succ]
      refine GoS.store (i := 31) (by kernel_rfl) rfl (by kernel_rfl) (fun K hK => ?_)
      go_simp
      refine hK.out _ _ ?_
      clear hK K
      try simp only [List.getElem_toArray, List.getElem_cons_succ, List.getElem_cons_zero, Act.put, List.setIfInBounds_toArray, List.set_cons_zero, List.set_cons_succ]
      refine GoS.done (by kernel_rfl) ?_
      have FR := Lib.hid HS; clear HS
      go_wp2_with fail
      go_meet
      exact ⟨by simp, FR.out⟩
    · have hd' : (de == 0) = false := by simpa using hd
      clear HB
      refine wp_region_S (fun u : World => Fr w u [(w19.heap.size, dm, dx), (w9.heap.size, mm, mx), (w8.heap.size, pm, px), (w7.heap.size, pm, px), (w6.heap.size, pm, px), (w5.heap.size, sm, sx), (w4.heap.size, rm, rx), (w3.heap.size, om, ox), (w2.heap.size + 1, 0, 0), (w2.heap.size, qm, qx), (w1.heap.size, pm, px)]) 31 (by kernel_rfl) ?_
      have HS := FR.out.later (Ext.refl _).drew
      clear FR
      refine GoS.take (i := 0) (v := ?_) rfl (by kernel_rfl) (by kernel_rfl) (by kernel_rfl) (by kernel_rfl) (fun _ _ _ h => h) (Or.inl ⟨by rfl, ?hy32⟩) HS ?_
      case hy32 => ((intro u' hT; have da0 := hT.c0 (b := w6.heap.size) (.tail _ (.tail _ (.tail _ (.tail _ (.head _))))); have da1 := hT.c1 (b := w6.heap.size) (.tail _ (.tail _ (.tail _ (.tail _ (.head _))))); go_simp); try with_reducible rfl)
      try simp only [List.getElem_toArray, List.getElem_cons_zero, Act.put, List.setIfInBounds_toArray, List.set_cons_zero, List.set_cons_succ]
      refine GoS.pure (i := 1) (v := ?_) rfl (by kernel_rfl) (by kernel_rfl) (by kernel_rfl) (by kernel_rfl) (fun _ _ _ h => h) (Or.inl ⟨by rfl, ?hy33⟩) (fun _ => HS) ?_
      case hy33 => ((intro u' hT; go_simp); try with_reducible rfl)
      try simp only [List.getElem_toArray, List.getElem_cons_succ, List.getElem_cons_zero, Act.put, List.setIfInBounds_toArray, List.set_cons_zero, List.set_cons_succ]
      refine GoS.take (i := 2) (v := ?_) rfl (by kernel_rfl) (by kernel_rfl) (by kernel_rfl) (by kernel_rfl) (fun _ _ _ h => h) (Or.inl ⟨by rfl, ?hy34⟩) HS ?_
      case hy34 => ((intro u' hT; have dx0 := hT.c0 (b := w1.heap.size) (.tail _ (.tail _ (.tail _ (.tail _ (.tail _ (.tail _ (.tail _ (.tail _ (.tail _ (.tail _ (.head _))))))))))); have dx1 := hT.c1 (b := w1.heap.size) (.tail _ (.tail _ (.tail _ (.tail _ (.tail _ (.tail _ (.tail _ (.tail _ (.tail _ (.tail _ (.head _))))))))))); go_simp); try with_reducible rfl)
      try simp only [List.getElem_toArray, List.getElem_cons_succ, List.getElem_cons_zero, Act.put, List.setIfInBounds_toArray, List.set_cons_zero, List.set_cons_succ]
      refine GoS.one (i := 3) (by kernel_rfl) rfl (fun K hK => ?_)
      go_simp
      (with_reducible refine (IS.call _).mono ?_)
      rintro e q35 ⟨rfl, hx35⟩
      have HS2 := HS.later hx35
      clear HS; have HS := HS2; clear HS2 hx35
      go_wp2_with fail
      refine hK.out _ _ HS (fun _ => ?_)
      clear hK K
      try simp only [List.getElem_toArray, List.getElem_cons_succ, List.getElem_cons_zero, Act.put, List.setIfInBounds_toArray, List.set_cons_zero, List.set_cons_succ]
      refine GoS.pure (i := 4) (v := ?_) rfl (by kernel_rfl) (by kernel_rfl) (by kernel_rfl) (by kernel_rfl) (fun _ _ _ h => h) (Or.inl ⟨by rfl, ?hy36⟩) (fun _ => HS) ?_
      case hy36 => ((intro u' hT; go_simp); try with_reducible rfl)
      try simp only [List.getElem_toArray, List.getElem_cons_succ, List.getElem_cons_zero, Act.put, List.setIfInBounds_toArray, List.set_cons_zero, List.set_cons_succ]
      refine GoS.pure (i := 5) (v := ?_) rfl (by kernel_rfl) (by kernel_rfl) (by kernel_rfl) (by kernel_rfl) (fun _ _ _ h => h) (Or.inl ⟨by rfl, ?hy37⟩) (fun _ => HS) ?_
      case hy37 => ((intro u' hT; go_simp); try with_reducible rfl)
      try simp only [List.getElem_toArray, List.getElem_cons_succ, List.getElem_cons_zero, Act.put, List.setIfInBounds_toArray, List.set_cons_zero, List.set_cons_succ]
      refine GoS.take (i := 6) (v := ?_) rfl (by kernel_rfl) (by kernel_rfl) (by kernel_rfl) (by kernel_rfl) (fun _ _ _ h => h) (Or.inl ⟨by rfl, ?hy38⟩) HS ?_
      case hy38 => ((intro u' hT; have db0 := hT.c0 (b := w7.heap.size) (.tail _ (.tail _ (.tail _ (.head _)))); have db1 := hT.c1 (b := w7.heap.size) (.tail _ (.tail _ (.tail _ (.head _)))); go_simp); try with_reducible rfl)
      try simp only [List.getElem_toArray, List.getElem_cons_succ, List.getElem_cons_zero, Act.put, List.setIfInBounds_toArray, List.set_cons_zero, List.set_cons_succ]
      refine GoS.pure (i := 7) (v := ?_) rfl (by kernel_rfl) (by kernel_rfl) (by kernel_rfl) (by kernel_rfl) (fun _ _ _ h => h) (Or.inl ⟨by rfl, ?hy39⟩) (fun _ => HS) ?_
      case hy39 => ((intro u' hT; go_simp); try with_reducible rfl)
      try simp only [List.getElem_toArray, List.getElem_cons_succ, List.getElem_cons_zero, Act.put, List.setIfInBounds_toArray, List.set_cons_zero, List.set_cons_succ]
      refine GoS.take (i := 8) (v := ?_) rfl (by kernel_rfl) (by kernel_rfl) (by kernel_rfl) (by kernel_rfl) (fun _ _ _ h => h) (Or.inl ⟨by rfl, ?hy40⟩) HS ?_
      case hy40 => ((intro u' hT; have dx0 := hT.c0 (b := w1.heap.size) (.tail _ (.tail _ (.tail _ (.tail _ (.tail _ (.tail _ (.tail _ (.tail _ (.tail _ (.tail _ (.head _))))))))))); have dx1 := hT.c1 (b := w1.heap.size) (.tail _ (.tail _ (.tail _ (.tail _ (.tail _ (.tail _ (.tail _ (.tail _ (.tail _ (.tail _ (.head _))))))))))); go_simp); try with_reducible rfl)
      try simp only [List.getElem_toArray, List.getElem_cons_succ, List.getElem_cons_zero, Act.put, List.setIfInBounds_toArray, List.set_cons_zero, List.set_cons_succ]
      refine GoS.one (i := 9) (by kernel_rfl) rfl (fun K hK => ?_)
      go_simp
      (with_reducible refine (IS.call _).mono ?_)
      rintro e q41 ⟨rfl, hx41⟩
      have HS2 := HS.later hx41
      clear HS; have HS := HS2; clear HS2 hx41
      go_wp2_with fail
      refine hK.out _ _ HS (fun _ => ?_)
      clear hK K
      try simp only [List.getElem_toArray, List.getElem_cons_succ, List.getElem_cons_zero, Act.put, List.setIfInBounds_toArray, List.set_cons_zero, List.set_cons_succ]
      refine GoS.pure (i := 10) (v := ?_) rfl (by kernel_rfl) (by kernel_rfl) (by kernel_rfl) (by kernel_rfl) (fun _ _ _ h => h) (Or.inl ⟨by rfl, ?hy42⟩) (fun _ => HS) ?_
      case hy42 => ((intro u' hT; go_simp); try with_reducible rfl)
      try simp only [List.getElem_toArray, List.getElem_cons_succ, List.getElem_cons_zero, Act.put, List.setIfInBounds_toArray, List.set_cons_zero, List.set_cons_succ]
      refine GoS.pure (i := 11) (v := ?_) rfl (by kernel_rfl) (by kernel_rfl) (by kernel_rfl) (by kernel_rfl) (fun _ _ _ h => h) (Or.inl ⟨by rfl, ?hy43⟩) (fun _ => HS) ?_
      case hy43 => ((intro u' hT; go_simp); try with_reducible rfl)
      try simp only [List.getElem_toArray, List.getElem_cons_succ, List.getElem_cons_zero, Act.put, List.setIfInBounds_toArray, List.set_cons_zero, List.set_cons_succ]
      refine GoS.pure (i := 12) (v := ?_) rfl (by kernel_rfl) (by kernel_rfl) (by kernel_rfl) (by kernel_rfl) (fun _ _ _ h => h) (Or.inl ⟨by rfl, ?hy44⟩) (fun _ => HS) ?_
      case hy44 => ((intro u' hT; go_simp); try with_reducible rfl)
      try simp only [List.getElem_toArray, List.getElem_cons_succ, List.getElem_cons_zero, Act.put, List.setIfInBounds_toArray, List.set_cons_zero, List.set_cons_succ]
      refine GoS.take (i := 13) (v := ?_) rfl (by kernel_rfl) (by kernel_rfl) (by kernel_rfl) (by kernel_rfl) (fun _ _ _ h => h) (Or.inl ⟨by rfl, ?hy45⟩) HS ?_
      case hy45 => ((intro u' hT; have dc0 := hT.c0 (b := w8.heap.size) (.tail _ (.tail _ (.head _))); have dc1 := hT.c1 (b := w8.heap.size) (.tail _ (.tail _ (.head _))); go_simp); try with_reducible rfl)
      try simp only [List.getElem_toArray, List.getElem_cons_succ, List.getElem_cons_zero, Act.put, List.setIfInBounds_toArray, List.set_cons_zero, List.set_cons_succ]
      refine GoS.pure (i := 14) (v := ?_) rfl (by kernel_rfl) (by kernel_rfl) (by kernel_rfl) (by kernel_rfl) (fun _ _ _ h => h) (Or.inl ⟨by rfl, ?hy46⟩) (fun _ => HS) ?_
      case hy46 => ((intro u' hT; go_simp); try with_reducible rfl)
      try simp only [List.getElem_toArray, List.getElem_cons_succ, List.getElem_cons_zero, Act.put, List.setIfInBounds_toArray, List.set_cons_zero, List.set_cons_succ]
      refine GoS.take (i := 15) (v := ?_) rfl (by kernel_rfl) (by kernel_rfl) (by kernel_rfl) (by kernel_rfl) (fun _ _ _ h => h) (Or.inl ⟨by rfl, ?hy47⟩) HS ?_
      case hy47 => ((intro u' hT; have dx0 := hT.c0 (b := w1.heap.size) (.tail _ (.tail _ (.tail _ (.tail _ (.tail _ (.tail _ (.tail _ (.tail _ (.tail _ (.tail _ (.head _))))))))))); have dx1 := hT.c1 (b := w1.heap.size) (.tail _ (.tail _ (.tail _ (.tail _ (.tail _ (.tail _ (.tail _ (.tail _ (.tail _ (.tail _ (.head _))))))))))); go_simp); try with_reducible rfl)
      try simp only [List.getElem_toArray, List.getElem_cons_succ, List.getElem_cons_zero, Act.put, List.setIfInBounds_toArray, List.set_cons_zero, List.set_cons_succ]
      refine GoS.one (i := 16) (by kernel_rfl) rfl (fun K hK => ?_)
      go_simp
      (with_reducible refine (IS.call _).mono ?_)
      rintro e q48 ⟨rfl, hx48⟩
      have HS2 := HS.later hx48
      clear HS; have HS := HS2; clear HS2 hx48
      go_wp2_with fail
      refine hK.out _ _ HS (fun _ => ?_)
      clear hK K
      try simp only [List.getElem_toArray, List.getElem_cons_succ, List.getElem_cons_zero, Act.put, List.setIfInBounds_toArray, List.set_cons_zero, List.set_cons_succ]
      refine GoS.pure (i := 17) (v := ?_) rfl (by kernel_rfl) (by kernel_rfl) (by kernel_rfl) (by kernel_rfl) (fun _ _ _ h => h) (Or.inl ⟨by rfl, ?hy49⟩) (fun _ => HS) ?_
      case hy49 => ((intro u' hT; go_simp); try with_reducible rfl)
      try simp only [List.getElem_toArray, List.getElem_cons_succ, List.getElem_cons_zero, Act.put, List.setIfInBounds_toArray, List.set_cons_zero, List.set_cons_succ]
      refine GoS.pure (i := 18) (v := ?_) rfl (by kernel_rfl) (by kernel_rfl) (by kernel_rfl) (by kernel_rfl) (fun _ _ _ h => h) (Or.inl ⟨by rfl, ?hy50⟩) (fun _ => HS) ?_
      case hy50 => ((intro u' hT; go_simp); try with_reducible rfl)
      try simp only [List.getElem_toArray, List.getElem_cons_succ, List.getElem_cons_zero, Act.put, List.setIfInBounds_toArray, List.set_cons_zero, List.set_cons_succ]
      refine GoS.pure (i := 19) (v := ?_) rfl (by kernel_rfl) (by kernel_rfl) (by kernel_rfl) (by kernel_rfl) (fun _ _ _ h => h) (Or.inl ⟨by rfl, ?hy51⟩) (fun _ => HS) ?_
      case hy51 => ((intro u' hT; go_simp); try with_reducible rfl)
      try simp only [List.getElem_toArray, List.getElem_cons_succ, List.getElem_cons_zero, Act.put, List.setIfInBounds_toArray, List.set_cons_zero, List.set_cons_succ]
      refine GoS.pure (i := 20) (v := ?_) rfl (by kernel_rfl) (by kernel_rfl) (by kernel_rfl) (by kernel_rfl) (fun _ _ _ h => h) (Or.inl ⟨by rfl, ?hy52⟩) (fun _ => HS) ?_
      case hy52 => ((intro u' hT; go_simp); try with_reducible rfl)
      try simp only [List.getElem_toArray, List.getElem_cons_succ, List.getElem_cons_zero, Act.put, List.setIfInBounds_toArray, List.set_cons_zero, List.set_cons_succ]
      refine GoS.pure (i := 21) (v := ?_) rfl (by kernel_rfl) (by kernel_rfl) (by kernel_rfl) (by kernel_rfl) (fun _ _ _ h => h) (Or.inl ⟨by rfl, ?hy53⟩) (fun _ => HS) ?_
      case hy53 => ((intro u' hT; go_simp); try with_reducible rfl)
      try simp only [List.getElem_toArray, List.getElem_cons_succ, List.getElem_cons_zero, Act.put, List.setIfInBounds_toArray, List.set_cons_zero, List.set_cons_succ]
      refine GoS.pure (i := 22) (v := ?_) rfl (by kernel_rfl) (by kernel_rfl) (by kernel_rfl) (by kernel_rfl) (fun _ _ _ h => h) (Or.inl ⟨by rfl, ?hy54⟩) (fun _ => HS) ?_
      case hy54 => ((intro u' hT; go_simp); try with_reducible rfl)
      try simp only [List.getElem_toArray, List.getElem_cons_succ, List.getElem_cons_zero, Act.put, List.setIfInBounds_toArray, List.set_cons_zero, List.set_cons_succ]
      refine GoS.pure (i := 23) (v := undef) rfl (by kernel_rfl) (by kernel_rfl) (by kernel_rfl) (by kernel_rfl) (fun _ _ _ h => h) (Or.inr ⟨by rfl, rfl⟩) (fun _ => HS) ?_
      try simp only [List.getElem_toArray, List.getElem_cons_succ, List.getElem_cons_zero, Act.put, List.setIfInBounds_toArray, List.set_cons_zero, List.set_cons_succ]
      refine GoS.pure (i := 24) (v := undef) rfl (by kernel_rfl) (by kernel_rfl) (by kernel_rfl) (by kernel_rfl) (fun _ _ _ h => h) (Or.inr ⟨by rfl, rfl⟩) (fun _ => HS) ?_
      try simp only [List.getElem_toArray, List.getElem_cons_succ, List.getElem_cons_zero, Act.put, List.setIfInBounds_toArray, List.set_cons_zero, List.set_cons_succ]
      refine GoS.pure (i := 25) (v := undef) rfl (by kernel_rfl) (by kernel_rfl) (by kernel_rfl) (by kernel_rfl) (fun _ _ _ h => h) (Or.inr ⟨by rfl, rfl⟩) (fun _ => HS) ?_
      try simp only [List.getElem_toArray, List.getElem_cons_succ, List.getElem_cons_zero, Act.put, List.setIfInBounds_toArray, List.set_cons_zero, List.set_cons_succ]
      refine GoS.pure (i := 26) (v := undef) rfl (by kernel_rfl) (by kernel_rfl) (by kernel_rfl) (by kernel_rfl) (fun _ _ _ h => h) (Or.inr ⟨by rfl, rfl⟩) (fun _ => HS) ?_
      try simp only [List.getElem_toArray, List.getElem_cons_succ, List.getElem_cons_zero, Act.put, List.setIfInBounds_toArray, List.set_cons_zero, List.set_cons_succ]
      refine GoS.pure (i := 27) (v := undef) rfl (by kernel_rfl) (by kernel_rfl) (by kernel_rfl) (by kernel_rfl) (fun _ _ _ h => h) (Or.inr ⟨by rfl, rfl⟩) (fun _ => HS) ?_
      try simp only [List.getElem_toArray, List.getElem_cons_succ, List.getElem_cons_zero, Act.put, List.setIfInBounds_toArray, List.set_cons_zero, List.set_cons_succ]
      refine GoS.pure (i := 28) (v := undef) rfl (by kernel_rfl) (by kernel_rfl) (by kernel_rfl) (by kernel_rfl) (fun _ _ _ h => h) (Or.inr ⟨by rfl, rfl⟩) (fun _ => HS) ?_
      try simp only [List.getElem_toArray, List.getElem_cons_succ, List.getElem_cons_zero, Act.put, List.setIfInBounds_toArray, List.set_cons_zero, List.set_cons_succ]
      refine GoS.pure (i := 29) (v := undef) rfl (by kernel_rfl) (by kernel_rfl) (by kernel_rfl) (by kernel_rfl) (fun _ _ _ h => h) (Or.inr ⟨by rfl, rfl⟩) (fun _ => HS) ?_
      try simp only [List.getElem_toArray, List.getElem_cons_succ, List.getElem_cons_zero, Act.put, List.setIfInBounds_toArray, List.set_cons_zero, List.set_cons_succ]
      refine GoS.pure (i := 30) (v := ?_) rfl (by kernel_rfl) (by kernel_rfl) (by kernel_rfl) (by kernel_rfl) (fun _ _ _ h => h) (Or.inl ⟨by rfl, ?hy55⟩) (fun _ => HS) ?_
      case hy55 => ((intro u' hT; go_simp); try with_reducible rfl)
      try simp only [List.getElem_toArray, List.getElem_cons_succ, List.getElem_cons_zero, Act.put, List.setIfInBounds_toArray, List.set_cons_zero, List.set_cons_succ]
      refine GoS.store (i := 31) (by kernel_rfl) rfl (by kernel_rfl) (fun K hK => ?_)
      go_simp
      refine hK.out _ _ ?_
      clear hK K
      try simp only [List.getElem_toArray, List.getElem_cons_succ, List.getElem_cons_zero, Act.put, List.setIfInBounds_toArray, List.set_cons_zero, List.set_cons_succ]
      refine GoS.done (by kernel_rfl) ?_
      have FR := Lib.hid HS; clear HS
      go_wp2_with fail
      go_meet
      exact ⟨rfl, FR.out⟩
  case rest =>
    obtain ⟨rfl, hfr⟩ := hcut
    clear FR HB; have FR := Lib.hid hfr; clear hfr
    go_upto_region 27 with (fail)
    go_cut [20, 10] from 189 (fun s20 s10 wx => ∃ b : Nat, s20 = .pointer (some ⟨b, 0, none⟩) ∧ s10 = .int .i64 0 ∧ Fr w wx [(b, gm, gx), (w19.heap.size, dm, dx), (w9.heap.size, mm, mx), (w8.heap.size, pm, px), (w7.heap.size, pm, px), (w6.heap.size, pm, px), (w5.heap.size, sm, sx), (w4.heap.size, rm, rx), (w3.heap.size, om, ox), (w2.heap.size + 1, 0, 0), (w2.heap.size, qm, qx), (w1.heap.size, pm, px)])
    case first =>
      refine wp_region_S (fun u : World => Fr w u [(w19.heap.size, dm, dx), (w9.heap.size, mm, mx), (w8.heap.size, pm, px), (w7.heap.size, pm, px), (w6.heap.size, pm, px), (w5.heap.size, sm, sx), (w4.heap.size, rm, rx), (w3.heap.size, om, ox), (w2.heap.size + 1, 0, 0), (w2.heap.size, qm, qx), (w1.heap.size, pm, px)]) 7 (by kernel_rfl) ?_
      have HS := FR.out.later (Ext.refl _).drew
      clear FR
      refine GoS.take (i := 0) (v := ?_) rfl (by kernel_rfl) (by kernel_rfl) (by kernel_rfl) (by kernel_rfl) (fun _ _ _ h => h) (Or.inl ⟨by rfl, ?hy56⟩) HS ?_
      case hy56 => ((intro u' hT; have dy0 := hT.c0 (b := w2.heap.size) (.tail _ (.tail _ (.tail _ (.tail _ (.tail _ (.tail _ (.tail _ (.tail _ (.tail _ (.head _)))))))))); have dy1 := hT.c1 (b := w2.heap.size) (.tail _ (.tail _ (.tail _ (.tail _ (.tail _ (.tail _ (.tail _ (.tail _ (.tail _ (.head _)))))))))); go_simp); try with_reducible rfl)
      try simp only [List.getElem_toArray, List.getElem_cons_zero, Act.put, List.setIfInBounds_toArray, List.set_cons_zero, List.set_cons_succ]
      refine GoS.two (i := 1) (j := 6) (by kernel_rfl) rfl rfl (fun K hK => ?_) (fun K hK => ?_)
      · skip
        go_simp
        (with_reducible refine (TW.call _).mono ?_)
        rintro e q57 ⟨rfl, hx57⟩
        have HS2 := HS.later hx57
        clear HS; have HS := HS2; clear HS2 hx57
        go_wp2_with fail
        refine hK.out _ _ HS (fun _ => ?_)
        clear hK K
        try simp only [List.getElem_toArray, List.getElem_cons_succ, List.getElem_cons_zero, Act.put, List.setIfInBounds_toArray, List.set_cons_zero, List.set_cons_succ]
        refine GoS.two (i := 2) (j := 6) (by kernel_rfl) rfl rfl (fun K hK => ?_) (fun K hK => ?_)
        · skip
          go_simp
          (with_reducible refine (HM.call _).mono ?_)
          rintro e q58 ⟨rfl, hx58⟩
          have HS2 := HS.later hx58
          clear HS; have HS := HS2; clear HS2 hx58
          go_wp2_with fail
          refine hK.out _ _ HS (fun _ => ?_)
          clear hK K
          try simp only [List.getElem_toArray, List.getElem_cons_succ, List.getElem_cons_zero, Act.put, List.setIfInBounds_toArray, List.set_cons_zero, List.set_cons_succ]
          refine GoS.pure (i := 3) (v := ?_) rfl (by kernel_rfl) (by kernel_rfl) (by kernel_rfl) (by kernel_rfl) (fun _ _ _ h => h) (Or.inl ⟨by rfl, ?hy59⟩) (fun _ => HS) ?_
          case hy59 => ((intro u' hT; go_simp); try with_reducible rfl)
          try simp only [List.getElem_toArray, List.getElem_cons_succ, List.getElem_cons_zero, Act.put, List.setIfInBounds_toArray, List.set_cons_zero, List.set_cons_succ]
          refine GoS.pure (i := 4) (v := ?_) rfl (by kernel_rfl) (by kernel_rfl) (by kernel_rfl) (by kernel_rfl) (fun _ _ _ h => h) (Or.inl ⟨by rfl, ?hy60⟩) (fun _ => HS) ?_
          case hy60 => ((intro u' hT; go_simp); try with_reducible rfl)
          try simp only [List.getElem_toArray, List.getElem_cons_succ, List.getElem_cons_zero, Act.put, List.setIfInBounds_toArray, List.set_cons_zero, List.set_cons_succ]
          refine GoS.pure (i := 5) (v := ?_) rfl (by kernel_rfl) (by kernel_rfl) (by kernel_rfl) (by kernel_rfl) (fun _ _ _ h => h) (Or.inl ⟨by rfl, ?hy61⟩) (fun _ => HS) ?_
          case hy61 => ((intro u' hT; go_simp); try with_reducible rfl)
          try simp only [List.getElem_toArray, List.getElem_cons_succ, List.getElem_cons_zero, Act.put, List.setIfInBounds_toArray, List.set_cons_zero, List.set_cons_succ]
          refine GoS.one (i := 6) (by kernel_rfl) rfl (fun K hK => ?_)
          go_simp
          have HQ := HS
          have FQ := Lib.hid (HS.lay 0 0 23)
          have HS2 := HS.later ((Ext.refl _).alloc (.cells #[.int .i64 0, .int .i64 0] 23))
          clear HS; have HS := HS2; clear HS2
          refine hK.out _ _ HS (fun _ => ?_)
          clear hK K
          try simp only [List.getElem_toArray, List.getElem_cons_succ, List.getElem_cons_zero, Act.put, List.setIfInBounds_toArray, List.set_cons_zero, List.set_cons_succ]
          refine GoS.store (i := 7) (by kernel_rfl) rfl (by kernel_rfl) (fun K hK => ?_)
          have st0 := FQ.out.c0 (b := q58.heap.size) (.head _); have st1 := FQ.out.c1 (b := q58.heap.size) (.head _); have stf := FQ.out.fz (b := q58.heap.size) (.head _)
          go_simp
          have FR := Lib.hid (HQ.lay (gm) (gx) 23); clear FQ HQ st0 st1 stf
          refine hK.out _ _ ?_
          clear hK K
          try simp only [List.getElem_toArray, List.getElem_cons_succ, List.getElem_cons_zero, Act.put, List.setIfInBounds_toArray, List.set_cons_zero, List.set_cons_succ]
          refine GoS.behind (i := 8) (v := ?_) rfl (by kernel_rfl) (by kernel_rfl) (by kernel_rfl) (by kernel_rfl) (fun _ _ _ h => h) (Or.inl ⟨by rfl, ?hy62⟩) (by kernel_rfl) ?_
          case hy62 => ((intro u' hT; go_simp); try with_reducible rfl)
          try simp only [List.getElem_toArray, List.getElem_cons_succ, List.getElem_cons_zero, Act.put, List.setIfInBounds_toArray, List.set_cons_zero, List.set_cons_succ]
          refine GoS.done (by kernel_rfl) ?_
          go_wp2_with fail
          go_meet
          exact ⟨_, rfl, rfl, FR.out⟩
        · skip
          go_simp
          have HQ := HS
          have FQ := Lib.hid (HS.lay 0 0 23)
          have HS2 := HS.later ((Ext.refl _).alloc (.cells #[.int .i64 0, .int .i64 0] 23))
          clear HS; have HS := HS2; clear HS2
          refine hK.out _ _ HS (fun _ => ?_)
          clear hK K
          try simp only [List.getElem_toArray, List.getElem_cons_succ, List.getElem_cons_zero, Act.put, List.setIfInBounds_toArray, List.set_cons_zero, List.set_cons_succ]
          refine GoS.one (i := 2) (by kernel_rfl) rfl (fun K hK => ?_)
          go_simp
          (with_reducible refine (HM.call _).mono ?_)
          rintro e q63 ⟨rfl, hx63⟩
          have HS2 := HS.later hx63
          have FQ2 := Lib.hid (FQ.out.later hx63); clear FQ; have FQ := FQ2; clear FQ2
          clear HS; have HS := HS2; clear HS2 hx63
          go_wp2_with fail
          refine hK.out _ _ HS (fun _ => ?_)
          clear hK K
          try simp only [List.getElem_toArray, List.getElem_cons_succ, List.getElem_cons_zero, Act.put, List.setIfInBounds_toArray, List.set_cons_zero, List.set_cons_succ]
          refine GoS.pure (i := 3) (v := ?_) rfl (by kernel_rfl) (by kernel_rfl) (by kernel_rfl) (by kernel_rfl) (fun _ _ _ h => h) (Or.inl ⟨by rfl, ?hy64⟩) (fun _ => HS) ?_
          case hy64 => ((intro u' hT; go_simp); try with_reducible rfl)
          try simp only [List.getElem_toArray, List.getElem_cons_succ, List.getElem_cons_zero, Act.put, List.setIfInBounds_toArray, List.set_cons_zero, List.set_cons_succ]
          refine GoS.pure (i := 4) (v := ?_) rfl (by kernel_rfl) (by kernel_rfl) (by kernel_rfl) (by kernel_rfl) (fun _ _ _ h => h) (Or.inl ⟨by rfl, ?hy65⟩) (fun _ => HS) ?_
          case hy65 => ((intro u' hT; go_simp); try with_reducible rfl)
          try simp only [List.getElem_toArray, List.getElem_cons_succ, List.getElem_cons_zero, Act.put, List.setIfInBounds_toArray, List.set_cons_zero, List.set_cons_succ]
          refine GoS.pure (i := 5) (v := ?_) rfl (by kernel_rfl) (by kernel_rfl) (by kernel_rfl) (by kernel_rfl) (fun _ _ _ h => h) (Or.inl ⟨by rfl, ?hy66⟩) (fun _ => HS) ?_
          case hy66 => ((intro u' hT; go_simp); try with_reducible rfl)
          try simp only [List.getElem_toArray, List.getElem_cons_succ, List.getElem_cons_zero, Act.put, List.setIfInBounds_toArray, List.set_cons_zero, List.set_cons_succ]
          refine GoS.store (i := 7) (by kernel_rfl) rfl (by kernel_rfl) (fun K hK => ?_)
          have st0 := FQ.out.c0 (b := q57.heap.size) (.head _); have st1 := FQ.out.c1 (b := q57.heap.size) (.head _); have stf := FQ.out.fz (b := q57.heap.size) (.head _)
          go_simp
          have FR := Lib.hid (FQ.out.set 0 rfl (gm) (gx)); clear FQ HQ st0 st1 stf
          refine hK.out _ _ ?_
          clear hK K
          try simp only [List.getElem_toArray, List.getElem_cons_succ, List.getElem_cons_zero, Act.put, List.setIfInBounds_toArray, List.set_cons_zero, List.set_cons_succ]
          refine GoS.behind (i := 8) (v := ?_) rfl (by kernel_rfl) (by kernel_rfl) (by kernel_rfl) (by kernel_rfl) (fun _ _ _ h => h) (Or.inl ⟨by rfl, ?hy67⟩) (by kernel_rfl) ?_
          case hy67 => ((intro u' hT; go_simp); try with_reducible rfl)
          try simp only [List.getElem_toArray, List.getElem_cons_succ, List.getElem_cons_zero, Act.put, List.setIfInBounds_toArray, List.set_cons_zero, List.set_cons_succ]
          refine GoS.done (by kernel_rfl) ?_
          go_wp2_with fail
          go_meet
          exact ⟨_, rfl, rfl, FR.out⟩
      · skip
        go_simp
        have HQ := HS
        have FQ := Lib.hid (HS.lay 0 0 23)
        have HS2 := HS.later ((Ext.refl _).alloc (.cells #[.int .i64 0, .int .i64 0] 23))
        clear HS; have HS := HS2; clear HS2
        refine hK.out _ _ HS (fun _ => ?_)
        clear hK K
        try simp only [List.getElem_toArray, List.getElem_cons_succ, List.getElem_cons_zero, Act.put, List.setIfInBounds_toArray, List.set_cons_zero, List.set_cons_succ]
        refine GoS.one (i := 1) (by kernel_rfl) rfl (fun K hK => ?_)
        go_simp
        (with_reducible refine (TW.call _).mono ?_)
        rintro e q68 ⟨rfl, hx68⟩
        have HS2 := HS.later hx68
        have FQ2 := Lib.hid (FQ.out.later hx68); clear FQ; have FQ := FQ2; clear FQ2
        clear HS; have HS := HS2; clear HS2 hx68
        go_wp2_with fail
        refine hK.out _ _ HS (fun _ => ?_)
        clear hK K
        try simp only [List.getElem_toArray, List.getElem_cons_succ, List.getElem_cons_zero, Act.put, List.setIfInBounds_toArray, List.set_cons_zero, List.set_cons_succ]
        refine GoS.one (i := 2) (by kernel_rfl) rfl (fun K hK => ?_)
        go_simp
        (with_reducible refine (HM.call _).mono ?_)
        rintro e q69 ⟨rfl, hx69⟩
        have HS2 := HS.later hx69
        have FQ2 := Lib.hid (FQ.out.later hx69); clear FQ; have FQ := FQ2; clear FQ2
        clear HS; have HS := HS2; clear HS2 hx69
        go_wp2_with fail
        refine hK.out _ _ HS (fun _ => ?_)
        clear hK K
        try simp only [List.getElem_toArray, List.getElem_cons_succ, List.getElem_cons_zero, Act.put, List.setIfInBounds_toArray, List.set_cons_zero, List.set_cons_succ]
        refine GoS.pure (i := 3) (v := ?_) rfl (by kernel_rfl) (by kernel_rfl) (by kernel_rfl) (by kernel_rfl) (fun _ _ _ h => h) (Or.inl ⟨by rfl, ?hy70⟩) (fun _ => HS) ?_
        case hy70 => ((intro u' hT; go_simp); try with_reducible rfl)
        try simp only [List.getElem_toArray, List.getElem_cons_succ, List.getElem_cons_zero, Act.put, List.setIfInBounds_toArray, List.set_cons_zero, List.set_cons_succ]
        refine GoS.pure (i := 4) (v := ?_) rfl (by kernel_rfl) (by kernel_rfl) (by kernel_rfl) (by kernel_rfl) (fun _ _ _ h => h) (Or.inl ⟨by rfl, ?hy71⟩) (fun _ => HS) ?_
        case hy71 => ((intro u' hT; go_simp); try with_reducible rfl)
        try simp only [List.getElem_toArray, List.getElem_cons_succ, List.getElem_cons_zero, Act.put, List.setIfInBounds_toArray, List.set_cons_zero, List.set_cons_succ]
        refine GoS.pure (i := 5) (v := ?_) rfl (by kernel_rfl) (by kernel_rfl) (by kernel_rfl) (by kernel_rfl) (fun _ _ _ h => h) (Or.inl ⟨by rfl, ?hy72⟩) (fun _ => HS) ?_
        case hy72 => ((intro u' hT; go_simp); try with_reducible rfl)
        try simp only [List.getElem_toArray, List.getElem_cons_succ, List.getElem_cons_zero, Act.put, List.setIfInBounds_toArray, List.set_cons_zero, List.set_cons_succ]
        refine GoS.store (i := 7) (by kernel_rfl) rfl (by kernel_rfl) (fun K hK => ?_)
        have st0 := FQ.out.c0 (b := wc.heap.size) (.head _); have st1 := FQ.out.c1 (b := wc.heap.size) (.head _); have stf := FQ.out.fz (b := wc.heap.size) (.head _)
        go_simp
        have FR := Lib.hid (FQ.out.set 0 rfl (gm) (gx)); clear FQ HQ st0 st1 stf
        refine hK.out _ _ ?_
        clear hK K
        try simp only [List.getElem_toArray, List.getElem_cons_succ, List.getElem_cons_zero, Act.put, List.setIfInBounds_toArray, List.set_cons_zero, List.set_cons_succ]
        refine GoS.behind (i := 8) (v := ?_) rfl (by kernel_rfl) (by kernel_rfl) (by kernel_rfl) (by kernel_rfl) (fun _ _ _ h => h) (Or.inl ⟨by rfl, ?hy73⟩) (by kernel_rfl) ?_
        case hy73 => ((intro u' hT; go_simp); try with_reducible rfl)
        try simp only [List.getElem_toArray, List.getElem_cons_succ, List.getElem_cons_zero, Act.put, List.setIfInBounds_toArray, List.set_cons_zero, List.set_cons_succ]
        refine GoS.done (by kernel_rfl) ?_
        go_wp2_with fail
        go_meet
        exact ⟨_, rfl, rfl, FR.out⟩
    case rest =>
      obtain ⟨b, rfl, rfl, hfr⟩ := hcut
      clear FR; have FR := Lib.hid hfr; clear hfr
      have cy0 := FR.out.c0 (b := w2.heap.size) (.tail _ (.tail _ (.tail _ (.tail _ (.tail _ (.tail _ (.tail _ (.tail _ (.tail _ (.tail _ (.head _))))))))))); have cy1 := FR.out.c1 (b := w2.heap.size) (.tail _ (.tail _ (.tail _ (.tail _ (.tail _ (.tail _ (.tail _ (.tail _ (.tail _ (.tail _ (.head _)))))))))))
      go_wp2_with fail
      refine (TY _).mono ?_
      rintro e w20 ⟨rfl, hx⟩
      have FR2 : Hid (Fr w w20 [(b, gm, gx), (w19.heap.size, dm, dx), (w9.heap.size, mm, mx), (w8.heap.size, pm, px), (w7.heap.size, pm, px), (w6.heap.size, pm, px), (w5.heap.size, sm, sx), (w4.heap.size, rm, rx), (w3.heap.size, om, ox), (w2.heap.size + 1, 0, 0), (w2.heap.size, qm, qx), (w1.heap.size, pm, px)]) := Lib.hid (FR.out.later hx)
      clear cy0 cy1
      clear hx FR; have FR := FR2; clear FR2
      have ch0 := FR.out.g0 (b := b) (.head _); have ch1 := FR.out.g1 (b := b) (.head _)
      have cx0 := FR.out.g0 (b := w1.heap.size) (.tail _ (.tail _ (.tail _ (.tail _ (.tail _ (.tail _ (.tail _ (.tail _ (.tail _ (.tail _ (.tail _ (.head _)))))))))))); have cx1 := FR.out.g1 (b := w1.heap.size) (.tail _ (.tail _ (.tail _ (.tail _ (.tail _ (.tail _ (.tail _ (.tail _ (.tail _ (.tail _ (.tail _ (.head _))))))))))))
      go_wp2_with fail
      refine (CL _).mono ?_
      rintro e w21 ⟨rfl, hx⟩
      have FR2 : Hid (Fr w w21 [(w20.heap.size, bm, bx), (b, gm, gx), (w19.heap.size, dm, dx), (w9.heap.size, mm, mx), (w8.heap.size, pm, px), (w7.heap.size, pm, px), (w6.heap.size, pm, px), (w5.heap.size, sm, sx), (w4.heap.size, rm, rx), (w3.heap.size, om, ox), (w2.heap.size + 1, 0, 0), (w2.heap.size, qm, qx), (w1.heap.size, pm, px)]) := Lib.hid ((FR.out.lay (bm) (bx) 23).later hx)
      clear ch0 ch1 cx0 cx1
      clear hx FR; have FR := FR2; clear FR2
      have cx0 := FR.out.c0 (b := w1.heap.size) (.tail _ (.tail _ (.tail _ (.tail _ (.tail _ (.tail _ (.tail _ (.tail _ (.tail _ (.tail _ (.tail _ (.tail _ (.head _))))))))))))); have cx1 := FR.out.c1 (b := w1.heap.size) (.tail _ (.tail _ (.tail _ (.tail _ (.tail _ (.tail _ (.tail _ (.tail _ (.tail _ (.tail _ (.tail _ (.tail _ (.head _)))))))))))))
      have ct0 := FR.out.c0 (b := w20.heap.size) (.head _); have ct1 := FR.out.c1 (b := w20.heap.size) (.head _)
      go_wp2_with fail
      refine (CH _).mono ?_
      rintro e w22 ⟨rfl, hx⟩
      have FR2 : Hid (Fr w w22 [(w20.heap.size, bm, bx), (b, gm, gx), (w19.heap.size, dm, dx), (w9.heap.size, mm, mx), (w8.heap.size, pm, px), (w7.heap.size, pm, px), (w6.heap.size, pm, px), (w5.heap.size, sm, sx), (w4.heap.size, rm, rx), (w3.heap.size, om, ox), (w2.heap.size + 1, 0, 0), (w2.heap.size, qm, qx), (w1.heap.size, pm, px)]) := Lib.hid (FR.out.later hx)
      clear cx0 cx1 ct0 ct1
      clear hx FR; have FR := FR2; clear FR2
      by_cases hf : f = 0
      · have hf' : (f == 0) = true := by simpa using hf
        by_cases hlo : lo > 0
        · clear fin
          go_wp2_with fail
          refine (SN _ (HT.out.later FR.out.x)).mono ?_
          rintro e w23 ⟨rfl, hx⟩
          have FR2 : Hid (Fr w w23 [(w20.heap.size, bm, bx), (b, gm, gx), (w19.heap.size, dm, dx), (w9.heap.size, mm, mx), (w8.heap.size, pm, px), (w7.heap.size, pm, px), (w6.heap.size, pm, px), (w5.heap.size, sm, sx), (w4.heap.size, rm, rx), (w3.heap.size, om, ox), (w2.heap.size + 1, 0, 0), (w2.heap.size, qm, qx), (w1.heap.size, pm, px)]) := Lib.hid (FR.out.later hx)
          clear hx FR; have FR := FR2; clear FR2
          go_wp2
          go_ret
          exact ⟨rfl, FR.out.x⟩
        · by_cases hhi : hi > 0
          · clear fin
            go_wp2_with fail
            refine (SN _ (HT.out.later FR.out.x)).mono ?_
            rintro e w23 ⟨rfl, hx⟩
            have FR2 : Hid (Fr w w23 [(w20.heap.size, bm, bx), (b, gm, gx), (w19.heap.size, dm, dx), (w9.heap.size, mm, mx), (w8.heap.size, pm, px), (w7.heap.size, pm, px), (w6.heap.size, pm, px), (w5.heap.size, sm, sx), (w4.heap.size, rm, rx), (w3.heap.size, om, ox), (w2.heap.size + 1, 0, 0), (w2.heap.size, qm, qx), (w1.heap.size, pm, px)]) := Lib.hid (FR.out.later hx)
            clear hx FR; have FR := FR2; clear FR2
            go_wp2
            go_ret
            exact ⟨rfl, FR.out.x⟩
          · obtain ⟨rfl, BK⟩ := fin hf (by omega) (by omega)
            clear fin
            have cx0 := FR.out.c0 (b := w1.heap.size) (.tail _ (.tail _ (.tail _ (.tail _ (.tail _ (.tail _ (.tail _ (.tail _ (.tail _ (.tail _ (.tail _ (.tail _ (.head _))))))))))))); have cx1 := FR.out.c1 (b := w1.heap.size) (.tail _ (.tail _ (.tail _ (.tail _ (.tail _ (.tail _ (.tail _ (.tail _ (.tail _ (.tail _ (.tail _ (.tail _ (.head _)))))))))))))
            have cy0 := FR.out.c0 (b := w2.heap.size) (.tail _ (.tail _ (.tail _ (.tail _ (.tail _ (.tail _ (.tail _ (.tail _ (.tail _ (.tail _ (.tail _ (.head _)))))))))))); have cy1 := FR.out.c1 (b := w2.heap.size) (.tail _ (.tail _ (.tail _ (.tail _ (.tail _ (.tail _ (.tail _ (.tail _ (.tail _ (.tail _ (.tail _ (.head _))))))))))))
            go_wp2_with fail
            refine (SU _).mono ?_
            rintro e w23 ⟨rfl, hx⟩
            have FR2 : Hid (Fr w w23 [(w20.heap.size, bm, bx), (b, gm, gx), (w19.heap.size, dm, dx), (w9.heap.size, mm, mx), (w8.heap.size, pm, px), (w7.heap.size, pm, px), (w6.heap.size, pm, px), (w5.heap.size, sm, sx), (w4.heap.size, rm, rx), (w3.heap.size, om, ox), (w2.heap.size + 1, 0, 0), (w2.heap.size, qm, qx), (w1.heap.size, pm, px)]) := Lib.hid (FR.out.later hx)
            clear cx0 cx1 cy0 cy1
            clear hx FR; have FR := FR2; clear FR2
            have st0 := FR.out.c0 (b := w19.heap.size) (.tail _ (.tail _ (.head _))); have st1 := FR.out.c1 (b := w19.heap.size) (.tail _ (.tail _ (.head _))); have stf := FR.out.fz (b := w19.heap.size) (.tail _ (.tail _ (.head _)))
            have FS := FR.out.set 2 rfl (dm) (dx)
            have FS : Fr w ((w23.setCell ⟨w19.heap.size, 0, none⟩ (.int .i64 (dm))).setCell ⟨w19.heap.size, 1, none⟩ (.int .i64 (dx))) [(w20.heap.size, bm, bx), (b, gm, gx), (w19.heap.size, dm, dx), (w9.heap.size, mm, mx), (w8.heap.size, pm, px), (w7.heap.size, pm, px), (w6.heap.size, pm, px), (w5.heap.size, sm, sx), (w4.heap.size, rm, rx), (w3.heap.size, om, ox), (w2.heap.size + 1, 0, 0), (w2.heap.size, qm, qx), (w1.heap.size, pm, px)] := FS
            have cd0 := FS.c0 (b := w19.heap.size) (.tail _ (.tail _ (.head _))); have cd1 := FS.c1 (b := w19.heap.size) (.tail _ (.tail _ (.head _)))
            have cy0 := FS.c0 (b := w2.heap.size) (.tail _ (.tail _ (.tail _ (.tail _ (.tail _ (.tail _ (.tail _ (.tail _ (.tail _ (.tail _ (.tail _ (.head _)))))))))))); have cy1 := FS.c1 (b := w2.heap.size) (.tail _ (.tail _ (.tail _ (.tail _ (.tail _ (.tail _ (.tail _ (.tail _ (.tail _ (.tail _ (.tail _ (.head _))))))))))))
            go_wp2_with fail
            refine (BK _).mono ?_
            rintro e w24 ⟨rfl, hx⟩
            have FR2 : Hid (Fr w w24 [(w20.heap.size, bm, bx), (b, gm, gx), (w19.heap.size, dm, dx), (w9.heap.size, mm, mx), (w8.heap.size, pm, px), (w7.heap.size, pm, px), (w6.heap.size, pm, px), (w5.heap.size, sm, sx), (w4.heap.size, rm, rx), (w3.heap.size, om, ox), (w2.heap.size + 1, 0, 0), (w2.heap.size, qm, qx), (w1.heap.size, pm, px)]) := Lib.hid (FS.later hx)
            clear cd0 cd1 cy0 cy1 st0 st1 stf
            clear FS
            clear hx FR; have FR := FR2; clear FR2
            go_wp2_with fail
            refine (SN _ (HT.out.later (FR.out.lay _ _ _).x)).mono ?_
            rintro e w25 ⟨rfl, hx⟩
            have FR2 : Hid (Fr w w25 [(w24.heap.size, pm, px), (w20.heap.size, bm, bx), (b, gm, gx), (w19.heap.size, dm, dx), (w9.heap.size, mm, mx), (w8.heap.size, pm, px), (w7.heap.size, pm, px), (w6.heap.size, pm, px), (w5.heap.size, sm, sx), (w4.heap.size, rm, rx), (w3.heap.size, om, ox), (w2.heap.size + 1, 0, 0), (w2.heap.size, qm, qx), (w1.heap.size, pm, px)]) := Lib.hid ((FR.out.lay (pm) (px) 23).later hx)
            clear hx FR; have FR := FR2; clear FR2
            have ck0 := FR.out.c0 (b := w24.heap.size) (.head _); have ck1 := FR.out.c1 (b := w24.heap.size) (.head _)
            have cx0 := FR.out.c0 (b := w1.heap.size) (.tail _ (.tail _ (.tail _ (.tail _ (.tail _ (.tail _ (.tail _ (.tail _ (.tail _ (.tail _ (.tail _ (.tail _ (.tail _ (.head _)))))))))))))); have cx1 := FR.out.c1 (b := w1.heap.size) (.tail _ (.tail _ (.tail _ (.tail _ (.tail _ (.tail _ (.tail _ (.tail _ (.tail _ (.tail _ (.tail _ (.tail _ (.tail _ (.head _))))))))))))))
            go_wp2_with fail
            refine (IS _).mono ?_
            rintro e w26 ⟨rfl, hx⟩
            have FR2 : Hid (Fr w w26 [(w24.heap.size, pm, px), (w20.heap.size, bm, bx), (b, gm, gx), (w19.heap.size, dm, dx), (w9.heap.size, mm, mx), (w8.heap.size, pm, px), (w7.heap.size, pm, px), (w6.heap.size, pm, px), (w5.heap.size, sm, sx), (w4.heap.size, rm, rx), (w3.heap.size, om, ox), (w2.heap.size + 1, 0, 0), (w2.heap.size, qm, qx), (w1.heap.size, pm, px)]) := Lib.hid (FR.out.later hx)
            clear ck0 ck1 cx0 cx1
            clear hx FR; have FR := FR2; clear FR2
            go_wp2
            go_ret
            exact ⟨rfl, FR.out.x⟩
      · have hf' : (f == 0) = false := by simpa using hf
        clear fin
        go_wp2_with fail
        refine (SN _ (HT.out.later FR.out.x)).mono ?_
        rintro e w23 ⟨rfl, hx⟩
        have FR2 : Hid (Fr w w23 [(w20.heap.size, bm, bx), (b, gm, gx), (w19.heap.size, dm, dx), (w9.heap.size, mm, mx), (w8.heap.size, pm, px), (w7.heap.size, pm, px), (w6.heap.size, pm, px), (w5.heap.size, sm, sx), (w4.heap.size, rm, rx), (w3.heap.size, om, ox), (w2.heap.size + 1, 0, 0), (w2.heap.size, qm, qx), (w1.heap.size, pm, px)]) := Lib.hid (FR.out.later hx)
        clear hx FR; have FR := FR2; clear FR2
        go_wp2
        go_ret
        exact ⟨rfl, FR.out.x⟩
end Go.Proofs.YtehmpffffjcloaaGreatDoor
