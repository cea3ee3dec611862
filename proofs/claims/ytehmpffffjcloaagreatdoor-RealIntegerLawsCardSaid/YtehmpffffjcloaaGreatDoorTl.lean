/- Layer 2: the walk of RealIntegerLaws. -/
import Derived.Test.YtehmpffffjcloaaGreatDoorTi
import Derived.Test.YtehmpffffjcloaaGreatDoorGr
namespace Go.Proofs.YtehmpffffjcloaaGreatDoor
open Go.RowKit

set_option maxRecDepth 100000 in
set_option maxHeartbeats 8000000 in
theorem int_e33 (w : World) (ht : Tb w) (i n N fm fx pm px gm gx a b c he : Int) (hN : n.tmod 16777217 = N) (_hN' : IntKind.i64.wrap N = N) (_hN2 : wrap64 N = N) (FI : Ret 20 #[.int .i64 N] (.agg #[.int .i64 fm, .int .i64 fx])) (EF : Ret 48 #[.agg #[.int .i64 fm, .int .i64 fx]] (.tuple #[.int .i64 N, .int .i64 0])) (A : Ret 56 #[.int .i64 i] (.agg #[.int .i64 pm, .int .i64 px])) (EA : Ret 48 #[.agg #[.int .i64 pm, .int .i64 px]] (.tuple #[.int .i64 a, .int .i64 3])) (RB : Ret 49 #[.agg #[.int .i64 pm, .int .i64 px]] (.tuple #[.int .i64 b, .int .i64 3])) (NG : Ret 26 #[.agg #[.int .i64 pm, .int .i64 px]] (.tuple #[.agg #[.int .i64 gm, .int .i64 gx], .int .i64 0])) (RC : Ret 49 #[.agg #[.int .i64 gm, .int .i64 gx]] (.tuple #[.int .i64 c, .int .i64 he]))  (SN : ∀ u, Tb u → Calls Tryz.prog 30 #[] u fun e u' => e = .returned (.bool true) ∧ Ext u u') :
    Calls Tryz.prog 15 #[.int .i64 i, .int .i64 n] w fun e w' => e = .returned (.bool true) ∧ Ext w w' := by
  have HT := Lib.hid ht; clear ht
  have FR := Lib.hid (Fr.nil w)
  have eqR := eqReal
  go_enter Tryz.func15, Tryz.ntmps15
  go_wp2_with fail
  refine (FI _).mono ?_
  rintro e w1 ⟨rfl, hx⟩
  have FR2 : Hid (Fr w w1 []) := Lib.hid (FR.out.later hx)
  clear hx FR; have FR := FR2; clear FR2
  go_wp2_with fail
  refine (EF _).mono ?_
  rintro e w2 ⟨rfl, hx⟩
  have FR2 : Hid (Fr w w2 []) := Lib.hid (FR.out.later hx)
  clear hx FR; have FR := FR2; clear FR2
  go_wp2_with fail
  refine (A _).mono ?_
  rintro e w3 ⟨rfl, hx⟩
  have FR2 : Hid (Fr w w3 []) := Lib.hid (FR.out.later hx)
  clear hx FR; have FR := FR2; clear FR2
  go_wp2_with fail
  refine (EA _).mono ?_
  rintro e w4 ⟨rfl, hx⟩
  have FR2 : Hid (Fr w w4 [(w3.heap.size, pm, px)]) := Lib.hid ((FR.out.lay (pm) (px) 23).later hx)
  clear hx FR; have FR := FR2; clear FR2
  have cx0 := FR.out.c0 (b := w3.heap.size) (.head _); have cx1 := FR.out.c1 (b := w3.heap.size) (.head _)
  go_wp2_with fail
  refine (RB _).mono ?_
  rintro e w5 ⟨rfl, hx⟩
  have FR2 : Hid (Fr w w5 [(w3.heap.size, pm, px)]) := Lib.hid (FR.out.later hx)
  clear cx0 cx1
  clear hx FR; have FR := FR2; clear FR2
  have cx0 := FR.out.c0 (b := w3.heap.size) (.head _); have cx1 := FR.out.c1 (b := w3.heap.size) (.head _)
  go_wp2_with fail
  refine (NG _).mono ?_
  rintro e w6 ⟨rfl, hx⟩
  have FR2 : Hid (Fr w w6 [(w3.heap.size, pm, px)]) := Lib.hid (FR.out.later hx)
  clear cx0 cx1
  clear hx FR; have FR := FR2; clear FR2
  go_wp2_with fail
  refine (RC _).mono ?_
  rintro e w7 ⟨rfl, hx⟩
  have FR2 : Hid (Fr w w7 [(w6.heap.size, gm, gx), (w3.heap.size, pm, px)]) := Lib.hid ((FR.out.lay (gm) (gx) 23).later hx)
  clear hx FR; have FR := FR2; clear FR2
  go_wp2_with fail
  refine (SN _ (HT.out.later FR.out.x)).mono ?_
  rintro e w8 ⟨rfl, hx⟩
  have FR2 : Hid (Fr w w8 [(w6.heap.size, gm, gx), (w3.heap.size, pm, px)]) := Lib.hid (FR.out.later hx)
  clear hx FR; have FR := FR2; clear FR2
  go_wp2
  go_ret
  exact ⟨rfl, FR.out.x⟩
set_option maxRecDepth 100000 in
set_option maxHeartbeats 8000000 in
theorem int_e30 (w : World) (ht : Tb w) (i n N fm fx pm px gm gx a b c he : Int) (hN : n.tmod 16777217 = N) (_hN' : IntKind.i64.wrap N = N) (_hN2 : wrap64 N = N) (FI : Ret 20 #[.int .i64 N] (.agg #[.int .i64 fm, .int .i64 fx])) (EF : Ret 48 #[.agg #[.int .i64 fm, .int .i64 fx]] (.tuple #[.int .i64 N, .int .i64 0])) (A : Ret 56 #[.int .i64 i] (.agg #[.int .i64 pm, .int .i64 px])) (EA : Ret 48 #[.agg #[.int .i64 pm, .int .i64 px]] (.tuple #[.int .i64 a, .int .i64 3])) (RB : Ret 49 #[.agg #[.int .i64 pm, .int .i64 px]] (.tuple #[.int .i64 b, .int .i64 0])) (NG : Ret 26 #[.agg #[.int .i64 pm, .int .i64 px]] (.tuple #[.agg #[.int .i64 gm, .int .i64 gx], .int .i64 0])) (RC : Ret 49 #[.agg #[.int .i64 gm, .int .i64 gx]] (.tuple #[.int .i64 c, .int .i64 he]))  (SN : ∀ u, Tb u → Calls Tryz.prog 30 #[] u fun e u' => e = .returned (.bool true) ∧ Ext u u') :
    Calls Tryz.prog 15 #[.int .i64 i, .int .i64 n] w fun e w' => e = .returned (.bool true) ∧ Ext w w' := by
  have HT := Lib.hid ht; clear ht
  have FR := Lib.hid (Fr.nil w)
  have eqR := eqReal
  go_enter Tryz.func15, Tryz.ntmps15
  go_wp2_with fail
  refine (FI _).mono ?_
  rintro e w1 ⟨rfl, hx⟩
  have FR2 : Hid (Fr w w1 []) := Lib.hid (FR.out.later hx)
  clear hx FR; have FR := FR2; clear FR2
  go_wp2_with fail
  refine (EF _).mono ?_
  rintro e w2 ⟨rfl, hx⟩
  have FR2 : Hid (Fr w w2 []) := Lib.hid (FR.out.later hx)
  clear hx FR; have FR := FR2; clear FR2
  go_wp2_with fail
  refine (A _).mono ?_
  rintro e w3 ⟨rfl, hx⟩
  have FR2 : Hid (Fr w w3 []) := Lib.hid (FR.out.later hx)
  clear hx FR; have FR := FR2; clear FR2
  go_wp2_with fail
  refine (EA _).mono ?_
  rintro e w4 ⟨rfl, hx⟩
  have FR2 : Hid (Fr w w4 [(w3.heap.size, pm, px)]) := Lib.hid ((FR.out.lay (pm) (px) 23).later hx)
  clear hx FR; have FR := FR2; clear FR2
  have cx0 := FR.out.c0 (b := w3.heap.size) (.head _); have cx1 := FR.out.c1 (b := w3.heap.size) (.head _)
  go_wp2_with fail
  refine (RB _).mono ?_
  rintro e w5 ⟨rfl, hx⟩
  have FR2 : Hid (Fr w w5 [(w3.heap.size, pm, px)]) := Lib.hid (FR.out.later hx)
  clear cx0 cx1
  clear hx FR; have FR := FR2; clear FR2
  have cx0 := FR.out.c0 (b := w3.heap.size) (.head _); have cx1 := FR.out.c1 (b := w3.heap.size) (.head _)
  go_wp2_with fail
  refine (NG _).mono ?_
  rintro e w6 ⟨rfl, hx⟩
  have FR2 : Hid (Fr w w6 [(w3.heap.size, pm, px)]) := Lib.hid (FR.out.later hx)
  clear cx0 cx1
  clear hx FR; have FR := FR2; clear FR2
  go_wp2_with fail
  refine (RC _).mono ?_
  rintro e w7 ⟨rfl, hx⟩
  have FR2 : Hid (Fr w w7 [(w6.heap.size, gm, gx), (w3.heap.size, pm, px)]) := Lib.hid ((FR.out.lay (gm) (gx) 23).later hx)
  clear hx FR; have FR := FR2; clear FR2
  go_wp2_with fail
  refine (SN _ (HT.out.later FR.out.x)).mono ?_
  rintro e w8 ⟨rfl, hx⟩
  have FR2 : Hid (Fr w w8 [(w6.heap.size, gm, gx), (w3.heap.size, pm, px)]) := Lib.hid (FR.out.later hx)
  clear hx FR; have FR := FR2; clear FR2
  go_wp2
  go_ret
  exact ⟨rfl, FR.out.x⟩
set_option maxRecDepth 100000 in
set_option maxHeartbeats 8000000 in
theorem int_e03 (w : World) (ht : Tb w) (i n N fm fx pm px gm gx a b c he : Int) (hN : n.tmod 16777217 = N) (_hN' : IntKind.i64.wrap N = N) (_hN2 : wrap64 N = N) (FI : Ret 20 #[.int .i64 N] (.agg #[.int .i64 fm, .int .i64 fx])) (EF : Ret 48 #[.agg #[.int .i64 fm, .int .i64 fx]] (.tuple #[.int .i64 N, .int .i64 0])) (A : Ret 56 #[.int .i64 i] (.agg #[.int .i64 pm, .int .i64 px])) (EA : Ret 48 #[.agg #[.int .i64 pm, .int .i64 px]] (.tuple #[.int .i64 a, .int .i64 0])) (RB : Ret 49 #[.agg #[.int .i64 pm, .int .i64 px]] (.tuple #[.int .i64 b, .int .i64 3])) (NG : Ret 26 #[.agg #[.int .i64 pm, .int .i64 px]] (.tuple #[.agg #[.int .i64 gm, .int .i64 gx], .int .i64 0])) (RC : Ret 49 #[.agg #[.int .i64 gm, .int .i64 gx]] (.tuple #[.int .i64 c, .int .i64 he]))  (SN : ∀ u, Tb u → Calls Tryz.prog 30 #[] u fun e u' => e = .returned (.bool true) ∧ Ext u u') :
    Calls Tryz.prog 15 #[.int .i64 i, .int .i64 n] w fun e w' => e = .returned (.bool true) ∧ Ext w w' := by
  have HT := Lib.hid ht; clear ht
  have FR := Lib.hid (Fr.nil w)
  have eqR := eqReal
  go_enter Tryz.func15, Tryz.ntmps15
  go_wp2_with fail
  refine (FI _).mono ?_
  rintro e w1 ⟨rfl, hx⟩
  have FR2 : Hid (Fr w w1 []) := Lib.hid (FR.out.later hx)
  clear hx FR; have FR := FR2; clear FR2
  go_wp2_with fail
  refine (EF _).mono ?_
  rintro e w2 ⟨rfl, hx⟩
  have FR2 : Hid (Fr w w2 []) := Lib.hid (FR.out.later hx)
  clear hx FR; have FR := FR2; clear FR2
  go_wp2_with fail
  refine (A _).mono ?_
  rintro e w3 ⟨rfl, hx⟩
  have FR2 : Hid (Fr w w3 []) := Lib.hid (FR.out.later hx)
  clear hx FR; have FR := FR2; clear FR2
  go_wp2_with fail
  refine (EA _).mono ?_
  rintro e w4 ⟨rfl, hx⟩
  have FR2 : Hid (Fr w w4 [(w3.heap.size, pm, px)]) := Lib.hid ((FR.out.lay (pm) (px) 23).later hx)
  clear hx FR; have FR := FR2; clear FR2
  have cx0 := FR.out.c0 (b := w3.heap.size) (.head _); have cx1 := FR.out.c1 (b := w3.heap.size) (.head _)
  go_wp2_with fail
  refine (RB _).mono ?_
  rintro e w5 ⟨rfl, hx⟩
  have FR2 : Hid (Fr w w5 [(w3.heap.size, pm, px)]) := Lib.hid (FR.out.later hx)
  clear cx0 cx1
  clear hx FR; have FR := FR2; clear FR2
  have cx0 := FR.out.c0 (b := w3.heap.size) (.head _); have cx1 := FR.out.c1 (b := w3.heap.size) (.head _)
  go_wp2_with fail
  refine (NG _).mono ?_
  rintro e w6 ⟨rfl, hx⟩
  have FR2 : Hid (Fr w w6 [(w3.heap.size, pm, px)]) := Lib.hid (FR.out.later hx)
  clear cx0 cx1
  clear hx FR; have FR := FR2; clear FR2
  go_wp2_with fail
  refine (RC _).mono ?_
  rintro e w7 ⟨rfl, hx⟩
  have FR2 : Hid (Fr w w7 [(w6.heap.size, gm, gx), (w3.heap.size, pm, px)]) := Lib.hid ((FR.out.lay (gm) (gx) 23).later hx)
  clear hx FR; have FR := FR2; clear FR2
  go_wp2_with fail
  refine (SN _ (HT.out.later FR.out.x)).mono ?_
  rintro e w8 ⟨rfl, hx⟩
  have FR2 : Hid (Fr w w8 [(w6.heap.size, gm, gx), (w3.heap.size, pm, px)]) := Lib.hid (FR.out.later hx)
  clear hx FR; have FR := FR2; clear FR2
  go_wp2
  go_ret
  exact ⟨rfl, FR.out.x⟩
set_option maxRecDepth 100000 in
set_option maxHeartbeats 8000000 in
theorem int_r0a_lo (w : World) (ht : Tb w) (i n N fm fx pm px gm gx a B c : Int) (hN : n.tmod 16777217 = N) (_hN' : IntKind.i64.wrap N = N) (_hN2 : wrap64 N = N) (FI : Ret 20 #[.int .i64 N] (.agg #[.int .i64 fm, .int .i64 fx])) (EF : Ret 48 #[.agg #[.int .i64 fm, .int .i64 fx]] (.tuple #[.int .i64 N, .int .i64 0])) (A : Ret 56 #[.int .i64 i] (.agg #[.int .i64 pm, .int .i64 px])) (EA : Ret 48 #[.agg #[.int .i64 pm, .int .i64 px]] (.tuple #[.int .i64 a, .int .i64 0])) (RB : Ret 49 #[.agg #[.int .i64 pm, .int .i64 px]] (.tuple #[.int .i64 a, .int .i64 0])) (NG : Ret 26 #[.agg #[.int .i64 pm, .int .i64 px]] (.tuple #[.agg #[.int .i64 gm, .int .i64 gx], .int .i64 0])) (RC : Ret 49 #[.agg #[.int .i64 gm, .int .i64 gx]] (.tuple #[.int .i64 c, .int .i64 0])) (_wB : IntKind.i64.wrap (a + 1) = B) (_wB' : wrap64 (a + 1) = B) (_nB : ¬ a = B) (_nB' : ¬ B = a) (_nb : (a == B) = false) (_nb' : (B == a) = false) (r1 : a < -8388608) (SN : ∀ u, Tb u → Calls Tryz.prog 30 #[] u fun e u' => e = .returned (.bool true) ∧ Ext u u') :
    Calls Tryz.prog 15 #[.int .i64 i, .int .i64 n] w fun e w' => e = .returned (.bool true) ∧ Ext w w' := by
  have HT := Lib.hid ht; clear ht
  have FR := Lib.hid (Fr.nil w)
  have eqR := eqReal
  go_enter Tryz.func15, Tryz.ntmps15
  go_wp2_with fail
  refine (FI _).mono ?_
  rintro e w1 ⟨rfl, hx⟩
  have FR2 : Hid (Fr w w1 []) := Lib.hid (FR.out.later hx)
  clear hx FR; have FR := FR2; clear FR2
  go_wp2_with fail
  refine (EF _).mono ?_
  rintro e w2 ⟨rfl, hx⟩
  have FR2 : Hid (Fr w w2 []) := Lib.hid (FR.out.later hx)
  clear hx FR; have FR := FR2; clear FR2
  go_wp2_with fail
  refine (A _).mono ?_
  rintro e w3 ⟨rfl, hx⟩
  have FR2 : Hid (Fr w w3 []) := Lib.hid (FR.out.later hx)
  clear hx FR; have FR := FR2; clear FR2
  go_wp2_with fail
  refine (EA _).mono ?_
  rintro e w4 ⟨rfl, hx⟩
  have FR2 : Hid (Fr w w4 [(w3.heap.size, pm, px)]) := Lib.hid ((FR.out.lay (pm) (px) 23).later hx)
  clear hx FR; have FR := FR2; clear FR2
  have cx0 := FR.out.c0 (b := w3.heap.size) (.head _); have cx1 := FR.out.c1 (b := w3.heap.size) (.head _)
  go_wp2_with fail
  refine (RB _).mono ?_
  rintro e w5 ⟨rfl, hx⟩
  have FR2 : Hid (Fr w w5 [(w3.heap.size, pm, px)]) := Lib.hid (FR.out.later hx)
  clear cx0 cx1
  clear hx FR; have FR := FR2; clear FR2
  have cx0 := FR.out.c0 (b := w3.heap.size) (.head _); have cx1 := FR.out.c1 (b := w3.heap.size) (.head _)
  go_wp2_with fail
  refine (NG _).mono ?_
  rintro e w6 ⟨rfl, hx⟩
  have FR2 : Hid (Fr w w6 [(w3.heap.size, pm, px)]) := Lib.hid (FR.out.later hx)
  clear cx0 cx1
  clear hx FR; have FR := FR2; clear FR2
  go_wp2_with fail
  refine (RC _).mono ?_
  rintro e w7 ⟨rfl, hx⟩
  have FR2 : Hid (Fr w w7 [(w6.heap.size, gm, gx), (w3.heap.size, pm, px)]) := Lib.hid ((FR.out.lay (gm) (gx) 23).later hx)
  clear hx FR; have FR := FR2; clear FR2
  go_wp2_with fail
  refine (SN _ (HT.out.later FR.out.x)).mono ?_
  rintro e w8 ⟨rfl, hx⟩
  have FR2 : Hid (Fr w w8 [(w6.heap.size, gm, gx), (w3.heap.size, pm, px)]) := Lib.hid (FR.out.later hx)
  clear hx FR; have FR := FR2; clear FR2
  go_wp2
  go_ret
  exact ⟨rfl, FR.out.x⟩
set_option maxRecDepth 100000 in
set_option maxHeartbeats 8000000 in
theorem int_r0a_hi (w : World) (ht : Tb w) (i n N fm fx pm px gm gx a B c : Int) (hN : n.tmod 16777217 = N) (_hN' : IntKind.i64.wrap N = N) (_hN2 : wrap64 N = N) (FI : Ret 20 #[.int .i64 N] (.agg #[.int .i64 fm, .int .i64 fx])) (EF : Ret 48 #[.agg #[.int .i64 fm, .int .i64 fx]] (.tuple #[.int .i64 N, .int .i64 0])) (A : Ret 56 #[.int .i64 i] (.agg #[.int .i64 pm, .int .i64 px])) (EA : Ret 48 #[.agg #[.int .i64 pm, .int .i64 px]] (.tuple #[.int .i64 a, .int .i64 0])) (RB : Ret 49 #[.agg #[.int .i64 pm, .int .i64 px]] (.tuple #[.int .i64 a, .int .i64 0])) (NG : Ret 26 #[.agg #[.int .i64 pm, .int .i64 px]] (.tuple #[.agg #[.int .i64 gm, .int .i64 gx], .int .i64 0])) (RC : Ret 49 #[.agg #[.int .i64 gm, .int .i64 gx]] (.tuple #[.int .i64 c, .int .i64 0])) (_wB : IntKind.i64.wrap (a + 1) = B) (_wB' : wrap64 (a + 1) = B) (_nB : ¬ a = B) (_nB' : ¬ B = a) (_nb : (a == B) = false) (_nb' : (B == a) = false) (r1 : ¬ a < -8388608) (r2 : a ≥ 8388608) (SN : ∀ u, Tb u → Calls Tryz.prog 30 #[] u fun e u' => e = .returned (.bool true) ∧ Ext u u') :
    Calls Tryz.prog 15 #[.int .i64 i, .int .i64 n] w fun e w' => e = .returned (.bool true) ∧ Ext w w' := by
  have HT := Lib.hid ht; clear ht
  have FR := Lib.hid (Fr.nil w)
  have eqR := eqReal
  go_enter Tryz.func15, Tryz.ntmps15
  go_wp2_with fail
  refine (FI _).mono ?_
  rintro e w1 ⟨rfl, hx⟩
  have FR2 : Hid (Fr w w1 []) := Lib.hid (FR.out.later hx)
  clear hx FR; have FR := FR2; clear FR2
  go_wp2_with fail
  refine (EF _).mono ?_
  rintro e w2 ⟨rfl, hx⟩
  have FR2 : Hid (Fr w w2 []) := Lib.hid (FR.out.later hx)
  clear hx FR; have FR := FR2; clear FR2
  go_wp2_with fail
  refine (A _).mono ?_
  rintro e w3 ⟨rfl, hx⟩
  have FR2 : Hid (Fr w w3 []) := Lib.hid (FR.out.later hx)
  clear hx FR; have FR := FR2; clear FR2
  go_wp2_with fail
  refine (EA _).mono ?_
  rintro e w4 ⟨rfl, hx⟩
  have FR2 : Hid (Fr w w4 [(w3.heap.size, pm, px)]) := Lib.hid ((FR.out.lay (pm) (px) 23).later hx)
  clear hx FR; have FR := FR2; clear FR2
  have cx0 := FR.out.c0 (b := w3.heap.size) (.head _); have cx1 := FR.out.c1 (b := w3.heap.size) (.head _)
  go_wp2_with fail
  refine (RB _).mono ?_
  rintro e w5 ⟨rfl, hx⟩
  have FR2 : Hid (Fr w w5 [(w3.heap.size, pm, px)]) := Lib.hid (FR.out.later hx)
  clear cx0 cx1
  clear hx FR; have FR := FR2; clear FR2
  have cx0 := FR.out.c0 (b := w3.heap.size) (.head _); have cx1 := FR.out.c1 (b := w3.heap.size) (.head _)
  go_wp2_with fail
  refine (NG _).mono ?_
  rintro e w6 ⟨rfl, hx⟩
  have FR2 : Hid (Fr w w6 [(w3.heap.size, pm, px)]) := Lib.hid (FR.out.later hx)
  clear cx0 cx1
  clear hx FR; have FR := FR2; clear FR2
  go_wp2_with fail
  refine (RC _).mono ?_
  rintro e w7 ⟨rfl, hx⟩
  have FR2 : Hid (Fr w w7 [(w6.heap.size, gm, gx), (w3.heap.size, pm, px)]) := Lib.hid ((FR.out.lay (gm) (gx) 23).later hx)
  clear hx FR; have FR := FR2; clear FR2
  go_wp2_with fail
  refine (SN _ (HT.out.later FR.out.x)).mono ?_
  rintro e w8 ⟨rfl, hx⟩
  have FR2 : Hid (Fr w w8 [(w6.heap.size, gm, gx), (w3.heap.size, pm, px)]) := Lib.hid (FR.out.later hx)
  clear hx FR; have FR := FR2; clear FR2
  go_wp2
  go_ret
  exact ⟨rfl, FR.out.x⟩
set_option maxRecDepth 100000 in
set_option maxHeartbeats 8000000 in
theorem int_r0B_lo (w : World) (ht : Tb w) (i n N fm fx pm px gm gx a B c : Int) (hN : n.tmod 16777217 = N) (_hN' : IntKind.i64.wrap N = N) (_hN2 : wrap64 N = N) (FI : Ret 20 #[.int .i64 N] (.agg #[.int .i64 fm, .int .i64 fx])) (EF : Ret 48 #[.agg #[.int .i64 fm, .int .i64 fx]] (.tuple #[.int .i64 N, .int .i64 0])) (A : Ret 56 #[.int .i64 i] (.agg #[.int .i64 pm, .int .i64 px])) (EA : Ret 48 #[.agg #[.int .i64 pm, .int .i64 px]] (.tuple #[.int .i64 a, .int .i64 0])) (RB : Ret 49 #[.agg #[.int .i64 pm, .int .i64 px]] (.tuple #[.int .i64 B, .int .i64 0])) (NG : Ret 26 #[.agg #[.int .i64 pm, .int .i64 px]] (.tuple #[.agg #[.int .i64 gm, .int .i64 gx], .int .i64 0])) (RC : Ret 49 #[.agg #[.int .i64 gm, .int .i64 gx]] (.tuple #[.int .i64 c, .int .i64 0])) (wB : IntKind.i64.wrap (a + 1) = B) (_wB' : wrap64 (a + 1) = B) (_nB : ¬ a = B) (nB' : ¬ B = a) (_nb : (a == B) = false) (_nb' : (B == a) = false) (r1 : a < -8388608) (SN : ∀ u, Tb u → Calls Tryz.prog 30 #[] u fun e u' => e = .returned (.bool true) ∧ Ext u u') :
    Calls Tryz.prog 15 #[.int .i64 i, .int .i64 n] w fun e w' => e = .returned (.bool true) ∧ Ext w w' := by
  have HT := Lib.hid ht; clear ht
  have FR := Lib.hid (Fr.nil w)
  have eqR := eqReal
  go_enter Tryz.func15, Tryz.ntmps15
  go_wp2_with fail
  refine (FI _).mono ?_
  rintro e w1 ⟨rfl, hx⟩
  have FR2 : Hid (Fr w w1 []) := Lib.hid (FR.out.later hx)
  clear hx FR; have FR := FR2; clear FR2
  go_wp2_with fail
  refine (EF _).mono ?_
  rintro e w2 ⟨rfl, hx⟩
  have FR2 : Hid (Fr w w2 []) := Lib.hid (FR.out.later hx)
  clear hx FR; have FR := FR2; clear FR2
  go_wp2_with fail
  refine (A _).mono ?_
  rintro e w3 ⟨rfl, hx⟩
  have FR2 : Hid (Fr w w3 []) := Lib.hid (FR.out.later hx)
  clear hx FR; have FR := FR2; clear FR2
  go_wp2_with fail
  refine (EA _).mono ?_
  rintro e w4 ⟨rfl, hx⟩
  have FR2 : Hid (Fr w w4 [(w3.heap.size, pm, px)]) := Lib.hid ((FR.out.lay (pm) (px) 23).later hx)
  clear hx FR; have FR := FR2; clear FR2
  have cx0 := FR.out.c0 (b := w3.heap.size) (.head _); have cx1 := FR.out.c1 (b := w3.heap.size) (.head _)
  go_wp2_with fail
  refine (RB _).mono ?_
  rintro e w5 ⟨rfl, hx⟩
  have FR2 : Hid (Fr w w5 [(w3.heap.size, pm, px)]) := Lib.hid (FR.out.later hx)
  clear cx0 cx1
  clear hx FR; have FR := FR2; clear FR2
  have cx0 := FR.out.c0 (b := w3.heap.size) (.head _); have cx1 := FR.out.c1 (b := w3.heap.size) (.head _)
  go_wp2_with fail
  refine (NG _).mono ?_
  rintro e w6 ⟨rfl, hx⟩
  have FR2 : Hid (Fr w w6 [(w3.heap.size, pm, px)]) := Lib.hid (FR.out.later hx)
  clear cx0 cx1
  clear hx FR; have FR := FR2; clear FR2
  go_wp2_with fail
  refine (RC _).mono ?_
  rintro e w7 ⟨rfl, hx⟩
  have FR2 : Hid (Fr w w7 [(w6.heap.size, gm, gx), (w3.heap.size, pm, px)]) := Lib.hid ((FR.out.lay (gm) (gx) 23).later hx)
  clear hx FR; have FR := FR2; clear FR2
  go_wp2_with fail
  refine (SN _ (HT.out.later FR.out.x)).mono ?_
  rintro e w8 ⟨rfl, hx⟩
  have FR2 : Hid (Fr w w8 [(w6.heap.size, gm, gx), (w3.heap.size, pm, px)]) := Lib.hid (FR.out.later hx)
  clear hx FR; have FR := FR2; clear FR2
  go_wp2
  go_ret
  exact ⟨rfl, FR.out.x⟩
set_option maxRecDepth 100000 in
set_option maxHeartbeats 8000000 in
theorem int_r0B_hi (w : World) (ht : Tb w) (i n N fm fx pm px gm gx a B c : Int) (hN : n.tmod 16777217 = N) (_hN' : IntKind.i64.wrap N = N) (_hN2 : wrap64 N = N) (FI : Ret 20 #[.int .i64 N] (.agg #[.int .i64 fm, .int .i64 fx])) (EF : Ret 48 #[.agg #[.int .i64 fm, .int .i64 fx]] (.tuple #[.int .i64 N, .int .i64 0])) (A : Ret 56 #[.int .i64 i] (.agg #[.int .i64 pm, .int .i64 px])) (EA : Ret 48 #[.agg #[.int .i64 pm, .int .i64 px]] (.tuple #[.int .i64 a, .int .i64 0])) (RB : Ret 49 #[.agg #[.int .i64 pm, .int .i64 px]] (.tuple #[.int .i64 B, .int .i64 0])) (NG : Ret 26 #[.agg #[.int .i64 pm, .int .i64 px]] (.tuple #[.agg #[.int .i64 gm, .int .i64 gx], .int .i64 0])) (RC : Ret 49 #[.agg #[.int .i64 gm, .int .i64 gx]] (.tuple #[.int .i64 c, .int .i64 0])) (wB : IntKind.i64.wrap (a + 1) = B) (_wB' : wrap64 (a + 1) = B) (_nB : ¬ a = B) (nB' : ¬ B = a) (_nb : (a == B) = false) (_nb' : (B == a) = false) (r1 : ¬ a < -8388608) (r2 : a ≥ 8388608) (SN : ∀ u, Tb u → Calls Tryz.prog 30 #[] u fun e u' => e = .returned (.bool true) ∧ Ext u u') :
    Calls Tryz.prog 15 #[.int .i64 i, .int .i64 n] w fun e w' => e = .returned (.bool true) ∧ Ext w w' := by
  have HT := Lib.hid ht; clear ht
  have FR := Lib.hid (Fr.nil w)
  have eqR := eqReal
  go_enter Tryz.func15, Tryz.ntmps15
  go_wp2_with fail
  refine (FI _).mono ?_
  rintro e w1 ⟨rfl, hx⟩
  have FR2 : Hid (Fr w w1 []) := Lib.hid (FR.out.later hx)
  clear hx FR; have FR := FR2; clear FR2
  go_wp2_with fail
  refine (EF _).mono ?_
  rintro e w2 ⟨rfl, hx⟩
  have FR2 : Hid (Fr w w2 []) := Lib.hid (FR.out.later hx)
  clear hx FR; have FR := FR2; clear FR2
  go_wp2_with fail
  refine (A _).mono ?_
  rintro e w3 ⟨rfl, hx⟩
  have FR2 : Hid (Fr w w3 []) := Lib.hid (FR.out.later hx)
  clear hx FR; have FR := FR2; clear FR2
  go_wp2_with fail
  refine (EA _).mono ?_
  rintro e w4 ⟨rfl, hx⟩
  have FR2 : Hid (Fr w w4 [(w3.heap.size, pm, px)]) := Lib.hid ((FR.out.lay (pm) (px) 23).later hx)
  clear hx FR; have FR := FR2; clear FR2
  have cx0 := FR.out.c0 (b := w3.heap.size) (.head _); have cx1 := FR.out.c1 (b := w3.heap.size) (.head _)
  go_wp2_with fail
  refine (RB _).mono ?_
  rintro e w5 ⟨rfl, hx⟩
  have FR2 : Hid (Fr w w5 [(w3.heap.size, pm, px)]) := Lib.hid (FR.out.later hx)
  clear cx0 cx1
  clear hx FR; have FR := FR2; clear FR2
  have cx0 := FR.out.c0 (b := w3.heap.size) (.head _); have cx1 := FR.out.c1 (b := w3.heap.size) (.head _)
  go_wp2_with fail
  refine (NG _).mono ?_
  rintro e w6 ⟨rfl, hx⟩
  have FR2 : Hid (Fr w w6 [(w3.heap.size, pm, px)]) := Lib.hid (FR.out.later hx)
  clear cx0 cx1
  clear hx FR; have FR := FR2; clear FR2
  go_wp2_with fail
  refine (RC _).mono ?_
  rintro e w7 ⟨rfl, hx⟩
  have FR2 : Hid (Fr w w7 [(w6.heap.size, gm, gx), (w3.heap.size, pm, px)]) := Lib.hid ((FR.out.lay (gm) (gx) 23).later hx)
  clear hx FR; have FR := FR2; clear FR2
  go_wp2_with fail
  refine (SN _ (HT.out.later FR.out.x)).mono ?_
  rintro e w8 ⟨rfl, hx⟩
  have FR2 : Hid (Fr w w8 [(w6.heap.size, gm, gx), (w3.heap.size, pm, px)]) := Lib.hid (FR.out.later hx)
  clear hx FR; have FR := FR2; clear FR2
  go_wp2
  go_ret
  exact ⟨rfl, FR.out.x⟩
set_option maxRecDepth 100000 in
set_option maxHeartbeats 8000000 in
theorem int_r3a_lo (w : World) (ht : Tb w) (i n N fm fx pm px gm gx a B c : Int) (hN : n.tmod 16777217 = N) (_hN' : IntKind.i64.wrap N = N) (_hN2 : wrap64 N = N) (FI : Ret 20 #[.int .i64 N] (.agg #[.int .i64 fm, .int .i64 fx])) (EF : Ret 48 #[.agg #[.int .i64 fm, .int .i64 fx]] (.tuple #[.int .i64 N, .int .i64 0])) (A : Ret 56 #[.int .i64 i] (.agg #[.int .i64 pm, .int .i64 px])) (EA : Ret 48 #[.agg #[.int .i64 pm, .int .i64 px]] (.tuple #[.int .i64 a, .int .i64 0])) (RB : Ret 49 #[.agg #[.int .i64 pm, .int .i64 px]] (.tuple #[.int .i64 a, .int .i64 0])) (NG : Ret 26 #[.agg #[.int .i64 pm, .int .i64 px]] (.tuple #[.agg #[.int .i64 gm, .int .i64 gx], .int .i64 0])) (RC : Ret 49 #[.agg #[.int .i64 gm, .int .i64 gx]] (.tuple #[.int .i64 c, .int .i64 3])) (_wB : IntKind.i64.wrap (a + 1) = B) (_wB' : wrap64 (a + 1) = B) (_nB : ¬ a = B) (_nB' : ¬ B = a) (_nb : (a == B) = false) (_nb' : (B == a) = false) (r1 : a < -8388608) (SN : ∀ u, Tb u → Calls Tryz.prog 30 #[] u fun e u' => e = .returned (.bool true) ∧ Ext u u') :
    Calls Tryz.prog 15 #[.int .i64 i, .int .i64 n] w fun e w' => e = .returned (.bool true) ∧ Ext w w' := by
  have HT := Lib.hid ht; clear ht
  have FR := Lib.hid (Fr.nil w)
  have eqR := eqReal
  go_enter Tryz.func15, Tryz.ntmps15
  go_wp2_with fail
  refine (FI _).mono ?_
  rintro e w1 ⟨rfl, hx⟩
  have FR2 : Hid (Fr w w1 []) := Lib.hid (FR.out.later hx)
  clear hx FR; have FR := FR2; clear FR2
  go_wp2_with fail
  refine (EF _).mono ?_
  rintro e w2 ⟨rfl, hx⟩
  have FR2 : Hid (Fr w w2 []) := Lib.hid (FR.out.later hx)
  clear hx FR; have FR := FR2; clear FR2
  go_wp2_with fail
  refine (A _).mono ?_
  rintro e w3 ⟨rfl, hx⟩
  have FR2 : Hid (Fr w w3 []) := Lib.hid (FR.out.later hx)
  clear hx FR; have FR := FR2; clear FR2
  go_wp2_with fail
  refine (EA _).mono ?_
  rintro e w4 ⟨rfl, hx⟩
  have FR2 : Hid (Fr w w4 [(w3.heap.size, pm, px)]) := Lib.hid ((FR.out.lay (pm) (px) 23).later hx)
  clear hx FR; have FR := FR2; clear FR2
  have cx0 := FR.out.c0 (b := w3.heap.size) (.head _); have cx1 := FR.out.c1 (b := w3.heap.size) (.head _)
  go_wp2_with fail
  refine (RB _).mono ?_
  rintro e w5 ⟨rfl, hx⟩
  have FR2 : Hid (Fr w w5 [(w3.heap.size, pm, px)]) := Lib.hid (FR.out.later hx)
  clear cx0 cx1
  clear hx FR; have FR := FR2; clear FR2
  have cx0 := FR.out.c0 (b := w3.heap.size) (.head _); have cx1 := FR.out.c1 (b := w3.heap.size) (.head _)
  go_wp2_with fail
  refine (NG _).mono ?_
  rintro e w6 ⟨rfl, hx⟩
  have FR2 : Hid (Fr w w6 [(w3.heap.size, pm, px)]) := Lib.hid (FR.out.later hx)
  clear cx0 cx1
  clear hx FR; have FR := FR2; clear FR2
  go_wp2_with fail
  refine (RC _).mono ?_
  rintro e w7 ⟨rfl, hx⟩
  have FR2 : Hid (Fr w w7 [(w6.heap.size, gm, gx), (w3.heap.size, pm, px)]) := Lib.hid ((FR.out.lay (gm) (gx) 23).later hx)
  clear hx FR; have FR := FR2; clear FR2
  go_wp2_with fail
  refine (SN _ (HT.out.later FR.out.x)).mono ?_
  rintro e w8 ⟨rfl, hx⟩
  have FR2 : Hid (Fr w w8 [(w6.heap.size, gm, gx), (w3.heap.size, pm, px)]) := Lib.hid (FR.out.later hx)
  clear hx FR; have FR := FR2; clear FR2
  go_wp2
  go_ret
  exact ⟨rfl, FR.out.x⟩
set_option maxRecDepth 100000 in
set_option maxHeartbeats 8000000 in
theorem int_r3a_hi (w : World) (ht : Tb w) (i n N fm fx pm px gm gx a B c : Int) (hN : n.tmod 16777217 = N) (_hN' : IntKind.i64.wrap N = N) (_hN2 : wrap64 N = N) (FI : Ret 20 #[.int .i64 N] (.agg #[.int .i64 fm, .int .i64 fx])) (EF : Ret 48 #[.agg #[.int .i64 fm, .int .i64 fx]] (.tuple #[.int .i64 N, .int .i64 0])) (A : Ret 56 #[.int .i64 i] (.agg #[.int .i64 pm, .int .i64 px])) (EA : Ret 48 #[.agg #[.int .i64 pm, .int .i64 px]] (.tuple #[.int .i64 a, .int .i64 0])) (RB : Ret 49 #[.agg #[.int .i64 pm, .int .i64 px]] (.tuple #[.int .i64 a, .int .i64 0])) (NG : Ret 26 #[.agg #[.int .i64 pm, .int .i64 px]] (.tuple #[.agg #[.int .i64 gm, .int .i64 gx], .int .i64 0])) (RC : Ret 49 #[.agg #[.int .i64 gm, .int .i64 gx]] (.tuple #[.int .i64 c, .int .i64 3])) (_wB : IntKind.i64.wrap (a + 1) = B) (_wB' : wrap64 (a + 1) = B) (_nB : ¬ a = B) (_nB' : ¬ B = a) (_nb : (a == B) = false) (_nb' : (B == a) = false) (r1 : ¬ a < -8388608) (r2 : a ≥ 8388608) (SN : ∀ u, Tb u → Calls Tryz.prog 30 #[] u fun e u' => e = .returned (.bool true) ∧ Ext u u') :
    Calls Tryz.prog 15 #[.int .i64 i, .int .i64 n] w fun e w' => e = .returned (.bool true) ∧ Ext w w' := by
  have HT := Lib.hid ht; clear ht
  have FR := Lib.hid (Fr.nil w)
  have eqR := eqReal
  go_enter Tryz.func15, Tryz.ntmps15
  go_wp2_with fail
  refine (FI _).mono ?_
  rintro e w1 ⟨rfl, hx⟩
  have FR2 : Hid (Fr w w1 []) := Lib.hid (FR.out.later hx)
  clear hx FR; have FR := FR2; clear FR2
  go_wp2_with fail
  refine (EF _).mono ?_
  rintro e w2 ⟨rfl, hx⟩
  have FR2 : Hid (Fr w w2 []) := Lib.hid (FR.out.later hx)
  clear hx FR; have FR := FR2; clear FR2
  go_wp2_with fail
  refine (A _).mono ?_
  rintro e w3 ⟨rfl, hx⟩
  have FR2 : Hid (Fr w w3 []) := Lib.hid (FR.out.later hx)
  clear hx FR; have FR := FR2; clear FR2
  go_wp2_with fail
  refine (EA _).mono ?_
  rintro e w4 ⟨rfl, hx⟩
  have FR2 : Hid (Fr w w4 [(w3.heap.size, pm, px)]) := Lib.hid ((FR.out.lay (pm) (px) 23).later hx)
  clear hx FR; have FR := FR2; clear FR2
  have cx0 := FR.out.c0 (b := w3.heap.size) (.head _); have cx1 := FR.out.c1 (b := w3.heap.size) (.head _)
  go_wp2_with fail
  refine (RB _).mono ?_
  rintro e w5 ⟨rfl, hx⟩
  have FR2 : Hid (Fr w w5 [(w3.heap.size, pm, px)]) := Lib.hid (FR.out.later hx)
  clear cx0 cx1
  clear hx FR; have FR := FR2; clear FR2
  have cx0 := FR.out.c0 (b := w3.heap.size) (.head _); have cx1 := FR.out.c1 (b := w3.heap.size) (.head _)
  go_wp2_with fail
  refine (NG _).mono ?_
  rintro e w6 ⟨rfl, hx⟩
  have FR2 : Hid (Fr w w6 [(w3.heap.size, pm, px)]) := Lib.hid (FR.out.later hx)
  clear cx0 cx1
  clear hx FR; have FR := FR2; clear FR2
  go_wp2_with fail
  refine (RC _).mono ?_
  rintro e w7 ⟨rfl, hx⟩
  have FR2 : Hid (Fr w w7 [(w6.heap.size, gm, gx), (w3.heap.size, pm, px)]) := Lib.hid ((FR.out.lay (gm) (gx) 23).later hx)
  clear hx FR; have FR := FR2; clear FR2
  go_wp2_with fail
  refine (SN _ (HT.out.later FR.out.x)).mono ?_
  rintro e w8 ⟨rfl, hx⟩
  have FR2 : Hid (Fr w w8 [(w6.heap.size, gm, gx), (w3.heap.size, pm, px)]) := Lib.hid (FR.out.later hx)
  clear hx FR; have FR := FR2; clear FR2
  go_wp2
  go_ret
  exact ⟨rfl, FR.out.x⟩
set_option maxRecDepth 100000 in
set_option maxHeartbeats 8000000 in
theorem int_r3B_lo (w : World) (ht : Tb w) (i n N fm fx pm px gm gx a B c : Int) (hN : n.tmod 16777217 = N) (_hN' : IntKind.i64.wrap N = N) (_hN2 : wrap64 N = N) (FI : Ret 20 #[.int .i64 N] (.agg #[.int .i64 fm, .int .i64 fx])) (EF : Ret 48 #[.agg #[.int .i64 fm, .int .i64 fx]] (.tuple #[.int .i64 N, .int .i64 0])) (A : Ret 56 #[.int .i64 i] (.agg #[.int .i64 pm, .int .i64 px])) (EA : Ret 48 #[.agg #[.int .i64 pm, .int .i64 px]] (.tuple #[.int .i64 a, .int .i64 0])) (RB : Ret 49 #[.agg #[.int .i64 pm, .int .i64 px]] (.tuple #[.int .i64 B, .int .i64 0])) (NG : Ret 26 #[.agg #[.int .i64 pm, .int .i64 px]] (.tuple #[.agg #[.int .i64 gm, .int .i64 gx], .int .i64 0])) (RC : Ret 49 #[.agg #[.int .i64 gm, .int .i64 gx]] (.tuple #[.int .i64 c, .int .i64 3])) (wB : IntKind.i64.wrap (a + 1) = B) (_wB' : wrap64 (a + 1) = B) (_nB : ¬ a = B) (nB' : ¬ B = a) (_nb : (a == B) = false) (_nb' : (B == a) = false) (r1 : a < -8388608) (SN : ∀ u, Tb u → Calls Tryz.prog 30 #[] u fun e u' => e = .returned (.bool true) ∧ Ext u u') :
    Calls Tryz.prog 15 #[.int .i64 i, .int .i64 n] w fun e w' => e = .returned (.bool true) ∧ Ext w w' := by
  have HT := Lib.hid ht; clear ht
  have FR := Lib.hid (Fr.nil w)
  have eqR := eqReal
  go_enter Tryz.func15, Tryz.ntmps15
  go_wp2_with fail
  refine (FI _).mono ?_
  rintro e w1 ⟨rfl, hx⟩
  have FR2 : Hid (Fr w w1 []) := Lib.hid (FR.out.later hx)
  clear hx FR; have FR := FR2; clear FR2
  go_wp2_with fail
  refine (EF _).mono ?_
  rintro e w2 ⟨rfl, hx⟩
  have FR2 : Hid (Fr w w2 []) := Lib.hid (FR.out.later hx)
  clear hx FR; have FR := FR2; clear FR2
  go_wp2_with fail
  refine (A _).mono ?_
  rintro e w3 ⟨rfl, hx⟩
  have FR2 : Hid (Fr w w3 []) := Lib.hid (FR.out.later hx)
  clear hx FR; have FR := FR2; clear FR2
  go_wp2_with fail
  refine (EA _).mono ?_
  rintro e w4 ⟨rfl, hx⟩
  have FR2 : Hid (Fr w w4 [(w3.heap.size, pm, px)]) := Lib.hid ((FR.out.lay (pm) (px) 23).later hx)
  clear hx FR; have FR := FR2; clear FR2
  have cx0 := FR.out.c0 (b := w3.heap.size) (.head _); have cx1 := FR.out.c1 (b := w3.heap.size) (.head _)
  go_wp2_with fail
  refine (RB _).mono ?_
  rintro e w5 ⟨rfl, hx⟩
  have FR2 : Hid (Fr w w5 [(w3.heap.size, pm, px)]) := Lib.hid (FR.out.later hx)
  clear cx0 cx1
  clear hx FR; have FR := FR2; clear FR2
  have cx0 := FR.out.c0 (b := w3.heap.size) (.head _); have cx1 := FR.out.c1 (b := w3.heap.size) (.head _)
  go_wp2_with fail
  refine (NG _).mono ?_
  rintro e w6 ⟨rfl, hx⟩
  have FR2 : Hid (Fr w w6 [(w3.heap.size, pm, px)]) := Lib.hid (FR.out.later hx)
  clear cx0 cx1
  clear hx FR; have FR := FR2; clear FR2
  go_wp2_with fail
  refine (RC _).mono ?_
  rintro e w7 ⟨rfl, hx⟩
  have FR2 : Hid (Fr w w7 [(w6.heap.size, gm, gx), (w3.heap.size, pm, px)]) := Lib.hid ((FR.out.lay (gm) (gx) 23).later hx)
  clear hx FR; have FR := FR2; clear FR2
  go_wp2_with fail
  refine (SN _ (HT.out.later FR.out.x)).mono ?_
  rintro e w8 ⟨rfl, hx⟩
  have FR2 : Hid (Fr w w8 [(w6.heap.size, gm, gx), (w3.heap.size, pm, px)]) := Lib.hid (FR.out.later hx)
  clear hx FR; have FR := FR2; clear FR2
  go_wp2
  go_ret
  exact ⟨rfl, FR.out.x⟩
set_option maxRecDepth 100000 in
set_option maxHeartbeats 8000000 in
theorem int_r3B_hi (w : World) (ht : Tb w) (i n N fm fx pm px gm gx a B c : Int) (hN : n.tmod 16777217 = N) (_hN' : IntKind.i64.wrap N = N) (_hN2 : wrap64 N = N) (FI : Ret 20 #[.int .i64 N] (.agg #[.int .i64 fm, .int .i64 fx])) (EF : Ret 48 #[.agg #[.int .i64 fm, .int .i64 fx]] (.tuple #[.int .i64 N, .int .i64 0])) (A : Ret 56 #[.int .i64 i] (.agg #[.int .i64 pm, .int .i64 px])) (EA : Ret 48 #[.agg #[.int .i64 pm, .int .i64 px]] (.tuple #[.int .i64 a, .int .i64 0])) (RB : Ret 49 #[.agg #[.int .i64 pm, .int .i64 px]] (.tuple #[.int .i64 B, .int .i64 0])) (NG : Ret 26 #[.agg #[.int .i64 pm, .int .i64 px]] (.tuple #[.agg #[.int .i64 gm, .int .i64 gx], .int .i64 0])) (RC : Ret 49 #[.agg #[.int .i64 gm, .int .i64 gx]] (.tuple #[.int .i64 c, .int .i64 3])) (wB : IntKind.i64.wrap (a + 1) = B) (_wB' : wrap64 (a + 1) = B) (_nB : ¬ a = B) (nB' : ¬ B = a) (_nb : (a == B) = false) (_nb' : (B == a) = false) (r1 : ¬ a < -8388608) (r2 : a ≥ 8388608) (SN : ∀ u, Tb u → Calls Tryz.prog 30 #[] u fun e u' => e = .returned (.bool true) ∧ Ext u u') :
    Calls Tryz.prog 15 #[.int .i64 i, .int .i64 n] w fun e w' => e = .returned (.bool true) ∧ Ext w w' := by
  have HT := Lib.hid ht; clear ht
  have FR := Lib.hid (Fr.nil w)
  have eqR := eqReal
  go_enter Tryz.func15, Tryz.ntmps15
  go_wp2_with fail
  refine (FI _).mono ?_
  rintro e w1 ⟨rfl, hx⟩
  have FR2 : Hid (Fr w w1 []) := Lib.hid (FR.out.later hx)
  clear hx FR; have FR := FR2; clear FR2
  go_wp2_with fail
  refine (EF _).mono ?_
  rintro e w2 ⟨rfl, hx⟩
  have FR2 : Hid (Fr w w2 []) := Lib.hid (FR.out.later hx)
  clear hx FR; have FR := FR2; clear FR2
  go_wp2_with fail
  refine (A _).mono ?_
  rintro e w3 ⟨rfl, hx⟩
  have FR2 : Hid (Fr w w3 []) := Lib.hid (FR.out.later hx)
  clear hx FR; have FR := FR2; clear FR2
  go_wp2_with fail
  refine (EA _).mono ?_
  rintro e w4 ⟨rfl, hx⟩
  have FR2 : Hid (Fr w w4 [(w3.heap.size, pm, px)]) := Lib.hid ((FR.out.lay (pm) (px) 23).later hx)
  clear hx FR; have FR := FR2; clear FR2
  have cx0 := FR.out.c0 (b := w3.heap.size) (.head _); have cx1 := FR.out.c1 (b := w3.heap.size) (.head _)
  go_wp2_with fail
  refine (RB _).mono ?_
  rintro e w5 ⟨rfl, hx⟩
  have FR2 : Hid (Fr w w5 [(w3.heap.size, pm, px)]) := Lib.hid (FR.out.later hx)
  clear cx0 cx1
  clear hx FR; have FR := FR2; clear FR2
  have cx0 := FR.out.c0 (b := w3.heap.size) (.head _); have cx1 := FR.out.c1 (b := w3.heap.size) (.head _)
  go_wp2_with fail
  refine (NG _).mono ?_
  rintro e w6 ⟨rfl, hx⟩
  have FR2 : Hid (Fr w w6 [(w3.heap.size, pm, px)]) := Lib.hid (FR.out.later hx)
  clear cx0 cx1
  clear hx FR; have FR := FR2; clear FR2
  go_wp2_with fail
  refine (RC _).mono ?_
  rintro e w7 ⟨rfl, hx⟩
  have FR2 : Hid (Fr w w7 [(w6.heap.size, gm, gx), (w3.heap.size, pm, px)]) := Lib.hid ((FR.out.lay (gm) (gx) 23).later hx)
  clear hx FR; have FR := FR2; clear FR2
  go_wp2_with fail
  refine (SN _ (HT.out.later FR.out.x)).mono ?_
  rintro e w8 ⟨rfl, hx⟩
  have FR2 : Hid (Fr w w8 [(w6.heap.size, gm, gx), (w3.heap.size, pm, px)]) := Lib.hid (FR.out.later hx)
  clear hx FR; have FR := FR2; clear FR2
  go_wp2
  go_ret
  exact ⟨rfl, FR.out.x⟩
end Go.Proofs.YtehmpffffjcloaaGreatDoor
