/- The walk of RealProducts. -/
import Derived.Test.YthmndafjogndaaaGreatDoorUw
import Derived.Test.YthmndafjogndaaaGreatDoorUs
import Derived.Test.YthmndafjogndaaaGreatDoorTh
import Derived.Test.YthmndafjogndaaaGreatDoorTi
import Derived.Test.YthmndafjogndaaaGreatDoorGr
namespace Go.Proofs.YthmndafjogndaaaGreatDoor.realProducts
open Go.RowKit

set_option maxRecDepth 100000 in
set_option maxHeartbeats 8000000 in
theorem bad_x (w : World) (ht : Tb w) (pm px qm qx  : Int) (MU : Ret 33 #[.agg #[.int .i64 pm, .int .i64 px], .agg #[.int .i64 qm, .int .i64 qx]] (.tuple #[.agg #[.int .i64 0, .int .i64 0], .int .i64 1])) (DI : Ret 34 #[.agg #[.int .i64 pm, .int .i64 px], .agg #[.int .i64 qm, .int .i64 qx]] (.tuple #[.agg #[.int .i64 0, .int .i64 0], .int .i64 1])) (SQ : Ret 35 #[.agg #[.int .i64 pm, .int .i64 px]] (.tuple #[.agg #[.int .i64 0, .int .i64 0], .int .i64 1])) (VX : Ret 16 #[.agg #[.int .i64 pm, .int .i64 px]] (.bool false)) (SN : ∀ u, Tb u → Calls Tryz.prog 23 #[] u fun e u' => e = .returned (.bool true) ∧ Ext u u') :
    Calls Tryz.prog 5 #[.agg #[.int .i64 pm, .int .i64 px], .agg #[.int .i64 qm, .int .i64 qx]] w fun e w' => e = .returned (.bool true) ∧ Ext w w' := by
  have HT := Lib.hid ht; clear ht
  have FR := Lib.hid (Fr.nil w)
  have eqR := eqReal
  go_enter Tryz.func5, Tryz.ntmps5
  go_wp2_with fail
  refine (MU _).mono ?_
  rintro e w1 ⟨rfl, hx⟩
  have FR2 : Hid (Fr w w1 [(w.heap.size + 1, qm, qx), (w.heap.size, pm, px)]) := Lib.hid ((FR.out.lay2 (pm) (px) (qm) (qx) 23).later hx)
  clear hx FR; have FR := FR2; clear FR2
  have cx0 := FR.out.g0 (b := w.heap.size) (.tail _ (.head _)); have cx1 := FR.out.g1 (b := w.heap.size) (.tail _ (.head _))
  have cy0 := FR.out.g0 (b := w.heap.size + 1) (.head _); have cy1 := FR.out.g1 (b := w.heap.size + 1) (.head _)
  go_wp2_with fail
  refine (DI _).mono ?_
  rintro e w2 ⟨rfl, hx⟩
  have FR2 : Hid (Fr w w2 [(w1.heap.size, 0, 0), (w.heap.size + 1, qm, qx), (w.heap.size, pm, px)]) := Lib.hid ((FR.out.lay (0) (0) 23).later hx)
  clear cx0 cx1 cy0 cy1
  clear hx FR; have FR := FR2; clear FR2
  have cx0 := FR.out.g0 (b := w.heap.size) (.tail _ (.tail _ (.head _))); have cx1 := FR.out.g1 (b := w.heap.size) (.tail _ (.tail _ (.head _)))
  go_wp2_with fail
  refine (SQ _).mono ?_
  rintro e w3 ⟨rfl, hx⟩
  have FR2 : Hid (Fr w w3 [(w2.heap.size, 0, 0), (w1.heap.size, 0, 0), (w.heap.size + 1, qm, qx), (w.heap.size, pm, px)]) := Lib.hid ((FR.out.lay (0) (0) 23).later hx)
  clear cx0 cx1
  clear hx FR; have FR := FR2; clear FR2
  have cx0 := FR.out.g0 (b := w.heap.size) (.tail _ (.tail _ (.tail _ (.head _)))); have cx1 := FR.out.g1 (b := w.heap.size) (.tail _ (.tail _ (.tail _ (.head _))))
  go_wp2_with fail
  refine (VX _).mono ?_
  rintro e w4 ⟨rfl, hx⟩
  have FR2 : Hid (Fr w w4 [(w3.heap.size, 0, 0), (w2.heap.size, 0, 0), (w1.heap.size, 0, 0), (w.heap.size + 1, qm, qx), (w.heap.size, pm, px)]) := Lib.hid ((FR.out.lay (0) (0) 23).later hx)
  clear cx0 cx1
  clear hx FR; have FR := FR2; clear FR2
  go_wp2_with fail
  refine (SN _ (HT.out.later FR.out.x)).mono ?_
  rintro e w5 ⟨rfl, hx⟩
  have FR2 : Hid (Fr w w5 [(w3.heap.size, 0, 0), (w2.heap.size, 0, 0), (w1.heap.size, 0, 0), (w.heap.size + 1, qm, qx), (w.heap.size, pm, px)]) := Lib.hid (FR.out.later hx)
  clear hx FR; have FR := FR2; clear FR2
  have ca0 := FR.out.c0 (b := w1.heap.size) (.tail _ (.tail _ (.head _))); have ca1 := FR.out.c1 (b := w1.heap.size) (.tail _ (.tail _ (.head _)))
  have cb0 := FR.out.c0 (b := w2.heap.size) (.tail _ (.head _)); have cb1 := FR.out.c1 (b := w2.heap.size) (.tail _ (.head _))
  have cc0 := FR.out.c0 (b := w3.heap.size) (.head _); have cc1 := FR.out.c1 (b := w3.heap.size) (.head _)
  go_wp2
  go_ret
  exact ⟨rfl, FR.out.x⟩
set_option maxRecDepth 100000 in
set_option maxHeartbeats 8000000 in
theorem neg_i (w : World) (ht : Tb w) (pm px qm qx  : Int) (hn : pm < 0) (MU : Ret 33 #[.agg #[.int .i64 pm, .int .i64 px], .agg #[.int .i64 qm, .int .i64 qx]] (.tuple #[.agg #[.int .i64 0, .int .i64 0], .int .i64 1])) (DI : Ret 34 #[.agg #[.int .i64 pm, .int .i64 px], .agg #[.int .i64 qm, .int .i64 qx]] (.tuple #[.agg #[.int .i64 0, .int .i64 0], .int .i64 1])) (SQ : Ret 35 #[.agg #[.int .i64 pm, .int .i64 px]] (.tuple #[.agg #[.int .i64 0, .int .i64 0], .int .i64 5])) (VX : Ret 16 #[.agg #[.int .i64 pm, .int .i64 px]] (.bool true)) (VY : Ret 16 #[.agg #[.int .i64 qm, .int .i64 qx]] (.bool false)) (SN : ∀ u, Tb u → Calls Tryz.prog 23 #[] u fun e u' => e = .returned (.bool true) ∧ Ext u u') :
    Calls Tryz.prog 5 #[.agg #[.int .i64 pm, .int .i64 px], .agg #[.int .i64 qm, .int .i64 qx]] w fun e w' => e = .returned (.bool true) ∧ Ext w w' := by
  have HT := Lib.hid ht; clear ht
  have FR := Lib.hid (Fr.nil w)
  have eqR := eqReal
  go_enter Tryz.func5, Tryz.ntmps5
  go_wp2_with fail
  refine (MU _).mono ?_
  rintro e w1 ⟨rfl, hx⟩
  have FR2 : Hid (Fr w w1 [(w.heap.size + 1, qm, qx), (w.heap.size, pm, px)]) := Lib.hid ((FR.out.lay2 (pm) (px) (qm) (qx) 23).later hx)
  clear hx FR; have FR := FR2; clear FR2
  have cx0 := FR.out.g0 (b := w.heap.size) (.tail _ (.head _)); have cx1 := FR.out.g1 (b := w.heap.size) (.tail _ (.head _))
  have cy0 := FR.out.g0 (b := w.heap.size + 1) (.head _); have cy1 := FR.out.g1 (b := w.heap.size + 1) (.head _)
  go_wp2_with fail
  refine (DI _).mono ?_
  rintro e w2 ⟨rfl, hx⟩
  have FR2 : Hid (Fr w w2 [(w1.heap.size, 0, 0), (w.heap.size + 1, qm, qx), (w.heap.size, pm, px)]) := Lib.hid ((FR.out.lay (0) (0) 23).later hx)
  clear cx0 cx1 cy0 cy1
  clear hx FR; have FR := FR2; clear FR2
  have cx0 := FR.out.g0 (b := w.heap.size) (.tail _ (.tail _ (.head _))); have cx1 := FR.out.g1 (b := w.heap.size) (.tail _ (.tail _ (.head _)))
  go_wp2_with fail
  refine (SQ _).mono ?_
  rintro e w3 ⟨rfl, hx⟩
  have FR2 : Hid (Fr w w3 [(w2.heap.size, 0, 0), (w1.heap.size, 0, 0), (w.heap.size + 1, qm, qx), (w.heap.size, pm, px)]) := Lib.hid ((FR.out.lay (0) (0) 23).later hx)
  clear cx0 cx1
  clear hx FR; have FR := FR2; clear FR2
  have cx0 := FR.out.g0 (b := w.heap.size) (.tail _ (.tail _ (.tail _ (.head _)))); have cx1 := FR.out.g1 (b := w.heap.size) (.tail _ (.tail _ (.tail _ (.head _))))
  go_wp2_with fail
  refine (VX _).mono ?_
  rintro e w4 ⟨rfl, hx⟩
  have FR2 : Hid (Fr w w4 [(w3.heap.size, 0, 0), (w2.heap.size, 0, 0), (w1.heap.size, 0, 0), (w.heap.size + 1, qm, qx), (w.heap.size, pm, px)]) := Lib.hid ((FR.out.lay (0) (0) 23).later hx)
  clear cx0 cx1
  clear hx FR; have FR := FR2; clear FR2
  have cx0 := FR.out.c0 (b := w.heap.size) (.tail _ (.tail _ (.tail _ (.tail _ (.head _))))); have cx1 := FR.out.c1 (b := w.heap.size) (.tail _ (.tail _ (.tail _ (.tail _ (.head _)))))
  have cc0 := FR.out.c0 (b := w3.heap.size) (.head _); have cc1 := FR.out.c1 (b := w3.heap.size) (.head _)
  have cy0 := FR.out.c0 (b := w.heap.size + 1) (.tail _ (.tail _ (.tail _ (.head _)))); have cy1 := FR.out.c1 (b := w.heap.size + 1) (.tail _ (.tail _ (.tail _ (.head _))))
  go_wp2_with fail
  refine (VY _).mono ?_
  rintro e w5 ⟨rfl, hx⟩
  have FR2 : Hid (Fr w w5 [(w3.heap.size, 0, 0), (w2.heap.size, 0, 0), (w1.heap.size, 0, 0), (w.heap.size + 1, qm, qx), (w.heap.size, pm, px)]) := Lib.hid (FR.out.later hx)
  clear cx0 cx1 cc0 cc1 cy0 cy1
  clear hx FR; have FR := FR2; clear FR2
  go_wp2_with fail
  refine (SN _ (HT.out.later FR.out.x)).mono ?_
  rintro e w6 ⟨rfl, hx⟩
  have FR2 : Hid (Fr w w6 [(w3.heap.size, 0, 0), (w2.heap.size, 0, 0), (w1.heap.size, 0, 0), (w.heap.size + 1, qm, qx), (w.heap.size, pm, px)]) := Lib.hid (FR.out.later hx)
  clear hx FR; have FR := FR2; clear FR2
  have ca0 := FR.out.c0 (b := w1.heap.size) (.tail _ (.tail _ (.head _))); have ca1 := FR.out.c1 (b := w1.heap.size) (.tail _ (.tail _ (.head _)))
  have cb0 := FR.out.c0 (b := w2.heap.size) (.tail _ (.head _)); have cb1 := FR.out.c1 (b := w2.heap.size) (.tail _ (.head _))
  go_wp2
  go_ret
  exact ⟨rfl, FR.out.x⟩
set_option maxRecDepth 100000 in
set_option maxHeartbeats 8000000 in
theorem neg_z (w : World) (ht : Tb w) (pm px am ax ae r1 r2 : Int) (hn : pm < 0) (MU : Ret 33 #[.agg #[.int .i64 pm, .int .i64 px], .agg #[.int .i64 0, .int .i64 0]] (.tuple #[.agg #[.int .i64 am, .int .i64 ax], .int .i64 ae])) (DI : Ret 34 #[.agg #[.int .i64 pm, .int .i64 px], .agg #[.int .i64 0, .int .i64 0]] (.tuple #[.agg #[.int .i64 0, .int .i64 0], .int .i64 5])) (SQ : Ret 35 #[.agg #[.int .i64 pm, .int .i64 px]] (.tuple #[.agg #[.int .i64 0, .int .i64 0], .int .i64 5])) (VX : Ret 16 #[.agg #[.int .i64 pm, .int .i64 px]] (.bool true)) (VY : Ret 16 #[.agg #[.int .i64 0, .int .i64 0]] (.bool true)) (k : Bool) (RMU : Ret 37 #[.agg #[.int .i64 pm, .int .i64 px], .agg #[.int .i64 0, .int .i64 0]] (.agg #[.int .i64 r1, .int .i64 r2, .bool k])) (R1 : Ret 30 #[.agg #[.int .i64 am, .int .i64 ax], .int .i64 ae, .agg #[.int .i64 r1, .int .i64 r2, .bool k]] (.bool true)) (SN : ∀ u, Tb u → Calls Tryz.prog 23 #[] u fun e u' => e = .returned (.bool true) ∧ Ext u u') :
    Calls Tryz.prog 5 #[.agg #[.int .i64 pm, .int .i64 px], .agg #[.int .i64 0, .int .i64 0]] w fun e w' => e = .returned (.bool true) ∧ Ext w w' := by
  have HT := Lib.hid ht; clear ht
  have FR := Lib.hid (Fr.nil w)
  have eqR := eqReal
  go_enter Tryz.func5, Tryz.ntmps5
  go_wp2_with fail
  refine (MU _).mono ?_
  rintro e w1 ⟨rfl, hx⟩
  have FR2 : Hid (Fr w w1 [(w.heap.size + 1, 0, 0), (w.heap.size, pm, px)]) := Lib.hid ((FR.out.lay2 (pm) (px) (0) (0) 23).later hx)
  clear hx FR; have FR := FR2; clear FR2
  have cx0 := FR.out.g0 (b := w.heap.size) (.tail _ (.head _)); have cx1 := FR.out.g1 (b := w.heap.size) (.tail _ (.head _))
  have cy0 := FR.out.g0 (b := w.heap.size + 1) (.head _); have cy1 := FR.out.g1 (b := w.heap.size + 1) (.head _)
  go_wp2_with fail
  refine (DI _).mono ?_
  rintro e w2 ⟨rfl, hx⟩
  have FR2 : Hid (Fr w w2 [(w1.heap.size, am, ax), (w.heap.size + 1, 0, 0), (w.heap.size, pm, px)]) := Lib.hid ((FR.out.lay (am) (ax) 23).later hx)
  clear cx0 cx1 cy0 cy1
  clear hx FR; have FR := FR2; clear FR2
  have cx0 := FR.out.g0 (b := w.heap.size) (.tail _ (.tail _ (.head _))); have cx1 := FR.out.g1 (b := w.heap.size) (.tail _ (.tail _ (.head _)))
  go_wp2_with fail
  refine (SQ _).mono ?_
  rintro e w3 ⟨rfl, hx⟩
  have FR2 : Hid (Fr w w3 [(w2.heap.size, 0, 0), (w1.heap.size, am, ax), (w.heap.size + 1, 0, 0), (w.heap.size, pm, px)]) := Lib.hid ((FR.out.lay (0) (0) 23).later hx)
  clear cx0 cx1
  clear hx FR; have FR := FR2; clear FR2
  have cx0 := FR.out.g0 (b := w.heap.size) (.tail _ (.tail _ (.tail _ (.head _)))); have cx1 := FR.out.g1 (b := w.heap.size) (.tail _ (.tail _ (.tail _ (.head _))))
  go_wp2_with fail
  refine (VX _).mono ?_
  rintro e w4 ⟨rfl, hx⟩
  have FR2 : Hid (Fr w w4 [(w3.heap.size, 0, 0), (w2.heap.size, 0, 0), (w1.heap.size, am, ax), (w.heap.size + 1, 0, 0), (w.heap.size, pm, px)]) := Lib.hid ((FR.out.lay (0) (0) 23).later hx)
  clear cx0 cx1
  clear hx FR; have FR := FR2; clear FR2
  have cx0 := FR.out.c0 (b := w.heap.size) (.tail _ (.tail _ (.tail _ (.tail _ (.head _))))); have cx1 := FR.out.c1 (b := w.heap.size) (.tail _ (.tail _ (.tail _ (.tail _ (.head _)))))
  have cc0 := FR.out.c0 (b := w3.heap.size) (.head _); have cc1 := FR.out.c1 (b := w3.heap.size) (.head _)
  have cy0 := FR.out.c0 (b := w.heap.size + 1) (.tail _ (.tail _ (.tail _ (.head _)))); have cy1 := FR.out.c1 (b := w.heap.size + 1) (.tail _ (.tail _ (.tail _ (.head _))))
  go_wp2_with fail
  refine (VY _).mono ?_
  rintro e w5 ⟨rfl, hx⟩
  have FR2 : Hid (Fr w w5 [(w3.heap.size, 0, 0), (w2.heap.size, 0, 0), (w1.heap.size, am, ax), (w.heap.size + 1, 0, 0), (w.heap.size, pm, px)]) := Lib.hid (FR.out.later hx)
  clear cx0 cx1 cc0 cc1 cy0 cy1
  clear hx FR; have FR := FR2; clear FR2
  go_upto_region 13 with (fail)
  have HT0 : Fr w w5 [(w3.heap.size, 0, 0), (w2.heap.size, 0, 0), (w1.heap.size, am, ax), (w.heap.size + 1, 0, 0), (w.heap.size, pm, px)] := FR.out
  refine wp_region_S (fun u : World => Fr w u [(w3.heap.size, 0, 0), (w2.heap.size, 0, 0), (w1.heap.size, am, ax), (w.heap.size + 1, 0, 0), (w.heap.size, pm, px)]) 6 (by kernel_rfl) ?_
  have HS := HT0.later (Ext.refl _).drew
  clear HT0 FR
  refine GoS.take (i := 0) (v := ?_) rfl (by kernel_rfl) (by kernel_rfl) (by kernel_rfl) (by kernel_rfl) (fun _ _ _ h => h) (Or.inl ⟨by rfl, ?hy1⟩) HS ?_
  case hy1 => ((intro u' hT; have da0 := hT.c0 (b := w1.heap.size) (.tail _ (.tail _ (.head _))); have da1 := hT.c1 (b := w1.heap.size) (.tail _ (.tail _ (.head _))); go_simp); try with_reducible rfl)
  try simp only [List.getElem_toArray, List.getElem_cons_zero, Act.put, List.setIfInBounds_toArray, List.set_cons_zero, List.set_cons_succ]
  refine GoS.pure (i := 1) (v := ?_) rfl (by kernel_rfl) (by kernel_rfl) (by kernel_rfl) (by kernel_rfl) (fun _ _ _ h => h) (Or.inl ⟨by rfl, ?hy2⟩) (fun _ => HS) ?_
  case hy2 => ((intro u' hT; go_simp); try with_reducible rfl)
  try simp only [List.getElem_toArray, List.getElem_cons_succ, List.getElem_cons_zero, Act.put, List.setIfInBounds_toArray, List.set_cons_zero, List.set_cons_succ]
  refine GoS.take (i := 2) (v := ?_) rfl (by kernel_rfl) (by kernel_rfl) (by kernel_rfl) (by kernel_rfl) (fun _ _ _ h => h) (Or.inl ⟨by rfl, ?hy3⟩) HS ?_
  case hy3 => ((intro u' hT; have dx0 := hT.c0 (b := w.heap.size) (.tail _ (.tail _ (.tail _ (.tail _ (.head _))))); have dx1 := hT.c1 (b := w.heap.size) (.tail _ (.tail _ (.tail _ (.tail _ (.head _))))); go_simp); try with_reducible rfl)
  try simp only [List.getElem_toArray, List.getElem_cons_succ, List.getElem_cons_zero, Act.put, List.setIfInBounds_toArray, List.set_cons_zero, List.set_cons_succ]
  refine GoS.take (i := 3) (v := ?_) rfl (by kernel_rfl) (by kernel_rfl) (by kernel_rfl) (by kernel_rfl) (fun _ _ _ h => h) (Or.inl ⟨by rfl, ?hy4⟩) HS ?_
  case hy4 => ((intro u' hT; have dy0 := hT.c0 (b := w.heap.size + 1) (.tail _ (.tail _ (.tail _ (.head _)))); have dy1 := hT.c1 (b := w.heap.size + 1) (.tail _ (.tail _ (.tail _ (.head _)))); go_simp); try with_reducible rfl)
  try simp only [List.getElem_toArray, List.getElem_cons_succ, List.getElem_cons_zero, Act.put, List.setIfInBounds_toArray, List.set_cons_zero, List.set_cons_succ]
  refine GoS.one (i := 4) (by kernel_rfl) rfl (fun K hK => ?_)
  go_simp
  (with_reducible refine (RMU.call _).mono ?_)
  rintro e q5 ⟨rfl, hx5⟩
  have HS2 := HS.later hx5
  clear HS; have HS := HS2; clear HS2 hx5
  go_wp2_with fail
  refine hK.out _ _ HS (fun _ => ?_)
  clear hK K
  try simp only [List.getElem_toArray, List.getElem_cons_succ, List.getElem_cons_zero, Act.put, List.setIfInBounds_toArray, List.set_cons_zero, List.set_cons_succ]
  refine GoS.one (i := 5) (by kernel_rfl) rfl (fun K hK => ?_)
  go_simp
  (with_reducible refine (R1.call _).mono ?_)
  rintro e q6 ⟨rfl, hx6⟩
  have HS2 := HS.later hx6
  clear HS; have HS := HS2; clear HS2 hx6
  go_wp2_with fail
  refine hK.out _ _ HS (fun _ => ?_)
  clear hK K
  try simp only [List.getElem_toArray, List.getElem_cons_succ, List.getElem_cons_zero, Act.put, List.setIfInBounds_toArray, List.set_cons_zero, List.set_cons_succ]
  refine GoS.store (i := 6) (by kernel_rfl) rfl (by kernel_rfl) (fun K hK => ?_)
  go_simp
  refine hK.out _ _ ?_
  clear hK K
  try simp only [List.getElem_toArray, List.getElem_cons_succ, List.getElem_cons_zero, Act.put, List.setIfInBounds_toArray, List.set_cons_zero, List.set_cons_succ]
  refine GoS.done (by kernel_rfl) ?_
  have FR := Lib.hid HS; clear HS
  have cy0 := FR.out.c0 (b := w.heap.size + 1) (.tail _ (.tail _ (.tail _ (.head _)))); have cy1 := FR.out.c1 (b := w.heap.size + 1) (.tail _ (.tail _ (.tail _ (.head _))))
  go_wp2_with fail
  refine (SN _ (HT.out.later FR.out.x)).mono ?_
  rintro e w6 ⟨rfl, hx⟩
  have FR2 : Hid (Fr w w6 [(w3.heap.size, 0, 0), (w2.heap.size, 0, 0), (w1.heap.size, am, ax), (w.heap.size + 1, 0, 0), (w.heap.size, pm, px)]) := Lib.hid (FR.out.later hx)
  clear cy0 cy1
  clear hx FR; have FR := FR2; clear FR2
  have cb0 := FR.out.c0 (b := w2.heap.size) (.tail _ (.head _)); have cb1 := FR.out.c1 (b := w2.heap.size) (.tail _ (.head _))
  go_wp2
  go_ret
  exact ⟨rfl, FR.out.x⟩
set_option maxRecDepth 100000 in
set_option maxHeartbeats 8000000 in
theorem neg_n (w : World) (ht : Tb w) (pm px qm qx am ax ae r1 r2 bm bx be s1 s2 : Int) (hn : pm < 0) (MU : Ret 33 #[.agg #[.int .i64 pm, .int .i64 px], .agg #[.int .i64 qm, .int .i64 qx]] (.tuple #[.agg #[.int .i64 am, .int .i64 ax], .int .i64 ae])) (DI : Ret 34 #[.agg #[.int .i64 pm, .int .i64 px], .agg #[.int .i64 qm, .int .i64 qx]] (.tuple #[.agg #[.int .i64 bm, .int .i64 bx], .int .i64 be])) (SQ : Ret 35 #[.agg #[.int .i64 pm, .int .i64 px]] (.tuple #[.agg #[.int .i64 0, .int .i64 0], .int .i64 5])) (VX : Ret 16 #[.agg #[.int .i64 pm, .int .i64 px]] (.bool true)) (VY : Ret 16 #[.agg #[.int .i64 qm, .int .i64 qx]] (.bool true)) (k : Bool) (RMU : Ret 37 #[.agg #[.int .i64 pm, .int .i64 px], .agg #[.int .i64 qm, .int .i64 qx]] (.agg #[.int .i64 r1, .int .i64 r2, .bool k])) (R1 : Ret 30 #[.agg #[.int .i64 am, .int .i64 ax], .int .i64 ae, .agg #[.int .i64 r1, .int .i64 r2, .bool k]] (.bool true)) (hq : (qm == 0) = false) (_hq' : ¬ qm = 0) (l : Bool) (RDI : Ret 38 #[.agg #[.int .i64 pm, .int .i64 px], .agg #[.int .i64 qm, .int .i64 qx]] (.agg #[.int .i64 s1, .int .i64 s2, .bool l])) (R2 : Ret 30 #[.agg #[.int .i64 bm, .int .i64 bx], .int .i64 be, .agg #[.int .i64 s1, .int .i64 s2, .bool l]] (.bool true)) (SN : ∀ u, Tb u → Calls Tryz.prog 23 #[] u fun e u' => e = .returned (.bool true) ∧ Ext u u') :
    Calls Tryz.prog 5 #[.agg #[.int .i64 pm, .int .i64 px], .agg #[.int .i64 qm, .int .i64 qx]] w fun e w' => e = .returned (.bool true) ∧ Ext w w' := by
  have HT := Lib.hid ht; clear ht
  have FR := Lib.hid (Fr.nil w)
  have eqR := eqReal
  go_enter Tryz.func5, Tryz.ntmps5
  go_wp2_with fail
  refine (MU _).mono ?_
  rintro e w1 ⟨rfl, hx⟩
  have FR2 : Hid (Fr w w1 [(w.heap.size + 1, qm, qx), (w.heap.size, pm, px)]) := Lib.hid ((FR.out.lay2 (pm) (px) (qm) (qx) 23).later hx)
  clear hx FR; have FR := FR2; clear FR2
  have cx0 := FR.out.g0 (b := w.heap.size) (.tail _ (.head _)); have cx1 := FR.out.g1 (b := w.heap.size) (.tail _ (.head _))
  have cy0 := FR.out.g0 (b := w.heap.size + 1) (.head _); have cy1 := FR.out.g1 (b := w.heap.size + 1) (.head _)
  go_wp2_with fail
  refine (DI _).mono ?_
  rintro e w2 ⟨rfl, hx⟩
  have FR2 : Hid (Fr w w2 [(w1.heap.size, am, ax), (w.heap.size + 1, qm, qx), (w.heap.size, pm, px)]) := Lib.hid ((FR.out.lay (am) (ax) 23).later hx)
  clear cx0 cx1 cy0 cy1
  clear hx FR; have FR := FR2; clear FR2
  have cx0 := FR.out.g0 (b := w.heap.size) (.tail _ (.tail _ (.head _))); have cx1 := FR.out.g1 (b := w.heap.size) (.tail _ (.tail _ (.head _)))
  go_wp2_with fail
  refine (SQ _).mono ?_
  rintro e w3 ⟨rfl, hx⟩
  have FR2 : Hid (Fr w w3 [(w2.heap.size, bm, bx), (w1.heap.size, am, ax), (w.heap.size + 1, qm, qx), (w.heap.size, pm, px)]) := Lib.hid ((FR.out.lay (bm) (bx) 23).later hx)
  clear cx0 cx1
  clear hx FR; have FR := FR2; clear FR2
  have cx0 := FR.out.g0 (b := w.heap.size) (.tail _ (.tail _ (.tail _ (.head _)))); have cx1 := FR.out.g1 (b := w.heap.size) (.tail _ (.tail _ (.tail _ (.head _))))
  go_wp2_with fail
  refine (VX _).mono ?_
  rintro e w4 ⟨rfl, hx⟩
  have FR2 : Hid (Fr w w4 [(w3.heap.size, 0, 0), (w2.heap.size, bm, bx), (w1.heap.size, am, ax), (w.heap.size + 1, qm, qx), (w.heap.size, pm, px)]) := Lib.hid ((FR.out.lay (0) (0) 23).later hx)
  clear cx0 cx1
  clear hx FR; have FR := FR2; clear FR2
  have cx0 := FR.out.c0 (b := w.heap.size) (.tail _ (.tail _ (.tail _ (.tail _ (.head _))))); have cx1 := FR.out.c1 (b := w.heap.size) (.tail _ (.tail _ (.tail _ (.tail _ (.head _)))))
  have cc0 := FR.out.c0 (b := w3.heap.size) (.head _); have cc1 := FR.out.c1 (b := w3.heap.size) (.head _)
  have cy0 := FR.out.c0 (b := w.heap.size + 1) (.tail _ (.tail _ (.tail _ (.head _)))); have cy1 := FR.out.c1 (b := w.heap.size + 1) (.tail _ (.tail _ (.tail _ (.head _))))
  go_wp2_with fail
  refine (VY _).mono ?_
  rintro e w5 ⟨rfl, hx⟩
  have FR2 : Hid (Fr w w5 [(w3.heap.size, 0, 0), (w2.heap.size, bm, bx), (w1.heap.size, am, ax), (w.heap.size + 1, qm, qx), (w.heap.size, pm, px)]) := Lib.hid (FR.out.later hx)
  clear cx0 cx1 cc0 cc1 cy0 cy1
  clear hx FR; have FR := FR2; clear FR2
  go_upto_region 13 with (fail)
  have HT0 : Fr w w5 [(w3.heap.size, 0, 0), (w2.heap.size, bm, bx), (w1.heap.size, am, ax), (w.heap.size + 1, qm, qx), (w.heap.size, pm, px)] := FR.out
  refine wp_region_S (fun u : World => Fr w u [(w3.heap.size, 0, 0), (w2.heap.size, bm, bx), (w1.heap.size, am, ax), (w.heap.size + 1, qm, qx), (w.heap.size, pm, px)]) 6 (by kernel_rfl) ?_
  have HS := HT0.later (Ext.refl _).drew
  clear HT0 FR
  refine GoS.take (i := 0) (v := ?_) rfl (by kernel_rfl) (by kernel_rfl) (by kernel_rfl) (by kernel_rfl) (fun _ _ _ h => h) (Or.inl ⟨by rfl, ?hy7⟩) HS ?_
  case hy7 => ((intro u' hT; have da0 := hT.c0 (b := w1.heap.size) (.tail _ (.tail _ (.head _))); have da1 := hT.c1 (b := w1.heap.size) (.tail _ (.tail _ (.head _))); go_simp); try with_reducible rfl)
  try simp only [List.getElem_toArray, List.getElem_cons_zero, Act.put, List.setIfInBounds_toArray, List.set_cons_zero, List.set_cons_succ]
  refine GoS.pure (i := 1) (v := ?_) rfl (by kernel_rfl) (by kernel_rfl) (by kernel_rfl) (by kernel_rfl) (fun _ _ _ h => h) (Or.inl ⟨by rfl, ?hy8⟩) (fun _ => HS) ?_
  case hy8 => ((intro u' hT; go_simp); try with_reducible rfl)
  try simp only [List.getElem_toArray, List.getElem_cons_succ, List.getElem_cons_zero, Act.put, List.setIfInBounds_toArray, List.set_cons_zero, List.set_cons_succ]
  refine GoS.take (i := 2) (v := ?_) rfl (by kernel_rfl) (by kernel_rfl) (by kernel_rfl) (by kernel_rfl) (fun _ _ _ h => h) (Or.inl ⟨by rfl, ?hy9⟩) HS ?_
  case hy9 => ((intro u' hT; have dx0 := hT.c0 (b := w.heap.size) (.tail _ (.tail _ (.tail _ (.tail _ (.head _))))); have dx1 := hT.c1 (b := w.heap.size) (.tail _ (.tail _ (.tail _ (.tail _ (.head _))))); go_simp); try with_reducible rfl)
  try simp only [List.getElem_toArray, List.getElem_cons_succ, List.getElem_cons_zero, Act.put, List.setIfInBounds_toArray, List.set_cons_zero, List.set_cons_succ]
  refine GoS.take (i := 3) (v := ?_) rfl (by kernel_rfl) (by kernel_rfl) (by kernel_rfl) (by kernel_rfl) (fun _ _ _ h => h) (Or.inl ⟨by rfl, ?hy10⟩) HS ?_
  case hy10 => ((intro u' hT; have dy0 := hT.c0 (b := w.heap.size + 1) (.tail _ (.tail _ (.tail _ (.head _)))); have dy1 := hT.c1 (b := w.heap.size + 1) (.tail _ (.tail _ (.tail _ (.head _)))); go_simp); try with_reducible rfl)
  try simp only [List.getElem_toArray, List.getElem_cons_succ, List.getElem_cons_zero, Act.put, List.setIfInBounds_toArray, List.set_cons_zero, List.set_cons_succ]
  refine GoS.one (i := 4) (by kernel_rfl) rfl (fun K hK => ?_)
  go_simp
  (with_reducible refine (RMU.call _).mono ?_)
  rintro e q11 ⟨rfl, hx11⟩
  have HS2 := HS.later hx11
  clear HS; have HS := HS2; clear HS2 hx11
  go_wp2_with fail
  refine hK.out _ _ HS (fun _ => ?_)
  clear hK K
  try simp only [List.getElem_toArray, List.getElem_cons_succ, List.getElem_cons_zero, Act.put, List.setIfInBounds_toArray, List.set_cons_zero, List.set_cons_succ]
  refine GoS.one (i := 5) (by kernel_rfl) rfl (fun K hK => ?_)
  go_simp
  (with_reducible refine (R1.call _).mono ?_)
  rintro e q12 ⟨rfl, hx12⟩
  have HS2 := HS.later hx12
  clear HS; have HS := HS2; clear HS2 hx12
  go_wp2_with fail
  refine hK.out _ _ HS (fun _ => ?_)
  clear hK K
  try simp only [List.getElem_toArray, List.getElem_cons_succ, List.getElem_cons_zero, Act.put, List.setIfInBounds_toArray, List.set_cons_zero, List.set_cons_succ]
  refine GoS.store (i := 6) (by kernel_rfl) rfl (by kernel_rfl) (fun K hK => ?_)
  go_simp
  refine hK.out _ _ ?_
  clear hK K
  try simp only [List.getElem_toArray, List.getElem_cons_succ, List.getElem_cons_zero, Act.put, List.setIfInBounds_toArray, List.set_cons_zero, List.set_cons_succ]
  refine GoS.done (by kernel_rfl) ?_
  have FR := Lib.hid HS; clear HS
  have cy0 := FR.out.c0 (b := w.heap.size + 1) (.tail _ (.tail _ (.tail _ (.head _)))); have cy1 := FR.out.c1 (b := w.heap.size + 1) (.tail _ (.tail _ (.tail _ (.head _))))
  go_upto_region 17 with (fail)
  have HT0 : Fr w q12 [(w3.heap.size, 0, 0), (w2.heap.size, bm, bx), (w1.heap.size, am, ax), (w.heap.size + 1, qm, qx), (w.heap.size, pm, px)] := FR.out
  refine wp_region_S (fun u : World => Fr w u [(w3.heap.size, 0, 0), (w2.heap.size, bm, bx), (w1.heap.size, am, ax), (w.heap.size + 1, qm, qx), (w.heap.size, pm, px)]) 9 (by kernel_rfl) ?_
  have HS := HT0.later (Ext.refl _).drew
  clear HT0 FR cy0 cy1
  refine GoS.one (i := 0) (by kernel_rfl) rfl (fun K hK => ?_)
  go_simp
  (with_reducible refine (SN _ (HT.out.later HS.x)).mono ?_)
  rintro e q13 ⟨rfl, hx13⟩
  have HS2 := HS.later hx13
  clear HS; have HS := HS2; clear HS2 hx13
  go_wp2_with fail
  refine hK.out _ _ HS (fun _ => ?_)
  clear hK K
  try simp only [List.getElem_toArray, List.getElem_cons_succ, List.getElem_cons_zero, Act.put, List.setIfInBounds_toArray, List.set_cons_zero, List.set_cons_succ]
  refine GoS.pure (i := 1) (v := ?_) rfl (by kernel_rfl) (by kernel_rfl) (by kernel_rfl) (by kernel_rfl) (fun _ _ _ h => h) (Or.inl ⟨by rfl, ?hy14⟩) (fun _ => HS) ?_
  case hy14 => ((intro u' hT; go_simp); try with_reducible rfl)
  try simp only [List.getElem_toArray, List.getElem_cons_succ, List.getElem_cons_zero, Act.put, List.setIfInBounds_toArray, List.set_cons_zero, List.set_cons_succ]
  refine GoS.take (i := 2) (v := ?_) rfl (by kernel_rfl) (by kernel_rfl) (by kernel_rfl) (by kernel_rfl) (fun _ _ _ h => h) (Or.inl ⟨by rfl, ?hy15⟩) HS ?_
  case hy15 => ((intro u' hT; have db0 := hT.c0 (b := w2.heap.size) (.tail _ (.head _)); have db1 := hT.c1 (b := w2.heap.size) (.tail _ (.head _)); go_simp); try with_reducible rfl)
  try simp only [List.getElem_toArray, List.getElem_cons_succ, List.getElem_cons_zero, Act.put, List.setIfInBounds_toArray, List.set_cons_zero, List.set_cons_succ]
  refine GoS.pure (i := 3) (v := ?_) rfl (by kernel_rfl) (by kernel_rfl) (by kernel_rfl) (by kernel_rfl) (fun _ _ _ h => h) (Or.inl ⟨by rfl, ?hy16⟩) (fun _ => HS) ?_
  case hy16 => ((intro u' hT; go_simp); try with_reducible rfl)
  try simp only [List.getElem_toArray, List.getElem_cons_succ, List.getElem_cons_zero, Act.put, List.setIfInBounds_toArray, List.set_cons_zero, List.set_cons_succ]
  refine GoS.take (i := 4) (v := ?_) rfl (by kernel_rfl) (by kernel_rfl) (by kernel_rfl) (by kernel_rfl) (fun _ _ _ h => h) (Or.inl ⟨by rfl, ?hy17⟩) HS ?_
  case hy17 => ((intro u' hT; have dx0 := hT.c0 (b := w.heap.size) (.tail _ (.tail _ (.tail _ (.tail _ (.head _))))); have dx1 := hT.c1 (b := w.heap.size) (.tail _ (.tail _ (.tail _ (.tail _ (.head _))))); go_simp); try with_reducible rfl)
  try simp only [List.getElem_toArray, List.getElem_cons_succ, List.getElem_cons_zero, Act.put, List.setIfInBounds_toArray, List.set_cons_zero, List.set_cons_succ]
  refine GoS.take (i := 5) (v := ?_) rfl (by kernel_rfl) (by kernel_rfl) (by kernel_rfl) (by kernel_rfl) (fun _ _ _ h => h) (Or.inl ⟨by rfl, ?hy18⟩) HS ?_
  case hy18 => ((intro u' hT; have dy0 := hT.c0 (b := w.heap.size + 1) (.tail _ (.tail _ (.tail _ (.head _)))); have dy1 := hT.c1 (b := w.heap.size + 1) (.tail _ (.tail _ (.tail _ (.head _)))); go_simp); try with_reducible rfl)
  try simp only [List.getElem_toArray, List.getElem_cons_succ, List.getElem_cons_zero, Act.put, List.setIfInBounds_toArray, List.set_cons_zero, List.set_cons_succ]
  refine GoS.one (i := 6) (by kernel_rfl) rfl (fun K hK => ?_)
  go_simp
  (with_reducible refine (RDI.call _).mono ?_)
  rintro e q19 ⟨rfl, hx19⟩
  have HS2 := HS.later hx19
  clear HS; have HS := HS2; clear HS2 hx19
  go_wp2_with fail
  refine hK.out _ _ HS (fun _ => ?_)
  clear hK K
  try simp only [List.getElem_toArray, List.getElem_cons_succ, List.getElem_cons_zero, Act.put, List.setIfInBounds_toArray, List.set_cons_zero, List.set_cons_succ]
  refine GoS.one (i := 7) (by kernel_rfl) rfl (fun K hK => ?_)
  go_simp
  (with_reducible refine (R2.call _).mono ?_)
  rintro e q20 ⟨rfl, hx20⟩
  have HS2 := HS.later hx20
  clear HS; have HS := HS2; clear HS2 hx20
  go_wp2_with fail
  refine hK.out _ _ HS (fun _ => ?_)
  clear hK K
  try simp only [List.getElem_toArray, List.getElem_cons_succ, List.getElem_cons_zero, Act.put, List.setIfInBounds_toArray, List.set_cons_zero, List.set_cons_succ]
  refine GoS.pure (i := 8) (v := ?_) rfl (by kernel_rfl) (by kernel_rfl) (by kernel_rfl) (by kernel_rfl) (fun _ _ _ h => h) (Or.inl ⟨by rfl, ?hy21⟩) (fun _ => HS) ?_
  case hy21 => ((intro u' hT; go_simp); try with_reducible rfl)
  try simp only [List.getElem_toArray, List.getElem_cons_succ, List.getElem_cons_zero, Act.put, List.setIfInBounds_toArray, List.set_cons_zero, List.set_cons_succ]
  refine GoS.store (i := 9) (by kernel_rfl) rfl (by kernel_rfl) (fun K hK => ?_)
  go_simp
  refine hK.out _ _ ?_
  clear hK K
  try simp only [List.getElem_toArray, List.getElem_cons_succ, List.getElem_cons_zero, Act.put, List.setIfInBounds_toArray, List.set_cons_zero, List.set_cons_succ]
  refine GoS.done (by kernel_rfl) ?_
  have FR := Lib.hid HS; clear HS
  go_wp2
  go_ret
  exact ⟨rfl, FR.out.x⟩
set_option maxRecDepth 100000 in
set_option maxHeartbeats 8000000 in
theorem pos_i (w : World) (ht : Tb w) (pm px qm qx cm cx : Int) (hn : ¬ pm < 0) (MU : Ret 33 #[.agg #[.int .i64 pm, .int .i64 px], .agg #[.int .i64 qm, .int .i64 qx]] (.tuple #[.agg #[.int .i64 0, .int .i64 0], .int .i64 1])) (DI : Ret 34 #[.agg #[.int .i64 pm, .int .i64 px], .agg #[.int .i64 qm, .int .i64 qx]] (.tuple #[.agg #[.int .i64 0, .int .i64 0], .int .i64 1])) (SQ : Ret 35 #[.agg #[.int .i64 pm, .int .i64 px]] (.tuple #[.agg #[.int .i64 cm, .int .i64 cx], .int .i64 0])) (VX : Ret 16 #[.agg #[.int .i64 pm, .int .i64 px]] (.bool true)) (VY : Ret 16 #[.agg #[.int .i64 qm, .int .i64 qx]] (.bool false)) (RSQ : Ret 36 #[.agg #[.int .i64 pm, .int .i64 px]] (.agg #[.int .i64 cm, .int .i64 cx])) (SN : ∀ u, Tb u → Calls Tryz.prog 23 #[] u fun e u' => e = .returned (.bool true) ∧ Ext u u') :
    Calls Tryz.prog 5 #[.agg #[.int .i64 pm, .int .i64 px], .agg #[.int .i64 qm, .int .i64 qx]] w fun e w' => e = .returned (.bool true) ∧ Ext w w' := by
  have HT := Lib.hid ht; clear ht
  have FR := Lib.hid (Fr.nil w)
  have eqR := eqReal
  go_enter Tryz.func5, Tryz.ntmps5
  go_wp2_with fail
  refine (MU _).mono ?_
  rintro e w1 ⟨rfl, hx⟩
  have FR2 : Hid (Fr w w1 [(w.heap.size + 1, qm, qx), (w.heap.size, pm, px)]) := Lib.hid ((FR.out.lay2 (pm) (px) (qm) (qx) 23).later hx)
  clear hx FR; have FR := FR2; clear FR2
  have cx0 := FR.out.g0 (b := w.heap.size) (.tail _ (.head _)); have cx1 := FR.out.g1 (b := w.heap.size) (.tail _ (.head _))
  have cy0 := FR.out.g0 (b := w.heap.size + 1) (.head _); have cy1 := FR.out.g1 (b := w.heap.size + 1) (.head _)
  go_wp2_with fail
  refine (DI _).mono ?_
  rintro e w2 ⟨rfl, hx⟩
  have FR2 : Hid (Fr w w2 [(w1.heap.size, 0, 0), (w.heap.size + 1, qm, qx), (w.heap.size, pm, px)]) := Lib.hid ((FR.out.lay (0) (0) 23).later hx)
  clear cx0 cx1 cy0 cy1
  clear hx FR; have FR := FR2; clear FR2
  have cx0 := FR.out.g0 (b := w.heap.size) (.tail _ (.tail _ (.head _))); have cx1 := FR.out.g1 (b := w.heap.size) (.tail _ (.tail _ (.head _)))
  go_wp2_with fail
  refine (SQ _).mono ?_
  rintro e w3 ⟨rfl, hx⟩
  have FR2 : Hid (Fr w w3 [(w2.heap.size, 0, 0), (w1.heap.size, 0, 0), (w.heap.size + 1, qm, qx), (w.heap.size, pm, px)]) := Lib.hid ((FR.out.lay (0) (0) 23).later hx)
  clear cx0 cx1
  clear hx FR; have FR := FR2; clear FR2
  have cx0 := FR.out.g0 (b := w.heap.size) (.tail _ (.tail _ (.tail _ (.head _)))); have cx1 := FR.out.g1 (b := w.heap.size) (.tail _ (.tail _ (.tail _ (.head _))))
  go_wp2_with fail
  refine (VX _).mono ?_
  rintro e w4 ⟨rfl, hx⟩
  have FR2 : Hid (Fr w w4 [(w3.heap.size, cm, cx), (w2.heap.size, 0, 0), (w1.heap.size, 0, 0), (w.heap.size + 1, qm, qx), (w.heap.size, pm, px)]) := Lib.hid ((FR.out.lay (cm) (cx) 23).later hx)
  clear cx0 cx1
  clear hx FR; have FR := FR2; clear FR2
  have cx0 := FR.out.c0 (b := w.heap.size) (.tail _ (.tail _ (.tail _ (.tail _ (.head _))))); have cx1 := FR.out.c1 (b := w.heap.size) (.tail _ (.tail _ (.tail _ (.tail _ (.head _)))))
  go_upto_region 9 with (fail)
  have HT0 : Fr w w4 [(w3.heap.size, cm, cx), (w2.heap.size, 0, 0), (w1.heap.size, 0, 0), (w.heap.size + 1, qm, qx), (w.heap.size, pm, px)] := FR.out
  refine wp_region_S (fun u : World => Fr w u [(w3.heap.size, cm, cx), (w2.heap.size, 0, 0), (w1.heap.size, 0, 0), (w.heap.size + 1, qm, qx), (w.heap.size, pm, px)]) 5 (by kernel_rfl) ?_
  have HS := HT0.later (Ext.refl _).drew
  clear HT0 FR cx0 cx1
  refine GoS.take (i := 0) (v := ?_) rfl (by kernel_rfl) (by kernel_rfl) (by kernel_rfl) (by kernel_rfl) (fun _ _ _ h => h) (Or.inl ⟨by rfl, ?hy22⟩) HS ?_
  case hy22 => ((intro u' hT; have dc0 := hT.c0 (b := w3.heap.size) (.head _); have dc1 := hT.c1 (b := w3.heap.size) (.head _); go_simp); try with_reducible rfl)
  try simp only [List.getElem_toArray, List.getElem_cons_zero, Act.put, List.setIfInBounds_toArray, List.set_cons_zero, List.set_cons_succ]
  refine GoS.pure (i := 1) (v := ?_) rfl (by kernel_rfl) (by kernel_rfl) (by kernel_rfl) (by kernel_rfl) (fun _ _ _ h => h) (Or.inl ⟨by rfl, ?hy23⟩) (fun _ => HS) ?_
  case hy23 => ((intro u' hT; go_simp); try with_reducible rfl)
  try simp only [List.getElem_toArray, List.getElem_cons_succ, List.getElem_cons_zero, Act.put, List.setIfInBounds_toArray, List.set_cons_zero, List.set_cons_succ]
  refine GoS.take (i := 2) (v := ?_) rfl (by kernel_rfl) (by kernel_rfl) (by kernel_rfl) (by kernel_rfl) (fun _ _ _ h => h) (Or.inl ⟨by rfl, ?hy24⟩) HS ?_
  case hy24 => ((intro u' hT; have dx0 := hT.c0 (b := w.heap.size) (.tail _ (.tail _ (.tail _ (.tail _ (.head _))))); have dx1 := hT.c1 (b := w.heap.size) (.tail _ (.tail _ (.tail _ (.tail _ (.head _))))); go_simp); try with_reducible rfl)
  try simp only [List.getElem_toArray, List.getElem_cons_succ, List.getElem_cons_zero, Act.put, List.setIfInBounds_toArray, List.set_cons_zero, List.set_cons_succ]
  refine GoS.one (i := 3) (by kernel_rfl) rfl (fun K hK => ?_)
  go_simp
  (with_reducible refine (RSQ.call _).mono ?_)
  rintro e q25 ⟨rfl, hx25⟩
  have HS2 := HS.later hx25
  clear HS; have HS := HS2; clear HS2 hx25
  go_wp2_with fail
  refine hK.out _ _ HS (fun _ => ?_)
  clear hK K
  try simp only [List.getElem_toArray, List.getElem_cons_succ, List.getElem_cons_zero, Act.put, List.setIfInBounds_toArray, List.set_cons_zero, List.set_cons_succ]
  refine GoS.one (i := 4) (by kernel_rfl) rfl (fun K hK => ?_)
  go_simp
  (with_reducible refine (is_true cm cx _).mono ?_)
  rintro e q26 ⟨rfl, hx26⟩
  have HS2 := HS.later hx26
  clear HS; have HS := HS2; clear HS2 hx26
  go_wp2_with fail
  refine hK.out _ _ HS (fun _ => ?_)
  clear hK K
  try simp only [List.getElem_toArray, List.getElem_cons_succ, List.getElem_cons_zero, Act.put, List.setIfInBounds_toArray, List.set_cons_zero, List.set_cons_succ]
  refine GoS.store (i := 5) (by kernel_rfl) rfl (by kernel_rfl) (fun K hK => ?_)
  go_simp
  refine hK.out _ _ ?_
  clear hK K
  try simp only [List.getElem_toArray, List.getElem_cons_succ, List.getElem_cons_zero, Act.put, List.setIfInBounds_toArray, List.set_cons_zero, List.set_cons_succ]
  refine GoS.done (by kernel_rfl) ?_
  have FR := Lib.hid HS; clear HS
  have cy0 := FR.out.c0 (b := w.heap.size + 1) (.tail _ (.tail _ (.tail _ (.head _)))); have cy1 := FR.out.c1 (b := w.heap.size + 1) (.tail _ (.tail _ (.tail _ (.head _))))
  go_wp2_with fail
  refine (VY _).mono ?_
  rintro e w5 ⟨rfl, hx⟩
  have FR2 : Hid (Fr w w5 [(w3.heap.size, cm, cx), (w2.heap.size, 0, 0), (w1.heap.size, 0, 0), (w.heap.size + 1, qm, qx), (w.heap.size, pm, px)]) := Lib.hid (FR.out.later hx)
  clear cy0 cy1
  clear hx FR; have FR := FR2; clear FR2
  go_wp2_with fail
  refine (SN _ (HT.out.later FR.out.x)).mono ?_
  rintro e w6 ⟨rfl, hx⟩
  have FR2 : Hid (Fr w w6 [(w3.heap.size, cm, cx), (w2.heap.size, 0, 0), (w1.heap.size, 0, 0), (w.heap.size + 1, qm, qx), (w.heap.size, pm, px)]) := Lib.hid (FR.out.later hx)
  clear hx FR; have FR := FR2; clear FR2
  have ca0 := FR.out.c0 (b := w1.heap.size) (.tail _ (.tail _ (.head _))); have ca1 := FR.out.c1 (b := w1.heap.size) (.tail _ (.tail _ (.head _)))
  have cb0 := FR.out.c0 (b := w2.heap.size) (.tail _ (.head _)); have cb1 := FR.out.c1 (b := w2.heap.size) (.tail _ (.head _))
  go_wp2
  go_ret
  exact ⟨rfl, FR.out.x⟩
set_option maxRecDepth 100000 in
set_option maxHeartbeats 8000000 in
theorem pos_z (w : World) (ht : Tb w) (pm px am ax ae r1 r2 cm cx : Int) (hn : ¬ pm < 0) (MU : Ret 33 #[.agg #[.int .i64 pm, .int .i64 px], .agg #[.int .i64 0, .int .i64 0]] (.tuple #[.agg #[.int .i64 am, .int .i64 ax], .int .i64 ae])) (DI : Ret 34 #[.agg #[.int .i64 pm, .int .i64 px], .agg #[.int .i64 0, .int .i64 0]] (.tuple #[.agg #[.int .i64 0, .int .i64 0], .int .i64 5])) (SQ : Ret 35 #[.agg #[.int .i64 pm, .int .i64 px]] (.tuple #[.agg #[.int .i64 cm, .int .i64 cx], .int .i64 0])) (VX : Ret 16 #[.agg #[.int .i64 pm, .int .i64 px]] (.bool true)) (VY : Ret 16 #[.agg #[.int .i64 0, .int .i64 0]] (.bool true)) (RSQ : Ret 36 #[.agg #[.int .i64 pm, .int .i64 px]] (.agg #[.int .i64 cm, .int .i64 cx])) (k : Bool) (RMU : Ret 37 #[.agg #[.int .i64 pm, .int .i64 px], .agg #[.int .i64 0, .int .i64 0]] (.agg #[.int .i64 r1, .int .i64 r2, .bool k])) (R1 : Ret 30 #[.agg #[.int .i64 am, .int .i64 ax], .int .i64 ae, .agg #[.int .i64 r1, .int .i64 r2, .bool k]] (.bool true)) (SN : ∀ u, Tb u → Calls Tryz.prog 23 #[] u fun e u' => e = .returned (.bool true) ∧ Ext u u') :
    Calls Tryz.prog 5 #[.agg #[.int .i64 pm, .int .i64 px], .agg #[.int .i64 0, .int .i64 0]] w fun e w' => e = .returned (.bool true) ∧ Ext w w' := by
  have HT := Lib.hid ht; clear ht
  have FR := Lib.hid (Fr.nil w)
  have eqR := eqReal
  go_enter Tryz.func5, Tryz.ntmps5
  go_wp2_with fail
  refine (MU _).mono ?_
  rintro e w1 ⟨rfl, hx⟩
  have FR2 : Hid (Fr w w1 [(w.heap.size + 1, 0, 0), (w.heap.size, pm, px)]) := Lib.hid ((FR.out.lay2 (pm) (px) (0) (0) 23).later hx)
  clear hx FR; have FR := FR2; clear FR2
  have cx0 := FR.out.g0 (b := w.heap.size) (.tail _ (.head _)); have cx1 := FR.out.g1 (b := w.heap.size) (.tail _ (.head _))
  have cy0 := FR.out.g0 (b := w.heap.size + 1) (.head _); have cy1 := FR.out.g1 (b := w.heap.size + 1) (.head _)
  go_wp2_with fail
  refine (DI _).mono ?_
  rintro e w2 ⟨rfl, hx⟩
  have FR2 : Hid (Fr w w2 [(w1.heap.size, am, ax), (w.heap.size + 1, 0, 0), (w.heap.size, pm, px)]) := Lib.hid ((FR.out.lay (am) (ax) 23).later hx)
  clear cx0 cx1 cy0 cy1
  clear hx FR; have FR := FR2; clear FR2
  have cx0 := FR.out.g0 (b := w.heap.size) (.tail _ (.tail _ (.head _))); have cx1 := FR.out.g1 (b := w.heap.size) (.tail _ (.tail _ (.head _)))
  go_wp2_with fail
  refine (SQ _).mono ?_
  rintro e w3 ⟨rfl, hx⟩
  have FR2 : Hid (Fr w w3 [(w2.heap.size, 0, 0), (w1.heap.size, am, ax), (w.heap.size + 1, 0, 0), (w.heap.size, pm, px)]) := Lib.hid ((FR.out.lay (0) (0) 23).later hx)
  clear cx0 cx1
  clear hx FR; have FR := FR2; clear FR2
  have cx0 := FR.out.g0 (b := w.heap.size) (.tail _ (.tail _ (.tail _ (.head _)))); have cx1 := FR.out.g1 (b := w.heap.size) (.tail _ (.tail _ (.tail _ (.head _))))
  go_wp2_with fail
  refine (VX _).mono ?_
  rintro e w4 ⟨rfl, hx⟩
  have FR2 : Hid (Fr w w4 [(w3.heap.size, cm, cx), (w2.heap.size, 0, 0), (w1.heap.size, am, ax), (w.heap.size + 1, 0, 0), (w.heap.size, pm, px)]) := Lib.hid ((FR.out.lay (cm) (cx) 23).later hx)
  clear cx0 cx1
  clear hx FR; have FR := FR2; clear FR2
  have cx0 := FR.out.c0 (b := w.heap.size) (.tail _ (.tail _ (.tail _ (.tail _ (.head _))))); have cx1 := FR.out.c1 (b := w.heap.size) (.tail _ (.tail _ (.tail _ (.tail _ (.head _)))))
  go_upto_region 9 with (fail)
  have HT0 : Fr w w4 [(w3.heap.size, cm, cx), (w2.heap.size, 0, 0), (w1.heap.size, am, ax), (w.heap.size + 1, 0, 0), (w.heap.size, pm, px)] := FR.out
  refine wp_region_S (fun u : World => Fr w u [(w3.heap.size, cm, cx), (w2.heap.size, 0, 0), (w1.heap.size, am, ax), (w.heap.size + 1, 0, 0), (w.heap.size, pm, px)]) 5 (by kernel_rfl) ?_
  have HS := HT0.later (Ext.refl _).drew
  clear HT0 FR cx0 cx1
  refine GoS.take (i := 0) (v := ?_) rfl (by kernel_rfl) (by kernel_rfl) (by kernel_rfl) (by kernel_rfl) (fun _ _ _ h => h) (Or.inl ⟨by rfl, ?hy27⟩) HS ?_
  case hy27 => ((intro u' hT; have dc0 := hT.c0 (b := w3.heap.size) (.head _); have dc1 := hT.c1 (b := w3.heap.size) (.head _); go_simp); try with_reducible rfl)
  try simp only [List.getElem_toArray, List.getElem_cons_zero, Act.put, List.setIfInBounds_toArray, List.set_cons_zero, List.set_cons_succ]
  refine GoS.pure (i := 1) (v := ?_) rfl (by kernel_rfl) (by kernel_rfl) (by kernel_rfl) (by kernel_rfl) (fun _ _ _ h => h) (Or.inl ⟨by rfl, ?hy28⟩) (fun _ => HS) ?_
  case hy28 => ((intro u' hT; go_simp); try with_reducible rfl)
  try simp only [List.getElem_toArray, List.getElem_cons_succ, List.getElem_cons_zero, Act.put, List.setIfInBounds_toArray, List.set_cons_zero, List.set_cons_succ]
  refine GoS.take (i := 2) (v := ?_) rfl (by kernel_rfl) (by kernel_rfl) (by kernel_rfl) (by kernel_rfl) (fun _ _ _ h => h) (Or.inl ⟨by rfl, ?hy29⟩) HS ?_
  case hy29 => ((intro u' hT; have dx0 := hT.c0 (b := w.heap.size) (.tail _ (.tail _ (.tail _ (.tail _ (.head _))))); have dx1 := hT.c1 (b := w.heap.size) (.tail _ (.tail _ (.tail _ (.tail _ (.head _))))); go_simp); try with_reducible rfl)
  try simp only [List.getElem_toArray, List.getElem_cons_succ, List.getElem_cons_zero, Act.put, List.setIfInBounds_toArray, List.set_cons_zero, List.set_cons_succ]
  refine GoS.one (i := 3) (by kernel_rfl) rfl (fun K hK => ?_)
  go_simp
  (with_reducible refine (RSQ.call _).mono ?_)
  rintro e q30 ⟨rfl, hx30⟩
  have HS2 := HS.later hx30
  clear HS; have HS := HS2; clear HS2 hx30
  go_wp2_with fail
  refine hK.out _ _ HS (fun _ => ?_)
  clear hK K
  try simp only [List.getElem_toArray, List.getElem_cons_succ, List.getElem_cons_zero, Act.put, List.setIfInBounds_toArray, List.set_cons_zero, List.set_cons_succ]
  refine GoS.one (i := 4) (by kernel_rfl) rfl (fun K hK => ?_)
  go_simp
  (with_reducible refine (is_true cm cx _).mono ?_)
  rintro e q31 ⟨rfl, hx31⟩
  have HS2 := HS.later hx31
  clear HS; have HS := HS2; clear HS2 hx31
  go_wp2_with fail
  refine hK.out _ _ HS (fun _ => ?_)
  clear hK K
  try simp only [List.getElem_toArray, List.getElem_cons_succ, List.getElem_cons_zero, Act.put, List.setIfInBounds_toArray, List.set_cons_zero, List.set_cons_succ]
  refine GoS.store (i := 5) (by kernel_rfl) rfl (by kernel_rfl) (fun K hK => ?_)
  go_simp
  refine hK.out _ _ ?_
  clear hK K
  try simp only [List.getElem_toArray, List.getElem_cons_succ, List.getElem_cons_zero, Act.put, List.setIfInBounds_toArray, List.set_cons_zero, List.set_cons_succ]
  refine GoS.done (by kernel_rfl) ?_
  have FR := Lib.hid HS; clear HS
  have cy0 := FR.out.c0 (b := w.heap.size + 1) (.tail _ (.tail _ (.tail _ (.head _)))); have cy1 := FR.out.c1 (b := w.heap.size + 1) (.tail _ (.tail _ (.tail _ (.head _))))
  go_wp2_with fail
  refine (VY _).mono ?_
  rintro e w5 ⟨rfl, hx⟩
  have FR2 : Hid (Fr w w5 [(w3.heap.size, cm, cx), (w2.heap.size, 0, 0), (w1.heap.size, am, ax), (w.heap.size + 1, 0, 0), (w.heap.size, pm, px)]) := Lib.hid (FR.out.later hx)
  clear cy0 cy1
  clear hx FR; have FR := FR2; clear FR2
  go_upto_region 13 with (fail)
  have HT0 : Fr w w5 [(w3.heap.size, cm, cx), (w2.heap.size, 0, 0), (w1.heap.size, am, ax), (w.heap.size + 1, 0, 0), (w.heap.size, pm, px)] := FR.out
  refine wp_region_S (fun u : World => Fr w u [(w3.heap.size, cm, cx), (w2.heap.size, 0, 0), (w1.heap.size, am, ax), (w.heap.size + 1, 0, 0), (w.heap.size, pm, px)]) 6 (by kernel_rfl) ?_
  have HS := HT0.later (Ext.refl _).drew
  clear HT0 FR
  refine GoS.take (i := 0) (v := ?_) rfl (by kernel_rfl) (by kernel_rfl) (by kernel_rfl) (by kernel_rfl) (fun _ _ _ h => h) (Or.inl ⟨by rfl, ?hy32⟩) HS ?_
  case hy32 => ((intro u' hT; have da0 := hT.c0 (b := w1.heap.size) (.tail _ (.tail _ (.head _))); have da1 := hT.c1 (b := w1.heap.size) (.tail _ (.tail _ (.head _))); go_simp); try with_reducible rfl)
  try simp only [List.getElem_toArray, List.getElem_cons_zero, Act.put, List.setIfInBounds_toArray, List.set_cons_zero, List.set_cons_succ]
  refine GoS.pure (i := 1) (v := ?_) rfl (by kernel_rfl) (by kernel_rfl) (by kernel_rfl) (by kernel_rfl) (fun _ _ _ h => h) (Or.inl ⟨by rfl, ?hy33⟩) (fun _ => HS) ?_
  case hy33 => ((intro u' hT; go_simp); try with_reducible rfl)
  try simp only [List.getElem_toArray, List.getElem_cons_succ, List.getElem_cons_zero, Act.put, List.setIfInBounds_toArray, List.set_cons_zero, List.set_cons_succ]
  refine GoS.take (i := 2) (v := ?_) rfl (by kernel_rfl) (by kernel_rfl) (by kernel_rfl) (by kernel_rfl) (fun _ _ _ h => h) (Or.inl ⟨by rfl, ?hy34⟩) HS ?_
  case hy34 => ((intro u' hT; have dx0 := hT.c0 (b := w.heap.size) (.tail _ (.tail _ (.tail _ (.tail _ (.head _))))); have dx1 := hT.c1 (b := w.heap.size) (.tail _ (.tail _ (.tail _ (.tail _ (.head _))))); go_simp); try with_reducible rfl)
  try simp only [List.getElem_toArray, List.getElem_cons_succ, List.getElem_cons_zero, Act.put, List.setIfInBounds_toArray, List.set_cons_zero, List.set_cons_succ]
  refine GoS.take (i := 3) (v := ?_) rfl (by kernel_rfl) (by kernel_rfl) (by kernel_rfl) (by kernel_rfl) (fun _ _ _ h => h) (Or.inl ⟨by rfl, ?hy35⟩) HS ?_
  case hy35 => ((intro u' hT; have dy0 := hT.c0 (b := w.heap.size + 1) (.tail _ (.tail _ (.tail _ (.head _)))); have dy1 := hT.c1 (b := w.heap.size + 1) (.tail _ (.tail _ (.tail _ (.head _)))); go_simp); try with_reducible rfl)
  try simp only [List.getElem_toArray, List.getElem_cons_succ, List.getElem_cons_zero, Act.put, List.setIfInBounds_toArray, List.set_cons_zero, List.set_cons_succ]
  refine GoS.one (i := 4) (by kernel_rfl) rfl (fun K hK => ?_)
  go_simp
  (with_reducible refine (RMU.call _).mono ?_)
  rintro e q36 ⟨rfl, hx36⟩
  have HS2 := HS.later hx36
  clear HS; have HS := HS2; clear HS2 hx36
  go_wp2_with fail
  refine hK.out _ _ HS (fun _ => ?_)
  clear hK K
  try simp only [List.getElem_toArray, List.getElem_cons_succ, List.getElem_cons_zero, Act.put, List.setIfInBounds_toArray, List.set_cons_zero, List.set_cons_succ]
  refine GoS.one (i := 5) (by kernel_rfl) rfl (fun K hK => ?_)
  go_simp
  (with_reducible refine (R1.call _).mono ?_)
  rintro e q37 ⟨rfl, hx37⟩
  have HS2 := HS.later hx37
  clear HS; have HS := HS2; clear HS2 hx37
  go_wp2_with fail
  refine hK.out _ _ HS (fun _ => ?_)
  clear hK K
  try simp only [List.getElem_toArray, List.getElem_cons_succ, List.getElem_cons_zero, Act.put, List.setIfInBounds_toArray, List.set_cons_zero, List.set_cons_succ]
  refine GoS.store (i := 6) (by kernel_rfl) rfl (by kernel_rfl) (fun K hK => ?_)
  go_simp
  refine hK.out _ _ ?_
  clear hK K
  try simp only [List.getElem_toArray, List.getElem_cons_succ, List.getElem_cons_zero, Act.put, List.setIfInBounds_toArray, List.set_cons_zero, List.set_cons_succ]
  refine GoS.done (by kernel_rfl) ?_
  have FR := Lib.hid HS; clear HS
  have cy0 := FR.out.c0 (b := w.heap.size + 1) (.tail _ (.tail _ (.tail _ (.head _)))); have cy1 := FR.out.c1 (b := w.heap.size + 1) (.tail _ (.tail _ (.tail _ (.head _))))
  go_wp2_with fail
  refine (SN _ (HT.out.later FR.out.x)).mono ?_
  rintro e w6 ⟨rfl, hx⟩
  have FR2 : Hid (Fr w w6 [(w3.heap.size, cm, cx), (w2.heap.size, 0, 0), (w1.heap.size, am, ax), (w.heap.size + 1, 0, 0), (w.heap.size, pm, px)]) := Lib.hid (FR.out.later hx)
  clear cy0 cy1
  clear hx FR; have FR := FR2; clear FR2
  have cb0 := FR.out.c0 (b := w2.heap.size) (.tail _ (.head _)); have cb1 := FR.out.c1 (b := w2.heap.size) (.tail _ (.head _))
  go_wp2
  go_ret
  exact ⟨rfl, FR.out.x⟩
set_option maxRecDepth 100000 in
set_option maxHeartbeats 8000000 in
theorem pos_n (w : World) (ht : Tb w) (pm px qm qx am ax ae r1 r2 bm bx be s1 s2 cm cx : Int) (hn : ¬ pm < 0) (MU : Ret 33 #[.agg #[.int .i64 pm, .int .i64 px], .agg #[.int .i64 qm, .int .i64 qx]] (.tuple #[.agg #[.int .i64 am, .int .i64 ax], .int .i64 ae])) (DI : Ret 34 #[.agg #[.int .i64 pm, .int .i64 px], .agg #[.int .i64 qm, .int .i64 qx]] (.tuple #[.agg #[.int .i64 bm, .int .i64 bx], .int .i64 be])) (SQ : Ret 35 #[.agg #[.int .i64 pm, .int .i64 px]] (.tuple #[.agg #[.int .i64 cm, .int .i64 cx], .int .i64 0])) (VX : Ret 16 #[.agg #[.int .i64 pm, .int .i64 px]] (.bool true)) (VY : Ret 16 #[.agg #[.int .i64 qm, .int .i64 qx]] (.bool true)) (RSQ : Ret 36 #[.agg #[.int .i64 pm, .int .i64 px]] (.agg #[.int .i64 cm, .int .i64 cx])) (k : Bool) (RMU : Ret 37 #[.agg #[.int .i64 pm, .int .i64 px], .agg #[.int .i64 qm, .int .i64 qx]] (.agg #[.int .i64 r1, .int .i64 r2, .bool k])) (R1 : Ret 30 #[.agg #[.int .i64 am, .int .i64 ax], .int .i64 ae, .agg #[.int .i64 r1, .int .i64 r2, .bool k]] (.bool true)) (hq : (qm == 0) = false) (_hq' : ¬ qm = 0) (l : Bool) (RDI : Ret 38 #[.agg #[.int .i64 pm, .int .i64 px], .agg #[.int .i64 qm, .int .i64 qx]] (.agg #[.int .i64 s1, .int .i64 s2, .bool l])) (R2 : Ret 30 #[.agg #[.int .i64 bm, .int .i64 bx], .int .i64 be, .agg #[.int .i64 s1, .int .i64 s2, .bool l]] (.bool true)) (SN : ∀ u, Tb u → Calls Tryz.prog 23 #[] u fun e u' => e = .returned (.bool true) ∧ Ext u u') :
    Calls Tryz.prog 5 #[.agg #[.int .i64 pm, .int .i64 px], .agg #[.int .i64 qm, .int .i64 qx]] w fun e w' => e = .returned (.bool true) ∧ Ext w w' := by
  have HT := Lib.hid ht; clear ht
  have FR := Lib.hid (Fr.nil w)
  have eqR := eqReal
  go_enter Tryz.func5, Tryz.ntmps5
  go_wp2_with fail
  refine (MU _).mono ?_
  rintro e w1 ⟨rfl, hx⟩
  have FR2 : Hid (Fr w w1 [(w.heap.size + 1, qm, qx), (w.heap.size, pm, px)]) := Lib.hid ((FR.out.lay2 (pm) (px) (qm) (qx) 23).later hx)
  clear hx FR; have FR := FR2; clear FR2
  have cx0 := FR.out.g0 (b := w.heap.size) (.tail _ (.head _)); have cx1 := FR.out.g1 (b := w.heap.size) (.tail _ (.head _))
  have cy0 := FR.out.g0 (b := w.heap.size + 1) (.head _); have cy1 := FR.out.g1 (b := w.heap.size + 1) (.head _)
  go_wp2_with fail
  refine (DI _).mono ?_
  rintro e w2 ⟨rfl, hx⟩
  have FR2 : Hid (Fr w w2 [(w1.heap.size, am, ax), (w.heap.size + 1, qm, qx), (w.heap.size, pm, px)]) := Lib.hid ((FR.out.lay (am) (ax) 23).later hx)
  clear cx0 cx1 cy0 cy1
  clear hx FR; have FR := FR2; clear FR2
  have cx0 := FR.out.g0 (b := w.heap.size) (.tail _ (.tail _ (.head _))); have cx1 := FR.out.g1 (b := w.heap.size) (.tail _ (.tail _ (.head _)))
  go_wp2_with fail
  refine (SQ _).mono ?_
  rintro e w3 ⟨rfl, hx⟩
  have FR2 : Hid (Fr w w3 [(w2.heap.size, bm, bx), (w1.heap.size, am, ax), (w.heap.size + 1, qm, qx), (w.heap.size, pm, px)]) := Lib.hid ((FR.out.lay (bm) (bx) 23).later hx)
  clear cx0 cx1
  clear hx FR; have FR := FR2; clear FR2
  have cx0 := FR.out.g0 (b := w.heap.size) (.tail _ (.tail _ (.tail _ (.head _)))); have cx1 := FR.out.g1 (b := w.heap.size) (.tail _ (.tail _ (.tail _ (.head _))))
  go_wp2_with fail
  refine (VX _).mono ?_
  rintro e w4 ⟨rfl, hx⟩
  have FR2 : Hid (Fr w w4 [(w3.heap.size, cm, cx), (w2.heap.size, bm, bx), (w1.heap.size, am, ax), (w.heap.size + 1, qm, qx), (w.heap.size, pm, px)]) := Lib.hid ((FR.out.lay (cm) (cx) 23).later hx)
  clear cx0 cx1
  clear hx FR; have FR := FR2; clear FR2
  have cx0 := FR.out.c0 (b := w.heap.size) (.tail _ (.tail _ (.tail _ (.tail _ (.head _))))); have cx1 := FR.out.c1 (b := w.heap.size) (.tail _ (.tail _ (.tail _ (.tail _ (.head _)))))
  go_upto_region 9 with (fail)
  have HT0 : Fr w w4 [(w3.heap.size, cm, cx), (w2.heap.size, bm, bx), (w1.heap.size, am, ax), (w.heap.size + 1, qm, qx), (w.heap.size, pm, px)] := FR.out
  refine wp_region_S (fun u : World => Fr w u [(w3.heap.size, cm, cx), (w2.heap.size, bm, bx), (w1.heap.size, am, ax), (w.heap.size + 1, qm, qx), (w.heap.size, pm, px)]) 5 (by kernel_rfl) ?_
  have HS := HT0.later (Ext.refl _).drew
  clear HT0 FR cx0 cx1
  refine GoS.take (i := 0) (v := ?_) rfl (by kernel_rfl) (by kernel_rfl) (by kernel_rfl) (by kernel_rfl) (fun _ _ _ h => h) (Or.inl ⟨by rfl, ?hy38⟩) HS ?_
  case hy38 => ((intro u' hT; have dc0 := hT.c0 (b := w3.heap.size) (.head _); have dc1 := hT.c1 (b := w3.heap.size) (.head _); go_simp); try with_reducible rfl)
  try simp only [List.getElem_toArray, List.getElem_cons_zero, Act.put, List.setIfInBounds_toArray, List.set_cons_zero, List.set_cons_succ]
  refine GoS.pure (i := 1) (v := ?_) rfl (by kernel_rfl) (by kernel_rfl) (by kernel_rfl) (by kernel_rfl) (fun _ _ _ h => h) (Or.inl ⟨by rfl, ?hy39⟩) (fun _ => HS) ?_
  case hy39 => ((intro u' hT; go_simp); try with_reducible rfl)
  try simp only [List.getElem_toArray, List.getElem_cons_succ, List.getElem_cons_zero, Act.put, List.setIfInBounds_toArray, List.set_cons_zero, List.set_cons_succ]
  refine GoS.take (i := 2) (v := ?_) rfl (by kernel_rfl) (by kernel_rfl) (by kernel_rfl) (by kernel_rfl) (fun _ _ _ h => h) (Or.inl ⟨by rfl, ?hy40⟩) HS ?_
  case hy40 => ((intro u' hT; have dx0 := hT.c0 (b := w.heap.size) (.tail _ (.tail _ (.tail _ (.tail _ (.head _))))); have dx1 := hT.c1 (b := w.heap.size) (.tail _ (.tail _ (.tail _ (.tail _ (.head _))))); go_simp); try with_reducible rfl)
  try simp only [List.getElem_toArray, List.getElem_cons_succ, List.getElem_cons_zero, Act.put, List.setIfInBounds_toArray, List.set_cons_zero, List.set_cons_succ]
  refine GoS.one (i := 3) (by kernel_rfl) rfl (fun K hK => ?_)
  go_simp
  (with_reducible refine (RSQ.call _).mono ?_)
  rintro e q41 ⟨rfl, hx41⟩
  have HS2 := HS.later hx41
  clear HS; have HS := HS2; clear HS2 hx41
  go_wp2_with fail
  refine hK.out _ _ HS (fun _ => ?_)
  clear hK K
  try simp only [List.getElem_toArray, List.getElem_cons_succ, List.getElem_cons_zero, Act.put, List.setIfInBounds_toArray, List.set_cons_zero, List.set_cons_succ]
  refine GoS.one (i := 4) (by kernel_rfl) rfl (fun K hK => ?_)
  go_simp
  (with_reducible refine (is_true cm cx _).mono ?_)
  rintro e q42 ⟨rfl, hx42⟩
  have HS2 := HS.later hx42
  clear HS; have HS := HS2; clear HS2 hx42
  go_wp2_with fail
  refine hK.out _ _ HS (fun _ => ?_)
  clear hK K
  try simp only [List.getElem_toArray, List.getElem_cons_succ, List.getElem_cons_zero, Act.put, List.setIfInBounds_toArray, List.set_cons_zero, List.set_cons_succ]
  refine GoS.store (i := 5) (by kernel_rfl) rfl (by kernel_rfl) (fun K hK => ?_)
  go_simp
  refine hK.out _ _ ?_
  clear hK K
  try simp only [List.getElem_toArray, List.getElem_cons_succ, List.getElem_cons_zero, Act.put, List.setIfInBounds_toArray, List.set_cons_zero, List.set_cons_succ]
  refine GoS.done (by kernel_rfl) ?_
  have FR := Lib.hid HS; clear HS
  have cy0 := FR.out.c0 (b := w.heap.size + 1) (.tail _ (.tail _ (.tail _ (.head _)))); have cy1 := FR.out.c1 (b := w.heap.size + 1) (.tail _ (.tail _ (.tail _ (.head _))))
  go_wp2_with fail
  refine (VY _).mono ?_
  rintro e w5 ⟨rfl, hx⟩
  have FR2 : Hid (Fr w w5 [(w3.heap.size, cm, cx), (w2.heap.size, bm, bx), (w1.heap.size, am, ax), (w.heap.size + 1, qm, qx), (w.heap.size, pm, px)]) := Lib.hid (FR.out.later hx)
  clear cy0 cy1
  clear hx FR; have FR := FR2; clear FR2
  go_upto_region 13 with (fail)
  have HT0 : Fr w w5 [(w3.heap.size, cm, cx), (w2.heap.size, bm, bx), (w1.heap.size, am, ax), (w.heap.size + 1, qm, qx), (w.heap.size, pm, px)] := FR.out
  refine wp_region_S (fun u : World => Fr w u [(w3.heap.size, cm, cx), (w2.heap.size, bm, bx), (w1.heap.size, am, ax), (w.heap.size + 1, qm, qx), (w.heap.size, pm, px)]) 6 (by kernel_rfl) ?_
  have HS := HT0.later (Ext.refl _).drew
  clear HT0 FR
  refine GoS.take (i := 0) (v := ?_) rfl (by kernel_rfl) (by kernel_rfl) (by kernel_rfl) (by kernel_rfl) (fun _ _ _ h => h) (Or.inl ⟨by rfl, ?hy43⟩) HS ?_
  case hy43 => ((intro u' hT; have da0 := hT.c0 (b := w1.heap.size) (.tail _ (.tail _ (.head _))); have da1 := hT.c1 (b := w1.heap.size) (.tail _ (.tail _ (.head _))); go_simp); try with_reducible rfl)
  try simp only [List.getElem_toArray, List.getElem_cons_zero, Act.put, List.setIfInBounds_toArray, List.set_cons_zero, List.set_cons_succ]
  refine GoS.pure (i := 1) (v := ?_) rfl (by kernel_rfl) (by kernel_rfl) (by kernel_rfl) (by kernel_rfl) (fun _ _ _ h => h) (Or.inl ⟨by rfl, ?hy44⟩) (fun _ => HS) ?_
  case hy44 => ((intro u' hT; go_simp); try with_reducible rfl)
  try simp only [List.getElem_toArray, List.getElem_cons_succ, List.getElem_cons_zero, Act.put, List.setIfInBounds_toArray, List.set_cons_zero, List.set_cons_succ]
  refine GoS.take (i := 2) (v := ?_) rfl (by kernel_rfl) (by kernel_rfl) (by kernel_rfl) (by kernel_rfl) (fun _ _ _ h => h) (Or.inl ⟨by rfl, ?hy45⟩) HS ?_
  case hy45 => ((intro u' hT; have dx0 := hT.c0 (b := w.heap.size) (.tail _ (.tail _ (.tail _ (.tail _ (.head _))))); have dx1 := hT.c1 (b := w.heap.size) (.tail _ (.tail _ (.tail _ (.tail _ (.head _))))); go_simp); try with_reducible rfl)
  try simp only [List.getElem_toArray, List.getElem_cons_succ, List.getElem_cons_zero, Act.put, List.setIfInBounds_toArray, List.set_cons_zero, List.set_cons_succ]
  refine GoS.take (i := 3) (v := ?_) rfl (by kernel_rfl) (by kernel_rfl) (by kernel_rfl) (by kernel_rfl) (fun _ _ _ h => h) (Or.inl ⟨by rfl, ?hy46⟩) HS ?_
  case hy46 => ((intro u' hT; have dy0 := hT.c0 (b := w.heap.size + 1) (.tail _ (.tail _ (.tail _ (.head _)))); have dy1 := hT.c1 (b := w.heap.size + 1) (.tail _ (.tail _ (.tail _ (.head _)))); go_simp); try with_reducible rfl)
  try simp only [List.getElem_toArray, List.getElem_cons_succ, List.getElem_cons_zero, Act.put, List.setIfInBounds_toArray, List.set_cons_zero, List.set_cons_succ]
  refine GoS.one (i := 4) (by kernel_rfl) rfl (fun K hK => ?_)
  go_simp
  (with_reducible refine (RMU.call _).mono ?_)
  rintro e q47 ⟨rfl, hx47⟩
  have HS2 := HS.later hx47
  clear HS; have HS := HS2; clear HS2 hx47
  go_wp2_with fail
  refine hK.out _ _ HS (fun _ => ?_)
  clear hK K
  try simp only [List.getElem_toArray, List.getElem_cons_succ, List.getElem_cons_zero, Act.put, List.setIfInBounds_toArray, List.set_cons_zero, List.set_cons_succ]
  refine GoS.one (i := 5) (by kernel_rfl) rfl (fun K hK => ?_)
  go_simp
  (with_reducible refine (R1.call _).mono ?_)
  rintro e q48 ⟨rfl, hx48⟩
  have HS2 := HS.later hx48
  clear HS; have HS := HS2; clear HS2 hx48
  go_wp2_with fail
  refine hK.out _ _ HS (fun _ => ?_)
  clear hK K
  try simp only [List.getElem_toArray, List.getElem_cons_succ, List.getElem_cons_zero, Act.put, List.setIfInBounds_toArray, List.set_cons_zero, List.set_cons_succ]
  refine GoS.store (i := 6) (by kernel_rfl) rfl (by kernel_rfl) (fun K hK => ?_)
  go_simp
  refine hK.out _ _ ?_
  clear hK K
  try simp only [List.getElem_toArray, List.getElem_cons_succ, List.getElem_cons_zero, Act.put, List.setIfInBounds_toArray, List.set_cons_zero, List.set_cons_succ]
  refine GoS.done (by kernel_rfl) ?_
  have FR := Lib.hid HS; clear HS
  have cy0 := FR.out.c0 (b := w.heap.size + 1) (.tail _ (.tail _ (.tail _ (.head _)))); have cy1 := FR.out.c1 (b := w.heap.size + 1) (.tail _ (.tail _ (.tail _ (.head _))))
  go_upto_region 17 with (fail)
  have HT0 : Fr w q48 [(w3.heap.size, cm, cx), (w2.heap.size, bm, bx), (w1.heap.size, am, ax), (w.heap.size + 1, qm, qx), (w.heap.size, pm, px)] := FR.out
  refine wp_region_S (fun u : World => Fr w u [(w3.heap.size, cm, cx), (w2.heap.size, bm, bx), (w1.heap.size, am, ax), (w.heap.size + 1, qm, qx), (w.heap.size, pm, px)]) 9 (by kernel_rfl) ?_
  have HS := HT0.later (Ext.refl _).drew
  clear HT0 FR cy0 cy1
  refine GoS.one (i := 0) (by kernel_rfl) rfl (fun K hK => ?_)
  go_simp
  (with_reducible refine (SN _ (HT.out.later HS.x)).mono ?_)
  rintro e q49 ⟨rfl, hx49⟩
  have HS2 := HS.later hx49
  clear HS; have HS := HS2; clear HS2 hx49
  go_wp2_with fail
  refine hK.out _ _ HS (fun _ => ?_)
  clear hK K
  try simp only [List.getElem_toArray, List.getElem_cons_succ, List.getElem_cons_zero, Act.put, List.setIfInBounds_toArray, List.set_cons_zero, List.set_cons_succ]
  refine GoS.pure (i := 1) (v := ?_) rfl (by kernel_rfl) (by kernel_rfl) (by kernel_rfl) (by kernel_rfl) (fun _ _ _ h => h) (Or.inl ⟨by rfl, ?hy50⟩) (fun _ => HS) ?_
  case hy50 => ((intro u' hT; go_simp); try with_reducible rfl)
  try simp only [List.getElem_toArray, List.getElem_cons_succ, List.getElem_cons_zero, Act.put, List.setIfInBounds_toArray, List.set_cons_zero, List.set_cons_succ]
  refine GoS.take (i := 2) (v := ?_) rfl (by kernel_rfl) (by kernel_rfl) (by kernel_rfl) (by kernel_rfl) (fun _ _ _ h => h) (Or.inl ⟨by rfl, ?hy51⟩) HS ?_
  case hy51 => ((intro u' hT; have db0 := hT.c0 (b := w2.heap.size) (.tail _ (.head _)); have db1 := hT.c1 (b := w2.heap.size) (.tail _ (.head _)); go_simp); try with_reducible rfl)
  try simp only [List.getElem_toArray, List.getElem_cons_succ, List.getElem_cons_zero, Act.put, List.setIfInBounds_toArray, List.set_cons_zero, List.set_cons_succ]
  refine GoS.pure (i := 3) (v := ?_) rfl (by kernel_rfl) (by kernel_rfl) (by kernel_rfl) (by kernel_rfl) (fun _ _ _ h => h) (Or.inl ⟨by rfl, ?hy52⟩) (fun _ => HS) ?_
  case hy52 => ((intro u' hT; go_simp); try with_reducible rfl)
  try simp only [List.getElem_toArray, List.getElem_cons_succ, List.getElem_cons_zero, Act.put, List.setIfInBounds_toArray, List.set_cons_zero, List.set_cons_succ]
  refine GoS.take (i := 4) (v := ?_) rfl (by kernel_rfl) (by kernel_rfl) (by kernel_rfl) (by kernel_rfl) (fun _ _ _ h => h) (Or.inl ⟨by rfl, ?hy53⟩) HS ?_
  case hy53 => ((intro u' hT; have dx0 := hT.c0 (b := w.heap.size) (.tail _ (.tail _ (.tail _ (.tail _ (.head _))))); have dx1 := hT.c1 (b := w.heap.size) (.tail _ (.tail _ (.tail _ (.tail _ (.head _))))); go_simp); try with_reducible rfl)
  try simp only [List.getElem_toArray, List.getElem_cons_succ, List.getElem_cons_zero, Act.put, List.setIfInBounds_toArray, List.set_cons_zero, List.set_cons_succ]
  refine GoS.take (i := 5) (v := ?_) rfl (by kernel_rfl) (by kernel_rfl) (by kernel_rfl) (by kernel_rfl) (fun _ _ _ h => h) (Or.inl ⟨by rfl, ?hy54⟩) HS ?_
  case hy54 => ((intro u' hT; have dy0 := hT.c0 (b := w.heap.size + 1) (.tail _ (.tail _ (.tail _ (.head _)))); have dy1 := hT.c1 (b := w.heap.size + 1) (.tail _ (.tail _ (.tail _ (.head _)))); go_simp); try with_reducible rfl)
  try simp only [List.getElem_toArray, List.getElem_cons_succ, List.getElem_cons_zero, Act.put, List.setIfInBounds_toArray, List.set_cons_zero, List.set_cons_succ]
  refine GoS.one (i := 6) (by kernel_rfl) rfl (fun K hK => ?_)
  go_simp
  (with_reducible refine (RDI.call _).mono ?_)
  rintro e q55 ⟨rfl, hx55⟩
  have HS2 := HS.later hx55
  clear HS; have HS := HS2; clear HS2 hx55
  go_wp2_with fail
  refine hK.out _ _ HS (fun _ => ?_)
  clear hK K
  try simp only [List.getElem_toArray, List.getElem_cons_succ, List.getElem_cons_zero, Act.put, List.setIfInBounds_toArray, List.set_cons_zero, List.set_cons_succ]
  refine GoS.one (i := 7) (by kernel_rfl) rfl (fun K hK => ?_)
  go_simp
  (with_reducible refine (R2.call _).mono ?_)
  rintro e q56 ⟨rfl, hx56⟩
  have HS2 := HS.later hx56
  clear HS; have HS := HS2; clear HS2 hx56
  go_wp2_with fail
  refine hK.out _ _ HS (fun _ => ?_)
  clear hK K
  try simp only [List.getElem_toArray, List.getElem_cons_succ, List.getElem_cons_zero, Act.put, List.setIfInBounds_toArray, List.set_cons_zero, List.set_cons_succ]
  refine GoS.pure (i := 8) (v := ?_) rfl (by kernel_rfl) (by kernel_rfl) (by kernel_rfl) (by kernel_rfl) (fun _ _ _ h => h) (Or.inl ⟨by rfl, ?hy57⟩) (fun _ => HS) ?_
  case hy57 => ((intro u' hT; go_simp); try with_reducible rfl)
  try simp only [List.getElem_toArray, List.getElem_cons_succ, List.getElem_cons_zero, Act.put, List.setIfInBounds_toArray, List.set_cons_zero, List.set_cons_succ]
  refine GoS.store (i := 9) (by kernel_rfl) rfl (by kernel_rfl) (fun K hK => ?_)
  go_simp
  refine hK.out _ _ ?_
  clear hK K
  try simp only [List.getElem_toArray, List.getElem_cons_succ, List.getElem_cons_zero, Act.put, List.setIfInBounds_toArray, List.set_cons_zero, List.set_cons_succ]
  refine GoS.done (by kernel_rfl) ?_
  have FR := Lib.hid HS; clear HS
  go_wp2
  go_ret
  exact ⟨rfl, FR.out.x⟩
theorem walk (m x : Int) (wm : (Lit.int .i64 m).wf = true) (_wx : (Lit.int .i64 x).wf = true) (n y : Int) (wn : (Lit.int .i64 n).wf = true) (wy : (Lit.int .i64 y).wf = true) (w : World) (ht : Tb w) :
    Calls Tryz.prog 5 #[.agg #[.int .i64 m, .int .i64 x], .agg #[.int .i64 n, .int .i64 y]] w fun e w' => e = .returned (.bool true) ∧ Ext w w' := by
  have VX := refvalid_any m x (bdI wm).1 (bdI wm).2
  have VY := refvalid_any n y (bdI wn).1 (bdI wn).2
  have MU : Ret 33 #[.agg #[.int .i64 m, .int .i64 x], .agg #[.int .i64 n, .int .i64 y]] (.tuple #[.agg #[.int .i64 (combV m x n y (prodV m x n y)).1.1, .int .i64 (combV m x n y (prodV m x n y)).1.2], .int .i64 (combV m x n y (prodV m x n y)).2]) := fun w => mul_real m x n y w
  have DI : Ret 34 #[.agg #[.int .i64 m, .int .i64 x], .agg #[.int .i64 n, .int .i64 y]] (.tuple #[.agg #[.int .i64 (divV m x n y).1.1, .int .i64 (divV m x n y).1.2], .int .i64 (divV m x n y).2]) := fun w => div_real m x n y w
  have bad : (validV m x && validV n y) = false → ∀ a, combV m x n y a = ((0, 0), 1) := fun h a => by unfold combV; rw [h]; rfl
  have badd : (validV m x && validV n y) = false → divV m x n y = ((0, 0), 1) := fun h => by unfold divV; rw [h, Bool.false_and, if_neg (by simp)]; exact bad h _
  cases hv : validV m x with
  | false =>
    rw [hv] at VX
    rw [bad (by rw [hv]; rfl)] at MU
    rw [badd (by rw [hv]; rfl)] at DI
    exact bad_x w ht m x n y MU DI (fun w => Sqrt_bad hv w) VX sanity_any
  | true =>
    rw [hv] at VX
    have h := vd_iff.1 hv
    by_cases hn : m < 0
    · have SQ : Ret 35 #[.agg #[.int .i64 m, .int .i64 x]] (.tuple #[.agg #[.int .i64 0, .int .i64 0], .int .i64 5]) := fun w => Sqrt_neg h hn w
      cases hu : validV n y with
      | false =>
        rw [hu] at VY
        rw [bad (by rw [hv, hu]; rfl)] at MU
        rw [badd (by rw [hv, hu]; rfl)] at DI
        exact neg_i w ht m x n y hn MU DI SQ VX VY sanity_any
      | true =>
        rw [hu] at VY
        have k := vd_iff.1 hu
        rw [comb_valid h k] at MU
        have RMU := mul_ref h k
        have R1 := rounded_ret (prodV m x n y).rd
        obtain ⟨r1, r2, k1, e1⟩ := rnd_shape (prodV m x n y).rd
        rw [e1] at RMU R1
        by_cases hz : n = 0
        · subst hz
          obtain rfl := k.2.2.2.1 rfl
          rw [show divV m x 0 0 = ((0, 0), 5) by unfold divV; rw [hv, hu]; rfl] at DI
          exact neg_z w ht m x _ _ _ _ _ hn MU DI SQ VX VY _ RMU R1 sanity_any
        · rw [show divV m x n y = (okV (quotV m x n y).rd, okE (quotV m x n y).rd) by unfold divV; rw [if_neg (by simp [hz])]; exact comb_valid h k] at DI
          have RDI := div_ref h k hz
          have R2 := rounded_ret (quotV m x n y).rd
          obtain ⟨s1, s2, k2, e2⟩ := rnd_shape (quotV m x n y).rd
          rw [e2] at RDI R2
          exact neg_n w ht m x n y _ _ _ _ _ _ _ _ _ _ hn MU DI SQ VX VY _ RMU R1 (by simpa using hz) hz _ RDI R2 sanity_any
    · obtain ⟨RSQ, e0⟩ := sqrt_ref h hn
      have SQ : Ret 35 #[.agg #[.int .i64 m, .int .i64 x]] (.tuple #[.agg #[.int .i64 (sqrtV m x).1.1, .int .i64 (sqrtV m x).1.2], .int .i64 (sqrtV m x).2]) := fun w => Sqrt_good h hn w
      rw [e0] at SQ
      cases hu : validV n y with
      | false =>
        rw [hu] at VY
        rw [bad (by rw [hv, hu]; rfl)] at MU
        rw [badd (by rw [hv, hu]; rfl)] at DI
        exact pos_i w ht m x n y _ _ hn MU DI SQ VX VY RSQ sanity_any
      | true =>
        rw [hu] at VY
        have k := vd_iff.1 hu
        rw [comb_valid h k] at MU
        have RMU := mul_ref h k
        have R1 := rounded_ret (prodV m x n y).rd
        obtain ⟨r1, r2, k1, e1⟩ := rnd_shape (prodV m x n y).rd
        rw [e1] at RMU R1
        by_cases hz : n = 0
        · subst hz
          obtain rfl := k.2.2.2.1 rfl
          rw [show divV m x 0 0 = ((0, 0), 5) by unfold divV; rw [hv, hu]; rfl] at DI
          exact pos_z w ht m x _ _ _ _ _ _ _ hn MU DI SQ VX VY RSQ _ RMU R1 sanity_any
        · rw [show divV m x n y = (okV (quotV m x n y).rd, okE (quotV m x n y).rd) by unfold divV; rw [if_neg (by simp [hz])]; exact comb_valid h k] at DI
          have RDI := div_ref h k hz
          have R2 := rounded_ret (quotV m x n y).rd
          obtain ⟨s1, s2, k2, e2⟩ := rnd_shape (quotV m x n y).rd
          rw [e2] at RDI R2
          exact pos_n w ht m x n y _ _ _ _ _ _ _ _ _ _ _ _ hn MU DI SQ VX VY RSQ _ RMU R1 (by simpa using hz) hz _ RDI R2 sanity_any
end Go.Proofs.YthmndafjogndaaaGreatDoor.realProducts
