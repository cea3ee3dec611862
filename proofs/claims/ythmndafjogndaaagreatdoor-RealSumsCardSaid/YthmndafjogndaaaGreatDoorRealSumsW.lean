/- The walk of RealSums. -/
import Derived.Test.YthmndafjogndaaaGreatDoorUs
import Derived.Test.YthmndafjogndaaaGreatDoorTh
import Derived.Test.YthmndafjogndaaaGreatDoorGr
namespace Go.Proofs.YthmndafjogndaaaGreatDoor.realSums
open Go.RowKit

set_option maxRecDepth 100000 in
set_option maxHeartbeats 8000000 in
theorem bad_x (w : World) (ht : Tb w) (pm px qm qx : Int) (AD : Ret 28 #[.agg #[.int .i64 pm, .int .i64 px], .agg #[.int .i64 qm, .int .i64 qx]] (.tuple #[.agg #[.int .i64 0, .int .i64 0], .int .i64 1])) (SB : Ret 29 #[.agg #[.int .i64 pm, .int .i64 px], .agg #[.int .i64 qm, .int .i64 qx]] (.tuple #[.agg #[.int .i64 0, .int .i64 0], .int .i64 1])) (VX : Ret 16 #[.agg #[.int .i64 pm, .int .i64 px]] (.bool false)) (SN : ∀ u, Tb u → Calls Tryz.prog 23 #[] u fun e u' => e = .returned (.bool true) ∧ Ext u u') :
    Calls Tryz.prog 4 #[.agg #[.int .i64 pm, .int .i64 px], .agg #[.int .i64 qm, .int .i64 qx]] w fun e w' => e = .returned (.bool true) ∧ Ext w w' := by
  have HT := Lib.hid ht; clear ht
  have FR := Lib.hid (Fr.nil w)
  have eqR := eqReal
  go_enter Tryz.func4, Tryz.ntmps4
  go_wp2_with fail
  refine (AD _).mono ?_
  rintro e w1 ⟨rfl, hx⟩
  have FR2 : Hid (Fr w w1 [(w.heap.size + 1, qm, qx), (w.heap.size, pm, px)]) := Lib.hid ((FR.out.lay2 (pm) (px) (qm) (qx) 23).later hx)
  clear hx FR; have FR := FR2; clear FR2
  have cx0 := FR.out.g0 (b := w.heap.size) (.tail _ (.head _)); have cx1 := FR.out.g1 (b := w.heap.size) (.tail _ (.head _))
  have cy0 := FR.out.g0 (b := w.heap.size + 1) (.head _); have cy1 := FR.out.g1 (b := w.heap.size + 1) (.head _)
  go_wp2_with fail
  refine (SB _).mono ?_
  rintro e w2 ⟨rfl, hx⟩
  have FR2 : Hid (Fr w w2 [(w1.heap.size, 0, 0), (w.heap.size + 1, qm, qx), (w.heap.size, pm, px)]) := Lib.hid ((FR.out.lay (0) (0) 23).later hx)
  clear cx0 cx1 cy0 cy1
  clear hx FR; have FR := FR2; clear FR2
  have cx0 := FR.out.g0 (b := w.heap.size) (.tail _ (.tail _ (.head _))); have cx1 := FR.out.g1 (b := w.heap.size) (.tail _ (.tail _ (.head _)))
  go_wp2_with fail
  refine (VX _).mono ?_
  rintro e w3 ⟨rfl, hx⟩
  have FR2 : Hid (Fr w w3 [(w2.heap.size, 0, 0), (w1.heap.size, 0, 0), (w.heap.size + 1, qm, qx), (w.heap.size, pm, px)]) := Lib.hid ((FR.out.lay (0) (0) 23).later hx)
  clear cx0 cx1
  clear hx FR; have FR := FR2; clear FR2
  go_wp2_with fail
  refine (SN _ (HT.out.later FR.out.x)).mono ?_
  rintro e w4 ⟨rfl, hx⟩
  have FR2 : Hid (Fr w w4 [(w2.heap.size, 0, 0), (w1.heap.size, 0, 0), (w.heap.size + 1, qm, qx), (w.heap.size, pm, px)]) := Lib.hid (FR.out.later hx)
  clear hx FR; have FR := FR2; clear FR2
  have ca0 := FR.out.c0 (b := w1.heap.size) (.tail _ (.head _)); have ca1 := FR.out.c1 (b := w1.heap.size) (.tail _ (.head _))
  have cb0 := FR.out.c0 (b := w2.heap.size) (.head _); have cb1 := FR.out.c1 (b := w2.heap.size) (.head _)
  go_wp2
  go_ret
  exact ⟨rfl, FR.out.x⟩
set_option maxRecDepth 100000 in
set_option maxHeartbeats 8000000 in
theorem bad_y (w : World) (ht : Tb w) (pm px qm qx : Int) (AD : Ret 28 #[.agg #[.int .i64 pm, .int .i64 px], .agg #[.int .i64 qm, .int .i64 qx]] (.tuple #[.agg #[.int .i64 0, .int .i64 0], .int .i64 1])) (SB : Ret 29 #[.agg #[.int .i64 pm, .int .i64 px], .agg #[.int .i64 qm, .int .i64 qx]] (.tuple #[.agg #[.int .i64 0, .int .i64 0], .int .i64 1])) (VX : Ret 16 #[.agg #[.int .i64 pm, .int .i64 px]] (.bool true)) (VY : Ret 16 #[.agg #[.int .i64 qm, .int .i64 qx]] (.bool false)) (SN : ∀ u, Tb u → Calls Tryz.prog 23 #[] u fun e u' => e = .returned (.bool true) ∧ Ext u u') :
    Calls Tryz.prog 4 #[.agg #[.int .i64 pm, .int .i64 px], .agg #[.int .i64 qm, .int .i64 qx]] w fun e w' => e = .returned (.bool true) ∧ Ext w w' := by
  have HT := Lib.hid ht; clear ht
  have FR := Lib.hid (Fr.nil w)
  have eqR := eqReal
  go_enter Tryz.func4, Tryz.ntmps4
  go_wp2_with fail
  refine (AD _).mono ?_
  rintro e w1 ⟨rfl, hx⟩
  have FR2 : Hid (Fr w w1 [(w.heap.size + 1, qm, qx), (w.heap.size, pm, px)]) := Lib.hid ((FR.out.lay2 (pm) (px) (qm) (qx) 23).later hx)
  clear hx FR; have FR := FR2; clear FR2
  have cx0 := FR.out.g0 (b := w.heap.size) (.tail _ (.head _)); have cx1 := FR.out.g1 (b := w.heap.size) (.tail _ (.head _))
  have cy0 := FR.out.g0 (b := w.heap.size + 1) (.head _); have cy1 := FR.out.g1 (b := w.heap.size + 1) (.head _)
  go_wp2_with fail
  refine (SB _).mono ?_
  rintro e w2 ⟨rfl, hx⟩
  have FR2 : Hid (Fr w w2 [(w1.heap.size, 0, 0), (w.heap.size + 1, qm, qx), (w.heap.size, pm, px)]) := Lib.hid ((FR.out.lay (0) (0) 23).later hx)
  clear cx0 cx1 cy0 cy1
  clear hx FR; have FR := FR2; clear FR2
  have cx0 := FR.out.g0 (b := w.heap.size) (.tail _ (.tail _ (.head _))); have cx1 := FR.out.g1 (b := w.heap.size) (.tail _ (.tail _ (.head _)))
  go_wp2_with fail
  refine (VX _).mono ?_
  rintro e w3 ⟨rfl, hx⟩
  have FR2 : Hid (Fr w w3 [(w2.heap.size, 0, 0), (w1.heap.size, 0, 0), (w.heap.size + 1, qm, qx), (w.heap.size, pm, px)]) := Lib.hid ((FR.out.lay (0) (0) 23).later hx)
  clear cx0 cx1
  clear hx FR; have FR := FR2; clear FR2
  have cy0 := FR.out.c0 (b := w.heap.size + 1) (.tail _ (.tail _ (.head _))); have cy1 := FR.out.c1 (b := w.heap.size + 1) (.tail _ (.tail _ (.head _)))
  go_wp2_with fail
  refine (VY _).mono ?_
  rintro e w4 ⟨rfl, hx⟩
  have FR2 : Hid (Fr w w4 [(w2.heap.size, 0, 0), (w1.heap.size, 0, 0), (w.heap.size + 1, qm, qx), (w.heap.size, pm, px)]) := Lib.hid (FR.out.later hx)
  clear cy0 cy1
  clear hx FR; have FR := FR2; clear FR2
  go_wp2_with fail
  refine (SN _ (HT.out.later FR.out.x)).mono ?_
  rintro e w5 ⟨rfl, hx⟩
  have FR2 : Hid (Fr w w5 [(w2.heap.size, 0, 0), (w1.heap.size, 0, 0), (w.heap.size + 1, qm, qx), (w.heap.size, pm, px)]) := Lib.hid (FR.out.later hx)
  clear hx FR; have FR := FR2; clear FR2
  have ca0 := FR.out.c0 (b := w1.heap.size) (.tail _ (.head _)); have ca1 := FR.out.c1 (b := w1.heap.size) (.tail _ (.head _))
  have cb0 := FR.out.c0 (b := w2.heap.size) (.head _); have cb1 := FR.out.c1 (b := w2.heap.size) (.head _)
  go_wp2
  go_ret
  exact ⟨rfl, FR.out.x⟩
set_option maxRecDepth 100000 in
set_option maxHeartbeats 8000000 in
theorem good (w : World) (ht : Tb w) (pm px qm qx am ax ae bm bx be r1 r2 s1 s2 : Int) (k l : Bool) (AD : Ret 28 #[.agg #[.int .i64 pm, .int .i64 px], .agg #[.int .i64 qm, .int .i64 qx]] (.tuple #[.agg #[.int .i64 am, .int .i64 ax], .int .i64 ae])) (SB : Ret 29 #[.agg #[.int .i64 pm, .int .i64 px], .agg #[.int .i64 qm, .int .i64 qx]] (.tuple #[.agg #[.int .i64 bm, .int .i64 bx], .int .i64 be])) (VX : Ret 16 #[.agg #[.int .i64 pm, .int .i64 px]] (.bool true)) (VY : Ret 16 #[.agg #[.int .i64 qm, .int .i64 qx]] (.bool true)) (RA : Ret 31 #[.agg #[.int .i64 pm, .int .i64 px], .agg #[.int .i64 qm, .int .i64 qx]] (.agg #[.int .i64 r1, .int .i64 r2, .bool k])) (RS : Ret 32 #[.agg #[.int .i64 pm, .int .i64 px], .agg #[.int .i64 qm, .int .i64 qx]] (.agg #[.int .i64 s1, .int .i64 s2, .bool l])) (R1 : Ret 30 #[.agg #[.int .i64 am, .int .i64 ax], .int .i64 ae, .agg #[.int .i64 r1, .int .i64 r2, .bool k]] (.bool true)) (R2 : Ret 30 #[.agg #[.int .i64 bm, .int .i64 bx], .int .i64 be, .agg #[.int .i64 s1, .int .i64 s2, .bool l]] (.bool true)) (SN : ∀ u, Tb u → Calls Tryz.prog 23 #[] u fun e u' => e = .returned (.bool true) ∧ Ext u u') :
    Calls Tryz.prog 4 #[.agg #[.int .i64 pm, .int .i64 px], .agg #[.int .i64 qm, .int .i64 qx]] w fun e w' => e = .returned (.bool true) ∧ Ext w w' := by
  have HT := Lib.hid ht; clear ht
  have FR := Lib.hid (Fr.nil w)
  have eqR := eqReal
  go_enter Tryz.func4, Tryz.ntmps4
  go_wp2_with fail
  refine (AD _).mono ?_
  rintro e w1 ⟨rfl, hx⟩
  have FR2 : Hid (Fr w w1 [(w.heap.size + 1, qm, qx), (w.heap.size, pm, px)]) := Lib.hid ((FR.out.lay2 (pm) (px) (qm) (qx) 23).later hx)
  clear hx FR; have FR := FR2; clear FR2
  have cx0 := FR.out.g0 (b := w.heap.size) (.tail _ (.head _)); have cx1 := FR.out.g1 (b := w.heap.size) (.tail _ (.head _))
  have cy0 := FR.out.g0 (b := w.heap.size + 1) (.head _); have cy1 := FR.out.g1 (b := w.heap.size + 1) (.head _)
  go_wp2_with fail
  refine (SB _).mono ?_
  rintro e w2 ⟨rfl, hx⟩
  have FR2 : Hid (Fr w w2 [(w1.heap.size, am, ax), (w.heap.size + 1, qm, qx), (w.heap.size, pm, px)]) := Lib.hid ((FR.out.lay (am) (ax) 23).later hx)
  clear cx0 cx1 cy0 cy1
  clear hx FR; have FR := FR2; clear FR2
  have cx0 := FR.out.g0 (b := w.heap.size) (.tail _ (.tail _ (.head _))); have cx1 := FR.out.g1 (b := w.heap.size) (.tail _ (.tail _ (.head _)))
  go_wp2_with fail
  refine (VX _).mono ?_
  rintro e w3 ⟨rfl, hx⟩
  have FR2 : Hid (Fr w w3 [(w2.heap.size, bm, bx), (w1.heap.size, am, ax), (w.heap.size + 1, qm, qx), (w.heap.size, pm, px)]) := Lib.hid ((FR.out.lay (bm) (bx) 23).later hx)
  clear cx0 cx1
  clear hx FR; have FR := FR2; clear FR2
  have cy0 := FR.out.c0 (b := w.heap.size + 1) (.tail _ (.tail _ (.head _))); have cy1 := FR.out.c1 (b := w.heap.size + 1) (.tail _ (.tail _ (.head _)))
  go_wp2_with fail
  refine (VY _).mono ?_
  rintro e w4 ⟨rfl, hx⟩
  have FR2 : Hid (Fr w w4 [(w2.heap.size, bm, bx), (w1.heap.size, am, ax), (w.heap.size + 1, qm, qx), (w.heap.size, pm, px)]) := Lib.hid (FR.out.later hx)
  clear cy0 cy1
  clear hx FR; have FR := FR2; clear FR2
  go_upto_region 5 with (fail)
  have HT0 : Fr w w4 [(w2.heap.size, bm, bx), (w1.heap.size, am, ax), (w.heap.size + 1, qm, qx), (w.heap.size, pm, px)] := FR.out
  refine wp_region_S (fun u : World => Fr w u [(w2.heap.size, bm, bx), (w1.heap.size, am, ax), (w.heap.size + 1, qm, qx), (w.heap.size, pm, px)]) 17 (by kernel_rfl) ?_
  have HS := HT0.later (Ext.refl _).drew
  clear HT0 FR
  refine GoS.one (i := 0) (by kernel_rfl) rfl (fun K hK => ?_)
  go_simp
  (with_reducible refine (SN _ (HT.out.later HS.x)).mono ?_)
  rintro e q1 ⟨rfl, hx1⟩
  have HS2 := HS.later hx1
  clear HS; have HS := HS2; clear HS2 hx1
  go_wp2_with fail
  refine hK.out _ _ HS (fun _ => ?_)
  clear hK K
  try simp only [List.getElem_toArray, List.getElem_cons_succ, List.getElem_cons_zero, Act.put, List.setIfInBounds_toArray, List.set_cons_zero, List.set_cons_succ]
  refine GoS.pure (i := 1) (v := ?_) rfl (by kernel_rfl) (by kernel_rfl) (by kernel_rfl) (by kernel_rfl) (fun _ _ _ h => h) (Or.inl ⟨by rfl, ?hy2⟩) (fun _ => HS) ?_
  case hy2 => ((intro u' hT; go_simp); try with_reducible rfl)
  try simp only [List.getElem_toArray, List.getElem_cons_succ, List.getElem_cons_zero, Act.put, List.setIfInBounds_toArray, List.set_cons_zero, List.set_cons_succ]
  refine GoS.take (i := 2) (v := ?_) rfl (by kernel_rfl) (by kernel_rfl) (by kernel_rfl) (by kernel_rfl) (fun _ _ _ h => h) (Or.inl ⟨by rfl, ?hy3⟩) HS ?_
  case hy3 => ((intro u' hT; have da0 := hT.c0 (b := w1.heap.size) (.tail _ (.head _)); have da1 := hT.c1 (b := w1.heap.size) (.tail _ (.head _)); go_simp); try with_reducible rfl)
  try simp only [List.getElem_toArray, List.getElem_cons_succ, List.getElem_cons_zero, Act.put, List.setIfInBounds_toArray, List.set_cons_zero, List.set_cons_succ]
  refine GoS.pure (i := 3) (v := ?_) rfl (by kernel_rfl) (by kernel_rfl) (by kernel_rfl) (by kernel_rfl) (fun _ _ _ h => h) (Or.inl ⟨by rfl, ?hy4⟩) (fun _ => HS) ?_
  case hy4 => ((intro u' hT; go_simp); try with_reducible rfl)
  try simp only [List.getElem_toArray, List.getElem_cons_succ, List.getElem_cons_zero, Act.put, List.setIfInBounds_toArray, List.set_cons_zero, List.set_cons_succ]
  refine GoS.take (i := 4) (v := ?_) rfl (by kernel_rfl) (by kernel_rfl) (by kernel_rfl) (by kernel_rfl) (fun _ _ _ h => h) (Or.inl ⟨by rfl, ?hy5⟩) HS ?_
  case hy5 => ((intro u' hT; have dx0 := hT.c0 (b := w.heap.size) (.tail _ (.tail _ (.tail _ (.head _)))); have dx1 := hT.c1 (b := w.heap.size) (.tail _ (.tail _ (.tail _ (.head _)))); go_simp); try with_reducible rfl)
  try simp only [List.getElem_toArray, List.getElem_cons_succ, List.getElem_cons_zero, Act.put, List.setIfInBounds_toArray, List.set_cons_zero, List.set_cons_succ]
  refine GoS.take (i := 5) (v := ?_) rfl (by kernel_rfl) (by kernel_rfl) (by kernel_rfl) (by kernel_rfl) (fun _ _ _ h => h) (Or.inl ⟨by rfl, ?hy6⟩) HS ?_
  case hy6 => ((intro u' hT; have dy0 := hT.c0 (b := w.heap.size + 1) (.tail _ (.tail _ (.head _))); have dy1 := hT.c1 (b := w.heap.size + 1) (.tail _ (.tail _ (.head _))); go_simp); try with_reducible rfl)
  try simp only [List.getElem_toArray, List.getElem_cons_succ, List.getElem_cons_zero, Act.put, List.setIfInBounds_toArray, List.set_cons_zero, List.set_cons_succ]
  refine GoS.one (i := 6) (by kernel_rfl) rfl (fun K hK => ?_)
  go_simp
  (with_reducible refine (RA.call _).mono ?_)
  rintro e q7 ⟨rfl, hx7⟩
  have HS2 := HS.later hx7
  clear HS; have HS := HS2; clear HS2 hx7
  go_wp2_with fail
  refine hK.out _ _ HS (fun _ => ?_)
  clear hK K
  try simp only [List.getElem_toArray, List.getElem_cons_succ, List.getElem_cons_zero, Act.put, List.setIfInBounds_toArray, List.set_cons_zero, List.set_cons_succ]
  refine GoS.one (i := 7) (by kernel_rfl) rfl (fun K hK => ?_)
  go_simp
  (with_reducible refine (R1.call _).mono ?_)
  rintro e q8 ⟨rfl, hx8⟩
  have HS2 := HS.later hx8
  clear HS; have HS := HS2; clear HS2 hx8
  go_wp2_with fail
  refine hK.out _ _ HS (fun _ => ?_)
  clear hK K
  try simp only [List.getElem_toArray, List.getElem_cons_succ, List.getElem_cons_zero, Act.put, List.setIfInBounds_toArray, List.set_cons_zero, List.set_cons_succ]
  refine GoS.pure (i := 8) (v := ?_) rfl (by kernel_rfl) (by kernel_rfl) (by kernel_rfl) (by kernel_rfl) (fun _ _ _ h => h) (Or.inl ⟨by rfl, ?hy9⟩) (fun _ => HS) ?_
  case hy9 => ((intro u' hT; go_simp); try with_reducible rfl)
  try simp only [List.getElem_toArray, List.getElem_cons_succ, List.getElem_cons_zero, Act.put, List.setIfInBounds_toArray, List.set_cons_zero, List.set_cons_succ]
  refine GoS.pure (i := 9) (v := ?_) rfl (by kernel_rfl) (by kernel_rfl) (by kernel_rfl) (by kernel_rfl) (fun _ _ _ h => h) (Or.inl ⟨by rfl, ?hy10⟩) (fun _ => HS) ?_
  case hy10 => ((intro u' hT; go_simp); try with_reducible rfl)
  try simp only [List.getElem_toArray, List.getElem_cons_succ, List.getElem_cons_zero, Act.put, List.setIfInBounds_toArray, List.set_cons_zero, List.set_cons_succ]
  refine GoS.take (i := 10) (v := ?_) rfl (by kernel_rfl) (by kernel_rfl) (by kernel_rfl) (by kernel_rfl) (fun _ _ _ h => h) (Or.inl ⟨by rfl, ?hy11⟩) HS ?_
  case hy11 => ((intro u' hT; have db0 := hT.c0 (b := w2.heap.size) (.head _); have db1 := hT.c1 (b := w2.heap.size) (.head _); go_simp); try with_reducible rfl)
  try simp only [List.getElem_toArray, List.getElem_cons_succ, List.getElem_cons_zero, Act.put, List.setIfInBounds_toArray, List.set_cons_zero, List.set_cons_succ]
  refine GoS.pure (i := 11) (v := ?_) rfl (by kernel_rfl) (by kernel_rfl) (by kernel_rfl) (by kernel_rfl) (fun _ _ _ h => h) (Or.inl ⟨by rfl, ?hy12⟩) (fun _ => HS) ?_
  case hy12 => ((intro u' hT; go_simp); try with_reducible rfl)
  try simp only [List.getElem_toArray, List.getElem_cons_succ, List.getElem_cons_zero, Act.put, List.setIfInBounds_toArray, List.set_cons_zero, List.set_cons_succ]
  refine GoS.take (i := 12) (v := ?_) rfl (by kernel_rfl) (by kernel_rfl) (by kernel_rfl) (by kernel_rfl) (fun _ _ _ h => h) (Or.inl ⟨by rfl, ?hy13⟩) HS ?_
  case hy13 => ((intro u' hT; have dx0 := hT.c0 (b := w.heap.size) (.tail _ (.tail _ (.tail _ (.head _)))); have dx1 := hT.c1 (b := w.heap.size) (.tail _ (.tail _ (.tail _ (.head _)))); go_simp); try with_reducible rfl)
  try simp only [List.getElem_toArray, List.getElem_cons_succ, List.getElem_cons_zero, Act.put, List.setIfInBounds_toArray, List.set_cons_zero, List.set_cons_succ]
  refine GoS.take (i := 13) (v := ?_) rfl (by kernel_rfl) (by kernel_rfl) (by kernel_rfl) (by kernel_rfl) (fun _ _ _ h => h) (Or.inl ⟨by rfl, ?hy14⟩) HS ?_
  case hy14 => ((intro u' hT; have dy0 := hT.c0 (b := w.heap.size + 1) (.tail _ (.tail _ (.head _))); have dy1 := hT.c1 (b := w.heap.size + 1) (.tail _ (.tail _ (.head _))); go_simp); try with_reducible rfl)
  try simp only [List.getElem_toArray, List.getElem_cons_succ, List.getElem_cons_zero, Act.put, List.setIfInBounds_toArray, List.set_cons_zero, List.set_cons_succ]
  refine GoS.one (i := 14) (by kernel_rfl) rfl (fun K hK => ?_)
  go_simp
  (with_reducible refine (RS.call _).mono ?_)
  rintro e q15 ⟨rfl, hx15⟩
  have HS2 := HS.later hx15
  clear HS; have HS := HS2; clear HS2 hx15
  go_wp2_with fail
  refine hK.out _ _ HS (fun _ => ?_)
  clear hK K
  try simp only [List.getElem_toArray, List.getElem_cons_succ, List.getElem_cons_zero, Act.put, List.setIfInBounds_toArray, List.set_cons_zero, List.set_cons_succ]
  refine GoS.one (i := 15) (by kernel_rfl) rfl (fun K hK => ?_)
  go_simp
  (with_reducible refine (R2.call _).mono ?_)
  rintro e q16 ⟨rfl, hx16⟩
  have HS2 := HS.later hx16
  clear HS; have HS := HS2; clear HS2 hx16
  go_wp2_with fail
  refine hK.out _ _ HS (fun _ => ?_)
  clear hK K
  try simp only [List.getElem_toArray, List.getElem_cons_succ, List.getElem_cons_zero, Act.put, List.setIfInBounds_toArray, List.set_cons_zero, List.set_cons_succ]
  refine GoS.pure (i := 16) (v := ?_) rfl (by kernel_rfl) (by kernel_rfl) (by kernel_rfl) (by kernel_rfl) (fun _ _ _ h => h) (Or.inl ⟨by rfl, ?hy17⟩) (fun _ => HS) ?_
  case hy17 => ((intro u' hT; go_simp); try with_reducible rfl)
  try simp only [List.getElem_toArray, List.getElem_cons_succ, List.getElem_cons_zero, Act.put, List.setIfInBounds_toArray, List.set_cons_zero, List.set_cons_succ]
  refine GoS.store (i := 17) (by kernel_rfl) rfl (by kernel_rfl) (fun K hK => ?_)
  go_simp
  refine hK.out _ _ ?_
  clear hK K
  try simp only [List.getElem_toArray, List.getElem_cons_succ, List.getElem_cons_zero, Act.put, List.setIfInBounds_toArray, List.set_cons_zero, List.set_cons_succ]
  refine GoS.done (by kernel_rfl) ?_
  have FR := Lib.hid HS; clear HS
  go_wp2
  go_ret
  exact ⟨rfl, FR.out.x⟩
theorem walk (m x : Int) (wm : (Lit.int .i64 m).wf = true) (_wx : (Lit.int .i64 x).wf = true) (n y : Int) (wn : (Lit.int .i64 n).wf = true) (_wy : (Lit.int .i64 y).wf = true) (w : World) (ht : Tb w) :
    Calls Tryz.prog 4 #[.agg #[.int .i64 m, .int .i64 x], .agg #[.int .i64 n, .int .i64 y]] w fun e w' => e = .returned (.bool true) ∧ Ext w w' := by
  have VX := refvalid_any m x (bdI wm).1 (bdI wm).2
  have VY := refvalid_any n y (bdI wn).1 (bdI wn).2
  have AD : Ret 28 #[.agg #[.int .i64 m, .int .i64 x], .agg #[.int .i64 n, .int .i64 y]] (.tuple #[.agg #[.int .i64 (combV m x n y (sumV m x n y)).1.1, .int .i64 (combV m x n y (sumV m x n y)).1.2], .int .i64 (combV m x n y (sumV m x n y)).2]) := fun w => add_real m x n y w
  have SB : Ret 29 #[.agg #[.int .i64 m, .int .i64 x], .agg #[.int .i64 n, .int .i64 y]] (.tuple #[.agg #[.int .i64 (subV m x n y).1.1, .int .i64 (subV m x n y).1.2], .int .i64 (subV m x n y).2]) := fun w => sub_real m x n y w
  have bad : (validV m x && validV n y) = false → ∀ a, combV m x n y a = ((0, 0), 1) := fun h a => by unfold combV; rw [h]; rfl
  cases hv : validV m x with
  | false =>
    rw [hv] at VX
    have e1 := bad (by rw [hv]; rfl) (sumV m x n y)
    have e2 : subV m x n y = ((0, 0), 1) := bad (by rw [hv]; rfl) _
    rw [e1] at AD
    rw [e2] at SB
    exact bad_x w ht m x n y AD SB VX sanity_any
  | true =>
    rw [hv] at VX
    cases hu : validV n y with
    | false =>
      rw [hu] at VY
      have e1 := bad (by rw [hv, hu]; rfl) (sumV m x n y)
      have e2 : subV m x n y = ((0, 0), 1) := bad (by rw [hv, hu]; rfl) _
      rw [e1] at AD
      rw [e2] at SB
      exact bad_y w ht m x n y AD SB VX VY sanity_any
    | true =>
      rw [hu] at VY
      have h := vd_iff.1 hv
      have k := vd_iff.1 hu
      rw [comb_valid h k] at AD
      rw [show subV m x n y = (okV (sumV m x (-n) y).rd, okE (sumV m x (-n) y).rd) from comb_valid h k] at SB
      have RA := add_ref h k
      have RS := sub_ref h k
      have R1 := rounded_ret (sumV m x n y).rd
      have R2 := rounded_ret (sumV m x (-n) y).rd
      obtain ⟨r1, r2, k1, e1⟩ := rnd_shape (sumV m x n y).rd
      obtain ⟨s1, s2, k2, e2⟩ := rnd_shape (sumV m x (-n) y).rd
      rw [e1] at RA R1
      rw [e2] at RS R2
      exact good w ht m x n y _ _ _ _ _ _ _ _ _ _ _ _ AD SB VX VY RA RS R1 R2 sanity_any
end Go.Proofs.YthmndafjogndaaaGreatDoor.realSums
