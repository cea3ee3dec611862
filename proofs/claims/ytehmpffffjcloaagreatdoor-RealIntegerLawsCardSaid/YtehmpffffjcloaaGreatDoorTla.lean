/- Layer 2: the walk of RealIntegerLaws, what is behind an integer part. -/
import Derived.Test.YtehmpffffjcloaaGreatDoorTi
import Derived.Test.YtehmpffffjcloaaGreatDoorGr
namespace Go.Proofs.YtehmpffffjcloaaGreatDoor
open Go.RowKit

set_option maxRecDepth 100000 in
set_option maxHeartbeats 8000000 in
theorem int_in1 (w : World) (ht : Tb w) (i n N fm fx pm px gm gx a B C um ux vm vx dm dx lo hi : Int) (hN : n.tmod 16777217 = N) (_hN' : IntKind.i64.wrap N = N) (_hN2 : wrap64 N = N) (FI : Ret 20 #[.int .i64 N] (.agg #[.int .i64 fm, .int .i64 fx])) (EF : Ret 48 #[.agg #[.int .i64 fm, .int .i64 fx]] (.tuple #[.int .i64 N, .int .i64 0])) (A : Ret 56 #[.int .i64 i] (.agg #[.int .i64 pm, .int .i64 px])) (EA : Ret 48 #[.agg #[.int .i64 pm, .int .i64 px]] (.tuple #[.int .i64 a, .int .i64 0])) (RB : Ret 49 #[.agg #[.int .i64 pm, .int .i64 px]] (.tuple #[.int .i64 B, .int .i64 0])) (NG : Ret 26 #[.agg #[.int .i64 pm, .int .i64 px]] (.tuple #[.agg #[.int .i64 gm, .int .i64 gx], .int .i64 0])) (RC : Ret 49 #[.agg #[.int .i64 gm, .int .i64 gx]] (.tuple #[.int .i64 C, .int .i64 0])) (wB : IntKind.i64.wrap (a + 1) = B) (_wB' : wrap64 (a + 1) = B) (_nB : ¬ a = B) (nB' : ¬ B = a) (_nb : (a == B) = false) (_nb' : (B == a) = false) (r1 : ¬ a < -8388608) (r2 : ¬ a ≥ 8388608) (wC : IntKind.i64.wrap (-B) = C) (_wC' : wrap64 (-B) = C) (_wC2 : IntKind.i64.wrap (0 - B) = C) (_wC3 : wrap64 (0 - B) = C) (FA : Ret 20 #[.int .i64 a] (.agg #[.int .i64 um, .int .i64 ux])) (CL : Ret 29 #[.agg #[.int .i64 um, .int .i64 ux], .agg #[.int .i64 pm, .int .i64 px]] (.tuple #[.int .i64 lo, .int .i64 0])) (l1 : ¬ lo > 0) (FB : Ret 20 #[.int .i64 B] (.agg #[.int .i64 vm, .int .i64 vx])) (CH : Ret 29 #[.agg #[.int .i64 pm, .int .i64 px], .agg #[.int .i64 vm, .int .i64 vx]] (.tuple #[.int .i64 hi, .int .i64 0])) (l2 : ¬ hi ≥ 0) (SU : Ret 36 #[.agg #[.int .i64 pm, .int .i64 px], .agg #[.int .i64 um, .int .i64 ux]] (.tuple #[.agg #[.int .i64 dm, .int .i64 dx], .int .i64 0])) (TW : Ret 62 #[.int .i64 (-1)] (.agg #[.int .i64 8388608, .int .i64 (-24)])) (CD : Ret 29 #[.agg #[.int .i64 dm, .int .i64 dx], .agg #[.int .i64 8388608, .int .i64 (-24)]] (.tuple #[.int .i64 1, .int .i64 0])) (SN : ∀ u, Tb u → Calls Tryz.prog 30 #[] u fun e u' => e = .returned (.bool true) ∧ Ext u u') :
    Calls Tryz.prog 15 #[.int .i64 i, .int .i64 n] w fun e w' => e = .returned (.bool true) ∧ Ext w w' := by
  have HT := Lib.hid ht; clear ht
  have FR := Lib.hid (Fr.nil w)
  have eqR := eqReal
  go_enter Tryz.func15, Tryz.ntmps15
  go_wp2_with fail
  refine (FI _).mono ?_
  rintro e w1 ⟨rfl, hx⟩
  have FR2 : Hid (Fr w w1 []) := Lib.hid (FR.out.later hx)
  clear hx FR; have FR := FR2; clear FR2
  go_wp2_with fail
  refine (EF _).mono ?_
  rintro e w2 ⟨rfl, hx⟩
  have FR2 : Hid (Fr w w2 []) := Lib.hid (FR.out.later hx)
  clear hx FR; have FR := FR2; clear FR2
  go_wp2_with fail
  refine (A _).mono ?_
  rintro e w3 ⟨rfl, hx⟩
  have FR2 : Hid (Fr w w3 []) := Lib.hid (FR.out.later hx)
  clear hx FR; have FR := FR2; clear FR2
  go_wp2_with fail
  refine (EA _).mono ?_
  rintro e w4 ⟨rfl, hx⟩
  have FR2 : Hid (Fr w w4 [(w3.heap.size, pm, px)]) := Lib.hid ((FR.out.lay (pm) (px) 23).later hx)
  clear hx FR; have FR := FR2; clear FR2
  have cx0 := FR.out.c0 (b := w3.heap.size) (.head _); have cx1 := FR.out.c1 (b := w3.heap.size) (.head _)
  go_wp2_with fail
  refine (RB _).mono ?_
  rintro e w5 ⟨rfl, hx⟩
  have FR2 : Hid (Fr w w5 [(w3.heap.size, pm, px)]) := Lib.hid (FR.out.later hx)
  clear cx0 cx1
  clear hx FR; have FR := FR2; clear FR2
  have cx0 := FR.out.c0 (b := w3.heap.size) (.head _); have cx1 := FR.out.c1 (b := w3.heap.size) (.head _)
  go_wp2_with fail
  refine (NG _).mono ?_
  rintro e w6 ⟨rfl, hx⟩
  have FR2 : Hid (Fr w w6 [(w3.heap.size, pm, px)]) := Lib.hid (FR.out.later hx)
  clear cx0 cx1
  clear hx FR; have FR := FR2; clear FR2
  go_wp2_with fail
  refine (RC _).mono ?_
  rintro e w7 ⟨rfl, hx⟩
  have FR2 : Hid (Fr w w7 [(w6.heap.size, gm, gx), (w3.heap.size, pm, px)]) := Lib.hid ((FR.out.lay (gm) (gx) 23).later hx)
  clear hx FR; have FR := FR2; clear FR2
  go_upto_region 16 with (fail)
  have HT0 : Fr w w7 [(w6.heap.size, gm, gx), (w3.heap.size, pm, px)] := FR.out
  refine wp_region_S (fun u : World => Fr w u [(w6.heap.size, gm, gx), (w3.heap.size, pm, px)]) 8 (by kernel_rfl) ?_
  have HS := HT0.later (Ext.refl _).drew
  clear HT0 FR
  refine GoS.take (i := 2) (v := ?_) rfl (by kernel_rfl) (by kernel_rfl) (by kernel_rfl) (by kernel_rfl) (fun _ _ _ h => h) (Or.inl ⟨by rfl, ?hy1⟩) HS ?_
  case hy1 => ((intro u' hT; have dx0 := hT.c0 (b := w3.heap.size) (.tail _ (.head _)); have dx1 := hT.c1 (b := w3.heap.size) (.tail _ (.head _)); go_simp); try with_reducible rfl)
  try simp only [List.getElem_toArray, List.getElem_cons_succ, List.getElem_cons_zero, Act.put, List.setIfInBounds_toArray, List.set_cons_zero, List.set_cons_succ]
  refine GoS.pure (i := 0) (v := ?_) rfl (by kernel_rfl) (by kernel_rfl) (by kernel_rfl) (by kernel_rfl) (fun _ _ _ h => h) (Or.inl ⟨by rfl, ?hy2⟩) (fun _ => HS) ?_
  case hy2 => ((intro u' hT; go_simp); try with_reducible rfl)
  try simp only [List.getElem_toArray, List.getElem_cons_zero, Act.put, List.setIfInBounds_toArray, List.set_cons_zero, List.set_cons_succ]
  refine GoS.one (i := 1) (by kernel_rfl) rfl (fun K hK => ?_)
  go_simp
  (with_reducible refine (FA.call _).mono ?_)
  rintro e q3 ⟨rfl, hx3⟩
  have HS2 := HS.later hx3
  clear HS; have HS := HS2; clear HS2 hx3
  go_wp2_with fail
  refine hK.out _ _ HS (fun _ => ?_)
  clear hK K
  try simp only [List.getElem_toArray, List.getElem_cons_succ, List.getElem_cons_zero, Act.put, List.setIfInBounds_toArray, List.set_cons_zero, List.set_cons_succ]
  refine GoS.one (i := 3) (by kernel_rfl) rfl (fun K hK => ?_)
  go_simp
  (with_reducible refine (CL.call _).mono ?_)
  rintro e q4 ⟨rfl, hx4⟩
  have HS2 := HS.later hx4
  clear HS; have HS := HS2; clear HS2 hx4
  go_wp2_with fail
  refine hK.out _ _ HS (fun _ => ?_)
  clear hK K
  try simp only [List.getElem_toArray, List.getElem_cons_succ, List.getElem_cons_zero, Act.put, List.setIfInBounds_toArray, List.set_cons_zero, List.set_cons_succ]
  refine GoS.pure (i := 4) (v := ?_) rfl (by kernel_rfl) (by kernel_rfl) (by kernel_rfl) (by kernel_rfl) (fun _ _ _ h => h) (Or.inl ⟨by rfl, ?hy5⟩) (fun _ => HS) ?_
  case hy5 => ((intro u' hT; go_simp); try with_reducible rfl)
  try simp only [List.getElem_toArray, List.getElem_cons_succ, List.getElem_cons_zero, Act.put, List.setIfInBounds_toArray, List.set_cons_zero, List.set_cons_succ]
  refine GoS.pure (i := 5) (v := ?_) rfl (by kernel_rfl) (by kernel_rfl) (by kernel_rfl) (by kernel_rfl) (fun _ _ _ h => h) (Or.inl ⟨by rfl, ?hy6⟩) (fun _ => HS) ?_
  case hy6 => ((intro u' hT; go_simp); try with_reducible rfl)
  try simp only [List.getElem_toArray, List.getElem_cons_succ, List.getElem_cons_zero, Act.put, List.setIfInBounds_toArray, List.set_cons_zero, List.set_cons_succ]
  refine GoS.pure (i := 6) (v := ?_) rfl (by kernel_rfl) (by kernel_rfl) (by kernel_rfl) (by kernel_rfl) (fun _ _ _ h => h) (Or.inl ⟨by rfl, ?hy7⟩) (fun _ => HS) ?_
  case hy7 => ((intro u' hT; go_simp); try with_reducible rfl)
  try simp only [List.getElem_toArray, List.getElem_cons_succ, List.getElem_cons_zero, Act.put, List.setIfInBounds_toArray, List.set_cons_zero, List.set_cons_succ]
  refine GoS.pure (i := 7) (v := ?_) rfl (by kernel_rfl) (by kernel_rfl) (by kernel_rfl) (by kernel_rfl) (fun _ _ _ h => h) (Or.inl ⟨by rfl, ?hy8⟩) (fun _ => HS) ?_
  case hy8 => ((intro u' hT; go_simp); try with_reducible rfl)
  try simp only [List.getElem_toArray, List.getElem_cons_succ, List.getElem_cons_zero, Act.put, List.setIfInBounds_toArray, List.set_cons_zero, List.set_cons_succ]
  refine GoS.store (i := 8) (by kernel_rfl) rfl (by kernel_rfl) (fun K hK => ?_)
  go_simp
  refine hK.out _ _ ?_
  clear hK K
  try simp only [List.getElem_toArray, List.getElem_cons_succ, List.getElem_cons_zero, Act.put, List.setIfInBounds_toArray, List.set_cons_zero, List.set_cons_succ]
  refine GoS.done (by kernel_rfl) ?_
  have FR := Lib.hid HS; clear HS
  go_upto_region 17 with (fail)
  have HT0 : Fr w q4 [(w6.heap.size, gm, gx), (w3.heap.size, pm, px)] := FR.out
  refine wp_region_S (fun u : World => Fr w u [(w6.heap.size, gm, gx), (w3.heap.size, pm, px)]) 9 (by kernel_rfl) ?_
  have HS := HT0.later (Ext.refl _).drew
  clear HT0 FR
  refine GoS.take (i := 0) (v := ?_) rfl (by kernel_rfl) (by kernel_rfl) (by kernel_rfl) (by kernel_rfl) (fun _ _ _ h => h) (Or.inl ⟨by rfl, ?hy9⟩) HS ?_
  case hy9 => ((intro u' hT; have dx0 := hT.c0 (b := w3.heap.size) (.tail _ (.head _)); have dx1 := hT.c1 (b := w3.heap.size) (.tail _ (.head _)); go_simp); try with_reducible rfl)
  try simp only [List.getElem_toArray, List.getElem_cons_zero, Act.put, List.setIfInBounds_toArray, List.set_cons_zero, List.set_cons_succ]
  refine GoS.pure (i := 1) (v := ?_) rfl (by kernel_rfl) (by kernel_rfl) (by kernel_rfl) (by kernel_rfl) (fun _ _ _ h => h) (Or.inl ⟨by rfl, ?hy10⟩) (fun _ => HS) ?_
  case hy10 => ((intro u' hT; go_simp); try with_reducible rfl)
  try simp only [List.getElem_toArray, List.getElem_cons_succ, List.getElem_cons_zero, Act.put, List.setIfInBounds_toArray, List.set_cons_zero, List.set_cons_succ]
  refine GoS.pure (i := 2) (v := ?_) rfl (by kernel_rfl) (by kernel_rfl) (by kernel_rfl) (by kernel_rfl) (fun _ _ _ h => h) (Or.inl ⟨by rfl, ?hy11⟩) (fun _ => HS) ?_
  case hy11 => ((intro u' hT; go_simp); try with_reducible rfl)
  try simp only [List.getElem_toArray, List.getElem_cons_succ, List.getElem_cons_zero, Act.put, List.setIfInBounds_toArray, List.set_cons_zero, List.set_cons_succ]
  refine GoS.one (i := 3) (by kernel_rfl) rfl (fun K hK => ?_)
  go_simp
  (with_reducible refine (FB.call _).mono ?_)
  rintro e q12 ⟨rfl, hx12⟩
  have HS2 := HS.later hx12
  clear HS; have HS := HS2; clear HS2 hx12
  go_wp2_with fail
  refine hK.out _ _ HS (fun _ => ?_)
  clear hK K
  try simp only [List.getElem_toArray, List.getElem_cons_succ, List.getElem_cons_zero, Act.put, List.setIfInBounds_toArray, List.set_cons_zero, List.set_cons_succ]
  refine GoS.one (i := 4) (by kernel_rfl) rfl (fun K hK => ?_)
  go_simp
  (with_reducible refine (CH.call _).mono ?_)
  rintro e q13 ⟨rfl, hx13⟩
  have HS2 := HS.later hx13
  clear HS; have HS := HS2; clear HS2 hx13
  go_wp2_with fail
  refine hK.out _ _ HS (fun _ => ?_)
  clear hK K
  try simp only [List.getElem_toArray, List.getElem_cons_succ, List.getElem_cons_zero, Act.put, List.setIfInBounds_toArray, List.set_cons_zero, List.set_cons_succ]
  refine GoS.pure (i := 5) (v := ?_) rfl (by kernel_rfl) (by kernel_rfl) (by kernel_rfl) (by kernel_rfl) (fun _ _ _ h => h) (Or.inl ⟨by rfl, ?hy14⟩) (fun _ => HS) ?_
  case hy14 => ((intro u' hT; go_simp); try with_reducible rfl)
  try simp only [List.getElem_toArray, List.getElem_cons_succ, List.getElem_cons_zero, Act.put, List.setIfInBounds_toArray, List.set_cons_zero, List.set_cons_succ]
  refine GoS.pure (i := 6) (v := ?_) rfl (by kernel_rfl) (by kernel_rfl) (by kernel_rfl) (by kernel_rfl) (fun _ _ _ h => h) (Or.inl ⟨by rfl, ?hy15⟩) (fun _ => HS) ?_
  case hy15 => ((intro u' hT; go_simp); try with_reducible rfl)
  try simp only [List.getElem_toArray, List.getElem_cons_succ, List.getElem_cons_zero, Act.put, List.setIfInBounds_toArray, List.set_cons_zero, List.set_cons_succ]
  refine GoS.pure (i := 7) (v := ?_) rfl (by kernel_rfl) (by kernel_rfl) (by kernel_rfl) (by kernel_rfl) (fun _ _ _ h => h) (Or.inl ⟨by rfl, ?hy16⟩) (fun _ => HS) ?_
  case hy16 => ((intro u' hT; go_simp); try with_reducible rfl)
  try simp only [List.getElem_toArray, List.getElem_cons_succ, List.getElem_cons_zero, Act.put, List.setIfInBounds_toArray, List.set_cons_zero, List.set_cons_succ]
  refine GoS.pure (i := 8) (v := ?_) rfl (by kernel_rfl) (by kernel_rfl) (by kernel_rfl) (by kernel_rfl) (fun _ _ _ h => h) (Or.inl ⟨by rfl, ?hy17⟩) (fun _ => HS) ?_
  case hy17 => ((intro u' hT; go_simp); try with_reducible rfl)
  try simp only [List.getElem_toArray, List.getElem_cons_succ, List.getElem_cons_zero, Act.put, List.setIfInBounds_toArray, List.set_cons_zero, List.set_cons_succ]
  refine GoS.store (i := 9) (by kernel_rfl) rfl (by kernel_rfl) (fun K hK => ?_)
  go_simp
  refine hK.out _ _ ?_
  clear hK K
  try simp only [List.getElem_toArray, List.getElem_cons_succ, List.getElem_cons_zero, Act.put, List.setIfInBounds_toArray, List.set_cons_zero, List.set_cons_succ]
  refine GoS.done (by kernel_rfl) ?_
  have FR := Lib.hid HS; clear HS
  go_upto_region 18 with (fail)
  have HT0 : Fr w q13 [(w6.heap.size, gm, gx), (w3.heap.size, pm, px)] := FR.out
  refine wp_region_S (fun u : World => Fr w u [(w6.heap.size, gm, gx), (w3.heap.size, pm, px)]) 8 (by kernel_rfl) ?_
  have HS := HT0.later (Ext.refl _).drew
  clear HT0 FR
  refine GoS.take (i := 0) (v := ?_) rfl (by kernel_rfl) (by kernel_rfl) (by kernel_rfl) (by kernel_rfl) (fun _ _ _ h => h) (Or.inl ⟨by rfl, ?hy18⟩) HS ?_
  case hy18 => ((intro u' hT; have dx0 := hT.c0 (b := w3.heap.size) (.tail _ (.head _)); have dx1 := hT.c1 (b := w3.heap.size) (.tail _ (.head _)); go_simp); try with_reducible rfl)
  try simp only [List.getElem_toArray, List.getElem_cons_zero, Act.put, List.setIfInBounds_toArray, List.set_cons_zero, List.set_cons_succ]
  refine GoS.pure (i := 1) (v := ?_) rfl (by kernel_rfl) (by kernel_rfl) (by kernel_rfl) (by kernel_rfl) (fun _ _ _ h => h) (Or.inl ⟨by rfl, ?hy19⟩) (fun _ => HS) ?_
  case hy19 => ((intro u' hT; go_simp); try with_reducible rfl)
  try simp only [List.getElem_toArray, List.getElem_cons_succ, List.getElem_cons_zero, Act.put, List.setIfInBounds_toArray, List.set_cons_zero, List.set_cons_succ]
  refine GoS.two (i := 2) (j := 7) (by kernel_rfl) rfl rfl (fun K hK => ?_) (fun K hK => ?_)
  · skip
    go_simp
    (with_reducible refine (FA.call _).mono ?_)
    rintro e q20 ⟨rfl, hx20⟩
    have HS2 := HS.later hx20
    clear HS; have HS := HS2; clear HS2 hx20
    go_wp2_with fail
    refine hK.out _ _ HS (fun _ => ?_)
    clear hK K
    try simp only [List.getElem_toArray, List.getElem_cons_succ, List.getElem_cons_zero, Act.put, List.setIfInBounds_toArray, List.set_cons_zero, List.set_cons_succ]
    refine GoS.two (i := 3) (j := 7) (by kernel_rfl) rfl rfl (fun K hK => ?_) (fun K hK => ?_)
    · skip
      go_simp
      (with_reducible refine (SU.call _).mono ?_)
      rintro e q21 ⟨rfl, hx21⟩
      have HS2 := HS.later hx21
      clear HS; have HS := HS2; clear HS2 hx21
      go_wp2_with fail
      refine hK.out _ _ HS (fun _ => ?_)
      clear hK K
      try simp only [List.getElem_toArray, List.getElem_cons_succ, List.getElem_cons_zero, Act.put, List.setIfInBounds_toArray, List.set_cons_zero, List.set_cons_succ]
      refine GoS.pure (i := 4) (v := ?_) rfl (by kernel_rfl) (by kernel_rfl) (by kernel_rfl) (by kernel_rfl) (fun _ _ _ h => h) (Or.inl ⟨by rfl, ?hy22⟩) (fun _ => HS) ?_
      case hy22 => ((intro u' hT; go_simp); try with_reducible rfl)
      try simp only [List.getElem_toArray, List.getElem_cons_succ, List.getElem_cons_zero, Act.put, List.setIfInBounds_toArray, List.set_cons_zero, List.set_cons_succ]
      refine GoS.pure (i := 5) (v := ?_) rfl (by kernel_rfl) (by kernel_rfl) (by kernel_rfl) (by kernel_rfl) (fun _ _ _ h => h) (Or.inl ⟨by rfl, ?hy23⟩) (fun _ => HS) ?_
      case hy23 => ((intro u' hT; go_simp); try with_reducible rfl)
      try simp only [List.getElem_toArray, List.getElem_cons_succ, List.getElem_cons_zero, Act.put, List.setIfInBounds_toArray, List.set_cons_zero, List.set_cons_succ]
      refine GoS.pure (i := 6) (v := ?_) rfl (by kernel_rfl) (by kernel_rfl) (by kernel_rfl) (by kernel_rfl) (fun _ _ _ h => h) (Or.inl ⟨by rfl, ?hy24⟩) (fun _ => HS) ?_
      case hy24 => ((intro u' hT; go_simp); try with_reducible rfl)
      try simp only [List.getElem_toArray, List.getElem_cons_succ, List.getElem_cons_zero, Act.put, List.setIfInBounds_toArray, List.set_cons_zero, List.set_cons_succ]
      refine GoS.one (i := 7) (by kernel_rfl) rfl (fun K hK => ?_)
      go_simp
      have HQ := HS
      have FQ := Lib.hid (HS.lay 0 0 23)
      have HS2 := HS.later ((Ext.refl _).alloc (.cells #[.int .i64 0, .int .i64 0] 23))
      clear HS; have HS := HS2; clear HS2
      refine hK.out _ _ HS (fun _ => ?_)
      clear hK K
      try simp only [List.getElem_toArray, List.getElem_cons_succ, List.getElem_cons_zero, Act.put, List.setIfInBounds_toArray, List.set_cons_zero, List.set_cons_succ]
      refine GoS.store (i := 8) (by kernel_rfl) rfl (by kernel_rfl) (fun K hK => ?_)
      have st0 := FQ.out.c0 (b := q21.heap.size) (.head _); have st1 := FQ.out.c1 (b := q21.heap.size) (.head _); have stf := FQ.out.fz (b := q21.heap.size) (.head _)
      go_simp
      have FR := Lib.hid (HQ.lay (dm) (dx) 23); clear FQ HQ st0 st1 stf
      refine hK.out _ _ ?_
      clear hK K
      try simp only [List.getElem_toArray, List.getElem_cons_succ, List.getElem_cons_zero, Act.put, List.setIfInBounds_toArray, List.set_cons_zero, List.set_cons_succ]
      refine GoS.behind (i := 9) (v := ?_) rfl (by kernel_rfl) (by kernel_rfl) (by kernel_rfl) (by kernel_rfl) (fun _ _ _ h => h) (Or.inl ⟨by rfl, ?hy25⟩) (by kernel_rfl) ?_
      case hy25 => ((intro u' hT; go_simp); try with_reducible rfl)
      try simp only [List.getElem_toArray, List.getElem_cons_succ, List.getElem_cons_zero, Act.put, List.setIfInBounds_toArray, List.set_cons_zero, List.set_cons_succ]
      refine GoS.done (by kernel_rfl) ?_
      have FR2 : Hid (Fr w (q21.alloc (.cells #[.int .i64 (dm), .int .i64 (dx)] 23)) [(q21.heap.size, dm, dx), (w6.heap.size, gm, gx), (w3.heap.size, pm, px)]) := FR; clear FR; have FR := FR2; clear FR2
      clear HS; revert FR; generalize (q21.alloc (.cells #[.int .i64 (dm), .int .i64 (dx)] 23)) = z1; intro FR
      go_upto_region 19 with (fail)
      have HT0 : Fr w z1 [(q21.heap.size, dm, dx), (w6.heap.size, gm, gx), (w3.heap.size, pm, px)] := FR.out
      refine wp_region_S (fun u : World => Fr w u [(q21.heap.size, dm, dx), (w6.heap.size, gm, gx), (w3.heap.size, pm, px)]) 7 (by kernel_rfl) ?_
      have HS := HT0.later (Ext.refl _).drew
      clear HT0 FR
      refine GoS.take (i := 0) (v := ?_) rfl (by kernel_rfl) (by kernel_rfl) (by kernel_rfl) (by kernel_rfl) (fun _ _ _ h => h) (Or.inl ⟨by rfl, ?hy26⟩) HS ?_
      case hy26 => ((intro u' hT; have dd0 := hT.c0 (b := q21.heap.size) (.head _); have dd1 := hT.c1 (b := q21.heap.size) (.head _); go_simp); try with_reducible rfl)
      try simp only [List.getElem_toArray, List.getElem_cons_zero, Act.put, List.setIfInBounds_toArray, List.set_cons_zero, List.set_cons_succ]
      refine GoS.one (i := 1) (by kernel_rfl) rfl (fun K hK => ?_)
      go_simp
      (with_reducible refine (TW.call _).mono ?_)
      rintro e q27 ⟨rfl, hx27⟩
      have HS2 := HS.later hx27
      clear HS; have HS := HS2; clear HS2 hx27
      go_wp2_with fail
      refine hK.out _ _ HS (fun _ => ?_)
      clear hK K
      try simp only [List.getElem_toArray, List.getElem_cons_succ, List.getElem_cons_zero, Act.put, List.setIfInBounds_toArray, List.set_cons_zero, List.set_cons_succ]
      refine GoS.one (i := 2) (by kernel_rfl) rfl (fun K hK => ?_)
      go_simp
      (with_reducible refine (CD.call _).mono ?_)
      rintro e q28 ⟨rfl, hx28⟩
      have HS2 := HS.later hx28
      clear HS; have HS := HS2; clear HS2 hx28
      go_wp2_with fail
      refine hK.out _ _ HS (fun _ => ?_)
      clear hK K
      try simp only [List.getElem_toArray, List.getElem_cons_succ, List.getElem_cons_zero, Act.put, List.setIfInBounds_toArray, List.set_cons_zero, List.set_cons_succ]
      refine GoS.pure (i := 3) (v := ?_) rfl (by kernel_rfl) (by kernel_rfl) (by kernel_rfl) (by kernel_rfl) (fun _ _ _ h => h) (Or.inl ⟨by rfl, ?hy29⟩) (fun _ => HS) ?_
      case hy29 => ((intro u' hT; go_simp); try with_reducible rfl)
      try simp only [List.getElem_toArray, List.getElem_cons_succ, List.getElem_cons_zero, Act.put, List.setIfInBounds_toArray, List.set_cons_zero, List.set_cons_succ]
      refine GoS.pure (i := 4) (v := ?_) rfl (by kernel_rfl) (by kernel_rfl) (by kernel_rfl) (by kernel_rfl) (fun _ _ _ h => h) (Or.inl ⟨by rfl, ?hy30⟩) (fun _ => HS) ?_
      case hy30 => ((intro u' hT; go_simp); try with_reducible rfl)
      try simp only [List.getElem_toArray, List.getElem_cons_succ, List.getElem_cons_zero, Act.put, List.setIfInBounds_toArray, List.set_cons_zero, List.set_cons_succ]
      refine GoS.pure (i := 5) (v := ?_) rfl (by kernel_rfl) (by kernel_rfl) (by kernel_rfl) (by kernel_rfl) (fun _ _ _ h => h) (Or.inl ⟨by rfl, ?hy31⟩) (fun _ => HS) ?_
      case hy31 => ((intro u' hT; go_simp); try with_reducible rfl)
      try simp only [List.getElem_toArray, List.getElem_cons_succ, List.getElem_cons_zero, Act.put, List.setIfInBounds_toArray, List.set_cons_zero, List.set_cons_succ]
      refine GoS.pure (i := 6) (v := ?_) rfl (by kernel_rfl) (by kernel_rfl) (by kernel_rfl) (by kernel_rfl) (fun _ _ _ h => h) (Or.inl ⟨by rfl, ?hy32⟩) (fun _ => HS) ?_
      case hy32 => ((intro u' hT; go_simp); try with_reducible rfl)
      try simp only [List.getElem_toArray, List.getElem_cons_succ, List.getElem_cons_zero, Act.put, List.setIfInBounds_toArray, List.set_cons_zero, List.set_cons_succ]
      refine GoS.store (i := 7) (by kernel_rfl) rfl (by kernel_rfl) (fun K hK => ?_)
      go_simp
      refine hK.out _ _ ?_
      clear hK K
      try simp only [List.getElem_toArray, List.getElem_cons_succ, List.getElem_cons_zero, Act.put, List.setIfInBounds_toArray, List.set_cons_zero, List.set_cons_succ]
      refine GoS.done (by kernel_rfl) ?_
      have FR := Lib.hid HS; clear HS
      go_wp2_with fail
      refine (SN _ (HT.out.later FR.out.x)).mono ?_
      rintro e w8 ⟨rfl, hx⟩
      have FR2 : Hid (Fr w w8 [(q21.heap.size, dm, dx), (w6.heap.size, gm, gx), (w3.heap.size, pm, px)]) := Lib.hid (FR.out.later hx)
      clear hx FR; have FR := FR2; clear FR2
      go_wp2
      go_ret
      exact ⟨rfl, FR.out.x⟩
    · skip
      go_simp
      have HQ := HS
      have FQ := Lib.hid (HS.lay 0 0 23)
      have HS2 := HS.later ((Ext.refl _).alloc (.cells #[.int .i64 0, .int .i64 0] 23))
      clear HS; have HS := HS2; clear HS2
      refine hK.out _ _ HS (fun _ => ?_)
      clear hK K
      try simp only [List.getElem_toArray, List.getElem_cons_succ, List.getElem_cons_zero, Act.put, List.setIfInBounds_toArray, List.set_cons_zero, List.set_cons_succ]
      refine GoS.one (i := 3) (by kernel_rfl) rfl (fun K hK => ?_)
      go_simp
      (with_reducible refine (SU.call _).mono ?_)
      rintro e q33 ⟨rfl, hx33⟩
      have HS2 := HS.later hx33
      have FQ2 := Lib.hid (FQ.out.later hx33); clear FQ; have FQ := FQ2; clear FQ2
      clear HS; have HS := HS2; clear HS2 hx33
      go_wp2_with fail
      refine hK.out _ _ HS (fun _ => ?_)
      clear hK K
      try simp only [List.getElem_toArray, List.getElem_cons_succ, List.getElem_cons_zero, Act.put, List.setIfInBounds_toArray, List.set_cons_zero, List.set_cons_succ]
      refine GoS.pure (i := 4) (v := ?_) rfl (by kernel_rfl) (by kernel_rfl) (by kernel_rfl) (by kernel_rfl) (fun _ _ _ h => h) (Or.inl ⟨by rfl, ?hy34⟩) (fun _ => HS) ?_
      case hy34 => ((intro u' hT; go_simp); try with_reducible rfl)
      try simp only [List.getElem_toArray, List.getElem_cons_succ, List.getElem_cons_zero, Act.put, List.setIfInBounds_toArray, List.set_cons_zero, List.set_cons_succ]
      refine GoS.pure (i := 5) (v := ?_) rfl (by kernel_rfl) (by kernel_rfl) (by kernel_rfl) (by kernel_rfl) (fun _ _ _ h => h) (Or.inl ⟨by rfl, ?hy35⟩) (fun _ => HS) ?_
      case hy35 => ((intro u' hT; go_simp); try with_reducible rfl)
      try simp only [List.getElem_toArray, List.getElem_cons_succ, List.getElem_cons_zero, Act.put, List.setIfInBounds_toArray, List.set_cons_zero, List.set_cons_succ]
      refine GoS.pure (i := 6) (v := ?_) rfl (by kernel_rfl) (by kernel_rfl) (by kernel_rfl) (by kernel_rfl) (fun _ _ _ h => h) (Or.inl ⟨by rfl, ?hy36⟩) (fun _ => HS) ?_
      case hy36 => ((intro u' hT; go_simp); try with_reducible rfl)
      try simp only [List.getElem_toArray, List.getElem_cons_succ, List.getElem_cons_zero, Act.put, List.setIfInBounds_toArray, List.set_cons_zero, List.set_cons_succ]
      refine GoS.store (i := 8) (by kernel_rfl) rfl (by kernel_rfl) (fun K hK => ?_)
      have st0 := FQ.out.c0 (b := q20.heap.size) (.head _); have st1 := FQ.out.c1 (b := q20.heap.size) (.head _); have stf := FQ.out.fz (b := q20.heap.size) (.head _)
      go_simp
      have FR := Lib.hid (FQ.out.set 0 rfl (dm) (dx)); clear FQ HQ st0 st1 stf
      refine hK.out _ _ ?_
      clear hK K
      try simp only [List.getElem_toArray, List.getElem_cons_succ, List.getElem_cons_zero, Act.put, List.setIfInBounds_toArray, List.set_cons_zero, List.set_cons_succ]
      refine GoS.behind (i := 9) (v := ?_) rfl (by kernel_rfl) (by kernel_rfl) (by kernel_rfl) (by kernel_rfl) (fun _ _ _ h => h) (Or.inl ⟨by rfl, ?hy37⟩) (by kernel_rfl) ?_
      case hy37 => ((intro u' hT; go_simp); try with_reducible rfl)
      try simp only [List.getElem_toArray, List.getElem_cons_succ, List.getElem_cons_zero, Act.put, List.setIfInBounds_toArray, List.set_cons_zero, List.set_cons_succ]
      refine GoS.done (by kernel_rfl) ?_
      have FR2 : Hid (Fr w ((q33.setCell ⟨q20.heap.size, 0, none⟩ (.int .i64 (dm))).setCell ⟨q20.heap.size, 1, none⟩ (.int .i64 (dx))) [(q20.heap.size, dm, dx), (w6.heap.size, gm, gx), (w3.heap.size, pm, px)]) := FR; clear FR; have FR := FR2; clear FR2
      clear HS; revert FR; generalize ((q33.setCell ⟨q20.heap.size, 0, none⟩ (.int .i64 (dm))).setCell ⟨q20.heap.size, 1, none⟩ (.int .i64 (dx))) = z2; intro FR
      go_upto_region 19 with (fail)
      have HT0 : Fr w z2 [(q20.heap.size, dm, dx), (w6.heap.size, gm, gx), (w3.heap.size, pm, px)] := FR.out
      refine wp_region_S (fun u : World => Fr w u [(q20.heap.size, dm, dx), (w6.heap.size, gm, gx), (w3.heap.size, pm, px)]) 7 (by kernel_rfl) ?_
      have HS := HT0.later (Ext.refl _).drew
      clear HT0 FR
      refine GoS.take (i := 0) (v := ?_) rfl (by kernel_rfl) (by kernel_rfl) (by kernel_rfl) (by kernel_rfl) (fun _ _ _ h => h) (Or.inl ⟨by rfl, ?hy38⟩) HS ?_
      case hy38 => ((intro u' hT; have dd0 := hT.c0 (b := q20.heap.size) (.head _); have dd1 := hT.c1 (b := q20.heap.size) (.head _); go_simp); try with_reducible rfl)
      try simp only [List.getElem_toArray, List.getElem_cons_zero, Act.put, List.setIfInBounds_toArray, List.set_cons_zero, List.set_cons_succ]
      refine GoS.one (i := 1) (by kernel_rfl) rfl (fun K hK => ?_)
      go_simp
      (with_reducible refine (TW.call _).mono ?_)
      rintro e q39 ⟨rfl, hx39⟩
      have HS2 := HS.later hx39
      clear HS; have HS := HS2; clear HS2 hx39
      go_wp2_with fail
      refine hK.out _ _ HS (fun _ => ?_)
      clear hK K
      try simp only [List.getElem_toArray, List.getElem_cons_succ, List.getElem_cons_zero, Act.put, List.setIfInBounds_toArray, List.set_cons_zero, List.set_cons_succ]
      refine GoS.one (i := 2) (by kernel_rfl) rfl (fun K hK => ?_)
      go_simp
      (with_reducible refine (CD.call _).mono ?_)
      rintro e q40 ⟨rfl, hx40⟩
      have HS2 := HS.later hx40
      clear HS; have HS := HS2; clear HS2 hx40
      go_wp2_with fail
      refine hK.out _ _ HS (fun _ => ?_)
      clear hK K
      try simp only [List.getElem_toArray, List.getElem_cons_succ, List.getElem_cons_zero, Act.put, List.setIfInBounds_toArray, List.set_cons_zero, List.set_cons_succ]
      refine GoS.pure (i := 3) (v := ?_) rfl (by kernel_rfl) (by kernel_rfl) (by kernel_rfl) (by kernel_rfl) (fun _ _ _ h => h) (Or.inl ⟨by rfl, ?hy41⟩) (fun _ => HS) ?_
      case hy41 => ((intro u' hT; go_simp); try with_reducible rfl)
      try simp only [List.getElem_toArray, List.getElem_cons_succ, List.getElem_cons_zero, Act.put, List.setIfInBounds_toArray, List.set_cons_zero, List.set_cons_succ]
      refine GoS.pure (i := 4) (v := ?_) rfl (by kernel_rfl) (by kernel_rfl) (by kernel_rfl) (by kernel_rfl) (fun _ _ _ h => h) (Or.inl ⟨by rfl, ?hy42⟩) (fun _ => HS) ?_
      case hy42 => ((intro u' hT; go_simp); try with_reducible rfl)
      try simp only [List.getElem_toArray, List.getElem_cons_succ, List.getElem_cons_zero, Act.put, List.setIfInBounds_toArray, List.set_cons_zero, List.set_cons_succ]
      refine GoS.pure (i := 5) (v := ?_) rfl (by kernel_rfl) (by kernel_rfl) (by kernel_rfl) (by kernel_rfl) (fun _ _ _ h => h) (Or.inl ⟨by rfl, ?hy43⟩) (fun _ => HS) ?_
      case hy43 => ((intro u' hT; go_simp); try with_reducible rfl)
      try simp only [List.getElem_toArray, List.getElem_cons_succ, List.getElem_cons_zero, Act.put, List.setIfInBounds_toArray, List.set_cons_zero, List.set_cons_succ]
      refine GoS.pure (i := 6) (v := ?_) rfl (by kernel_rfl) (by kernel_rfl) (by kernel_rfl) (by kernel_rfl) (fun _ _ _ h => h) (Or.inl ⟨by rfl, ?hy44⟩) (fun _ => HS) ?_
      case hy44 => ((intro u' hT; go_simp); try with_reducible rfl)
      try simp only [List.getElem_toArray, List.getElem_cons_succ, List.getElem_cons_zero, Act.put, List.setIfInBounds_toArray, List.set_cons_zero, List.set_cons_succ]
      refine GoS.store (i := 7) (by kernel_rfl) rfl (by kernel_rfl) (fun K hK => ?_)
      go_simp
      refine hK.out _ _ ?_
      clear hK K
      try simp only [List.getElem_toArray, List.getElem_cons_succ, List.getElem_cons_zero, Act.put, List.setIfInBounds_toArray, List.set_cons_zero, List.set_cons_succ]
      refine GoS.done (by kernel_rfl) ?_
      have FR := Lib.hid HS; clear HS
      go_wp2_with fail
      refine (SN _ (HT.out.later FR.out.x)).mono ?_
      rintro e w8 ⟨rfl, hx⟩
      have FR2 : Hid (Fr w w8 [(q20.heap.size, dm, dx), (w6.heap.size, gm, gx), (w3.heap.size, pm, px)]) := Lib.hid (FR.out.later hx)
      clear hx FR; have FR := FR2; clear FR2
      go_wp2
      go_ret
      exact ⟨rfl, FR.out.x⟩
  · skip
    go_simp
    have HQ := HS
    have FQ := Lib.hid (HS.lay 0 0 23)
    have HS2 := HS.later ((Ext.refl _).alloc (.cells #[.int .i64 0, .int .i64 0] 23))
    clear HS; have HS := HS2; clear HS2
    refine hK.out _ _ HS (fun _ => ?_)
    clear hK K
    try simp only [List.getElem_toArray, List.getElem_cons_succ, List.getElem_cons_zero, Act.put, List.setIfInBounds_toArray, List.set_cons_zero, List.set_cons_succ]
    refine GoS.one (i := 2) (by kernel_rfl) rfl (fun K hK => ?_)
    go_simp
    (with_reducible refine (FA.call _).mono ?_)
    rintro e q45 ⟨rfl, hx45⟩
    have HS2 := HS.later hx45
    have FQ2 := Lib.hid (FQ.out.later hx45); clear FQ; have FQ := FQ2; clear FQ2
    clear HS; have HS := HS2; clear HS2 hx45
    go_wp2_with fail
    refine hK.out _ _ HS (fun _ => ?_)
    clear hK K
    try simp only [List.getElem_toArray, List.getElem_cons_succ, List.getElem_cons_zero, Act.put, List.setIfInBounds_toArray, List.set_cons_zero, List.set_cons_succ]
    refine GoS.one (i := 3) (by kernel_rfl) rfl (fun K hK => ?_)
    go_simp
    (with_reducible refine (SU.call _).mono ?_)
    rintro e q46 ⟨rfl, hx46⟩
    have HS2 := HS.later hx46
    have FQ2 := Lib.hid (FQ.out.later hx46); clear FQ; have FQ := FQ2; clear FQ2
    clear HS; have HS := HS2; clear HS2 hx46
    go_wp2_with fail
    refine hK.out _ _ HS (fun _ => ?_)
    clear hK K
    try simp only [List.getElem_toArray, List.getElem_cons_succ, List.getElem_cons_zero, Act.put, List.setIfInBounds_toArray, List.set_cons_zero, List.set_cons_succ]
    refine GoS.pure (i := 4) (v := ?_) rfl (by kernel_rfl) (by kernel_rfl) (by kernel_rfl) (by kernel_rfl) (fun _ _ _ h => h) (Or.inl ⟨by rfl, ?hy47⟩) (fun _ => HS) ?_
    case hy47 => ((intro u' hT; go_simp); try with_reducible rfl)
    try simp only [List.getElem_toArray, List.getElem_cons_succ, List.getElem_cons_zero, Act.put, List.setIfInBounds_toArray, List.set_cons_zero, List.set_cons_succ]
    refine GoS.pure (i := 5) (v := ?_) rfl (by kernel_rfl) (by kernel_rfl) (by kernel_rfl) (by kernel_rfl) (fun _ _ _ h => h) (Or.inl ⟨by rfl, ?hy48⟩) (fun _ => HS) ?_
    case hy48 => ((intro u' hT; go_simp); try with_reducible rfl)
    try simp only [List.getElem_toArray, List.getElem_cons_succ, List.getElem_cons_zero, Act.put, List.setIfInBounds_toArray, List.set_cons_zero, List.set_cons_succ]
    refine GoS.pure (i := 6) (v := ?_) rfl (by kernel_rfl) (by kernel_rfl) (by kernel_rfl) (by kernel_rfl) (fun _ _ _ h => h) (Or.inl ⟨by rfl, ?hy49⟩) (fun _ => HS) ?_
    case hy49 => ((intro u' hT; go_simp); try with_reducible rfl)
    try simp only [List.getElem_toArray, List.getElem_cons_succ, List.getElem_cons_zero, Act.put, List.setIfInBounds_toArray, List.set_cons_zero, List.set_cons_succ]
    refine GoS.store (i := 8) (by kernel_rfl) rfl (by kernel_rfl) (fun K hK => ?_)
    have st0 := FQ.out.c0 (b := q13.heap.size) (.head _); have st1 := FQ.out.c1 (b := q13.heap.size) (.head _); have stf := FQ.out.fz (b := q13.heap.size) (.head _)
    go_simp
    have FR := Lib.hid (FQ.out.set 0 rfl (dm) (dx)); clear FQ HQ st0 st1 stf
    refine hK.out _ _ ?_
    clear hK K
    try simp only [List.getElem_toArray, List.getElem_cons_succ, List.getElem_cons_zero, Act.put, List.setIfInBounds_toArray, List.set_cons_zero, List.set_cons_succ]
    refine GoS.behind (i := 9) (v := ?_) rfl (by kernel_rfl) (by kernel_rfl) (by kernel_rfl) (by kernel_rfl) (fun _ _ _ h => h) (Or.inl ⟨by rfl, ?hy50⟩) (by kernel_rfl) ?_
    case hy50 => ((intro u' hT; go_simp); try with_reducible rfl)
    try simp only [List.getElem_toArray, List.getElem_cons_succ, List.getElem_cons_zero, Act.put, List.setIfInBounds_toArray, List.set_cons_zero, List.set_cons_succ]
    refine GoS.done (by kernel_rfl) ?_
    have FR2 : Hid (Fr w ((q46.setCell ⟨q13.heap.size, 0, none⟩ (.int .i64 (dm))).setCell ⟨q13.heap.size, 1, none⟩ (.int .i64 (dx))) [(q13.heap.size, dm, dx), (w6.heap.size, gm, gx), (w3.heap.size, pm, px)]) := FR; clear FR; have FR := FR2; clear FR2
    clear HS; revert FR; generalize ((q46.setCell ⟨q13.heap.size, 0, none⟩ (.int .i64 (dm))).setCell ⟨q13.heap.size, 1, none⟩ (.int .i64 (dx))) = z3; intro FR
    go_upto_region 19 with (fail)
    have HT0 : Fr w z3 [(q13.heap.size, dm, dx), (w6.heap.size, gm, gx), (w3.heap.size, pm, px)] := FR.out
    refine wp_region_S (fun u : World => Fr w u [(q13.heap.size, dm, dx), (w6.heap.size, gm, gx), (w3.heap.size, pm, px)]) 7 (by kernel_rfl) ?_
    have HS := HT0.later (Ext.refl _).drew
    clear HT0 FR
    refine GoS.take (i := 0) (v := ?_) rfl (by kernel_rfl) (by kernel_rfl) (by kernel_rfl) (by kernel_rfl) (fun _ _ _ h => h) (Or.inl ⟨by rfl, ?hy51⟩) HS ?_
    case hy51 => ((intro u' hT; have dd0 := hT.c0 (b := q13.heap.size) (.head _); have dd1 := hT.c1 (b := q13.heap.size) (.head _); go_simp); try with_reducible rfl)
    try simp only [List.getElem_toArray, List.getElem_cons_zero, Act.put, List.setIfInBounds_toArray, List.set_cons_zero, List.set_cons_succ]
    refine GoS.one (i := 1) (by kernel_rfl) rfl (fun K hK => ?_)
    go_simp
    (with_reducible refine (TW.call _).mono ?_)
    rintro e q52 ⟨rfl, hx52⟩
    have HS2 := HS.later hx52
    clear HS; have HS := HS2; clear HS2 hx52
    go_wp2_with fail
    refine hK.out _ _ HS (fun _ => ?_)
    clear hK K
    try simp only [List.getElem_toArray, List.getElem_cons_succ, List.getElem_cons_zero, Act.put, List.setIfInBounds_toArray, List.set_cons_zero, List.set_cons_succ]
    refine GoS.one (i := 2) (by kernel_rfl) rfl (fun K hK => ?_)
    go_simp
    (with_reducible refine (CD.call _).mono ?_)
    rintro e q53 ⟨rfl, hx53⟩
    have HS2 := HS.later hx53
    clear HS; have HS := HS2; clear HS2 hx53
    go_wp2_with fail
    refine hK.out _ _ HS (fun _ => ?_)
    clear hK K
    try simp only [List.getElem_toArray, List.getElem_cons_succ, List.getElem_cons_zero, Act.put, List.setIfInBounds_toArray, List.set_cons_zero, List.set_cons_succ]
    refine GoS.pure (i := 3) (v := ?_) rfl (by kernel_rfl) (by kernel_rfl) (by kernel_rfl) (by kernel_rfl) (fun _ _ _ h => h) (Or.inl ⟨by rfl, ?hy54⟩) (fun _ => HS) ?_
    case hy54 => ((intro u' hT; go_simp); try with_reducible rfl)
    try simp only [List.getElem_toArray, List.getElem_cons_succ, List.getElem_cons_zero, Act.put, List.setIfInBounds_toArray, List.set_cons_zero, List.set_cons_succ]
    refine GoS.pure (i := 4) (v := ?_) rfl (by kernel_rfl) (by kernel_rfl) (by kernel_rfl) (by kernel_rfl) (fun _ _ _ h => h) (Or.inl ⟨by rfl, ?hy55⟩) (fun _ => HS) ?_
    case hy55 => ((intro u' hT; go_simp); try with_reducible rfl)
    try simp only [List.getElem_toArray, List.getElem_cons_succ, List.getElem_cons_zero, Act.put, List.setIfInBounds_toArray, List.set_cons_zero, List.set_cons_succ]
    refine GoS.pure (i := 5) (v := ?_) rfl (by kernel_rfl) (by kernel_rfl) (by kernel_rfl) (by kernel_rfl) (fun _ _ _ h => h) (Or.inl ⟨by rfl, ?hy56⟩) (fun _ => HS) ?_
    case hy56 => ((intro u' hT; go_simp); try with_reducible rfl)
    try simp only [List.getElem_toArray, List.getElem_cons_succ, List.getElem_cons_zero, Act.put, List.setIfInBounds_toArray, List.set_cons_zero, List.set_cons_succ]
    refine GoS.pure (i := 6) (v := ?_) rfl (by kernel_rfl) (by kernel_rfl) (by kernel_rfl) (by kernel_rfl) (fun _ _ _ h => h) (Or.inl ⟨by rfl, ?hy57⟩) (fun _ => HS) ?_
    case hy57 => ((intro u' hT; go_simp); try with_reducible rfl)
    try simp only [List.getElem_toArray, List.getElem_cons_succ, List.getElem_cons_zero, Act.put, List.setIfInBounds_toArray, List.set_cons_zero, List.set_cons_succ]
    refine GoS.store (i := 7) (by kernel_rfl) rfl (by kernel_rfl) (fun K hK => ?_)
    go_simp
    refine hK.out _ _ ?_
    clear hK K
    try simp only [List.getElem_toArray, List.getElem_cons_succ, List.getElem_cons_zero, Act.put, List.setIfInBounds_toArray, List.set_cons_zero, List.set_cons_succ]
    refine GoS.done (by kernel_rfl) ?_
    have FR := Lib.hid HS; clear HS
    go_wp2_with fail
    refine (SN _ (HT.out.later FR.out.x)).mono ?_
    rintro e w8 ⟨rfl, hx⟩
    have FR2 : Hid (Fr w w8 [(q13.heap.size, dm, dx), (w6.heap.size, gm, gx), (w3.heap.size, pm, px)]) := Lib.hid (FR.out.later hx)
    clear hx FR; have FR := FR2; clear FR2
    go_wp2
    go_ret
    exact ⟨rfl, FR.out.x⟩
end Go.Proofs.YtehmpffffjcloaaGreatDoor
