/- Layer 2: the walk of RealIntegerLaws, what is behind an integer part. -/
import Derived.Test.YtehmpffffjcloaaGreatDoorTi
import Derived.Test.YtehmpffffjcloaaGreatDoorGr
namespace Go.Proofs.YtehmpffffjcloaaGreatDoor
open Go.RowKit

set_option maxRecDepth 100000 in
set_option maxHeartbeats 8000000 in
theorem int_inm (w : World) (ht : Tb w) (i n N fm fx pm px gm gx a B C um ux vm vx dm dx lo hi : Int) (hN : n.tmod 16777217 = N) (_hN' : IntKind.i64.wrap N = N) (_hN2 : wrap64 N = N) (FI : Ret 20 #[.int .i64 N] (.agg #[.int .i64 fm, .int .i64 fx])) (EF : Ret 48 #[.agg #[.int .i64 fm, .int .i64 fx]] (.tuple #[.int .i64 N, .int .i64 0])) (A : Ret 56 #[.int .i64 i] (.agg #[.int .i64 pm, .int .i64 px])) (EA : Ret 48 #[.agg #[.int .i64 pm, .int .i64 px]] (.tuple #[.int .i64 a, .int .i64 0])) (RB : Ret 49 #[.agg #[.int .i64 pm, .int .i64 px]] (.tuple #[.int .i64 a, .int .i64 0])) (NG : Ret 26 #[.agg #[.int .i64 pm, .int .i64 px]] (.tuple #[.agg #[.int .i64 gm, .int .i64 gx], .int .i64 0])) (RC : Ret 49 #[.agg #[.int .i64 gm, .int .i64 gx]] (.tuple #[.int .i64 C, .int .i64 0])) (wB : IntKind.i64.wrap (a + 1) = B) (_wB' : wrap64 (a + 1) = B) (_nB : ¬ a = B) (_nB' : ¬ B = a) (nb : (a == B) = false) (_nb' : (B == a) = false) (r1 : ¬ a < -8388608) (r2 : ¬ a ≥ 8388608) (wC : IntKind.i64.wrap (-a) = C) (_wC' : wrap64 (-a) = C) (_wC2 : IntKind.i64.wrap (0 - a) = C) (_wC3 : wrap64 (0 - a) = C) (FA : Ret 20 #[.int .i64 a] (.agg #[.int .i64 um, .int .i64 ux])) (CL : Ret 29 #[.agg #[.int .i64 um, .int .i64 ux], .agg #[.int .i64 pm, .int .i64 px]] (.tuple #[.int .i64 lo, .int .i64 0])) (l1 : ¬ lo > 0) (FB : Ret 20 #[.int .i64 B] (.agg #[.int .i64 vm, .int .i64 vx])) (CH : Ret 29 #[.agg #[.int .i64 pm, .int .i64 px], .agg #[.int .i64 vm, .int .i64 vx]] (.tuple #[.int .i64 hi, .int .i64 0])) (l2 : ¬ hi ≥ 0) (SU : Ret 36 #[.agg #[.int .i64 pm, .int .i64 px], .agg #[.int .i64 um, .int .i64 ux]] (.tuple #[.agg #[.int .i64 dm, .int .i64 dx], .int .i64 0])) (TW : Ret 62 #[.int .i64 (-1)] (.agg #[.int .i64 8388608, .int .i64 (-24)])) (CD : Ret 29 #[.agg #[.int .i64 dm, .int .i64 dx], .agg #[.int .i64 8388608, .int .i64 (-24)]] (.tuple #[.int .i64 (-1), .int .i64 0])) (SN : ∀ u, Tb u → Calls Tryz.prog 30 #[] u fun e u' => e = .returned (.bool true) ∧ Ext u u') :
    Calls Tryz.prog 15 #[.int .i64 i, .int .i64 n] w fun e w' => e = .returned (.bool true) ∧ Ext w w' := by
  have HT := Lib.hid ht; clear ht
  have FR := Lib.hid (Fr.nil w)
  have eqR := eqReal
  go_enter Tryz.func15, Tryz.ntmps15
  go_wp2_with fail
  refine (FI _).mono ?_
  rintro e w1 ⟨rfl, hx⟩
  have FR2 : Hid (Fr w w1 []) := Lib.hid (FR.out.later hx)
  clear hx FR; have FR := FR2; clear FR2
  go_wp2_with fail
  refine (EF _).mono ?_
  rintro e w2 ⟨rfl, hx⟩
  have FR2 : Hid (Fr w w2 []) := Lib.hid (FR.out.later hx)
  clear hx FR; have FR := FR2; clear FR2
  go_wp2_with fail
  refine (A _).mono ?_
  rintro e w3 ⟨rfl, hx⟩
  have FR2 : Hid (Fr w w3 []) := Lib.hid (FR.out.later hx)
  clear hx FR; have FR := FR2; clear FR2
  go_wp2_with fail
  refine (EA _).mono ?_
  rintro e w4 ⟨rfl, hx⟩
  have FR2 : Hid (Fr w w4 [(w3.heap.size, pm, px)]) := Lib.hid ((FR.out.lay (pm) (px) 23).later hx)
  clear hx FR; have FR := FR2; clear FR2
  have cx0 := FR.out.c0 (b := w3.heap.size) (.head _); have cx1 := FR.out.c1 (b := w3.heap.size) (.head _)
  go_wp2_with fail
  refine (RB _).mono ?_
  rintro e w5 ⟨rfl, hx⟩
  have FR2 : Hid (Fr w w5 [(w3.heap.size, pm, px)]) := Lib.hid (FR.out.later hx)
  clear cx0 cx1
  clear hx FR; have FR := FR2; clear FR2
  have cx0 := FR.out.c0 (b := w3.heap.size) (.head _); have cx1 := FR.out.c1 (b := w3.heap.size) (.head _)
  go_wp2_with fail
  refine (NG _).mono ?_
  rintro e w6 ⟨rfl, hx⟩
  have FR2 : Hid (Fr w w6 [(w3.heap.size, pm, px)]) := Lib.hid (FR.out.later hx)
  clear cx0 cx1
  clear hx FR; have FR := FR2; clear FR2
  go_wp2_with fail
  refine (RC _).mono ?_
  rintro e w7 ⟨rfl, hx⟩
  have FR2 : Hid (Fr w w7 [(w6.heap.size, gm, gx), (w3.heap.size, pm, px)]) := Lib.hid ((FR.out.lay (gm) (gx) 23).later hx)
  clear hx FR; have FR := FR2; clear FR2
  go_upto_region 16 with (fail)
  have HT0 : Fr w w7 [(w6.heap.size, gm, gx), (w3.heap.size, pm, px)] := FR.out
  refine wp_region_S (fun u : World => Fr w u [(w6.heap.size, gm, gx), (w3.heap.size, pm, px)]) 8 (by kernel_rfl) ?_
  have HS := HT0.later (Ext.refl _).drew
  clear HT0 FR
  refine GoS.take (i := 2) (v := ?_) rfl (by kernel_rfl) (by kernel_rfl) (by kernel_rfl) (by kernel_rfl) (fun _ _ _ h => h) (Or.inl ⟨by rfl, ?hy115⟩) HS ?_
  case hy115 => ((intro u' hT; have dx0 := hT.c0 (b := w3.heap.size) (.tail _ (.head _)); have dx1 := hT.c1 (b := w3.heap.size) (.tail _ (.head _)); go_simp); try with_reducible rfl)
  try simp only [List.getElem_toArray, List.getElem_cons_succ, List.getElem_cons_zero, Act.put, List.setIfInBounds_toArray, List.set_cons_zero, List.set_cons_succ]
  refine GoS.pure (i := 0) (v := ?_) rfl (by kernel_rfl) (by kernel_rfl) (by kernel_rfl) (by kernel_rfl) (fun _ _ _ h => h) (Or.inl ⟨by rfl, ?hy116⟩) (fun _ => HS) ?_
  case hy116 => ((intro u' hT; go_simp); try with_reducible rfl)
  try simp only [List.getElem_toArray, List.getElem_cons_zero, Act.put, List.setIfInBounds_toArray, List.set_cons_zero, List.set_cons_succ]
  refine GoS.one (i := 1) (by kernel_rfl) rfl (fun K hK => ?_)
  go_simp
  (with_reducible refine (FA.call _).mono ?_)
  rintro e q117 ⟨rfl, hx117⟩
  have HS2 := HS.later hx117
  clear HS; have HS := HS2; clear HS2 hx117
  go_wp2_with fail
  refine hK.out _ _ HS (fun _ => ?_)
  clear hK K
  try simp only [List.getElem_toArray, List.getElem_cons_succ, List.getElem_cons_zero, Act.put, List.setIfInBounds_toArray, List.set_cons_zero, List.set_cons_succ]
  refine GoS.one (i := 3) (by kernel_rfl) rfl (fun K hK => ?_)
  go_simp
  (with_reducible refine (CL.call _).mono ?_)
  rintro e q118 ⟨rfl, hx118⟩
  have HS2 := HS.later hx118
  clear HS; have HS := HS2; clear HS2 hx118
  go_wp2_with fail
  refine hK.out _ _ HS (fun _ => ?_)
  clear hK K
  try simp only [List.getElem_toArray, List.getElem_cons_succ, List.getElem_cons_zero, Act.put, List.setIfInBounds_toArray, List.set_cons_zero, List.set_cons_succ]
  refine GoS.pure (i := 4) (v := ?_) rfl (by kernel_rfl) (by kernel_rfl) (by kernel_rfl) (by kernel_rfl) (fun _ _ _ h => h) (Or.inl ⟨by rfl, ?hy119⟩) (fun _ => HS) ?_
  case hy119 => ((intro u' hT; go_simp); try with_reducible rfl)
  try simp only [List.getElem_toArray, List.getElem_cons_succ, List.getElem_cons_zero, Act.put, List.setIfInBounds_toArray, List.set_cons_zero, List.set_cons_succ]
  refine GoS.pure (i := 5) (v := ?_) rfl (by kernel_rfl) (by kernel_rfl) (by kernel_rfl) (by kernel_rfl) (fun _ _ _ h => h) (Or.inl ⟨by rfl, ?hy120⟩) (fun _ => HS) ?_
  case hy120 => ((intro u' hT; go_simp); try with_reducible rfl)
  try simp only [List.getElem_toArray, List.getElem_cons_succ, List.getElem_cons_zero, Act.put, List.setIfInBounds_toArray, List.set_cons_zero, List.set_cons_succ]
  refine GoS.pure (i := 6) (v := ?_) rfl (by kernel_rfl) (by kernel_rfl) (by kernel_rfl) (by kernel_rfl) (fun _ _ _ h => h) (Or.inl ⟨by rfl, ?hy121⟩) (fun _ => HS) ?_
  case hy121 => ((intro u' hT; go_simp); try with_reducible rfl)
  try simp only [List.getElem_toArray, List.getElem_cons_succ, List.getElem_cons_zero, Act.put, List.setIfInBounds_toArray, List.set_cons_zero, List.set_cons_succ]
  refine GoS.pure (i := 7) (v := ?_) rfl (by kernel_rfl) (by kernel_rfl) (by kernel_rfl) (by kernel_rfl) (fun _ _ _ h => h) (Or.inl ⟨by rfl, ?hy122⟩) (fun _ => HS) ?_
  case hy122 => ((intro u' hT; go_simp); try with_reducible rfl)
  try simp only [List.getElem_toArray, List.getElem_cons_succ, List.getElem_cons_zero, Act.put, List.setIfInBounds_toArray, List.set_cons_zero, List.set_cons_succ]
  refine GoS.store (i := 8) (by kernel_rfl) rfl (by kernel_rfl) (fun K hK => ?_)
  go_simp
  refine hK.out _ _ ?_
  clear hK K
  try simp only [List.getElem_toArray, List.getElem_cons_succ, List.getElem_cons_zero, Act.put, List.setIfInBounds_toArray, List.set_cons_zero, List.set_cons_succ]
  refine GoS.done (by kernel_rfl) ?_
  have FR := Lib.hid HS; clear HS
  go_upto_region 17 with (fail)
  have HT0 : Fr w q118 [(w6.heap.size, gm, gx), (w3.heap.size, pm, px)] := FR.out
  refine wp_region_S (fun u : World => Fr w u [(w6.heap.size, gm, gx), (w3.heap.size, pm, px)]) 9 (by kernel_rfl) ?_
  have HS := HT0.later (Ext.refl _).drew
  clear HT0 FR
  refine GoS.take (i := 0) (v := ?_) rfl (by kernel_rfl) (by kernel_rfl) (by kernel_rfl) (by kernel_rfl) (fun _ _ _ h => h) (Or.inl ⟨by rfl, ?hy123⟩) HS ?_
  case hy123 => ((intro u' hT; have dx0 := hT.c0 (b := w3.heap.size) (.tail _ (.head _)); have dx1 := hT.c1 (b := w3.heap.size) (.tail _ (.head _)); go_simp); try with_reducible rfl)
  try simp only [List.getElem_toArray, List.getElem_cons_zero, Act.put, List.setIfInBounds_toArray, List.set_cons_zero, List.set_cons_succ]
  refine GoS.pure (i := 1) (v := ?_) rfl (by kernel_rfl) (by kernel_rfl) (by kernel_rfl) (by kernel_rfl) (fun _ _ _ h => h) (Or.inl ⟨by rfl, ?hy124⟩) (fun _ => HS) ?_
  case hy124 => ((intro u' hT; go_simp); try with_reducible rfl)
  try simp only [List.getElem_toArray, List.getElem_cons_succ, List.getElem_cons_zero, Act.put, List.setIfInBounds_toArray, List.set_cons_zero, List.set_cons_succ]
  refine GoS.pure (i := 2) (v := ?_) rfl (by kernel_rfl) (by kernel_rfl) (by kernel_rfl) (by kernel_rfl) (fun _ _ _ h => h) (Or.inl ⟨by rfl, ?hy125⟩) (fun _ => HS) ?_
  case hy125 => ((intro u' hT; go_simp); try with_reducible rfl)
  try simp only [List.getElem_toArray, List.getElem_cons_succ, List.getElem_cons_zero, Act.put, List.setIfInBounds_toArray, List.set_cons_zero, List.set_cons_succ]
  refine GoS.one (i := 3) (by kernel_rfl) rfl (fun K hK => ?_)
  go_simp
  (with_reducible refine (FB.call _).mono ?_)
  rintro e q126 ⟨rfl, hx126⟩
  have HS2 := HS.later hx126
  clear HS; have HS := HS2; clear HS2 hx126
  go_wp2_with fail
  refine hK.out _ _ HS (fun _ => ?_)
  clear hK K
  try simp only [List.getElem_toArray, List.getElem_cons_succ, List.getElem_cons_zero, Act.put, List.setIfInBounds_toArray, List.set_cons_zero, List.set_cons_succ]
  refine GoS.one (i := 4) (by kernel_rfl) rfl (fun K hK => ?_)
  go_simp
  (with_reducible refine (CH.call _).mono ?_)
  rintro e q127 ⟨rfl, hx127⟩
  have HS2 := HS.later hx127
  clear HS; have HS := HS2; clear HS2 hx127
  go_wp2_with fail
  refine hK.out _ _ HS (fun _ => ?_)
  clear hK K
  try simp only [List.getElem_toArray, List.getElem_cons_succ, List.getElem_cons_zero, Act.put, List.setIfInBounds_toArray, List.set_cons_zero, List.set_cons_succ]
  refine GoS.pure (i := 5) (v := ?_) rfl (by kernel_rfl) (by kernel_rfl) (by kernel_rfl) (by kernel_rfl) (fun _ _ _ h => h) (Or.inl ⟨by rfl, ?hy128⟩) (fun _ => HS) ?_
  case hy128 => ((intro u' hT; go_simp); try with_reducible rfl)
  try simp only [List.getElem_toArray, List.getElem_cons_succ, List.getElem_cons_zero, Act.put, List.setIfInBounds_toArray, List.set_cons_zero, List.set_cons_succ]
  refine GoS.pure (i := 6) (v := ?_) rfl (by kernel_rfl) (by kernel_rfl) (by kernel_rfl) (by kernel_rfl) (fun _ _ _ h => h) (Or.inl ⟨by rfl, ?hy129⟩) (fun _ => HS) ?_
  case hy129 => ((intro u' hT; go_simp); try with_reducible rfl)
  try simp only [List.getElem_toArray, List.getElem_cons_succ, List.getElem_cons_zero, Act.put, List.setIfInBounds_toArray, List.set_cons_zero, List.set_cons_succ]
  refine GoS.pure (i := 7) (v := ?_) rfl (by kernel_rfl) (by kernel_rfl) (by kernel_rfl) (by kernel_rfl) (fun _ _ _ h => h) (Or.inl ⟨by rfl, ?hy130⟩) (fun _ => HS) ?_
  case hy130 => ((intro u' hT; go_simp); try with_reducible rfl)
  try simp only [List.getElem_toArray, List.getElem_cons_succ, List.getElem_cons_zero, Act.put, List.setIfInBounds_toArray, List.set_cons_zero, List.set_cons_succ]
  refine GoS.pure (i := 8) (v := ?_) rfl (by kernel_rfl) (by kernel_rfl) (by kernel_rfl) (by kernel_rfl) (fun _ _ _ h => h) (Or.inl ⟨by rfl, ?hy131⟩) (fun _ => HS) ?_
  case hy131 => ((intro u' hT; go_simp); try with_reducible rfl)
  try simp only [List.getElem_toArray, List.getElem_cons_succ, List.getElem_cons_zero, Act.put, List.setIfInBounds_toArray, List.set_cons_zero, List.set_cons_succ]
  refine GoS.store (i := 9) (by kernel_rfl) rfl (by kernel_rfl) (fun K hK => ?_)
  go_simp
  refine hK.out _ _ ?_
  clear hK K
  try simp only [List.getElem_toArray, List.getElem_cons_succ, List.getElem_cons_zero, Act.put, List.setIfInBounds_toArray, List.set_cons_zero, List.set_cons_succ]
  refine GoS.done (by kernel_rfl) ?_
  have FR := Lib.hid HS; clear HS
  go_upto_region 18 with (fail)
  have HT0 : Fr w q127 [(w6.heap.size, gm, gx), (w3.heap.size, pm, px)] := FR.out
  refine wp_region_S (fun u : World => Fr w u [(w6.heap.size, gm, gx), (w3.heap.size, pm, px)]) 8 (by kernel_rfl) ?_
  have HS := HT0.later (Ext.refl _).drew
  clear HT0 FR
  refine GoS.take (i := 0) (v := ?_) rfl (by kernel_rfl) (by kernel_rfl) (by kernel_rfl) (by kernel_rfl) (fun _ _ _ h => h) (Or.inl ⟨by rfl, ?hy132⟩) HS ?_
  case hy132 => ((intro u' hT; have dx0 := hT.c0 (b := w3.heap.size) (.tail _ (.head _)); have dx1 := hT.c1 (b := w3.heap.size) (.tail _ (.head _)); go_simp); try with_reducible rfl)
  try simp only [List.getElem_toArray, List.getElem_cons_zero, Act.put, List.setIfInBounds_toArray, List.set_cons_zero, List.set_cons_succ]
  refine GoS.pure (i := 1) (v := ?_) rfl (by kernel_rfl) (by kernel_rfl) (by kernel_rfl) (by kernel_rfl) (fun _ _ _ h => h) (Or.inl ⟨by rfl, ?hy133⟩) (fun _ => HS) ?_
  case hy133 => ((intro u' hT; go_simp); try with_reducible rfl)
  try simp only [List.getElem_toArray, List.getElem_cons_succ, List.getElem_cons_zero, Act.put, List.setIfInBounds_toArray, List.set_cons_zero, List.set_cons_succ]
  refine GoS.two (i := 2) (j := 7) (by kernel_rfl) rfl rfl (fun K hK => ?_) (fun K hK => ?_)
  · skip
    go_simp
    (with_reducible refine (FA.call _).mono ?_)
    rintro e q134 ⟨rfl, hx134⟩
    have HS2 := HS.later hx134
    clear HS; have HS := HS2; clear HS2 hx134
    go_wp2_with fail
    refine hK.out _ _ HS (fun _ => ?_)
    clear hK K
    try simp only [List.getElem_toArray, List.getElem_cons_succ, List.getElem_cons_zero, Act.put, List.setIfInBounds_toArray, List.set_cons_zero, List.set_cons_succ]
    refine GoS.two (i := 3) (j := 7) (by kernel_rfl) rfl rfl (fun K hK => ?_) (fun K hK => ?_)
    · skip
      go_simp
      (with_reducible refine (SU.call _).mono ?_)
      rintro e q135 ⟨rfl, hx135⟩
      have HS2 := HS.later hx135
      clear HS; have HS := HS2; clear HS2 hx135
      go_wp2_with fail
      refine hK.out _ _ HS (fun _ => ?_)
      clear hK K
      try simp only [List.getElem_toArray, List.getElem_cons_succ, List.getElem_cons_zero, Act.put, List.setIfInBounds_toArray, List.set_cons_zero, List.set_cons_succ]
      refine GoS.pure (i := 4) (v := ?_) rfl (by kernel_rfl) (by kernel_rfl) (by kernel_rfl) (by kernel_rfl) (fun _ _ _ h => h) (Or.inl ⟨by rfl, ?hy136⟩) (fun _ => HS) ?_
      case hy136 => ((intro u' hT; go_simp); try with_reducible rfl)
      try simp only [List.getElem_toArray, List.getElem_cons_succ, List.getElem_cons_zero, Act.put, List.setIfInBounds_toArray, List.set_cons_zero, List.set_cons_succ]
      refine GoS.pure (i := 5) (v := ?_) rfl (by kernel_rfl) (by kernel_rfl) (by kernel_rfl) (by kernel_rfl) (fun _ _ _ h => h) (Or.inl ⟨by rfl, ?hy137⟩) (fun _ => HS) ?_
      case hy137 => ((intro u' hT; go_simp); try with_reducible rfl)
      try simp only [List.getElem_toArray, List.getElem_cons_succ, List.getElem_cons_zero, Act.put, List.setIfInBounds_toArray, List.set_cons_zero, List.set_cons_succ]
      refine GoS.pure (i := 6) (v := ?_) rfl (by kernel_rfl) (by kernel_rfl) (by kernel_rfl) (by kernel_rfl) (fun _ _ _ h => h) (Or.inl ⟨by rfl, ?hy138⟩) (fun _ => HS) ?_
      case hy138 => ((intro u' hT; go_simp); try with_reducible rfl)
      try simp only [List.getElem_toArray, List.getElem_cons_succ, List.getElem_cons_zero, Act.put, List.setIfInBounds_toArray, List.set_cons_zero, List.set_cons_succ]
      refine GoS.one (i := 7) (by kernel_rfl) rfl (fun K hK => ?_)
      go_simp
      have HQ := HS
      have FQ := Lib.hid (HS.lay 0 0 23)
      have HS2 := HS.later ((Ext.refl _).alloc (.cells #[.int .i64 0, .int .i64 0] 23))
      clear HS; have HS := HS2; clear HS2
      refine hK.out _ _ HS (fun _ => ?_)
      clear hK K
      try simp only [List.getElem_toArray, List.getElem_cons_succ, List.getElem_cons_zero, Act.put, List.setIfInBounds_toArray, List.set_cons_zero, List.set_cons_succ]
      refine GoS.store (i := 8) (by kernel_rfl) rfl (by kernel_rfl) (fun K hK => ?_)
      have st0 := FQ.out.c0 (b := q135.heap.size) (.head _); have st1 := FQ.out.c1 (b := q135.heap.size) (.head _); have stf := FQ.out.fz (b := q135.heap.size) (.head _)
      go_simp
      have FR := Lib.hid (HQ.lay (dm) (dx) 23); clear FQ HQ st0 st1 stf
      refine hK.out _ _ ?_
      clear hK K
      try simp only [List.getElem_toArray, List.getElem_cons_succ, List.getElem_cons_zero, Act.put, List.setIfInBounds_toArray, List.set_cons_zero, List.set_cons_succ]
      refine GoS.behind (i := 9) (v := ?_) rfl (by kernel_rfl) (by kernel_rfl) (by kernel_rfl) (by kernel_rfl) (fun _ _ _ h => h) (Or.inl ⟨by rfl, ?hy139⟩) (by kernel_rfl) ?_
      case hy139 => ((intro u' hT; go_simp); try with_reducible rfl)
      try simp only [List.getElem_toArray, List.getElem_cons_succ, List.getElem_cons_zero, Act.put, List.setIfInBounds_toArray, List.set_cons_zero, List.set_cons_succ]
      refine GoS.done (by kernel_rfl) ?_
      have FR2 : Hid (Fr w (q135.alloc (.cells #[.int .i64 (dm), .int .i64 (dx)] 23)) [(q135.heap.size, dm, dx), (w6.heap.size, gm, gx), (w3.heap.size, pm, px)]) := FR; clear FR; have FR := FR2; clear FR2
      clear HS; revert FR; generalize (q135.alloc (.cells #[.int .i64 (dm), .int .i64 (dx)] 23)) = z1; intro FR
      go_upto_region 19 with (fail)
      have HT0 : Fr w z1 [(q135.heap.size, dm, dx), (w6.heap.size, gm, gx), (w3.heap.size, pm, px)] := FR.out
      refine wp_region_S (fun u : World => Fr w u [(q135.heap.size, dm, dx), (w6.heap.size, gm, gx), (w3.heap.size, pm, px)]) 7 (by kernel_rfl) ?_
      have HS := HT0.later (Ext.refl _).drew
      clear HT0 FR
      refine GoS.take (i := 0) (v := ?_) rfl (by kernel_rfl) (by kernel_rfl) (by kernel_rfl) (by kernel_rfl) (fun _ _ _ h => h) (Or.inl ⟨by rfl, ?hy140⟩) HS ?_
      case hy140 => ((intro u' hT; have dd0 := hT.c0 (b := q135.heap.size) (.head _); have dd1 := hT.c1 (b := q135.heap.size) (.head _); go_simp); try with_reducible rfl)
      try simp only [List.getElem_toArray, List.getElem_cons_zero, Act.put, List.setIfInBounds_toArray, List.set_cons_zero, List.set_cons_succ]
      refine GoS.one (i := 1) (by kernel_rfl) rfl (fun K hK => ?_)
      go_simp
      (with_reducible refine (TW.call _).mono ?_)
      rintro e q141 ⟨rfl, hx141⟩
      have HS2 := HS.later hx141
      clear HS; have HS := HS2; clear HS2 hx141
      go_wp2_with fail
      refine hK.out _ _ HS (fun _ => ?_)
      clear hK K
      try simp only [List.getElem_toArray, List.getElem_cons_succ, List.getElem_cons_zero, Act.put, List.setIfInBounds_toArray, List.set_cons_zero, List.set_cons_succ]
      refine GoS.one (i := 2) (by kernel_rfl) rfl (fun K hK => ?_)
      go_simp
      (with_reducible refine (CD.call _).mono ?_)
      rintro e q142 ⟨rfl, hx142⟩
      have HS2 := HS.later hx142
      clear HS; have HS := HS2; clear HS2 hx142
      go_wp2_with fail
      refine hK.out _ _ HS (fun _ => ?_)
      clear hK K
      try simp only [List.getElem_toArray, List.getElem_cons_succ, List.getElem_cons_zero, Act.put, List.setIfInBounds_toArray, List.set_cons_zero, List.set_cons_succ]
      refine GoS.pure (i := 3) (v := ?_) rfl (by kernel_rfl) (by kernel_rfl) (by kernel_rfl) (by kernel_rfl) (fun _ _ _ h => h) (Or.inl ⟨by rfl, ?hy143⟩) (fun _ => HS) ?_
      case hy143 => ((intro u' hT; go_simp); try with_reducible rfl)
      try simp only [List.getElem_toArray, List.getElem_cons_succ, List.getElem_cons_zero, Act.put, List.setIfInBounds_toArray, List.set_cons_zero, List.set_cons_succ]
      refine GoS.pure (i := 4) (v := ?_) rfl (by kernel_rfl) (by kernel_rfl) (by kernel_rfl) (by kernel_rfl) (fun _ _ _ h => h) (Or.inl ⟨by rfl, ?hy144⟩) (fun _ => HS) ?_
      case hy144 => ((intro u' hT; go_simp); try with_reducible rfl)
      try simp only [List.getElem_toArray, List.getElem_cons_succ, List.getElem_cons_zero, Act.put, List.setIfInBounds_toArray, List.set_cons_zero, List.set_cons_succ]
      refine GoS.pure (i := 5) (v := ?_) rfl (by kernel_rfl) (by kernel_rfl) (by kernel_rfl) (by kernel_rfl) (fun _ _ _ h => h) (Or.inl ⟨by rfl, ?hy145⟩) (fun _ => HS) ?_
      case hy145 => ((intro u' hT; go_simp); try with_reducible rfl)
      try simp only [List.getElem_toArray, List.getElem_cons_succ, List.getElem_cons_zero, Act.put, List.setIfInBounds_toArray, List.set_cons_zero, List.set_cons_succ]
      refine GoS.pure (i := 6) (v := ?_) rfl (by kernel_rfl) (by kernel_rfl) (by kernel_rfl) (by kernel_rfl) (fun _ _ _ h => h) (Or.inl ⟨by rfl, ?hy146⟩) (fun _ => HS) ?_
      case hy146 => ((intro u' hT; go_simp); try with_reducible rfl)
      try simp only [List.getElem_toArray, List.getElem_cons_succ, List.getElem_cons_zero, Act.put, List.setIfInBounds_toArray, List.set_cons_zero, List.set_cons_succ]
      refine GoS.store (i := 7) (by kernel_rfl) rfl (by kernel_rfl) (fun K hK => ?_)
      go_simp
      refine hK.out _ _ ?_
      clear hK K
      try simp only [List.getElem_toArray, List.getElem_cons_succ, List.getElem_cons_zero, Act.put, List.setIfInBounds_toArray, List.set_cons_zero, List.set_cons_succ]
      refine GoS.done (by kernel_rfl) ?_
      have FR := Lib.hid HS; clear HS
      go_wp2_with fail
      refine (SN _ (HT.out.later FR.out.x)).mono ?_
      rintro e w8 ⟨rfl, hx⟩
      have FR2 : Hid (Fr w w8 [(q135.heap.size, dm, dx), (w6.heap.size, gm, gx), (w3.heap.size, pm, px)]) := Lib.hid (FR.out.later hx)
      clear hx FR; have FR := FR2; clear FR2
      go_wp2
      go_ret
      exact ⟨rfl, FR.out.x⟩
    · skip
      go_simp
      have HQ := HS
      have FQ := Lib.hid (HS.lay 0 0 23)
      have HS2 := HS.later ((Ext.refl _).alloc (.cells #[.int .i64 0, .int .i64 0] 23))
      clear HS; have HS := HS2; clear HS2
      refine hK.out _ _ HS (fun _ => ?_)
      clear hK K
      try simp only [List.getElem_toArray, List.getElem_cons_succ, List.getElem_cons_zero, Act.put, List.setIfInBounds_toArray, List.set_cons_zero, List.set_cons_succ]
      refine GoS.one (i := 3) (by kernel_rfl) rfl (fun K hK => ?_)
      go_simp
      (with_reducible refine (SU.call _).mono ?_)
      rintro e q147 ⟨rfl, hx147⟩
      have HS2 := HS.later hx147
      have FQ2 := Lib.hid (FQ.out.later hx147); clear FQ; have FQ := FQ2; clear FQ2
      clear HS; have HS := HS2; clear HS2 hx147
      go_wp2_with fail
      refine hK.out _ _ HS (fun _ => ?_)
      clear hK K
      try simp only [List.getElem_toArray, List.getElem_cons_succ, List.getElem_cons_zero, Act.put, List.setIfInBounds_toArray, List.set_cons_zero, List.set_cons_succ]
      refine GoS.pure (i := 4) (v := ?_) rfl (by kernel_rfl) (by kernel_rfl) (by kernel_rfl) (by kernel_rfl) (fun _ _ _ h => h) (Or.inl ⟨by rfl, ?hy148⟩) (fun _ => HS) ?_
      case hy148 => ((intro u' hT; go_simp); try with_reducible rfl)
      try simp only [List.getElem_toArray, List.getElem_cons_succ, List.getElem_cons_zero, Act.put, List.setIfInBounds_toArray, List.set_cons_zero, List.set_cons_succ]
      refine GoS.pure (i := 5) (v := ?_) rfl (by kernel_rfl) (by kernel_rfl) (by kernel_rfl) (by kernel_rfl) (fun _ _ _ h => h) (Or.inl ⟨by rfl, ?hy149⟩) (fun _ => HS) ?_
      case hy149 => ((intro u' hT; go_simp); try with_reducible rfl)
      try simp only [List.getElem_toArray, List.getElem_cons_succ, List.getElem_cons_zero, Act.put, List.setIfInBounds_toArray, List.set_cons_zero, List.set_cons_succ]
      refine GoS.pure (i := 6) (v := ?_) rfl (by kernel_rfl) (by kernel_rfl) (by kernel_rfl) (by kernel_rfl) (fun _ _ _ h => h) (Or.inl ⟨by rfl, ?hy150⟩) (fun _ => HS) ?_
      case hy150 => ((intro u' hT; go_simp); try with_reducible rfl)
      try simp only [List.getElem_toArray, List.getElem_cons_succ, List.getElem_cons_zero, Act.put, List.setIfInBounds_toArray, List.set_cons_zero, List.set_cons_succ]
      refine GoS.store (i := 8) (by kernel_rfl) rfl (by kernel_rfl) (fun K hK => ?_)
      have st0 := FQ.out.c0 (b := q134.heap.size) (.head _); have st1 := FQ.out.c1 (b := q134.heap.size) (.head _); have stf := FQ.out.fz (b := q134.heap.size) (.head _)
      go_simp
      have FR := Lib.hid (FQ.out.set 0 rfl (dm) (dx)); clear FQ HQ st0 st1 stf
      refine hK.out _ _ ?_
      clear hK K
      try simp only [List.getElem_toArray, List.getElem_cons_succ, List.getElem_cons_zero, Act.put, List.setIfInBounds_toArray, List.set_cons_zero, List.set_cons_succ]
      refine GoS.behind (i := 9) (v := ?_) rfl (by kernel_rfl) (by kernel_rfl) (by kernel_rfl) (by kernel_rfl) (fun _ _ _ h => h) (Or.inl ⟨by rfl, ?hy151⟩) (by kernel_rfl) ?_
      case hy151 => ((intro u' hT; go_simp); try with_reducible rfl)
      try simp only [List.getElem_toArray, List.getElem_cons_succ, List.getElem_cons_zero, Act.put, List.setIfInBounds_toArray, List.set_cons_zero, List.set_cons_succ]
      refine GoS.done (by kernel_rfl) ?_
      have FR2 : Hid (Fr w ((q147.setCell ⟨q134.heap.size, 0, none⟩ (.int .i64 (dm))).setCell ⟨q134.heap.size, 1, none⟩ (.int .i64 (dx))) [(q134.heap.size, dm, dx), (w6.heap.size, gm, gx), (w3.heap.size, pm, px)]) := FR; clear FR; have FR := FR2; clear FR2
      clear HS; revert FR; generalize ((q147.setCell ⟨q134.heap.size, 0, none⟩ (.int .i64 (dm))).setCell ⟨q134.heap.size, 1, none⟩ (.int .i64 (dx))) = z2; intro FR
      go_upto_region 19 with (fail)
      have HT0 : Fr w z2 [(q134.heap.size, dm, dx), (w6.heap.size, gm, gx), (w3.heap.size, pm, px)] := FR.out
      refine wp_region_S (fun u : World => Fr w u [(q134.heap.size, dm, dx), (w6.heap.size, gm, gx), (w3.heap.size, pm, px)]) 7 (by kernel_rfl) ?_
      have HS := HT0.later (Ext.refl _).drew
      clear HT0 FR
      refine GoS.take (i := 0) (v := ?_) rfl (by kernel_rfl) (by kernel_rfl) (by kernel_rfl) (by kernel_rfl) (fun _ _ _ h => h) (Or.inl ⟨by rfl, ?hy152⟩) HS ?_
      case hy152 => ((intro u' hT; have dd0 := hT.c0 (b := q134.heap.size) (.head _); have dd1 := hT.c1 (b := q134.heap.size) (.head _); go_simp); try with_reducible rfl)
      try simp only [List.getElem_toArray, List.getElem_cons_zero, Act.put, List.setIfInBounds_toArray, List.set_cons_zero, List.set_cons_succ]
      refine GoS.one (i := 1) (by kernel_rfl) rfl (fun K hK => ?_)
      go_simp
      (with_reducible refine (TW.call _).mono ?_)
      rintro e q153 ⟨rfl, hx153⟩
      have HS2 := HS.later hx153
      clear HS; have HS := HS2; clear HS2 hx153
      go_wp2_with fail
      refine hK.out _ _ HS (fun _ => ?_)
      clear hK K
      try simp only [List.getElem_toArray, List.getElem_cons_succ, List.getElem_cons_zero, Act.put, List.setIfInBounds_toArray, List.set_cons_zero, List.set_cons_succ]
      refine GoS.one (i := 2) (by kernel_rfl) rfl (fun K hK => ?_)
      go_simp
      (with_reducible refine (CD.call _).mono ?_)
      rintro e q154 ⟨rfl, hx154⟩
      have HS2 := HS.later hx154
      clear HS; have HS := HS2; clear HS2 hx154
      go_wp2_with fail
      refine hK.out _ _ HS (fun _ => ?_)
      clear hK K
      try simp only [List.getElem_toArray, List.getElem_cons_succ, List.getElem_cons_zero, Act.put, List.setIfInBounds_toArray, List.set_cons_zero, List.set_cons_succ]
      refine GoS.pure (i := 3) (v := ?_) rfl (by kernel_rfl) (by kernel_rfl) (by kernel_rfl) (by kernel_rfl) (fun _ _ _ h => h) (Or.inl ⟨by rfl, ?hy155⟩) (fun _ => HS) ?_
      case hy155 => ((intro u' hT; go_simp); try with_reducible rfl)
      try simp only [List.getElem_toArray, List.getElem_cons_succ, List.getElem_cons_zero, Act.put, List.setIfInBounds_toArray, List.set_cons_zero, List.set_cons_succ]
      refine GoS.pure (i := 4) (v := ?_) rfl (by kernel_rfl) (by kernel_rfl) (by kernel_rfl) (by kernel_rfl) (fun _ _ _ h => h) (Or.inl ⟨by rfl, ?hy156⟩) (fun _ => HS) ?_
      case hy156 => ((intro u' hT; go_simp); try with_reducible rfl)
      try simp only [List.getElem_toArray, List.getElem_cons_succ, List.getElem_cons_zero, Act.put, List.setIfInBounds_toArray, List.set_cons_zero, List.set_cons_succ]
      refine GoS.pure (i := 5) (v := ?_) rfl (by kernel_rfl) (by kernel_rfl) (by kernel_rfl) (by kernel_rfl) (fun _ _ _ h => h) (Or.inl ⟨by rfl, ?hy157⟩) (fun _ => HS) ?_
      case hy157 => ((intro u' hT; go_simp); try with_reducible rfl)
      try simp only [List.getElem_toArray, List.getElem_cons_succ, List.getElem_cons_zero, Act.put, List.setIfInBounds_toArray, List.set_cons_zero, List.set_cons_succ]
      refine GoS.pure (i := 6) (v := ?_) rfl (by kernel_rfl) (by kernel_rfl) (by kernel_rfl) (by kernel_rfl) (fun _ _ _ h => h) (Or.inl ⟨by rfl, ?hy158⟩) (fun _ => HS) ?_
      case hy158 => ((intro u' hT; go_simp); try with_reducible rfl)
      try simp only [List.getElem_toArray, List.getElem_cons_succ, List.getElem_cons_zero, Act.put, List.setIfInBounds_toArray, List.set_cons_zero, List.set_cons_succ]
      refine GoS.store (i := 7) (by kernel_rfl) rfl (by kernel_rfl) (fun K hK => ?_)
      go_simp
      refine hK.out _ _ ?_
      clear hK K
      try simp only [List.getElem_toArray, List.getElem_cons_succ, List.getElem_cons_zero, Act.put, List.setIfInBounds_toArray, List.set_cons_zero, List.set_cons_succ]
      refine GoS.done (by kernel_rfl) ?_
      have FR := Lib.hid HS; clear HS
      go_wp2_with fail
      refine (SN _ (HT.out.later FR.out.x)).mono ?_
      rintro e w8 ⟨rfl, hx⟩
      have FR2 : Hid (Fr w w8 [(q134.heap.size, dm, dx), (w6.heap.size, gm, gx), (w3.heap.size, pm, px)]) := Lib.hid (FR.out.later hx)
      clear hx FR; have FR := FR2; clear FR2
      go_wp2
      go_ret
      exact ⟨rfl, FR.out.x⟩
  · skip
    go_simp
    have HQ := HS
    have FQ := Lib.hid (HS.lay 0 0 23)
    have HS2 := HS.later ((Ext.refl _).alloc (.cells #[.int .i64 0, .int .i64 0] 23))
    clear HS; have HS := HS2; clear HS2
    refine hK.out _ _ HS (fun _ => ?_)
    clear hK K
    try simp only [List.getElem_toArray, List.getElem_cons_succ, List.getElem_cons_zero, Act.put, List.setIfInBounds_toArray, List.set_cons_zero, List.set_cons_succ]
    refine GoS.one (i := 2) (by kernel_rfl) rfl (fun K hK => ?_)
    go_simp
    (with_reducible refine (FA.call _).mono ?_)
    rintro e q159 ⟨rfl, hx159⟩
    have HS2 := HS.later hx159
    have FQ2 := Lib.hid (FQ.out.later hx159); clear FQ; have FQ := FQ2; clear FQ2
    clear HS; have HS := HS2; clear HS2 hx159
    go_wp2_with fail
    refine hK.out _ _ HS (fun _ => ?_)
    clear hK K
    try simp only [List.getElem_toArray, List.getElem_cons_succ, List.getElem_cons_zero, Act.put, List.setIfInBounds_toArray, List.set_cons_zero, List.set_cons_succ]
    refine GoS.one (i := 3) (by kernel_rfl) rfl (fun K hK => ?_)
    go_simp
    (with_reducible refine (SU.call _).mono ?_)
    rintro e q160 ⟨rfl, hx160⟩
    have HS2 := HS.later hx160
    have FQ2 := Lib.hid (FQ.out.later hx160); clear FQ; have FQ := FQ2; clear FQ2
    clear HS; have HS := HS2; clear HS2 hx160
    go_wp2_with fail
    refine hK.out _ _ HS (fun _ => ?_)
    clear hK K
    try simp only [List.getElem_toArray, List.getElem_cons_succ, List.getElem_cons_zero, Act.put, List.setIfInBounds_toArray, List.set_cons_zero, List.set_cons_succ]
    refine GoS.pure (i := 4) (v := ?_) rfl (by kernel_rfl) (by kernel_rfl) (by kernel_rfl) (by kernel_rfl) (fun _ _ _ h => h) (Or.inl ⟨by rfl, ?hy161⟩) (fun _ => HS) ?_
    case hy161 => ((intro u' hT; go_simp); try with_reducible rfl)
    try simp only [List.getElem_toArray, List.getElem_cons_succ, List.getElem_cons_zero, Act.put, List.setIfInBounds_toArray, List.set_cons_zero, List.set_cons_succ]
    refine GoS.pure (i := 5) (v := ?_) rfl (by kernel_rfl) (by kernel_rfl) (by kernel_rfl) (by kernel_rfl) (fun _ _ _ h => h) (Or.inl ⟨by rfl, ?hy162⟩) (fun _ => HS) ?_
    case hy162 => ((intro u' hT; go_simp); try with_reducible rfl)
    try simp only [List.getElem_toArray, List.getElem_cons_succ, List.getElem_cons_zero, Act.put, List.setIfInBounds_toArray, List.set_cons_zero, List.set_cons_succ]
    refine GoS.pure (i := 6) (v := ?_) rfl (by kernel_rfl) (by kernel_rfl) (by kernel_rfl) (by kernel_rfl) (fun _ _ _ h => h) (Or.inl ⟨by rfl, ?hy163⟩) (fun _ => HS) ?_
    case hy163 => ((intro u' hT; go_simp); try with_reducible rfl)
    try simp only [List.getElem_toArray, List.getElem_cons_succ, List.getElem_cons_zero, Act.put, List.setIfInBounds_toArray, List.set_cons_zero, List.set_cons_succ]
    refine GoS.store (i := 8) (by kernel_rfl) rfl (by kernel_rfl) (fun K hK => ?_)
    have st0 := FQ.out.c0 (b := q127.heap.size) (.head _); have st1 := FQ.out.c1 (b := q127.heap.size) (.head _); have stf := FQ.out.fz (b := q127.heap.size) (.head _)
    go_simp
    have FR := Lib.hid (FQ.out.set 0 rfl (dm) (dx)); clear FQ HQ st0 st1 stf
    refine hK.out _ _ ?_
    clear hK K
    try simp only [List.getElem_toArray, List.getElem_cons_succ, List.getElem_cons_zero, Act.put, List.setIfInBounds_toArray, List.set_cons_zero, List.set_cons_succ]
    refine GoS.behind (i := 9) (v := ?_) rfl (by kernel_rfl) (by kernel_rfl) (by kernel_rfl) (by kernel_rfl) (fun _ _ _ h => h) (Or.inl ⟨by rfl, ?hy164⟩) (by kernel_rfl) ?_
    case hy164 => ((intro u' hT; go_simp); try with_reducible rfl)
    try simp only [List.getElem_toArray, List.getElem_cons_succ, List.getElem_cons_zero, Act.put, List.setIfInBounds_toArray, List.set_cons_zero, List.set_cons_succ]
    refine GoS.done (by kernel_rfl) ?_
    have FR2 : Hid (Fr w ((q160.setCell ⟨q127.heap.size, 0, none⟩ (.int .i64 (dm))).setCell ⟨q127.heap.size, 1, none⟩ (.int .i64 (dx))) [(q127.heap.size, dm, dx), (w6.heap.size, gm, gx), (w3.heap.size, pm, px)]) := FR; clear FR; have FR := FR2; clear FR2
    clear HS; revert FR; generalize ((q160.setCell ⟨q127.heap.size, 0, none⟩ (.int .i64 (dm))).setCell ⟨q127.heap.size, 1, none⟩ (.int .i64 (dx))) = z3; intro FR
    go_upto_region 19 with (fail)
    have HT0 : Fr w z3 [(q127.heap.size, dm, dx), (w6.heap.size, gm, gx), (w3.heap.size, pm, px)] := FR.out
    refine wp_region_S (fun u : World => Fr w u [(q127.heap.size, dm, dx), (w6.heap.size, gm, gx), (w3.heap.size, pm, px)]) 7 (by kernel_rfl) ?_
    have HS := HT0.later (Ext.refl _).drew
    clear HT0 FR
    refine GoS.take (i := 0) (v := ?_) rfl (by kernel_rfl) (by kernel_rfl) (by kernel_rfl) (by kernel_rfl) (fun _ _ _ h => h) (Or.inl ⟨by rfl, ?hy165⟩) HS ?_
    case hy165 => ((intro u' hT; have dd0 := hT.c0 (b := q127.heap.size) (.head _); have dd1 := hT.c1 (b := q127.heap.size) (.head _); go_simp); try with_reducible rfl)
    try simp only [List.getElem_toArray, List.getElem_cons_zero, Act.put, List.setIfInBounds_toArray, List.set_cons_zero, List.set_cons_succ]
    refine GoS.one (i := 1) (by kernel_rfl) rfl (fun K hK => ?_)
    go_simp
    (with_reducible refine (TW.call _).mono ?_)
    rintro e q166 ⟨rfl, hx166⟩
    have HS2 := HS.later hx166
    clear HS; have HS := HS2; clear HS2 hx166
    go_wp2_with fail
    refine hK.out _ _ HS (fun _ => ?_)
    clear hK K
    try simp only [List.getElem_toArray, List.getElem_cons_succ, List.getElem_cons_zero, Act.put, List.setIfInBounds_toArray, List.set_cons_zero, List.set_cons_succ]
    refine GoS.one (i := 2) (by kernel_rfl) rfl (fun K hK => ?_)
    go_simp
    (with_reducible refine (CD.call _).mono ?_)
    rintro e q167 ⟨rfl, hx167⟩
    have HS2 := HS.later hx167
    clear HS; have HS := HS2; clear HS2 hx167
    go_wp2_with fail
    refine hK.out _ _ HS (fun _ => ?_)
    clear hK K
    try simp only [List.getElem_toArray, List.getElem_cons_succ, List.getElem_cons_zero, Act.put, List.setIfInBounds_toArray, List.set_cons_zero, List.set_cons_succ]
    refine GoS.pure (i := 3) (v := ?_) rfl (by kernel_rfl) (by kernel_rfl) (by kernel_rfl) (by kernel_rfl) (fun _ _ _ h => h) (Or.inl ⟨by rfl, ?hy168⟩) (fun _ => HS) ?_
    case hy168 => ((intro u' hT; go_simp); try with_reducible rfl)
    try simp only [List.getElem_toArray, List.getElem_cons_succ, List.getElem_cons_zero, Act.put, List.setIfInBounds_toArray, List.set_cons_zero, List.set_cons_succ]
    refine GoS.pure (i := 4) (v := ?_) rfl (by kernel_rfl) (by kernel_rfl) (by kernel_rfl) (by kernel_rfl) (fun _ _ _ h => h) (Or.inl ⟨by rfl, ?hy169⟩) (fun _ => HS) ?_
    case hy169 => ((intro u' hT; go_simp); try with_reducible rfl)
    try simp only [List.getElem_toArray, List.getElem_cons_succ, List.getElem_cons_zero, Act.put, List.setIfInBounds_toArray, List.set_cons_zero, List.set_cons_succ]
    refine GoS.pure (i := 5) (v := ?_) rfl (by kernel_rfl) (by kernel_rfl) (by kernel_rfl) (by kernel_rfl) (fun _ _ _ h => h) (Or.inl ⟨by rfl, ?hy170⟩) (fun _ => HS) ?_
    case hy170 => ((intro u' hT; go_simp); try with_reducible rfl)
    try simp only [List.getElem_toArray, List.getElem_cons_succ, List.getElem_cons_zero, Act.put, List.setIfInBounds_toArray, List.set_cons_zero, List.set_cons_succ]
    refine GoS.pure (i := 6) (v := ?_) rfl (by kernel_rfl) (by kernel_rfl) (by kernel_rfl) (by kernel_rfl) (fun _ _ _ h => h) (Or.inl ⟨by rfl, ?hy171⟩) (fun _ => HS) ?_
    case hy171 => ((intro u' hT; go_simp); try with_reducible rfl)
    try simp only [List.getElem_toArray, List.getElem_cons_succ, List.getElem_cons_zero, Act.put, List.setIfInBounds_toArray, List.set_cons_zero, List.set_cons_succ]
    refine GoS.store (i := 7) (by kernel_rfl) rfl (by kernel_rfl) (fun K hK => ?_)
    go_simp
    refine hK.out _ _ ?_
    clear hK K
    try simp only [List.getElem_toArray, List.getElem_cons_succ, List.getElem_cons_zero, Act.put, List.setIfInBounds_toArray, List.set_cons_zero, List.set_cons_succ]
    refine GoS.done (by kernel_rfl) ?_
    have FR := Lib.hid HS; clear HS
    go_wp2_with fail
    refine (SN _ (HT.out.later FR.out.x)).mono ?_
    rintro e w8 ⟨rfl, hx⟩
    have FR2 : Hid (Fr w w8 [(q127.heap.size, dm, dx), (w6.heap.size, gm, gx), (w3.heap.size, pm, px)]) := Lib.hid (FR.out.later hx)
    clear hx FR; have FR := FR2; clear FR2
    go_wp2
    go_ret
    exact ⟨rfl, FR.out.x⟩
end Go.Proofs.YtehmpffffjcloaaGreatDoor
