/- Layer 2: the walk of RealIntegerLaws, what is behind an integer part. -/
import Derived.Test.YtehmpffffjcloaaGreatDoorTi
import Derived.Test.YtehmpffffjcloaaGreatDoorGr
namespace Go.Proofs.YtehmpffffjcloaaGreatDoor
open Go.RowKit

set_option maxRecDepth 100000 in
set_option maxHeartbeats 8000000 in
theorem int_in0 (w : World) (ht : Tb w) (i n N fm fx pm px gm gx a B c um ux vm vx dm dx lo hi : Int) (hN : n.tmod 16777217 = N) (_hN' : IntKind.i64.wrap N = N) (_hN2 : wrap64 N = N) (FI : Ret 20 #[.int .i64 N] (.agg #[.int .i64 fm, .int .i64 fx])) (EF : Ret 48 #[.agg #[.int .i64 fm, .int .i64 fx]] (.tuple #[.int .i64 N, .int .i64 0])) (A : Ret 56 #[.int .i64 i] (.agg #[.int .i64 pm, .int .i64 px])) (EA : Ret 48 #[.agg #[.int .i64 pm, .int .i64 px]] (.tuple #[.int .i64 a, .int .i64 0])) (RB : Ret 49 #[.agg #[.int .i64 pm, .int .i64 px]] (.tuple #[.int .i64 B, .int .i64 0])) (NG : Ret 26 #[.agg #[.int .i64 pm, .int .i64 px]] (.tuple #[.agg #[.int .i64 gm, .int .i64 gx], .int .i64 0])) (RC : Ret 49 #[.agg #[.int .i64 gm, .int .i64 gx]] (.tuple #[.int .i64 c, .int .i64 0])) (wB : IntKind.i64.wrap (a + 1) = B) (_wB' : wrap64 (a + 1) = B) (_nB : ¬ a = B) (nB' : ¬ B = a) (_nb : (a == B) = false) (_nb' : (B == a) = false) (r1 : ¬ a < -8388608) (r2 : ¬ a ≥ 8388608) (FA : Ret 20 #[.int .i64 a] (.agg #[.int .i64 um, .int .i64 ux])) (CL : Ret 29 #[.agg #[.int .i64 um, .int .i64 ux], .agg #[.int .i64 pm, .int .i64 px]] (.tuple #[.int .i64 lo, .int .i64 0])) (l1 : ¬ lo > 0) (FB : Ret 20 #[.int .i64 B] (.agg #[.int .i64 vm, .int .i64 vx])) (CH : Ret 29 #[.agg #[.int .i64 pm, .int .i64 px], .agg #[.int .i64 vm, .int .i64 vx]] (.tuple #[.int .i64 hi, .int .i64 0])) (l2 : ¬ hi ≥ 0) (SU : Ret 36 #[.agg #[.int .i64 pm, .int .i64 px], .agg #[.int .i64 um, .int .i64 ux]] (.tuple #[.agg #[.int .i64 dm, .int .i64 dx], .int .i64 0])) (TW : Ret 62 #[.int .i64 (-1)] (.agg #[.int .i64 8388608, .int .i64 (-24)])) (CD : Ret 29 #[.agg #[.int .i64 dm, .int .i64 dx], .agg #[.int .i64 8388608, .int .i64 (-24)]] (.tuple #[.int .i64 0, .int .i64 0])) (SN : ∀ u, Tb u → Calls Tryz.prog 30 #[] u fun e u' => e = .returned (.bool true) ∧ Ext u u') :
    Calls Tryz.prog 15 #[.int .i64 i, .int .i64 n] w fun e w' => e = .returned (.bool true) ∧ Ext w w' := by
  have HT := Lib.hid ht; clear ht
  have FR := Lib.hid (Fr.nil w)
  have eqR := eqReal
  go_enter Tryz.func15, Tryz.ntmps15
  go_wp2_with fail
  refine (FI _).mono ?_
  rintro e w1 ⟨rfl, hx⟩
  have FR2 : Hid (Fr w w1 []) := Lib.hid (FR.out.later hx)
  clear hx FR; have FR := FR2; clear FR2
  go_wp2_with fail
  refine (EF _).mono ?_
  rintro e w2 ⟨rfl, hx⟩
  have FR2 : Hid (Fr w w2 []) := Lib.hid (FR.out.later hx)
  clear hx FR; have FR := FR2; clear FR2
  go_wp2_with fail
  refine (A _).mono ?_
  rintro e w3 ⟨rfl, hx⟩
  have FR2 : Hid (Fr w w3 []) := Lib.hid (FR.out.later hx)
  clear hx FR; have FR := FR2; clear FR2
  go_wp2_with fail
  refine (EA _).mono ?_
  rintro e w4 ⟨rfl, hx⟩
  have FR2 : Hid (Fr w w4 [(w3.heap.size, pm, px)]) := Lib.hid ((FR.out.lay (pm) (px) 23).later hx)
  clear hx FR; have FR := FR2; clear FR2
  have cx0 := FR.out.c0 (b := w3.heap.size) (.head _); have cx1 := FR.out.c1 (b := w3.heap.size) (.head _)
  go_wp2_with fail
  refine (RB _).mono ?_
  rintro e w5 ⟨rfl, hx⟩
  have FR2 : Hid (Fr w w5 [(w3.heap.size, pm, px)]) := Lib.hid (FR.out.later hx)
  clear cx0 cx1
  clear hx FR; have FR := FR2; clear FR2
  have cx0 := FR.out.c0 (b := w3.heap.size) (.head _); have cx1 := FR.out.c1 (b := w3.heap.size) (.head _)
  go_wp2_with fail
  refine (NG _).mono ?_
  rintro e w6 ⟨rfl, hx⟩
  have FR2 : Hid (Fr w w6 [(w3.heap.size, pm, px)]) := Lib.hid (FR.out.later hx)
  clear cx0 cx1
  clear hx FR; have FR := FR2; clear FR2
  go_wp2_with fail
  refine (RC _).mono ?_
  rintro e w7 ⟨rfl, hx⟩
  have FR2 : Hid (Fr w w7 [(w6.heap.size, gm, gx), (w3.heap.size, pm, px)]) := Lib.hid ((FR.out.lay (gm) (gx) 23).later hx)
  clear hx FR; have FR := FR2; clear FR2
  go_upto_region 16 with (fail)
  have HT0 : Fr w w7 [(w6.heap.size, gm, gx), (w3.heap.size, pm, px)] := FR.out
  refine wp_region_S (fun u : World => Fr w u [(w6.heap.size, gm, gx), (w3.heap.size, pm, px)]) 8 (by kernel_rfl) ?_
  have HS := HT0.later (Ext.refl _).drew
  clear HT0 FR
  refine GoS.take (i := 2) (v := ?_) rfl (by kernel_rfl) (by kernel_rfl) (by kernel_rfl) (by kernel_rfl) (fun _ _ _ h => h) (Or.inl ⟨by rfl, ?hy58⟩) HS ?_
  case hy58 => ((intro u' hT; have dx0 := hT.c0 (b := w3.heap.size) (.tail _ (.head _)); have dx1 := hT.c1 (b := w3.heap.size) (.tail _ (.head _)); go_simp); try with_reducible rfl)
  try simp only [List.getElem_toArray, List.getElem_cons_succ, List.getElem_cons_zero, Act.put, List.setIfInBounds_toArray, List.set_cons_zero, List.set_cons_succ]
  refine GoS.pure (i := 0) (v := ?_) rfl (by kernel_rfl) (by kernel_rfl) (by kernel_rfl) (by kernel_rfl) (fun _ _ _ h => h) (Or.inl ⟨by rfl, ?hy59⟩) (fun _ => HS) ?_
  case hy59 => ((intro u' hT; go_simp); try with_reducible rfl)
  try simp only [List.getElem_toArray, List.getElem_cons_zero, Act.put, List.setIfInBounds_toArray, List.set_cons_zero, List.set_cons_succ]
  refine GoS.one (i := 1) (by kernel_rfl) rfl (fun K hK => ?_)
  go_simp
  (with_reducible refine (FA.call _).mono ?_)
  rintro e q60 ⟨rfl, hx60⟩
  have HS2 := HS.later hx60
  clear HS; have HS := HS2; clear HS2 hx60
  go_wp2_with fail
  refine hK.out _ _ HS (fun _ => ?_)
  clear hK K
  try simp only [List.getElem_toArray, List.getElem_cons_succ, List.getElem_cons_zero, Act.put, List.setIfInBounds_toArray, List.set_cons_zero, List.set_cons_succ]
  refine GoS.one (i := 3) (by kernel_rfl) rfl (fun K hK => ?_)
  go_simp
  (with_reducible refine (CL.call _).mono ?_)
  rintro e q61 ⟨rfl, hx61⟩
  have HS2 := HS.later hx61
  clear HS; have HS := HS2; clear HS2 hx61
  go_wp2_with fail
  refine hK.out _ _ HS (fun _ => ?_)
  clear hK K
  try simp only [List.getElem_toArray, List.getElem_cons_succ, List.getElem_cons_zero, Act.put, List.setIfInBounds_toArray, List.set_cons_zero, List.set_cons_succ]
  refine GoS.pure (i := 4) (v := ?_) rfl (by kernel_rfl) (by kernel_rfl) (by kernel_rfl) (by kernel_rfl) (fun _ _ _ h => h) (Or.inl ⟨by rfl, ?hy62⟩) (fun _ => HS) ?_
  case hy62 => ((intro u' hT; go_simp); try with_reducible rfl)
  try simp only [List.getElem_toArray, List.getElem_cons_succ, List.getElem_cons_zero, Act.put, List.setIfInBounds_toArray, List.set_cons_zero, List.set_cons_succ]
  refine GoS.pure (i := 5) (v := ?_) rfl (by kernel_rfl) (by kernel_rfl) (by kernel_rfl) (by kernel_rfl) (fun _ _ _ h => h) (Or.inl ⟨by rfl, ?hy63⟩) (fun _ => HS) ?_
  case hy63 => ((intro u' hT; go_simp); try with_reducible rfl)
  try simp only [List.getElem_toArray, List.getElem_cons_succ, List.getElem_cons_zero, Act.put, List.setIfInBounds_toArray, List.set_cons_zero, List.set_cons_succ]
  refine GoS.pure (i := 6) (v := ?_) rfl (by kernel_rfl) (by kernel_rfl) (by kernel_rfl) (by kernel_rfl) (fun _ _ _ h => h) (Or.inl ⟨by rfl, ?hy64⟩) (fun _ => HS) ?_
  case hy64 => ((intro u' hT; go_simp); try with_reducible rfl)
  try simp only [List.getElem_toArray, List.getElem_cons_succ, List.getElem_cons_zero, Act.put, List.setIfInBounds_toArray, List.set_cons_zero, List.set_cons_succ]
  refine GoS.pure (i := 7) (v := ?_) rfl (by kernel_rfl) (by kernel_rfl) (by kernel_rfl) (by kernel_rfl) (fun _ _ _ h => h) (Or.inl ⟨by rfl, ?hy65⟩) (fun _ => HS) ?_
  case hy65 => ((intro u' hT; go_simp); try with_reducible rfl)
  try simp only [List.getElem_toArray, List.getElem_cons_succ, List.getElem_cons_zero, Act.put, List.setIfInBounds_toArray, List.set_cons_zero, List.set_cons_succ]
  refine GoS.store (i := 8) (by kernel_rfl) rfl (by kernel_rfl) (fun K hK => ?_)
  go_simp
  refine hK.out _ _ ?_
  clear hK K
  try simp only [List.getElem_toArray, List.getElem_cons_succ, List.getElem_cons_zero, Act.put, List.setIfInBounds_toArray, List.set_cons_zero, List.set_cons_succ]
  refine GoS.done (by kernel_rfl) ?_
  have FR := Lib.hid HS; clear HS
  go_upto_region 17 with (fail)
  have HT0 : Fr w q61 [(w6.heap.size, gm, gx), (w3.heap.size, pm, px)] := FR.out
  refine wp_region_S (fun u : World => Fr w u [(w6.heap.size, gm, gx), (w3.heap.size, pm, px)]) 9 (by kernel_rfl) ?_
  have HS := HT0.later (Ext.refl _).drew
  clear HT0 FR
  refine GoS.take (i := 0) (v := ?_) rfl (by kernel_rfl) (by kernel_rfl) (by kernel_rfl) (by kernel_rfl) (fun _ _ _ h => h) (Or.inl ⟨by rfl, ?hy66⟩) HS ?_
  case hy66 => ((intro u' hT; have dx0 := hT.c0 (b := w3.heap.size) (.tail _ (.head _)); have dx1 := hT.c1 (b := w3.heap.size) (.tail _ (.head _)); go_simp); try with_reducible rfl)
  try simp only [List.getElem_toArray, List.getElem_cons_zero, Act.put, List.setIfInBounds_toArray, List.set_cons_zero, List.set_cons_succ]
  refine GoS.pure (i := 1) (v := ?_) rfl (by kernel_rfl) (by kernel_rfl) (by kernel_rfl) (by kernel_rfl) (fun _ _ _ h => h) (Or.inl ⟨by rfl, ?hy67⟩) (fun _ => HS) ?_
  case hy67 => ((intro u' hT; go_simp); try with_reducible rfl)
  try simp only [List.getElem_toArray, List.getElem_cons_succ, List.getElem_cons_zero, Act.put, List.setIfInBounds_toArray, List.set_cons_zero, List.set_cons_succ]
  refine GoS.pure (i := 2) (v := ?_) rfl (by kernel_rfl) (by kernel_rfl) (by kernel_rfl) (by kernel_rfl) (fun _ _ _ h => h) (Or.inl ⟨by rfl, ?hy68⟩) (fun _ => HS) ?_
  case hy68 => ((intro u' hT; go_simp); try with_reducible rfl)
  try simp only [List.getElem_toArray, List.getElem_cons_succ, List.getElem_cons_zero, Act.put, List.setIfInBounds_toArray, List.set_cons_zero, List.set_cons_succ]
  refine GoS.one (i := 3) (by kernel_rfl) rfl (fun K hK => ?_)
  go_simp
  (with_reducible refine (FB.call _).mono ?_)
  rintro e q69 ⟨rfl, hx69⟩
  have HS2 := HS.later hx69
  clear HS; have HS := HS2; clear HS2 hx69
  go_wp2_with fail
  refine hK.out _ _ HS (fun _ => ?_)
  clear hK K
  try simp only [List.getElem_toArray, List.getElem_cons_succ, List.getElem_cons_zero, Act.put, List.setIfInBounds_toArray, List.set_cons_zero, List.set_cons_succ]
  refine GoS.one (i := 4) (by kernel_rfl) rfl (fun K hK => ?_)
  go_simp
  (with_reducible refine (CH.call _).mono ?_)
  rintro e q70 ⟨rfl, hx70⟩
  have HS2 := HS.later hx70
  clear HS; have HS := HS2; clear HS2 hx70
  go_wp2_with fail
  refine hK.out _ _ HS (fun _ => ?_)
  clear hK K
  try simp only [List.getElem_toArray, List.getElem_cons_succ, List.getElem_cons_zero, Act.put, List.setIfInBounds_toArray, List.set_cons_zero, List.set_cons_succ]
  refine GoS.pure (i := 5) (v := ?_) rfl (by kernel_rfl) (by kernel_rfl) (by kernel_rfl) (by kernel_rfl) (fun _ _ _ h => h) (Or.inl ⟨by rfl, ?hy71⟩) (fun _ => HS) ?_
  case hy71 => ((intro u' hT; go_simp); try with_reducible rfl)
  try simp only [List.getElem_toArray, List.getElem_cons_succ, List.getElem_cons_zero, Act.put, List.setIfInBounds_toArray, List.set_cons_zero, List.set_cons_succ]
  refine GoS.pure (i := 6) (v := ?_) rfl (by kernel_rfl) (by kernel_rfl) (by kernel_rfl) (by kernel_rfl) (fun _ _ _ h => h) (Or.inl ⟨by rfl, ?hy72⟩) (fun _ => HS) ?_
  case hy72 => ((intro u' hT; go_simp); try with_reducible rfl)
  try simp only [List.getElem_toArray, List.getElem_cons_succ, List.getElem_cons_zero, Act.put, List.setIfInBounds_toArray, List.set_cons_zero, List.set_cons_succ]
  refine GoS.pure (i := 7) (v := ?_) rfl (by kernel_rfl) (by kernel_rfl) (by kernel_rfl) (by kernel_rfl) (fun _ _ _ h => h) (Or.inl ⟨by rfl, ?hy73⟩) (fun _ => HS) ?_
  case hy73 => ((intro u' hT; go_simp); try with_reducible rfl)
  try simp only [List.getElem_toArray, List.getElem_cons_succ, List.getElem_cons_zero, Act.put, List.setIfInBounds_toArray, List.set_cons_zero, List.set_cons_succ]
  refine GoS.pure (i := 8) (v := ?_) rfl (by kernel_rfl) (by kernel_rfl) (by kernel_rfl) (by kernel_rfl) (fun _ _ _ h => h) (Or.inl ⟨by rfl, ?hy74⟩) (fun _ => HS) ?_
  case hy74 => ((intro u' hT; go_simp); try with_reducible rfl)
  try simp only [List.getElem_toArray, List.getElem_cons_succ, List.getElem_cons_zero, Act.put, List.setIfInBounds_toArray, List.set_cons_zero, List.set_cons_succ]
  refine GoS.store (i := 9) (by kernel_rfl) rfl (by kernel_rfl) (fun K hK => ?_)
  go_simp
  refine hK.out _ _ ?_
  clear hK K
  try simp only [List.getElem_toArray, List.getElem_cons_succ, List.getElem_cons_zero, Act.put, List.setIfInBounds_toArray, List.set_cons_zero, List.set_cons_succ]
  refine GoS.done (by kernel_rfl) ?_
  have FR := Lib.hid HS; clear HS
  go_upto_region 18 with (fail)
  have HT0 : Fr w q70 [(w6.heap.size, gm, gx), (w3.heap.size, pm, px)] := FR.out
  refine wp_region_S (fun u : World => Fr w u [(w6.heap.size, gm, gx), (w3.heap.size, pm, px)]) 8 (by kernel_rfl) ?_
  have HS := HT0.later (Ext.refl _).drew
  clear HT0 FR
  refine GoS.take (i := 0) (v := ?_) rfl (by kernel_rfl) (by kernel_rfl) (by kernel_rfl) (by kernel_rfl) (fun _ _ _ h => h) (Or.inl ⟨by rfl, ?hy75⟩) HS ?_
  case hy75 => ((intro u' hT; have dx0 := hT.c0 (b := w3.heap.size) (.tail _ (.head _)); have dx1 := hT.c1 (b := w3.heap.size) (.tail _ (.head _)); go_simp); try with_reducible rfl)
  try simp only [List.getElem_toArray, List.getElem_cons_zero, Act.put, List.setIfInBounds_toArray, List.set_cons_zero, List.set_cons_succ]
  refine GoS.pure (i := 1) (v := ?_) rfl (by kernel_rfl) (by kernel_rfl) (by kernel_rfl) (by kernel_rfl) (fun _ _ _ h => h) (Or.inl ⟨by rfl, ?hy76⟩) (fun _ => HS) ?_
  case hy76 => ((intro u' hT; go_simp); try with_reducible rfl)
  try simp only [List.getElem_toArray, List.getElem_cons_succ, List.getElem_cons_zero, Act.put, List.setIfInBounds_toArray, List.set_cons_zero, List.set_cons_succ]
  refine GoS.two (i := 2) (j := 7) (by kernel_rfl) rfl rfl (fun K hK => ?_) (fun K hK => ?_)
  · skip
    go_simp
    (with_reducible refine (FA.call _).mono ?_)
    rintro e q77 ⟨rfl, hx77⟩
    have HS2 := HS.later hx77
    clear HS; have HS := HS2; clear HS2 hx77
    go_wp2_with fail
    refine hK.out _ _ HS (fun _ => ?_)
    clear hK K
    try simp only [List.getElem_toArray, List.getElem_cons_succ, List.getElem_cons_zero, Act.put, List.setIfInBounds_toArray, List.set_cons_zero, List.set_cons_succ]
    refine GoS.two (i := 3) (j := 7) (by kernel_rfl) rfl rfl (fun K hK => ?_) (fun K hK => ?_)
    · skip
      go_simp
      (with_reducible refine (SU.call _).mono ?_)
      rintro e q78 ⟨rfl, hx78⟩
      have HS2 := HS.later hx78
      clear HS; have HS := HS2; clear HS2 hx78
      go_wp2_with fail
      refine hK.out _ _ HS (fun _ => ?_)
      clear hK K
      try simp only [List.getElem_toArray, List.getElem_cons_succ, List.getElem_cons_zero, Act.put, List.setIfInBounds_toArray, List.set_cons_zero, List.set_cons_succ]
      refine GoS.pure (i := 4) (v := ?_) rfl (by kernel_rfl) (by kernel_rfl) (by kernel_rfl) (by kernel_rfl) (fun _ _ _ h => h) (Or.inl ⟨by rfl, ?hy79⟩) (fun _ => HS) ?_
      case hy79 => ((intro u' hT; go_simp); try with_reducible rfl)
      try simp only [List.getElem_toArray, List.getElem_cons_succ, List.getElem_cons_zero, Act.put, List.setIfInBounds_toArray, List.set_cons_zero, List.set_cons_succ]
      refine GoS.pure (i := 5) (v := ?_) rfl (by kernel_rfl) (by kernel_rfl) (by kernel_rfl) (by kernel_rfl) (fun _ _ _ h => h) (Or.inl ⟨by rfl, ?hy80⟩) (fun _ => HS) ?_
      case hy80 => ((intro u' hT; go_simp); try with_reducible rfl)
      try simp only [List.getElem_toArray, List.getElem_cons_succ, List.getElem_cons_zero, Act.put, List.setIfInBounds_toArray, List.set_cons_zero, List.set_cons_succ]
      refine GoS.pure (i := 6) (v := ?_) rfl (by kernel_rfl) (by kernel_rfl) (by kernel_rfl) (by kernel_rfl) (fun _ _ _ h => h) (Or.inl ⟨by rfl, ?hy81⟩) (fun _ => HS) ?_
      case hy81 => ((intro u' hT; go_simp); try with_reducible rfl)
      try simp only [List.getElem_toArray, List.getElem_cons_succ, List.getElem_cons_zero, Act.put, List.setIfInBounds_toArray, List.set_cons_zero, List.set_cons_succ]
      refine GoS.one (i := 7) (by kernel_rfl) rfl (fun K hK => ?_)
      go_simp
      have HQ := HS
      have FQ := Lib.hid (HS.lay 0 0 23)
      have HS2 := HS.later ((Ext.refl _).alloc (.cells #[.int .i64 0, .int .i64 0] 23))
      clear HS; have HS := HS2; clear HS2
      refine hK.out _ _ HS (fun _ => ?_)
      clear hK K
      try simp only [List.getElem_toArray, List.getElem_cons_succ, List.getElem_cons_zero, Act.put, List.setIfInBounds_toArray, List.set_cons_zero, List.set_cons_succ]
      refine GoS.store (i := 8) (by kernel_rfl) rfl (by kernel_rfl) (fun K hK => ?_)
      have st0 := FQ.out.c0 (b := q78.heap.size) (.head _); have st1 := FQ.out.c1 (b := q78.heap.size) (.head _); have stf := FQ.out.fz (b := q78.heap.size) (.head _)
      go_simp
      have FR := Lib.hid (HQ.lay (dm) (dx) 23); clear FQ HQ st0 st1 stf
      refine hK.out _ _ ?_
      clear hK K
      try simp only [List.getElem_toArray, List.getElem_cons_succ, List.getElem_cons_zero, Act.put, List.setIfInBounds_toArray, List.set_cons_zero, List.set_cons_succ]
      refine GoS.behind (i := 9) (v := ?_) rfl (by kernel_rfl) (by kernel_rfl) (by kernel_rfl) (by kernel_rfl) (fun _ _ _ h => h) (Or.inl ⟨by rfl, ?hy82⟩) (by kernel_rfl) ?_
      case hy82 => ((intro u' hT; go_simp); try with_reducible rfl)
      try simp only [List.getElem_toArray, List.getElem_cons_succ, List.getElem_cons_zero, Act.put, List.setIfInBounds_toArray, List.set_cons_zero, List.set_cons_succ]
      refine GoS.done (by kernel_rfl) ?_
      have FR2 : Hid (Fr w (q78.alloc (.cells #[.int .i64 (dm), .int .i64 (dx)] 23)) [(q78.heap.size, dm, dx), (w6.heap.size, gm, gx), (w3.heap.size, pm, px)]) := FR; clear FR; have FR := FR2; clear FR2
      clear HS; revert FR; generalize (q78.alloc (.cells #[.int .i64 (dm), .int .i64 (dx)] 23)) = z1; intro FR
      go_upto_region 19 with (fail)
      have HT0 : Fr w z1 [(q78.heap.size, dm, dx), (w6.heap.size, gm, gx), (w3.heap.size, pm, px)] := FR.out
      refine wp_region_S (fun u : World => Fr w u [(q78.heap.size, dm, dx), (w6.heap.size, gm, gx), (w3.heap.size, pm, px)]) 7 (by kernel_rfl) ?_
      have HS := HT0.later (Ext.refl _).drew
      clear HT0 FR
      refine GoS.take (i := 0) (v := ?_) rfl (by kernel_rfl) (by kernel_rfl) (by kernel_rfl) (by kernel_rfl) (fun _ _ _ h => h) (Or.inl ⟨by rfl, ?hy83⟩) HS ?_
      case hy83 => ((intro u' hT; have dd0 := hT.c0 (b := q78.heap.size) (.head _); have dd1 := hT.c1 (b := q78.heap.size) (.head _); go_simp); try with_reducible rfl)
      try simp only [List.getElem_toArray, List.getElem_cons_zero, Act.put, List.setIfInBounds_toArray, List.set_cons_zero, List.set_cons_succ]
      refine GoS.one (i := 1) (by kernel_rfl) rfl (fun K hK => ?_)
      go_simp
      (with_reducible refine (TW.call _).mono ?_)
      rintro e q84 ⟨rfl, hx84⟩
      have HS2 := HS.later hx84
      clear HS; have HS := HS2; clear HS2 hx84
      go_wp2_with fail
      refine hK.out _ _ HS (fun _ => ?_)
      clear hK K
      try simp only [List.getElem_toArray, List.getElem_cons_succ, List.getElem_cons_zero, Act.put, List.setIfInBounds_toArray, List.set_cons_zero, List.set_cons_succ]
      refine GoS.one (i := 2) (by kernel_rfl) rfl (fun K hK => ?_)
      go_simp
      (with_reducible refine (CD.call _).mono ?_)
      rintro e q85 ⟨rfl, hx85⟩
      have HS2 := HS.later hx85
      clear HS; have HS := HS2; clear HS2 hx85
      go_wp2_with fail
      refine hK.out _ _ HS (fun _ => ?_)
      clear hK K
      try simp only [List.getElem_toArray, List.getElem_cons_succ, List.getElem_cons_zero, Act.put, List.setIfInBounds_toArray, List.set_cons_zero, List.set_cons_succ]
      refine GoS.pure (i := 3) (v := ?_) rfl (by kernel_rfl) (by kernel_rfl) (by kernel_rfl) (by kernel_rfl) (fun _ _ _ h => h) (Or.inl ⟨by rfl, ?hy86⟩) (fun _ => HS) ?_
      case hy86 => ((intro u' hT; go_simp); try with_reducible rfl)
      try simp only [List.getElem_toArray, List.getElem_cons_succ, List.getElem_cons_zero, Act.put, List.setIfInBounds_toArray, List.set_cons_zero, List.set_cons_succ]
      refine GoS.pure (i := 4) (v := ?_) rfl (by kernel_rfl) (by kernel_rfl) (by kernel_rfl) (by kernel_rfl) (fun _ _ _ h => h) (Or.inl ⟨by rfl, ?hy87⟩) (fun _ => HS) ?_
      case hy87 => ((intro u' hT; go_simp); try with_reducible rfl)
      try simp only [List.getElem_toArray, List.getElem_cons_succ, List.getElem_cons_zero, Act.put, List.setIfInBounds_toArray, List.set_cons_zero, List.set_cons_succ]
      refine GoS.pure (i := 5) (v := ?_) rfl (by kernel_rfl) (by kernel_rfl) (by kernel_rfl) (by kernel_rfl) (fun _ _ _ h => h) (Or.inl ⟨by rfl, ?hy88⟩) (fun _ => HS) ?_
      case hy88 => ((intro u' hT; go_simp); try with_reducible rfl)
      try simp only [List.getElem_toArray, List.getElem_cons_succ, List.getElem_cons_zero, Act.put, List.setIfInBounds_toArray, List.set_cons_zero, List.set_cons_succ]
      refine GoS.pure (i := 6) (v := ?_) rfl (by kernel_rfl) (by kernel_rfl) (by kernel_rfl) (by kernel_rfl) (fun _ _ _ h => h) (Or.inl ⟨by rfl, ?hy89⟩) (fun _ => HS) ?_
      case hy89 => ((intro u' hT; go_simp); try with_reducible rfl)
      try simp only [List.getElem_toArray, List.getElem_cons_succ, List.getElem_cons_zero, Act.put, List.setIfInBounds_toArray, List.set_cons_zero, List.set_cons_succ]
      refine GoS.store (i := 7) (by kernel_rfl) rfl (by kernel_rfl) (fun K hK => ?_)
      go_simp
      refine hK.out _ _ ?_
      clear hK K
      try simp only [List.getElem_toArray, List.getElem_cons_succ, List.getElem_cons_zero, Act.put, List.setIfInBounds_toArray, List.set_cons_zero, List.set_cons_succ]
      refine GoS.done (by kernel_rfl) ?_
      have FR := Lib.hid HS; clear HS
      go_wp2_with fail
      refine (SN _ (HT.out.later FR.out.x)).mono ?_
      rintro e w8 ⟨rfl, hx⟩
      have FR2 : Hid (Fr w w8 [(q78.heap.size, dm, dx), (w6.heap.size, gm, gx), (w3.heap.size, pm, px)]) := Lib.hid (FR.out.later hx)
      clear hx FR; have FR := FR2; clear FR2
      go_wp2
      go_ret
      exact ⟨rfl, FR.out.x⟩
    · skip
      go_simp
      have HQ := HS
      have FQ := Lib.hid (HS.lay 0 0 23)
      have HS2 := HS.later ((Ext.refl _).alloc (.cells #[.int .i64 0, .int .i64 0] 23))
      clear HS; have HS := HS2; clear HS2
      refine hK.out _ _ HS (fun _ => ?_)
      clear hK K
      try simp only [List.getElem_toArray, List.getElem_cons_succ, List.getElem_cons_zero, Act.put, List.setIfInBounds_toArray, List.set_cons_zero, List.set_cons_succ]
      refine GoS.one (i := 3) (by kernel_rfl) rfl (fun K hK => ?_)
      go_simp
      (with_reducible refine (SU.call _).mono ?_)
      rintro e q90 ⟨rfl, hx90⟩
      have HS2 := HS.later hx90
      have FQ2 := Lib.hid (FQ.out.later hx90); clear FQ; have FQ := FQ2; clear FQ2
      clear HS; have HS := HS2; clear HS2 hx90
      go_wp2_with fail
      refine hK.out _ _ HS (fun _ => ?_)
      clear hK K
      try simp only [List.getElem_toArray, List.getElem_cons_succ, List.getElem_cons_zero, Act.put, List.setIfInBounds_toArray, List.set_cons_zero, List.set_cons_succ]
      refine GoS.pure (i := 4) (v := ?_) rfl (by kernel_rfl) (by kernel_rfl) (by kernel_rfl) (by kernel_rfl) (fun _ _ _ h => h) (Or.inl ⟨by rfl, ?hy91⟩) (fun _ => HS) ?_
      case hy91 => ((intro u' hT; go_simp); try with_reducible rfl)
      try simp only [List.getElem_toArray, List.getElem_cons_succ, List.getElem_cons_zero, Act.put, List.setIfInBounds_toArray, List.set_cons_zero, List.set_cons_succ]
      refine GoS.pure (i := 5) (v := ?_) rfl (by kernel_rfl) (by kernel_rfl) (by kernel_rfl) (by kernel_rfl) (fun _ _ _ h => h) (Or.inl ⟨by rfl, ?hy92⟩) (fun _ => HS) ?_
      case hy92 => ((intro u' hT; go_simp); try with_reducible rfl)
      try simp only [List.getElem_toArray, List.getElem_cons_succ, List.getElem_cons_zero, Act.put, List.setIfInBounds_toArray, List.set_cons_zero, List.set_cons_succ]
      refine GoS.pure (i := 6) (v := ?_) rfl (by kernel_rfl) (by kernel_rfl) (by kernel_rfl) (by kernel_rfl) (fun _ _ _ h => h) (Or.inl ⟨by rfl, ?hy93⟩) (fun _ => HS) ?_
      case hy93 => ((intro u' hT; go_simp); try with_reducible rfl)
      try simp only [List.getElem_toArray, List.getElem_cons_succ, List.getElem_cons_zero, Act.put, List.setIfInBounds_toArray, List.set_cons_zero, List.set_cons_succ]
      refine GoS.store (i := 8) (by kernel_rfl) rfl (by kernel_rfl) (fun K hK => ?_)
      have st0 := FQ.out.c0 (b := q77.heap.size) (.head _); have st1 := FQ.out.c1 (b := q77.heap.size) (.head _); have stf := FQ.out.fz (b := q77.heap.size) (.head _)
      go_simp
      have FR := Lib.hid (FQ.out.set 0 rfl (dm) (dx)); clear FQ HQ st0 st1 stf
      refine hK.out _ _ ?_
      clear hK K
      try simp only [List.getElem_toArray, List.getElem_cons_succ, List.getElem_cons_zero, Act.put, List.setIfInBounds_toArray, List.set_cons_zero, List.set_cons_succ]
      refine GoS.behind (i := 9) (v := ?_) rfl (by kernel_rfl) (by kernel_rfl) (by kernel_rfl) (by kernel_rfl) (fun _ _ _ h => h) (Or.inl ⟨by rfl, ?hy94⟩) (by kernel_rfl) ?_
      case hy94 => ((intro u' hT; go_simp); try with_reducible rfl)
      try simp only [List.getElem_toArray, List.getElem_cons_succ, List.getElem_cons_zero, Act.put, List.setIfInBounds_toArray, List.set_cons_zero, List.set_cons_succ]
      refine GoS.done (by kernel_rfl) ?_
      have FR2 : Hid (Fr w ((q90.setCell ⟨q77.heap.size, 0, none⟩ (.int .i64 (dm))).setCell ⟨q77.heap.size, 1, none⟩ (.int .i64 (dx))) [(q77.heap.size, dm, dx), (w6.heap.size, gm, gx), (w3.heap.size, pm, px)]) := FR; clear FR; have FR := FR2; clear FR2
      clear HS; revert FR; generalize ((q90.setCell ⟨q77.heap.size, 0, none⟩ (.int .i64 (dm))).setCell ⟨q77.heap.size, 1, none⟩ (.int .i64 (dx))) = z2; intro FR
      go_upto_region 19 with (fail)
      have HT0 : Fr w z2 [(q77.heap.size, dm, dx), (w6.heap.size, gm, gx), (w3.heap.size, pm, px)] := FR.out
      refine wp_region_S (fun u : World => Fr w u [(q77.heap.size, dm, dx), (w6.heap.size, gm, gx), (w3.heap.size, pm, px)]) 7 (by kernel_rfl) ?_
      have HS := HT0.later (Ext.refl _).drew
      clear HT0 FR
      refine GoS.take (i := 0) (v := ?_) rfl (by kernel_rfl) (by kernel_rfl) (by kernel_rfl) (by kernel_rfl) (fun _ _ _ h => h) (Or.inl ⟨by rfl, ?hy95⟩) HS ?_
      case hy95 => ((intro u' hT; have dd0 := hT.c0 (b := q77.heap.size) (.head _); have dd1 := hT.c1 (b := q77.heap.size) (.head _); go_simp); try with_reducible rfl)
      try simp only [List.getElem_toArray, List.getElem_cons_zero, Act.put, List.setIfInBounds_toArray, List.set_cons_zero, List.set_cons_succ]
      refine GoS.one (i := 1) (by kernel_rfl) rfl (fun K hK => ?_)
      go_simp
      (with_reducible refine (TW.call _).mono ?_)
      rintro e q96 ⟨rfl, hx96⟩
      have HS2 := HS.later hx96
      clear HS; have HS := HS2; clear HS2 hx96
      go_wp2_with fail
      refine hK.out _ _ HS (fun _ => ?_)
      clear hK K
      try simp only [List.getElem_toArray, List.getElem_cons_succ, List.getElem_cons_zero, Act.put, List.setIfInBounds_toArray, List.set_cons_zero, List.set_cons_succ]
      refine GoS.one (i := 2) (by kernel_rfl) rfl (fun K hK => ?_)
      go_simp
      (with_reducible refine (CD.call _).mono ?_)
      rintro e q97 ⟨rfl, hx97⟩
      have HS2 := HS.later hx97
      clear HS; have HS := HS2; clear HS2 hx97
      go_wp2_with fail
      refine hK.out _ _ HS (fun _ => ?_)
      clear hK K
      try simp only [List.getElem_toArray, List.getElem_cons_succ, List.getElem_cons_zero, Act.put, List.setIfInBounds_toArray, List.set_cons_zero, List.set_cons_succ]
      refine GoS.pure (i := 3) (v := ?_) rfl (by kernel_rfl) (by kernel_rfl) (by kernel_rfl) (by kernel_rfl) (fun _ _ _ h => h) (Or.inl ⟨by rfl, ?hy98⟩) (fun _ => HS) ?_
      case hy98 => ((intro u' hT; go_simp); try with_reducible rfl)
      try simp only [List.getElem_toArray, List.getElem_cons_succ, List.getElem_cons_zero, Act.put, List.setIfInBounds_toArray, List.set_cons_zero, List.set_cons_succ]
      refine GoS.pure (i := 4) (v := ?_) rfl (by kernel_rfl) (by kernel_rfl) (by kernel_rfl) (by kernel_rfl) (fun _ _ _ h => h) (Or.inl ⟨by rfl, ?hy99⟩) (fun _ => HS) ?_
      case hy99 => ((intro u' hT; go_simp); try with_reducible rfl)
      try simp only [List.getElem_toArray, List.getElem_cons_succ, List.getElem_cons_zero, Act.put, List.setIfInBounds_toArray, List.set_cons_zero, List.set_cons_succ]
      refine GoS.pure (i := 5) (v := ?_) rfl (by kernel_rfl) (by kernel_rfl) (by kernel_rfl) (by kernel_rfl) (fun _ _ _ h => h) (Or.inl ⟨by rfl, ?hy100⟩) (fun _ => HS) ?_
      case hy100 => ((intro u' hT; go_simp); try with_reducible rfl)
      try simp only [List.getElem_toArray, List.getElem_cons_succ, List.getElem_cons_zero, Act.put, List.setIfInBounds_toArray, List.set_cons_zero, List.set_cons_succ]
      refine GoS.pure (i := 6) (v := ?_) rfl (by kernel_rfl) (by kernel_rfl) (by kernel_rfl) (by kernel_rfl) (fun _ _ _ h => h) (Or.inl ⟨by rfl, ?hy101⟩) (fun _ => HS) ?_
      case hy101 => ((intro u' hT; go_simp); try with_reducible rfl)
      try simp only [List.getElem_toArray, List.getElem_cons_succ, List.getElem_cons_zero, Act.put, List.setIfInBounds_toArray, List.set_cons_zero, List.set_cons_succ]
      refine GoS.store (i := 7) (by kernel_rfl) rfl (by kernel_rfl) (fun K hK => ?_)
      go_simp
      refine hK.out _ _ ?_
      clear hK K
      try simp only [List.getElem_toArray, List.getElem_cons_succ, List.getElem_cons_zero, Act.put, List.setIfInBounds_toArray, List.set_cons_zero, List.set_cons_succ]
      refine GoS.done (by kernel_rfl) ?_
      have FR := Lib.hid HS; clear HS
      go_wp2_with fail
      refine (SN _ (HT.out.later FR.out.x)).mono ?_
      rintro e w8 ⟨rfl, hx⟩
      have FR2 : Hid (Fr w w8 [(q77.heap.size, dm, dx), (w6.heap.size, gm, gx), (w3.heap.size, pm, px)]) := Lib.hid (FR.out.later hx)
      clear hx FR; have FR := FR2; clear FR2
      go_wp2
      go_ret
      exact ⟨rfl, FR.out.x⟩
  · skip
    go_simp
    have HQ := HS
    have FQ := Lib.hid (HS.lay 0 0 23)
    have HS2 := HS.later ((Ext.refl _).alloc (.cells #[.int .i64 0, .int .i64 0] 23))
    clear HS; have HS := HS2; clear HS2
    refine hK.out _ _ HS (fun _ => ?_)
    clear hK K
    try simp only [List.getElem_toArray, List.getElem_cons_succ, List.getElem_cons_zero, Act.put, List.setIfInBounds_toArray, List.set_cons_zero, List.set_cons_succ]
    refine GoS.one (i := 2) (by kernel_rfl) rfl (fun K hK => ?_)
    go_simp
    (with_reducible refine (FA.call _).mono ?_)
    rintro e q102 ⟨rfl, hx102⟩
    have HS2 := HS.later hx102
    have FQ2 := Lib.hid (FQ.out.later hx102); clear FQ; have FQ := FQ2; clear FQ2
    clear HS; have HS := HS2; clear HS2 hx102
    go_wp2_with fail
    refine hK.out _ _ HS (fun _ => ?_)
    clear hK K
    try simp only [List.getElem_toArray, List.getElem_cons_succ, List.getElem_cons_zero, Act.put, List.setIfInBounds_toArray, List.set_cons_zero, List.set_cons_succ]
    refine GoS.one (i := 3) (by kernel_rfl) rfl (fun K hK => ?_)
    go_simp
    (with_reducible refine (SU.call _).mono ?_)
    rintro e q103 ⟨rfl, hx103⟩
    have HS2 := HS.later hx103
    have FQ2 := Lib.hid (FQ.out.later hx103); clear FQ; have FQ := FQ2; clear FQ2
    clear HS; have HS := HS2; clear HS2 hx103
    go_wp2_with fail
    refine hK.out _ _ HS (fun _ => ?_)
    clear hK K
    try simp only [List.getElem_toArray, List.getElem_cons_succ, List.getElem_cons_zero, Act.put, List.setIfInBounds_toArray, List.set_cons_zero, List.set_cons_succ]
    refine GoS.pure (i := 4) (v := ?_) rfl (by kernel_rfl) (by kernel_rfl) (by kernel_rfl) (by kernel_rfl) (fun _ _ _ h => h) (Or.inl ⟨by rfl, ?hy104⟩) (fun _ => HS) ?_
    case hy104 => ((intro u' hT; go_simp); try with_reducible rfl)
    try simp only [List.getElem_toArray, List.getElem_cons_succ, List.getElem_cons_zero, Act.put, List.setIfInBounds_toArray, List.set_cons_zero, List.set_cons_succ]
    refine GoS.pure (i := 5) (v := ?_) rfl (by kernel_rfl) (by kernel_rfl) (by kernel_rfl) (by kernel_rfl) (fun _ _ _ h => h) (Or.inl ⟨by rfl, ?hy105⟩) (fun _ => HS) ?_
    case hy105 => ((intro u' hT; go_simp); try with_reducible rfl)
    try simp only [List.getElem_toArray, List.getElem_cons_succ, List.getElem_cons_zero, Act.put, List.setIfInBounds_toArray, List.set_cons_zero, List.set_cons_succ]
    refine GoS.pure (i := 6) (v := ?_) rfl (by kernel_rfl) (by kernel_rfl) (by kernel_rfl) (by kernel_rfl) (fun _ _ _ h => h) (Or.inl ⟨by rfl, ?hy106⟩) (fun _ => HS) ?_
    case hy106 => ((intro u' hT; go_simp); try with_reducible rfl)
    try simp only [List.getElem_toArray, List.getElem_cons_succ, List.getElem_cons_zero, Act.put, List.setIfInBounds_toArray, List.set_cons_zero, List.set_cons_succ]
    refine GoS.store (i := 8) (by kernel_rfl) rfl (by kernel_rfl) (fun K hK => ?_)
    have st0 := FQ.out.c0 (b := q70.heap.size) (.head _); have st1 := FQ.out.c1 (b := q70.heap.size) (.head _); have stf := FQ.out.fz (b := q70.heap.size) (.head _)
    go_simp
    have FR := Lib.hid (FQ.out.set 0 rfl (dm) (dx)); clear FQ HQ st0 st1 stf
    refine hK.out _ _ ?_
    clear hK K
    try simp only [List.getElem_toArray, List.getElem_cons_succ, List.getElem_cons_zero, Act.put, List.setIfInBounds_toArray, List.set_cons_zero, List.set_cons_succ]
    refine GoS.behind (i := 9) (v := ?_) rfl (by kernel_rfl) (by kernel_rfl) (by kernel_rfl) (by kernel_rfl) (fun _ _ _ h => h) (Or.inl ⟨by rfl, ?hy107⟩) (by kernel_rfl) ?_
    case hy107 => ((intro u' hT; go_simp); try with_reducible rfl)
    try simp only [List.getElem_toArray, List.getElem_cons_succ, List.getElem_cons_zero, Act.put, List.setIfInBounds_toArray, List.set_cons_zero, List.set_cons_succ]
    refine GoS.done (by kernel_rfl) ?_
    have FR2 : Hid (Fr w ((q103.setCell ⟨q70.heap.size, 0, none⟩ (.int .i64 (dm))).setCell ⟨q70.heap.size, 1, none⟩ (.int .i64 (dx))) [(q70.heap.size, dm, dx), (w6.heap.size, gm, gx), (w3.heap.size, pm, px)]) := FR; clear FR; have FR := FR2; clear FR2
    clear HS; revert FR; generalize ((q103.setCell ⟨q70.heap.size, 0, none⟩ (.int .i64 (dm))).setCell ⟨q70.heap.size, 1, none⟩ (.int .i64 (dx))) = z3; intro FR
    go_upto_region 19 with (fail)
    have HT0 : Fr w z3 [(q70.heap.size, dm, dx), (w6.heap.size, gm, gx), (w3.heap.size, pm, px)] := FR.out
    refine wp_region_S (fun u : World => Fr w u [(q70.heap.size, dm, dx), (w6.heap.size, gm, gx), (w3.heap.size, pm, px)]) 7 (by kernel_rfl) ?_
    have HS := HT0.later (Ext.refl _).drew
    clear HT0 FR
    refine GoS.take (i := 0) (v := ?_) rfl (by kernel_rfl) (by kernel_rfl) (by kernel_rfl) (by kernel_rfl) (fun _ _ _ h => h) (Or.inl ⟨by rfl, ?hy108⟩) HS ?_
    case hy108 => ((intro u' hT; have dd0 := hT.c0 (b := q70.heap.size) (.head _); have dd1 := hT.c1 (b := q70.heap.size) (.head _); go_simp); try with_reducible rfl)
    try simp only [List.getElem_toArray, List.getElem_cons_zero, Act.put, List.setIfInBounds_toArray, List.set_cons_zero, List.set_cons_succ]
    refine GoS.one (i := 1) (by kernel_rfl) rfl (fun K hK => ?_)
    go_simp
    (with_reducible refine (TW.call _).mono ?_)
    rintro e q109 ⟨rfl, hx109⟩
    have HS2 := HS.later hx109
    clear HS; have HS := HS2; clear HS2 hx109
    go_wp2_with fail
    refine hK.out _ _ HS (fun _ => ?_)
    clear hK K
    try simp only [List.getElem_toArray, List.getElem_cons_succ, List.getElem_cons_zero, Act.put, List.setIfInBounds_toArray, List.set_cons_zero, List.set_cons_succ]
    refine GoS.one (i := 2) (by kernel_rfl) rfl (fun K hK => ?_)
    go_simp
    (with_reducible refine (CD.call _).mono ?_)
    rintro e q110 ⟨rfl, hx110⟩
    have HS2 := HS.later hx110
    clear HS; have HS := HS2; clear HS2 hx110
    go_wp2_with fail
    refine hK.out _ _ HS (fun _ => ?_)
    clear hK K
    try simp only [List.getElem_toArray, List.getElem_cons_succ, List.getElem_cons_zero, Act.put, List.setIfInBounds_toArray, List.set_cons_zero, List.set_cons_succ]
    refine GoS.pure (i := 3) (v := ?_) rfl (by kernel_rfl) (by kernel_rfl) (by kernel_rfl) (by kernel_rfl) (fun _ _ _ h => h) (Or.inl ⟨by rfl, ?hy111⟩) (fun _ => HS) ?_
    case hy111 => ((intro u' hT; go_simp); try with_reducible rfl)
    try simp only [List.getElem_toArray, List.getElem_cons_succ, List.getElem_cons_zero, Act.put, List.setIfInBounds_toArray, List.set_cons_zero, List.set_cons_succ]
    refine GoS.pure (i := 4) (v := ?_) rfl (by kernel_rfl) (by kernel_rfl) (by kernel_rfl) (by kernel_rfl) (fun _ _ _ h => h) (Or.inl ⟨by rfl, ?hy112⟩) (fun _ => HS) ?_
    case hy112 => ((intro u' hT; go_simp); try with_reducible rfl)
    try simp only [List.getElem_toArray, List.getElem_cons_succ, List.getElem_cons_zero, Act.put, List.setIfInBounds_toArray, List.set_cons_zero, List.set_cons_succ]
    refine GoS.pure (i := 5) (v := ?_) rfl (by kernel_rfl) (by kernel_rfl) (by kernel_rfl) (by kernel_rfl) (fun _ _ _ h => h) (Or.inl ⟨by rfl, ?hy113⟩) (fun _ => HS) ?_
    case hy113 => ((intro u' hT; go_simp); try with_reducible rfl)
    try simp only [List.getElem_toArray, List.getElem_cons_succ, List.getElem_cons_zero, Act.put, List.setIfInBounds_toArray, List.set_cons_zero, List.set_cons_succ]
    refine GoS.pure (i := 6) (v := ?_) rfl (by kernel_rfl) (by kernel_rfl) (by kernel_rfl) (by kernel_rfl) (fun _ _ _ h => h) (Or.inl ⟨by rfl, ?hy114⟩) (fun _ => HS) ?_
    case hy114 => ((intro u' hT; go_simp); try with_reducible rfl)
    try simp only [List.getElem_toArray, List.getElem_cons_succ, List.getElem_cons_zero, Act.put, List.setIfInBounds_toArray, List.set_cons_zero, List.set_cons_succ]
    refine GoS.store (i := 7) (by kernel_rfl) rfl (by kernel_rfl) (fun K hK => ?_)
    go_simp
    refine hK.out _ _ ?_
    clear hK K
    try simp only [List.getElem_toArray, List.getElem_cons_succ, List.getElem_cons_zero, Act.put, List.setIfInBounds_toArray, List.set_cons_zero, List.set_cons_succ]
    refine GoS.done (by kernel_rfl) ?_
    have FR := Lib.hid HS; clear HS
    go_wp2_with fail
    refine (SN _ (HT.out.later FR.out.x)).mono ?_
    rintro e w8 ⟨rfl, hx⟩
    have FR2 : Hid (Fr w w8 [(q70.heap.size, dm, dx), (w6.heap.size, gm, gx), (w3.heap.size, pm, px)]) := Lib.hid (FR.out.later hx)
    clear hx FR; have FR := FR2; clear FR2
    go_wp2
    go_ret
    exact ⟨rfl, FR.out.x⟩
end Go.Proofs.YtehmpffffjcloaaGreatDoor
