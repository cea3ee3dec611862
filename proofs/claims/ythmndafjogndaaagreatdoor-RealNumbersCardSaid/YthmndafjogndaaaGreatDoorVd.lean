/- The walk of RealNumbers: good_y_next. -/
import Derived.Test.YthmndafjogndaaaGreatDoorVa
import Derived.Test.YthmndafjogndaaaGreatDoorTh
import Derived.Test.YthmndafjogndaaaGreatDoorGr
import Derived.Deep.Cut
namespace Go.Proofs.YthmndafjogndaaaGreatDoor.realNumbers
open Go.RowKit

set_option maxRecDepth 100000 in
set_option maxHeartbeats 16000000 in
theorem good_y_next (w : World) (ht : Tb w) (pm px qm qx idx n am ax ae fm fx gm wm s i i1 nm nx c : Int) (AT : Ret 10 #[.int .i64 idx] (.tuple #[.agg #[.int .i64 am, .int .i64 ax], .int .i64 ae])) (hat : (idx ≥ -2533359615 ∧ idx ≤ 2533359615 ∧ ae = 0 ∧ Ret 12 #[.int .i64 idx] (.agg #[.int .i64 am, .int .i64 ax])) ∨ (¬ idx ≥ -2533359615 ∧ am = 0 ∧ ax = 0 ∧ ae = 1) ∨ (idx ≥ -2533359615 ∧ ¬ idx ≤ 2533359615 ∧ am = 0 ∧ ax = 0 ∧ ae = 1)) (FI : Ret 13 #[.int .i64 n] (.agg #[.int .i64 fm, .int .i64 fx])) (RFI : Ret 14 #[.int .i64 n] (.agg #[.int .i64 fm, .int .i64 fx])) (VA : Ret 15 #[.agg #[.int .i64 pm, .int .i64 px]] (.bool true)) (VX : Ret 16 #[.agg #[.int .i64 pm, .int .i64 px]] (.bool true)) (VY : Ret 16 #[.agg #[.int .i64 qm, .int .i64 qx]] (.bool true)) (IX : Ret 17 #[.agg #[.int .i64 pm, .int .i64 px]] (.tuple #[.int .i64 i, .int .i64 0])) (NX : Ret 18 #[.agg #[.int .i64 pm, .int .i64 px]] (.tuple #[.agg #[.int .i64 nm, .int .i64 nx], .int .i64 0])) (NG : Ret 19 #[.agg #[.int .i64 pm, .int .i64 px]] (.tuple #[.agg #[.int .i64 gm, .int .i64 px], .int .i64 0])) (AB : Ret 20 #[.agg #[.int .i64 pm, .int .i64 px]] (.tuple #[.agg #[.int .i64 wm, .int .i64 px], .int .i64 0])) (SG : Ret 21 #[.agg #[.int .i64 pm, .int .i64 px]] (.tuple #[.int .i64 s, .int .i64 0])) (CM : Ret 22 #[.agg #[.int .i64 pm, .int .i64 px], .agg #[.int .i64 qm, .int .i64 qx]] (.tuple #[.int .i64 c, .int .i64 0])) (RI : Ret 26 #[.agg #[.int .i64 pm, .int .i64 px]] (.int .i64 i)) (RN : Ret 25 #[.agg #[.int .i64 pm, .int .i64 px]] (.agg #[.int .i64 gm, .int .i64 px])) (RS : Ret 27 #[.int .i64 pm, .int .i64 0] (.int .i64 s)) (hw : (pm < 0 ∧ wm = gm) ∨ (¬ pm < 0 ∧ wm = pm)) (RC : Ret 24 #[.agg #[.int .i64 pm, .int .i64 px], .agg #[.int .i64 qm, .int .i64 qx]] (.int .i64 c)) (hi : (i == 2533359615) = false) (_hi' : ¬ i = 2533359615) (j1 : IntKind.i64.wrap (i + 1) = i1) (_j2 : wrap64 (i + 1) = i1) (RA1 : Ret 12 #[.int .i64 i1] (.agg #[.int .i64 nm, .int .i64 nx])) (SN : ∀ u, Tb u → Calls Tryz.prog 23 #[] u fun e u' => e = .returned (.bool true) ∧ Ext u u') :
    Calls Tryz.prog 3 #[.agg #[.int .i64 pm, .int .i64 px], .agg #[.int .i64 qm, .int .i64 qx], .int .i64 idx, .int .i64 n] w fun e w' => e = .returned (.bool true) ∧ Ext w w' := by
  have HT := Lib.hid ht; clear ht
  have FR := Lib.hid (Fr.nil w)
  have eqR := eqReal
  go_enter Tryz.func3, Tryz.ntmps3
  have HAT := Lib.hid hat; clear hat
  go_wp2_with fail
  refine (AT _).mono ?_
  rintro e w1 ⟨rfl, hx⟩
  have FR2 : Hid (Fr w w1 [(w.heap.size + 1, qm, qx), (w.heap.size, pm, px)]) := Lib.hid ((FR.out.lay2 (pm) (px) (qm) (qx) 23).later hx)
  clear hx FR; have FR := FR2; clear FR2
  go_upto_region 2 with (fail)
  have FR2 : Hid (Fr w _ [(w1.heap.size, am, ax), (w.heap.size + 1, qm, qx), (w.heap.size, pm, px)]) := Lib.hid (FR.out.lay am ax 23); clear FR; have FR := FR2; clear FR2
  generalize w1.alloc (.cells #[.int .i64 am, .int .i64 ax] 23) = wa at *
  go_cut [33] from 28 (fun s wx => ∃ b : Bool, s = .bool b ∧ ((b = true ∧ ae = 0 ∧ Ret 12 #[.int .i64 idx] (.agg #[.int .i64 am, .int .i64 ax])) ∨ (b = false ∧ am = 0 ∧ ax = 0 ∧ ae = 1)) ∧ Fr w wx [(w1.heap.size, am, ax), (w.heap.size + 1, qm, qx), (w.heap.size, pm, px)])
  case first =>
    rcases HAT.out with ⟨g1, g2, g3, RA⟩ | ⟨g1, g3, g4, g5⟩ | ⟨g1, g2, g3, g4, g5⟩
    · have G := Lib.hid (And.intro g3 RA); clear g3 RA
      go_wp2_with fail
      go_meet
      exact ⟨true, by first | rfl | (simp; done) | (simp; omega), .inl ⟨rfl, G.out⟩, FR.out⟩
    · have G := Lib.hid (And.intro g3 (And.intro g4 g5)); clear g3 g4 g5
      go_wp2_with fail
      go_meet
      exact ⟨false, by first | rfl | (simp; done) | (simp; omega), .inr ⟨rfl, G.out⟩, FR.out⟩
    · have G := Lib.hid (And.intro g3 (And.intro g4 g5)); clear g3 g4 g5
      go_wp2_with fail
      go_meet
      exact ⟨false, by first | rfl | (simp; done) | (simp; omega), .inr ⟨rfl, G.out⟩, FR.out⟩
  case rest =>
    obtain ⟨b, rfl, hb, hfr⟩ := hcut
    clear FR HAT; have FR := Lib.hid hfr; clear hfr
    go_upto_if 33 with (fail)
    go_cut [8] from 34 (fun s wx => s = .bool false ∧ Fr w wx [(w1.heap.size, am, ax), (w.heap.size + 1, qm, qx), (w.heap.size, pm, px)])
    case first =>
      rcases hb with ⟨g1, g3, RA⟩ | ⟨g1, g3, g4, g5⟩
      · subst g1 g3
        go_upto_region 3 with (fail)
        have HT0 : Fr w wc [(w1.heap.size, am, ax), (w.heap.size + 1, qm, qx), (w.heap.size, pm, px)] := FR.out
        refine wp_region_S (fun u : World => Fr w u [(w1.heap.size, am, ax), (w.heap.size + 1, qm, qx), (w.heap.size, pm, px)]) 5 (by kernel_rfl) ?_
        have HS := HT0.later (Ext.refl _).drew
        clear HT0 FR
        refine GoS.take (i := 0) (v := ?_) rfl (by kernel_rfl) (by kernel_rfl) (by kernel_rfl) (by kernel_rfl) (fun _ _ _ h => h) (Or.inl ⟨by rfl, ?hy66⟩) HS ?_
        case hy66 => ((intro u' hT; have da0 := hT.c0 (b := w1.heap.size) (.head _); have da1 := hT.c1 (b := w1.heap.size) (.head _); go_simp); try with_reducible rfl)
        try simp only [List.getElem_toArray, List.getElem_cons_zero, Act.put, List.setIfInBounds_toArray, List.set_cons_zero, List.set_cons_succ]
        refine GoS.pure (i := 1) (v := ?_) rfl (by kernel_rfl) (by kernel_rfl) (by kernel_rfl) (by kernel_rfl) (fun _ _ _ h => h) (Or.inl ⟨by rfl, ?hy67⟩) (fun _ => HS) ?_
        case hy67 => ((intro u' hT; go_simp); try with_reducible rfl)
        try simp only [List.getElem_toArray, List.getElem_cons_succ, List.getElem_cons_zero, Act.put, List.setIfInBounds_toArray, List.set_cons_zero, List.set_cons_succ]
        refine GoS.pure (i := 2) (v := ?_) rfl (by kernel_rfl) (by kernel_rfl) (by kernel_rfl) (by kernel_rfl) (fun _ _ _ h => h) (Or.inl ⟨by rfl, ?hy68⟩) (fun _ => HS) ?_
        case hy68 => ((intro u' hT; go_simp); try with_reducible rfl)
        try simp only [List.getElem_toArray, List.getElem_cons_succ, List.getElem_cons_zero, Act.put, List.setIfInBounds_toArray, List.set_cons_zero, List.set_cons_succ]
        refine GoS.one (i := 3) (by kernel_rfl) rfl (fun K hK => ?_)
        go_simp
        (with_reducible refine (RA.call _).mono ?_)
        rintro e q69 ⟨rfl, hx69⟩
        have HS2 := HS.later hx69
        clear HS; have HS := HS2; clear HS2 hx69
        go_wp2_with fail
        refine hK.out _ _ HS (fun _ => ?_)
        clear hK K
        try simp only [List.getElem_toArray, List.getElem_cons_succ, List.getElem_cons_zero, Act.put, List.setIfInBounds_toArray, List.set_cons_zero, List.set_cons_succ]
        refine GoS.one (i := 4) (by kernel_rfl) rfl (fun K hK => ?_)
        go_simp
        (with_reducible refine (is_true am ax _).mono ?_)
        rintro e q70 ⟨rfl, hx70⟩
        have HS2 := HS.later hx70
        clear HS; have HS := HS2; clear HS2 hx70
        go_wp2_with fail
        refine hK.out _ _ HS (fun _ => ?_)
        clear hK K
        try simp only [List.getElem_toArray, List.getElem_cons_succ, List.getElem_cons_zero, Act.put, List.setIfInBounds_toArray, List.set_cons_zero, List.set_cons_succ]
        refine GoS.store (i := 5) (by kernel_rfl) rfl (by kernel_rfl) (fun K hK => ?_)
        go_simp
        refine hK.out _ _ ?_
        clear hK K
        try simp only [List.getElem_toArray, List.getElem_cons_succ, List.getElem_cons_zero, Act.put, List.setIfInBounds_toArray, List.set_cons_zero, List.set_cons_succ]
        refine GoS.done (by kernel_rfl) ?_
        have FR := Lib.hid HS; clear HS
        go_wp2_with fail
        go_meet
        exact ⟨rfl, FR.out⟩
      · subst g1 g3 g4 g5
        have ca0 := FR.out.c0 (b := w1.heap.size) (.head _); have ca1 := FR.out.c1 (b := w1.heap.size) (.head _)
        go_wp2_with fail
        go_meet
        exact ⟨rfl, FR.out⟩
    case rest =>
      obtain ⟨rfl, hfr⟩ := hcut
      clear FR hb; have FR := Lib.hid hfr; clear hfr
      go_upto_region 7 with (fail)
      have HT0 : Fr w wc [(w1.heap.size, am, ax), (w.heap.size + 1, qm, qx), (w.heap.size, pm, px)] := FR.out
      refine wp_region_S (fun u : World => Fr w u [(w1.heap.size, am, ax), (w.heap.size + 1, qm, qx), (w.heap.size, pm, px)]) 11 (by kernel_rfl) ?_
      have HS := HT0.later (Ext.refl _).drew
      clear HT0 FR
      refine GoS.pure (i := 0) (v := ?_) rfl (by kernel_rfl) (by kernel_rfl) (by kernel_rfl) (by kernel_rfl) (fun _ _ _ h => h) (Or.inl ⟨by rfl, ?hy71⟩) (fun _ => HS) ?_
      case hy71 => ((intro u' hT; go_simp); try with_reducible rfl)
      try simp only [List.getElem_toArray, List.getElem_cons_zero, Act.put, List.setIfInBounds_toArray, List.set_cons_zero, List.set_cons_succ]
      refine GoS.pure (i := 2) (v := ?_) rfl (by kernel_rfl) (by kernel_rfl) (by kernel_rfl) (by kernel_rfl) (fun _ _ _ h => h) (Or.inl ⟨by rfl, ?hy72⟩) (fun _ => HS) ?_
      case hy72 => ((intro u' hT; go_simp); try with_reducible rfl)
      try simp only [List.getElem_toArray, List.getElem_cons_succ, List.getElem_cons_zero, Act.put, List.setIfInBounds_toArray, List.set_cons_zero, List.set_cons_succ]
      refine GoS.one (i := 1) (by kernel_rfl) rfl (fun K hK => ?_)
      go_simp
      (with_reducible refine (FI.call _).mono ?_)
      rintro e q73 ⟨rfl, hx73⟩
      have HS2 := HS.later hx73
      clear HS; have HS := HS2; clear HS2 hx73
      go_wp2_with fail
      refine hK.out _ _ HS (fun _ => ?_)
      clear hK K
      try simp only [List.getElem_toArray, List.getElem_cons_succ, List.getElem_cons_zero, Act.put, List.setIfInBounds_toArray, List.set_cons_zero, List.set_cons_succ]
      refine GoS.one (i := 3) (by kernel_rfl) rfl (fun K hK => ?_)
      go_simp
      (with_reducible refine (RFI.call _).mono ?_)
      rintro e q74 ⟨rfl, hx74⟩
      have HS2 := HS.later hx74
      clear HS; have HS := HS2; clear HS2 hx74
      go_wp2_with fail
      refine hK.out _ _ HS (fun _ => ?_)
      clear hK K
      try simp only [List.getElem_toArray, List.getElem_cons_succ, List.getElem_cons_zero, Act.put, List.setIfInBounds_toArray, List.set_cons_zero, List.set_cons_succ]
      refine GoS.pure (i := 4) (v := ?_) rfl (by kernel_rfl) (by kernel_rfl) (by kernel_rfl) (by kernel_rfl) (fun _ _ _ h => h) (Or.inl ⟨by rfl, ?hy75⟩) (fun _ => HS) ?_
      case hy75 => ((intro u' hT; go_simp); try with_reducible rfl)
      try simp only [List.getElem_toArray, List.getElem_cons_succ, List.getElem_cons_zero, Act.put, List.setIfInBounds_toArray, List.set_cons_zero, List.set_cons_succ]
      refine GoS.pure (i := 5) (v := ?_) rfl (by kernel_rfl) (by kernel_rfl) (by kernel_rfl) (by kernel_rfl) (fun _ _ _ h => h) (Or.inl ⟨by rfl, ?hy76⟩) (fun _ => HS) ?_
      case hy76 => ((intro u' hT; go_simp); try with_reducible rfl)
      try simp only [List.getElem_toArray, List.getElem_cons_succ, List.getElem_cons_zero, Act.put, List.setIfInBounds_toArray, List.set_cons_zero, List.set_cons_succ]
      refine GoS.take (i := 6) (v := ?_) rfl (by kernel_rfl) (by kernel_rfl) (by kernel_rfl) (by kernel_rfl) (fun _ _ _ h => h) (Or.inl ⟨by rfl, ?hy77⟩) HS ?_
      case hy77 => ((intro u' hT; have dx0 := hT.c0 (b := w.heap.size) (.tail _ (.tail _ (.head _))); have dx1 := hT.c1 (b := w.heap.size) (.tail _ (.tail _ (.head _))); go_simp); try with_reducible rfl)
      try simp only [List.getElem_toArray, List.getElem_cons_succ, List.getElem_cons_zero, Act.put, List.setIfInBounds_toArray, List.set_cons_zero, List.set_cons_succ]
      refine GoS.take (i := 8) (v := ?_) rfl (by kernel_rfl) (by kernel_rfl) (by kernel_rfl) (by kernel_rfl) (fun _ _ _ h => h) (Or.inl ⟨by rfl, ?hy78⟩) HS ?_
      case hy78 => ((intro u' hT; have dx0 := hT.c0 (b := w.heap.size) (.tail _ (.tail _ (.head _))); have dx1 := hT.c1 (b := w.heap.size) (.tail _ (.tail _ (.head _))); go_simp); try with_reducible rfl)
      try simp only [List.getElem_toArray, List.getElem_cons_succ, List.getElem_cons_zero, Act.put, List.setIfInBounds_toArray, List.set_cons_zero, List.set_cons_succ]
      refine GoS.one (i := 7) (by kernel_rfl) rfl (fun K hK => ?_)
      go_simp
      (with_reducible refine (VA.call _).mono ?_)
      rintro e q79 ⟨rfl, hx79⟩
      have HS2 := HS.later hx79
      clear HS; have HS := HS2; clear HS2 hx79
      go_wp2_with fail
      refine hK.out _ _ HS (fun _ => ?_)
      clear hK K
      try simp only [List.getElem_toArray, List.getElem_cons_succ, List.getElem_cons_zero, Act.put, List.setIfInBounds_toArray, List.set_cons_zero, List.set_cons_succ]
      refine GoS.one (i := 9) (by kernel_rfl) rfl (fun K hK => ?_)
      go_simp
      (with_reducible refine (VX.call _).mono ?_)
      rintro e q80 ⟨rfl, hx80⟩
      have HS2 := HS.later hx80
      clear HS; have HS := HS2; clear HS2 hx80
      go_wp2_with fail
      refine hK.out _ _ HS (fun _ => ?_)
      clear hK K
      try simp only [List.getElem_toArray, List.getElem_cons_succ, List.getElem_cons_zero, Act.put, List.setIfInBounds_toArray, List.set_cons_zero, List.set_cons_succ]
      refine GoS.pure (i := 10) (v := ?_) rfl (by kernel_rfl) (by kernel_rfl) (by kernel_rfl) (by kernel_rfl) (fun _ _ _ h => h) (Or.inl ⟨by rfl, ?hy81⟩) (fun _ => HS) ?_
      case hy81 => ((intro u' hT; go_simp); try with_reducible rfl)
      try simp only [List.getElem_toArray, List.getElem_cons_succ, List.getElem_cons_zero, Act.put, List.setIfInBounds_toArray, List.set_cons_zero, List.set_cons_succ]
      refine GoS.store (i := 11) (by kernel_rfl) rfl (by kernel_rfl) (fun K hK => ?_)
      go_simp
      refine hK.out _ _ ?_
      clear hK K
      try simp only [List.getElem_toArray, List.getElem_cons_succ, List.getElem_cons_zero, Act.put, List.setIfInBounds_toArray, List.set_cons_zero, List.set_cons_succ]
      refine GoS.done (by kernel_rfl) ?_
      have FR := Lib.hid HS; clear HS
      have cx0 := FR.out.c0 (b := w.heap.size) (.tail _ (.tail _ (.head _))); have cx1 := FR.out.c1 (b := w.heap.size) (.tail _ (.tail _ (.head _)))
      go_wp2_with fail
      refine (IX _).mono ?_
      rintro e w2 ⟨rfl, hx⟩
      have FR2 : Hid (Fr w w2 [(w1.heap.size, am, ax), (w.heap.size + 1, qm, qx), (w.heap.size, pm, px)]) := Lib.hid (FR.out.later hx)
      clear cx0 cx1
      clear hx FR; have FR := FR2; clear FR2
      have cx0 := FR.out.c0 (b := w.heap.size) (.tail _ (.tail _ (.head _))); have cx1 := FR.out.c1 (b := w.heap.size) (.tail _ (.tail _ (.head _)))
      go_wp2_with fail
      refine (NX _).mono ?_
      rintro e w3 ⟨rfl, hx⟩
      have FR2 : Hid (Fr w w3 [(w1.heap.size, am, ax), (w.heap.size + 1, qm, qx), (w.heap.size, pm, px)]) := Lib.hid (FR.out.later hx)
      clear cx0 cx1
      clear hx FR; have FR := FR2; clear FR2
      have cx0 := FR.out.g0 (b := w.heap.size) (.tail _ (.tail _ (.head _))); have cx1 := FR.out.g1 (b := w.heap.size) (.tail _ (.tail _ (.head _)))
      go_wp2_with fail
      refine (NG _).mono ?_
      rintro e w4 ⟨rfl, hx⟩
      have FR2 : Hid (Fr w w4 [(w3.heap.size, nm, nx), (w1.heap.size, am, ax), (w.heap.size + 1, qm, qx), (w.heap.size, pm, px)]) := Lib.hid ((FR.out.lay (nm) (nx) 23).later hx)
      clear cx0 cx1
      clear hx FR; have FR := FR2; clear FR2
      have cx0 := FR.out.g0 (b := w.heap.size) (.tail _ (.tail _ (.tail _ (.head _)))); have cx1 := FR.out.g1 (b := w.heap.size) (.tail _ (.tail _ (.tail _ (.head _))))
      go_wp2_with fail
      refine (AB _).mono ?_
      rintro e w5 ⟨rfl, hx⟩
      have FR2 : Hid (Fr w w5 [(w4.heap.size, gm, px), (w3.heap.size, nm, nx), (w1.heap.size, am, ax), (w.heap.size + 1, qm, qx), (w.heap.size, pm, px)]) := Lib.hid ((FR.out.lay (gm) (px) 23).later hx)
      clear cx0 cx1
      clear hx FR; have FR := FR2; clear FR2
      have cx0 := FR.out.g0 (b := w.heap.size) (.tail _ (.tail _ (.tail _ (.tail _ (.head _))))); have cx1 := FR.out.g1 (b := w.heap.size) (.tail _ (.tail _ (.tail _ (.tail _ (.head _)))))
      go_wp2_with fail
      refine (SG _).mono ?_
      rintro e w6 ⟨rfl, hx⟩
      have FR2 : Hid (Fr w w6 [(w5.heap.size, wm, px), (w4.heap.size, gm, px), (w3.heap.size, nm, nx), (w1.heap.size, am, ax), (w.heap.size + 1, qm, qx), (w.heap.size, pm, px)]) := Lib.hid ((FR.out.lay (wm) (px) 23).later hx)
      clear cx0 cx1
      clear hx FR; have FR := FR2; clear FR2
      have cx0 := FR.out.c0 (b := w.heap.size) (.tail _ (.tail _ (.tail _ (.tail _ (.tail _ (.head _)))))); have cx1 := FR.out.c1 (b := w.heap.size) (.tail _ (.tail _ (.tail _ (.tail _ (.tail _ (.head _))))))
      have cy0 := FR.out.c0 (b := w.heap.size + 1) (.tail _ (.tail _ (.tail _ (.tail _ (.head _))))); have cy1 := FR.out.c1 (b := w.heap.size + 1) (.tail _ (.tail _ (.tail _ (.tail _ (.head _)))))
      go_wp2_with fail
      refine (CM _).mono ?_
      rintro e w7 ⟨rfl, hx⟩
      have FR2 : Hid (Fr w w7 [(w5.heap.size, wm, px), (w4.heap.size, gm, px), (w3.heap.size, nm, nx), (w1.heap.size, am, ax), (w.heap.size + 1, qm, qx), (w.heap.size, pm, px)]) := Lib.hid (FR.out.later hx)
      clear cx0 cx1 cy0 cy1
      clear hx FR; have FR := FR2; clear FR2
      have cx0 := FR.out.c0 (b := w.heap.size) (.tail _ (.tail _ (.tail _ (.tail _ (.tail _ (.head _)))))); have cx1 := FR.out.c1 (b := w.heap.size) (.tail _ (.tail _ (.tail _ (.tail _ (.tail _ (.head _))))))
      go_wp2_with fail
      refine (VX _).mono ?_
      rintro e w8 ⟨rfl, hx⟩
      have FR2 : Hid (Fr w w8 [(w5.heap.size, wm, px), (w4.heap.size, gm, px), (w3.heap.size, nm, nx), (w1.heap.size, am, ax), (w.heap.size + 1, qm, qx), (w.heap.size, pm, px)]) := Lib.hid (FR.out.later hx)
      clear cx0 cx1
      clear hx FR; have FR := FR2; clear FR2
      have cy0 := FR.out.c0 (b := w.heap.size + 1) (.tail _ (.tail _ (.tail _ (.tail _ (.head _))))); have cy1 := FR.out.c1 (b := w.heap.size + 1) (.tail _ (.tail _ (.tail _ (.tail _ (.head _)))))
      go_wp2_with fail
      refine (VY _).mono ?_
      rintro e w9 ⟨rfl, hx⟩
      have FR2 : Hid (Fr w w9 [(w5.heap.size, wm, px), (w4.heap.size, gm, px), (w3.heap.size, nm, nx), (w1.heap.size, am, ax), (w.heap.size + 1, qm, qx), (w.heap.size, pm, px)]) := Lib.hid (FR.out.later hx)
      clear cy0 cy1
      clear hx FR; have FR := FR2; clear FR2
      have cy0 := FR.out.c0 (b := w.heap.size + 1) (.tail _ (.tail _ (.tail _ (.tail _ (.head _))))); have cy1 := FR.out.c1 (b := w.heap.size + 1) (.tail _ (.tail _ (.tail _ (.tail _ (.head _)))))
      go_wp2_with fail
      refine (VY _).mono ?_
      rintro e w10 ⟨rfl, hx⟩
      have FR2 : Hid (Fr w w10 [(w5.heap.size, wm, px), (w4.heap.size, gm, px), (w3.heap.size, nm, nx), (w1.heap.size, am, ax), (w.heap.size + 1, qm, qx), (w.heap.size, pm, px)]) := Lib.hid (FR.out.later hx)
      clear cy0 cy1
      clear hx FR; have FR := FR2; clear FR2
      have cx0 := FR.out.c0 (b := w.heap.size) (.tail _ (.tail _ (.tail _ (.tail _ (.tail _ (.head _)))))); have cx1 := FR.out.c1 (b := w.heap.size) (.tail _ (.tail _ (.tail _ (.tail _ (.tail _ (.head _))))))
      have cy0 := FR.out.c0 (b := w.heap.size + 1) (.tail _ (.tail _ (.tail _ (.tail _ (.head _))))); have cy1 := FR.out.c1 (b := w.heap.size + 1) (.tail _ (.tail _ (.tail _ (.tail _ (.head _)))))
      go_wp2_with fail
      refine (RC _).mono ?_
      rintro e w11 ⟨rfl, hx⟩
      have FR2 : Hid (Fr w w11 [(w5.heap.size, wm, px), (w4.heap.size, gm, px), (w3.heap.size, nm, nx), (w1.heap.size, am, ax), (w.heap.size + 1, qm, qx), (w.heap.size, pm, px)]) := Lib.hid (FR.out.later hx)
      clear cx0 cx1 cy0 cy1
      clear hx FR; have FR := FR2; clear FR2
      have cx0 := FR.out.c0 (b := w.heap.size) (.tail _ (.tail _ (.tail _ (.tail _ (.tail _ (.head _)))))); have cx1 := FR.out.c1 (b := w.heap.size) (.tail _ (.tail _ (.tail _ (.tail _ (.tail _ (.head _))))))
      go_upto_region 20 with (fail)
      have FR2 : Hid (Fr w _ [(w11.heap.size, pm, px), (w5.heap.size, wm, px), (w4.heap.size, gm, px), (w3.heap.size, nm, nx), (w1.heap.size, am, ax), (w.heap.size + 1, qm, qx), (w.heap.size, pm, px)]) := Lib.hid (FR.out.lay pm px 23); clear FR cx0 cx1; have FR := FR2; clear FR2
      generalize hww : w11.alloc (.cells #[.int .i64 pm, .int .i64 px] 23) = ww at *
      clear hww
      have HW := Lib.hid hw; clear hw
      go_cut [174] from 172 (fun s wx => ∃ b : Bool, s = .bool b ∧ b = decide (pm < 0) ∧ Fr w wx [(w11.heap.size, pm, px), (w5.heap.size, wm, px), (w4.heap.size, gm, px), (w3.heap.size, nm, nx), (w1.heap.size, am, ax), (w.heap.size + 1, qm, qx), (w.heap.size, pm, px)])
      case first =>
        have cx0 := FR.out.c0 (b := w.heap.size) (.tail _ (.tail _ (.tail _ (.tail _ (.tail _ (.tail _ (.head _))))))); have cx1 := FR.out.c1 (b := w.heap.size) (.tail _ (.tail _ (.tail _ (.tail _ (.tail _ (.tail _ (.head _)))))))
        go_wp2_with fail
        go_meet
        exact ⟨_, rfl, by first | rfl | simp, FR.out⟩
      case rest =>
        obtain ⟨bn, rfl, hbn, hfr⟩ := hcut
        have HBN := Lib.hid hbn; clear hbn
        clear FR; have FR := Lib.hid hfr; clear hfr
        go_upto_if 174 with (fail)
        go_cut [8] from 175 (fun s wx => s = .bool false ∧ Fr w wx [(w11.heap.size, wm, px), (w5.heap.size, wm, px), (w4.heap.size, gm, px), (w3.heap.size, nm, nx), (w1.heap.size, am, ax), (w.heap.size + 1, qm, qx), (w.heap.size, pm, px)])
        case first =>
          rcases HW.out with ⟨g1, g2⟩ | ⟨g1, g2⟩
          · obtain rfl : bn = true := HBN.out.trans (decide_eq_true (by omega))
            have G2 := Lib.hid g2; clear g2
            have cx0 := FR.out.c0 (b := w.heap.size) (.tail _ (.tail _ (.tail _ (.tail _ (.tail _ (.tail _ (.head _))))))); have cx1 := FR.out.c1 (b := w.heap.size) (.tail _ (.tail _ (.tail _ (.tail _ (.tail _ (.tail _ (.head _)))))))
            go_wp2_with fail
            refine (RN _).mono ?_
            rintro e w12 ⟨rfl, hx⟩
            have FR2 : Hid (Fr w w12 [(w11.heap.size, pm, px), (w5.heap.size, wm, px), (w4.heap.size, gm, px), (w3.heap.size, nm, nx), (w1.heap.size, am, ax), (w.heap.size + 1, qm, qx), (w.heap.size, pm, px)]) := Lib.hid (FR.out.later hx)
            clear cx0 cx1
            clear hx FR; have FR := FR2; clear FR2
            have st0 := FR.out.c0 (b := w11.heap.size) (.head _); have st1 := FR.out.c1 (b := w11.heap.size) (.head _); have stf := FR.out.fz (b := w11.heap.size) (.head _)
            have FS := FR.out.set 0 rfl (gm) (px)
            have FS : Fr w ((w12.setCell ⟨w11.heap.size, 0, none⟩ (.int .i64 (gm))).setCell ⟨w11.heap.size, 1, none⟩ (.int .i64 (px))) [(w11.heap.size, gm, px), (w5.heap.size, wm, px), (w4.heap.size, gm, px), (w3.heap.size, nm, nx), (w1.heap.size, am, ax), (w.heap.size + 1, qm, qx), (w.heap.size, pm, px)] := FS
            go_wp2_with fail
            go_meet
            exact ⟨rfl, by simpa only [G2.out] using FS⟩
          · obtain rfl : bn = false := HBN.out.trans (decide_eq_false (by omega))
            have G2 := Lib.hid g2; clear g2
            go_wp2_with fail
            go_meet
            exact ⟨rfl, by simpa only [G2.out] using FR.out⟩
        case rest =>
            obtain ⟨rfl, hfr⟩ := hcut
            clear FR HW HBN; have FR := Lib.hid hfr; clear hfr
            go_upto_region 22 with (fail)
            have HT0 : Fr w wc [(w11.heap.size, wm, px), (w5.heap.size, wm, px), (w4.heap.size, gm, px), (w3.heap.size, nm, nx), (w1.heap.size, am, ax), (w.heap.size + 1, qm, qx), (w.heap.size, pm, px)] := FR.out
            refine wp_region_S (fun u : World => Fr w u [(w11.heap.size, wm, px), (w5.heap.size, wm, px), (w4.heap.size, gm, px), (w3.heap.size, nm, nx), (w1.heap.size, am, ax), (w.heap.size + 1, qm, qx), (w.heap.size, pm, px)]) 33 (by kernel_rfl) ?_
            have HS := HT0.later (Ext.refl _).drew
            clear HT0 FR
            refine GoS.pure (i := 0) (v := ?_) rfl (by kernel_rfl) (by kernel_rfl) (by kernel_rfl) (by kernel_rfl) (fun _ _ _ h => h) (Or.inl ⟨by rfl, ?hy82⟩) (fun _ => HS) ?_
            case hy82 => ((intro u' hT; go_simp); try with_reducible rfl)
            try simp only [List.getElem_toArray, List.getElem_cons_zero, Act.put, List.setIfInBounds_toArray, List.set_cons_zero, List.set_cons_succ]
            refine GoS.pure (i := 1) (v := ?_) rfl (by kernel_rfl) (by kernel_rfl) (by kernel_rfl) (by kernel_rfl) (fun _ _ _ h => h) (Or.inl ⟨by rfl, ?hy83⟩) (fun _ => HS) ?_
            case hy83 => ((intro u' hT; go_simp); try with_reducible rfl)
            try simp only [List.getElem_toArray, List.getElem_cons_succ, List.getElem_cons_zero, Act.put, List.setIfInBounds_toArray, List.set_cons_zero, List.set_cons_succ]
            refine GoS.pure (i := 2) (v := ?_) rfl (by kernel_rfl) (by kernel_rfl) (by kernel_rfl) (by kernel_rfl) (fun _ _ _ h => h) (Or.inl ⟨by rfl, ?hy84⟩) (fun _ => HS) ?_
            case hy84 => ((intro u' hT; go_simp); try with_reducible rfl)
            try simp only [List.getElem_toArray, List.getElem_cons_succ, List.getElem_cons_zero, Act.put, List.setIfInBounds_toArray, List.set_cons_zero, List.set_cons_succ]
            refine GoS.pure (i := 3) (v := ?_) rfl (by kernel_rfl) (by kernel_rfl) (by kernel_rfl) (by kernel_rfl) (fun _ _ _ h => h) (Or.inl ⟨by rfl, ?hy85⟩) (fun _ => HS) ?_
            case hy85 => ((intro u' hT; go_simp); try with_reducible rfl)
            try simp only [List.getElem_toArray, List.getElem_cons_succ, List.getElem_cons_zero, Act.put, List.setIfInBounds_toArray, List.set_cons_zero, List.set_cons_succ]
            refine GoS.take (i := 4) (v := ?_) rfl (by kernel_rfl) (by kernel_rfl) (by kernel_rfl) (by kernel_rfl) (fun _ _ _ h => h) (Or.inl ⟨by rfl, ?hy86⟩) HS ?_
            case hy86 => ((intro u' hT; have dx0 := hT.c0 (b := w.heap.size) (.tail _ (.tail _ (.tail _ (.tail _ (.tail _ (.tail _ (.head _))))))); have dx1 := hT.c1 (b := w.heap.size) (.tail _ (.tail _ (.tail _ (.tail _ (.tail _ (.tail _ (.head _))))))); go_simp); try with_reducible rfl)
            try simp only [List.getElem_toArray, List.getElem_cons_succ, List.getElem_cons_zero, Act.put, List.setIfInBounds_toArray, List.set_cons_zero, List.set_cons_succ]
            refine GoS.one (i := 5) (by kernel_rfl) rfl (fun K hK => ?_)
            go_simp
            (with_reducible refine (RI.call _).mono ?_)
            rintro e q87 ⟨rfl, hx87⟩
            have HS2 := HS.later hx87
            clear HS; have HS := HS2; clear HS2 hx87
            go_wp2_with fail
            refine hK.out _ _ HS (fun _ => ?_)
            clear hK K
            try simp only [List.getElem_toArray, List.getElem_cons_succ, List.getElem_cons_zero, Act.put, List.setIfInBounds_toArray, List.set_cons_zero, List.set_cons_succ]
            refine GoS.pure (i := 6) (v := ?_) rfl (by kernel_rfl) (by kernel_rfl) (by kernel_rfl) (by kernel_rfl) (fun _ _ _ h => h) (Or.inl ⟨by rfl, ?hy88⟩) (fun _ => HS) ?_
            case hy88 => ((intro u' hT; go_simp); try with_reducible rfl)
            try simp only [List.getElem_toArray, List.getElem_cons_succ, List.getElem_cons_zero, Act.put, List.setIfInBounds_toArray, List.set_cons_zero, List.set_cons_succ]
            refine GoS.pure (i := 7) (v := ?_) rfl (by kernel_rfl) (by kernel_rfl) (by kernel_rfl) (by kernel_rfl) (fun _ _ _ h => h) (Or.inl ⟨by rfl, ?hy89⟩) (fun _ => HS) ?_
            case hy89 => ((intro u' hT; go_simp); try with_reducible rfl)
            try simp only [List.getElem_toArray, List.getElem_cons_succ, List.getElem_cons_zero, Act.put, List.setIfInBounds_toArray, List.set_cons_zero, List.set_cons_succ]
            refine GoS.pure (i := 8) (v := ?_) rfl (by kernel_rfl) (by kernel_rfl) (by kernel_rfl) (by kernel_rfl) (fun _ _ _ h => h) (Or.inl ⟨by rfl, ?hy90⟩) (fun _ => HS) ?_
            case hy90 => ((intro u' hT; go_simp); try with_reducible rfl)
            try simp only [List.getElem_toArray, List.getElem_cons_succ, List.getElem_cons_zero, Act.put, List.setIfInBounds_toArray, List.set_cons_zero, List.set_cons_succ]
            refine GoS.take (i := 9) (v := ?_) rfl (by kernel_rfl) (by kernel_rfl) (by kernel_rfl) (by kernel_rfl) (fun _ _ _ h => h) (Or.inl ⟨by rfl, ?hy91⟩) HS ?_
            case hy91 => ((intro u' hT; have dng0 := hT.c0 (b := w4.heap.size) (.tail _ (.tail _ (.head _))); have dng1 := hT.c1 (b := w4.heap.size) (.tail _ (.tail _ (.head _))); go_simp); try with_reducible rfl)
            try simp only [List.getElem_toArray, List.getElem_cons_succ, List.getElem_cons_zero, Act.put, List.setIfInBounds_toArray, List.set_cons_zero, List.set_cons_succ]
            refine GoS.pure (i := 10) (v := ?_) rfl (by kernel_rfl) (by kernel_rfl) (by kernel_rfl) (by kernel_rfl) (fun _ _ _ h => h) (Or.inl ⟨by rfl, ?hy92⟩) (fun _ => HS) ?_
            case hy92 => ((intro u' hT; go_simp); try with_reducible rfl)
            try simp only [List.getElem_toArray, List.getElem_cons_succ, List.getElem_cons_zero, Act.put, List.setIfInBounds_toArray, List.set_cons_zero, List.set_cons_succ]
            refine GoS.take (i := 11) (v := ?_) rfl (by kernel_rfl) (by kernel_rfl) (by kernel_rfl) (by kernel_rfl) (fun _ _ _ h => h) (Or.inl ⟨by rfl, ?hy93⟩) HS ?_
            case hy93 => ((intro u' hT; have dx0 := hT.c0 (b := w.heap.size) (.tail _ (.tail _ (.tail _ (.tail _ (.tail _ (.tail _ (.head _))))))); have dx1 := hT.c1 (b := w.heap.size) (.tail _ (.tail _ (.tail _ (.tail _ (.tail _ (.tail _ (.head _))))))); go_simp); try with_reducible rfl)
            try simp only [List.getElem_toArray, List.getElem_cons_succ, List.getElem_cons_zero, Act.put, List.setIfInBounds_toArray, List.set_cons_zero, List.set_cons_succ]
            refine GoS.one (i := 12) (by kernel_rfl) rfl (fun K hK => ?_)
            go_simp
            (with_reducible refine (RN.call _).mono ?_)
            rintro e q94 ⟨rfl, hx94⟩
            have HS2 := HS.later hx94
            clear HS; have HS := HS2; clear HS2 hx94
            go_wp2_with fail
            refine hK.out _ _ HS (fun _ => ?_)
            clear hK K
            try simp only [List.getElem_toArray, List.getElem_cons_succ, List.getElem_cons_zero, Act.put, List.setIfInBounds_toArray, List.set_cons_zero, List.set_cons_succ]
            refine GoS.one (i := 13) (by kernel_rfl) rfl (fun K hK => ?_)
            go_simp
            (with_reducible refine (is_true gm px _).mono ?_)
            rintro e q95 ⟨rfl, hx95⟩
            have HS2 := HS.later hx95
            clear HS; have HS := HS2; clear HS2 hx95
            go_wp2_with fail
            refine hK.out _ _ HS (fun _ => ?_)
            clear hK K
            try simp only [List.getElem_toArray, List.getElem_cons_succ, List.getElem_cons_zero, Act.put, List.setIfInBounds_toArray, List.set_cons_zero, List.set_cons_succ]
            refine GoS.pure (i := 14) (v := ?_) rfl (by kernel_rfl) (by kernel_rfl) (by kernel_rfl) (by kernel_rfl) (fun _ _ _ h => h) (Or.inl ⟨by rfl, ?hy96⟩) (fun _ => HS) ?_
            case hy96 => ((intro u' hT; go_simp); try with_reducible rfl)
            try simp only [List.getElem_toArray, List.getElem_cons_succ, List.getElem_cons_zero, Act.put, List.setIfInBounds_toArray, List.set_cons_zero, List.set_cons_succ]
            refine GoS.pure (i := 15) (v := ?_) rfl (by kernel_rfl) (by kernel_rfl) (by kernel_rfl) (by kernel_rfl) (fun _ _ _ h => h) (Or.inl ⟨by rfl, ?hy97⟩) (fun _ => HS) ?_
            case hy97 => ((intro u' hT; go_simp); try with_reducible rfl)
            try simp only [List.getElem_toArray, List.getElem_cons_succ, List.getElem_cons_zero, Act.put, List.setIfInBounds_toArray, List.set_cons_zero, List.set_cons_succ]
            refine GoS.pure (i := 16) (v := ?_) rfl (by kernel_rfl) (by kernel_rfl) (by kernel_rfl) (by kernel_rfl) (fun _ _ _ h => h) (Or.inl ⟨by rfl, ?hy98⟩) (fun _ => HS) ?_
            case hy98 => ((intro u' hT; go_simp); try with_reducible rfl)
            try simp only [List.getElem_toArray, List.getElem_cons_succ, List.getElem_cons_zero, Act.put, List.setIfInBounds_toArray, List.set_cons_zero, List.set_cons_succ]
            refine GoS.take (i := 17) (v := ?_) rfl (by kernel_rfl) (by kernel_rfl) (by kernel_rfl) (by kernel_rfl) (fun _ _ _ h => h) (Or.inl ⟨by rfl, ?hy99⟩) HS ?_
            case hy99 => ((intro u' hT; have dab0 := hT.c0 (b := w5.heap.size) (.tail _ (.head _)); have dab1 := hT.c1 (b := w5.heap.size) (.tail _ (.head _)); go_simp); try with_reducible rfl)
            try simp only [List.getElem_toArray, List.getElem_cons_succ, List.getElem_cons_zero, Act.put, List.setIfInBounds_toArray, List.set_cons_zero, List.set_cons_succ]
            refine GoS.pure (i := 18) (v := ?_) rfl (by kernel_rfl) (by kernel_rfl) (by kernel_rfl) (by kernel_rfl) (fun _ _ _ h => h) (Or.inl ⟨by rfl, ?hy100⟩) (fun _ => HS) ?_
            case hy100 => ((intro u' hT; go_simp); try with_reducible rfl)
            try simp only [List.getElem_toArray, List.getElem_cons_succ, List.getElem_cons_zero, Act.put, List.setIfInBounds_toArray, List.set_cons_zero, List.set_cons_succ]
            refine GoS.take (i := 19) (v := ?_) rfl (by kernel_rfl) (by kernel_rfl) (by kernel_rfl) (by kernel_rfl) (fun _ _ _ h => h) (Or.inl ⟨by rfl, ?hy101⟩) HS ?_
            case hy101 => ((intro u' hT; have dwant0 := hT.c0 (b := w11.heap.size) (.head _); have dwant1 := hT.c1 (b := w11.heap.size) (.head _); go_simp); try with_reducible rfl)
            try simp only [List.getElem_toArray, List.getElem_cons_succ, List.getElem_cons_zero, Act.put, List.setIfInBounds_toArray, List.set_cons_zero, List.set_cons_succ]
            refine GoS.one (i := 20) (by kernel_rfl) rfl (fun K hK => ?_)
            go_simp
            (with_reducible refine (is_true wm px _).mono ?_)
            rintro e q102 ⟨rfl, hx102⟩
            have HS2 := HS.later hx102
            clear HS; have HS := HS2; clear HS2 hx102
            go_wp2_with fail
            refine hK.out _ _ HS (fun _ => ?_)
            clear hK K
            try simp only [List.getElem_toArray, List.getElem_cons_succ, List.getElem_cons_zero, Act.put, List.setIfInBounds_toArray, List.set_cons_zero, List.set_cons_succ]
            refine GoS.pure (i := 21) (v := ?_) rfl (by kernel_rfl) (by kernel_rfl) (by kernel_rfl) (by kernel_rfl) (fun _ _ _ h => h) (Or.inl ⟨by rfl, ?hy103⟩) (fun _ => HS) ?_
            case hy103 => ((intro u' hT; go_simp); try with_reducible rfl)
            try simp only [List.getElem_toArray, List.getElem_cons_succ, List.getElem_cons_zero, Act.put, List.setIfInBounds_toArray, List.set_cons_zero, List.set_cons_succ]
            refine GoS.pure (i := 22) (v := ?_) rfl (by kernel_rfl) (by kernel_rfl) (by kernel_rfl) (by kernel_rfl) (fun _ _ _ h => h) (Or.inl ⟨by rfl, ?hy104⟩) (fun _ => HS) ?_
            case hy104 => ((intro u' hT; go_simp); try with_reducible rfl)
            try simp only [List.getElem_toArray, List.getElem_cons_succ, List.getElem_cons_zero, Act.put, List.setIfInBounds_toArray, List.set_cons_zero, List.set_cons_succ]
            refine GoS.pure (i := 23) (v := ?_) rfl (by kernel_rfl) (by kernel_rfl) (by kernel_rfl) (by kernel_rfl) (fun _ _ _ h => h) (Or.inl ⟨by rfl, ?hy105⟩) (fun _ => HS) ?_
            case hy105 => ((intro u' hT; go_simp); try with_reducible rfl)
            try simp only [List.getElem_toArray, List.getElem_cons_succ, List.getElem_cons_zero, Act.put, List.setIfInBounds_toArray, List.set_cons_zero, List.set_cons_succ]
            refine GoS.pure (i := 24) (v := ?_) rfl (by kernel_rfl) (by kernel_rfl) (by kernel_rfl) (by kernel_rfl) (fun _ _ _ h => h) (Or.inl ⟨by rfl, ?hy106⟩) (fun _ => HS) ?_
            case hy106 => ((intro u' hT; go_simp); try with_reducible rfl)
            try simp only [List.getElem_toArray, List.getElem_cons_succ, List.getElem_cons_zero, Act.put, List.setIfInBounds_toArray, List.set_cons_zero, List.set_cons_succ]
            refine GoS.pure (i := 25) (v := ?_) rfl (by kernel_rfl) (by kernel_rfl) (by kernel_rfl) (by kernel_rfl) (fun _ _ _ h => h) (Or.inl ⟨by rfl, ?hy107⟩) (fun _ => HS) ?_
            case hy107 => ((intro u' hT; go_simp); try with_reducible rfl)
            try simp only [List.getElem_toArray, List.getElem_cons_succ, List.getElem_cons_zero, Act.put, List.setIfInBounds_toArray, List.set_cons_zero, List.set_cons_succ]
            refine GoS.pure (i := 26) (v := ?_) rfl (by kernel_rfl) (by kernel_rfl) (by kernel_rfl) (by kernel_rfl) (fun _ _ _ h => h) (Or.inl ⟨by rfl, ?hy108⟩) (fun _ => HS) ?_
            case hy108 => ((intro u' hT; go_simp); try with_reducible rfl)
            try simp only [List.getElem_toArray, List.getElem_cons_succ, List.getElem_cons_zero, Act.put, List.setIfInBounds_toArray, List.set_cons_zero, List.set_cons_succ]
            refine GoS.pure (i := 27) (v := ?_) rfl (by kernel_rfl) (by kernel_rfl) (by kernel_rfl) (by kernel_rfl) (fun _ _ _ h => h) (Or.inl ⟨by rfl, ?hy109⟩) (fun _ => HS) ?_
            case hy109 => ((intro u' hT; go_simp); try with_reducible rfl)
            try simp only [List.getElem_toArray, List.getElem_cons_succ, List.getElem_cons_zero, Act.put, List.setIfInBounds_toArray, List.set_cons_zero, List.set_cons_succ]
            refine GoS.pure (i := 28) (v := ?_) rfl (by kernel_rfl) (by kernel_rfl) (by kernel_rfl) (by kernel_rfl) (fun _ _ _ h => h) (Or.inl ⟨by rfl, ?hy110⟩) (fun _ => HS) ?_
            case hy110 => ((intro u' hT; go_simp); try with_reducible rfl)
            try simp only [List.getElem_toArray, List.getElem_cons_succ, List.getElem_cons_zero, Act.put, List.setIfInBounds_toArray, List.set_cons_zero, List.set_cons_succ]
            refine GoS.pure (i := 29) (v := ?_) rfl (by kernel_rfl) (by kernel_rfl) (by kernel_rfl) (by kernel_rfl) (fun _ _ _ h => h) (Or.inl ⟨by rfl, ?hy111⟩) (fun _ => HS) ?_
            case hy111 => ((intro u' hT; go_simp); try with_reducible rfl)
            try simp only [List.getElem_toArray, List.getElem_cons_succ, List.getElem_cons_zero, Act.put, List.setIfInBounds_toArray, List.set_cons_zero, List.set_cons_succ]
            refine GoS.take (i := 30) (v := ?_) rfl (by kernel_rfl) (by kernel_rfl) (by kernel_rfl) (by kernel_rfl) (fun _ _ _ h => h) (Or.inl ⟨by rfl, ?hy112⟩) HS ?_
            case hy112 => ((intro u' hT; have dx0 := hT.c0 (b := w.heap.size) (.tail _ (.tail _ (.tail _ (.tail _ (.tail _ (.tail _ (.head _))))))); have dx1 := hT.c1 (b := w.heap.size) (.tail _ (.tail _ (.tail _ (.tail _ (.tail _ (.tail _ (.head _))))))); go_simp); try with_reducible rfl)
            try simp only [List.getElem_toArray, List.getElem_cons_succ, List.getElem_cons_zero, Act.put, List.setIfInBounds_toArray, List.set_cons_zero, List.set_cons_succ]
            refine GoS.one (i := 31) (by kernel_rfl) rfl (fun K hK => ?_)
            go_simp
            (with_reducible refine (RS.call _).mono ?_)
            rintro e q113 ⟨rfl, hx113⟩
            have HS2 := HS.later hx113
            clear HS; have HS := HS2; clear HS2 hx113
            go_wp2_with fail
            refine hK.out _ _ HS (fun _ => ?_)
            clear hK K
            try simp only [List.getElem_toArray, List.getElem_cons_succ, List.getElem_cons_zero, Act.put, List.setIfInBounds_toArray, List.set_cons_zero, List.set_cons_succ]
            refine GoS.pure (i := 32) (v := ?_) rfl (by kernel_rfl) (by kernel_rfl) (by kernel_rfl) (by kernel_rfl) (fun _ _ _ h => h) (Or.inl ⟨by rfl, ?hy114⟩) (fun _ => HS) ?_
            case hy114 => ((intro u' hT; go_simp); try with_reducible rfl)
            try simp only [List.getElem_toArray, List.getElem_cons_succ, List.getElem_cons_zero, Act.put, List.setIfInBounds_toArray, List.set_cons_zero, List.set_cons_succ]
            refine GoS.store (i := 33) (by kernel_rfl) rfl (by kernel_rfl) (fun K hK => ?_)
            go_simp
            refine hK.out _ _ ?_
            clear hK K
            try simp only [List.getElem_toArray, List.getElem_cons_succ, List.getElem_cons_zero, Act.put, List.setIfInBounds_toArray, List.set_cons_zero, List.set_cons_succ]
            refine GoS.done (by kernel_rfl) ?_
            have FR := Lib.hid HS; clear HS
            go_upto_region 26 with (fail)
            have HT0 : Fr w q113 [(w11.heap.size, wm, px), (w5.heap.size, wm, px), (w4.heap.size, gm, px), (w3.heap.size, nm, nx), (w1.heap.size, am, ax), (w.heap.size + 1, qm, qx), (w.heap.size, pm, px)] := FR.out
            refine wp_region_S (fun u : World => Fr w u [(w11.heap.size, wm, px), (w5.heap.size, wm, px), (w4.heap.size, gm, px), (w3.heap.size, nm, nx), (w1.heap.size, am, ax), (w.heap.size + 1, qm, qx), (w.heap.size, pm, px)]) 9 (by kernel_rfl) ?_
            have HS := HT0.later (Ext.refl _).drew
            clear HT0 FR
            refine GoS.one (i := 0) (by kernel_rfl) rfl (fun K hK => ?_)
            go_simp
            (with_reducible refine (SN _ (HT.out.later HS.x)).mono ?_)
            rintro e q115 ⟨rfl, hx115⟩
            have HS2 := HS.later hx115
            clear HS; have HS := HS2; clear HS2 hx115
            go_wp2_with fail
            refine hK.out _ _ HS (fun _ => ?_)
            clear hK K
            try simp only [List.getElem_toArray, List.getElem_cons_succ, List.getElem_cons_zero, Act.put, List.setIfInBounds_toArray, List.set_cons_zero, List.set_cons_succ]
            refine GoS.pure (i := 1) (v := ?_) rfl (by kernel_rfl) (by kernel_rfl) (by kernel_rfl) (by kernel_rfl) (fun _ _ _ h => h) (Or.inl ⟨by rfl, ?hy116⟩) (fun _ => HS) ?_
            case hy116 => ((intro u' hT; go_simp); try with_reducible rfl)
            try simp only [List.getElem_toArray, List.getElem_cons_succ, List.getElem_cons_zero, Act.put, List.setIfInBounds_toArray, List.set_cons_zero, List.set_cons_succ]
            refine GoS.take (i := 2) (v := ?_) rfl (by kernel_rfl) (by kernel_rfl) (by kernel_rfl) (by kernel_rfl) (fun _ _ _ h => h) (Or.inl ⟨by rfl, ?hy117⟩) HS ?_
            case hy117 => ((intro u' hT; have dnx0 := hT.c0 (b := w3.heap.size) (.tail _ (.tail _ (.tail _ (.head _)))); have dnx1 := hT.c1 (b := w3.heap.size) (.tail _ (.tail _ (.tail _ (.head _)))); go_simp); try with_reducible rfl)
            try simp only [List.getElem_toArray, List.getElem_cons_succ, List.getElem_cons_zero, Act.put, List.setIfInBounds_toArray, List.set_cons_zero, List.set_cons_succ]
            refine GoS.pure (i := 3) (v := ?_) rfl (by kernel_rfl) (by kernel_rfl) (by kernel_rfl) (by kernel_rfl) (fun _ _ _ h => h) (Or.inl ⟨by rfl, ?hy118⟩) (fun _ => HS) ?_
            case hy118 => ((intro u' hT; go_simp); try with_reducible rfl)
            try simp only [List.getElem_toArray, List.getElem_cons_succ, List.getElem_cons_zero, Act.put, List.setIfInBounds_toArray, List.set_cons_zero, List.set_cons_succ]
            refine GoS.pure (i := 4) (v := ?_) rfl (by kernel_rfl) (by kernel_rfl) (by kernel_rfl) (by kernel_rfl) (fun _ _ _ h => h) (Or.inl ⟨by rfl, ?hy119⟩) (fun _ => HS) ?_
            case hy119 => ((intro u' hT; go_simp); try with_reducible rfl)
            try simp only [List.getElem_toArray, List.getElem_cons_succ, List.getElem_cons_zero, Act.put, List.setIfInBounds_toArray, List.set_cons_zero, List.set_cons_succ]
            refine GoS.pure (i := 5) (v := ?_) rfl (by kernel_rfl) (by kernel_rfl) (by kernel_rfl) (by kernel_rfl) (fun _ _ _ h => h) (Or.inl ⟨by rfl, ?hy120⟩) (fun _ => HS) ?_
            case hy120 => ((intro u' hT; go_simp); try with_reducible rfl)
            try simp only [List.getElem_toArray, List.getElem_cons_succ, List.getElem_cons_zero, Act.put, List.setIfInBounds_toArray, List.set_cons_zero, List.set_cons_succ]
            refine GoS.one (i := 6) (by kernel_rfl) rfl (fun K hK => ?_)
            go_simp
            (with_reducible refine (RA1.call _).mono ?_)
            rintro e q121 ⟨rfl, hx121⟩
            have HS2 := HS.later hx121
            clear HS; have HS := HS2; clear HS2 hx121
            go_wp2_with fail
            refine hK.out _ _ HS (fun _ => ?_)
            clear hK K
            try simp only [List.getElem_toArray, List.getElem_cons_succ, List.getElem_cons_zero, Act.put, List.setIfInBounds_toArray, List.set_cons_zero, List.set_cons_succ]
            refine GoS.one (i := 7) (by kernel_rfl) rfl (fun K hK => ?_)
            go_simp
            (with_reducible refine (is_true nm nx _).mono ?_)
            rintro e q122 ⟨rfl, hx122⟩
            have HS2 := HS.later hx122
            clear HS; have HS := HS2; clear HS2 hx122
            go_wp2_with fail
            refine hK.out _ _ HS (fun _ => ?_)
            clear hK K
            try simp only [List.getElem_toArray, List.getElem_cons_succ, List.getElem_cons_zero, Act.put, List.setIfInBounds_toArray, List.set_cons_zero, List.set_cons_succ]
            refine GoS.pure (i := 8) (v := ?_) rfl (by kernel_rfl) (by kernel_rfl) (by kernel_rfl) (by kernel_rfl) (fun _ _ _ h => h) (Or.inl ⟨by rfl, ?hy123⟩) (fun _ => HS) ?_
            case hy123 => ((intro u' hT; go_simp); try with_reducible rfl)
            try simp only [List.getElem_toArray, List.getElem_cons_succ, List.getElem_cons_zero, Act.put, List.setIfInBounds_toArray, List.set_cons_zero, List.set_cons_succ]
            refine GoS.store (i := 9) (by kernel_rfl) rfl (by kernel_rfl) (fun K hK => ?_)
            go_simp
            refine hK.out _ _ ?_
            clear hK K
            try simp only [List.getElem_toArray, List.getElem_cons_succ, List.getElem_cons_zero, Act.put, List.setIfInBounds_toArray, List.set_cons_zero, List.set_cons_succ]
            refine GoS.done (by kernel_rfl) ?_
            have FR := Lib.hid HS; clear HS
            go_wp2
            go_ret
            exact ⟨rfl, FR.out.x⟩
end Go.Proofs.YthmndafjogndaaaGreatDoor.realNumbers
