/- The walk of RealNumbers: good_n_next. -/
import Derived.Test.YthmndafjogndaaaGreatDoorVa
import Derived.Test.YthmndafjogndaaaGreatDoorTh
import Derived.Test.YthmndafjogndaaaGreatDoorGr
import Derived.Deep.Cut
namespace Go.Proofs.YthmndafjogndaaaGreatDoor.realNumbers
open Go.RowKit

set_option maxRecDepth 100000 in
set_option maxHeartbeats 16000000 in
theorem good_n_next (w : World) (ht : Tb w) (pm px qm qx idx n am ax ae fm fx gm wm s i i1 nm nx : Int) (AT : Ret 10 #[.int .i64 idx] (.tuple #[.agg #[.int .i64 am, .int .i64 ax], .int .i64 ae])) (hat : (idx ≥ -2533359615 ∧ idx ≤ 2533359615 ∧ ae = 0 ∧ Ret 12 #[.int .i64 idx] (.agg #[.int .i64 am, .int .i64 ax])) ∨ (¬ idx ≥ -2533359615 ∧ am = 0 ∧ ax = 0 ∧ ae = 1) ∨ (idx ≥ -2533359615 ∧ ¬ idx ≤ 2533359615 ∧ am = 0 ∧ ax = 0 ∧ ae = 1)) (FI : Ret 13 #[.int .i64 n] (.agg #[.int .i64 fm, .int .i64 fx])) (RFI : Ret 14 #[.int .i64 n] (.agg #[.int .i64 fm, .int .i64 fx])) (VA : Ret 15 #[.agg #[.int .i64 pm, .int .i64 px]] (.bool true)) (VX : Ret 16 #[.agg #[.int .i64 pm, .int .i64 px]] (.bool true)) (VY : Ret 16 #[.agg #[.int .i64 qm, .int .i64 qx]] (.bool false)) (IX : Ret 17 #[.agg #[.int .i64 pm, .int .i64 px]] (.tuple #[.int .i64 i, .int .i64 0])) (NX : Ret 18 #[.agg #[.int .i64 pm, .int .i64 px]] (.tuple #[.agg #[.int .i64 nm, .int .i64 nx], .int .i64 0])) (NG : Ret 19 #[.agg #[.int .i64 pm, .int .i64 px]] (.tuple #[.agg #[.int .i64 gm, .int .i64 px], .int .i64 0])) (AB : Ret 20 #[.agg #[.int .i64 pm, .int .i64 px]] (.tuple #[.agg #[.int .i64 wm, .int .i64 px], .int .i64 0])) (SG : Ret 21 #[.agg #[.int .i64 pm, .int .i64 px]] (.tuple #[.int .i64 s, .int .i64 0])) (CM : Ret 22 #[.agg #[.int .i64 pm, .int .i64 px], .agg #[.int .i64 qm, .int .i64 qx]] (.tuple #[.int .i64 0, .int .i64 1])) (RI : Ret 26 #[.agg #[.int .i64 pm, .int .i64 px]] (.int .i64 i)) (RN : Ret 25 #[.agg #[.int .i64 pm, .int .i64 px]] (.agg #[.int .i64 gm, .int .i64 px])) (RS : Ret 27 #[.int .i64 pm, .int .i64 0] (.int .i64 s)) (hw : (pm < 0 ∧ wm = gm) ∨ (¬ pm < 0 ∧ wm = pm)) (hi : (i == 2533359615) = false) (_hi' : ¬ i = 2533359615) (j1 : IntKind.i64.wrap (i + 1) = i1) (_j2 : wrap64 (i + 1) = i1) (RA1 : Ret 12 #[.int .i64 i1] (.agg #[.int .i64 nm, .int .i64 nx])) (SN : ∀ u, Tb u → Calls Tryz.prog 23 #[] u fun e u' => e = .returned (.bool true) ∧ Ext u u') :
    Calls Tryz.prog 3 #[.agg #[.int .i64 pm, .int .i64 px], .agg #[.int .i64 qm, .int .i64 qx], .int .i64 idx, .int .i64 n] w fun e w' => e = .returned (.bool true) ∧ Ext w w' := by
  have HT := Lib.hid ht; clear ht
  have FR := Lib.hid (Fr.nil w)
  have eqR := eqReal
  go_enter Tryz.func3, Tryz.ntmps3
  have HAT := Lib.hid hat; clear hat
  go_wp2_with fail
  refine (AT _).mono ?_
  rintro e w1 ⟨rfl, hx⟩
  have FR2 : Hid (Fr w w1 [(w.heap.size + 1, qm, qx), (w.heap.size, pm, px)]) := Lib.hid ((FR.out.lay2 (pm) (px) (qm) (qx) 23).later hx)
  clear hx FR; have FR := FR2; clear FR2
  go_upto_region 2 with (fail)
  have FR2 : Hid (Fr w _ [(w1.heap.size, am, ax), (w.heap.size + 1, qm, qx), (w.heap.size, pm, px)]) := Lib.hid (FR.out.lay am ax 23); clear FR; have FR := FR2; clear FR2
  generalize w1.alloc (.cells #[.int .i64 am, .int .i64 ax] 23) = wa at *
  go_cut [33] from 28 (fun s wx => ∃ b : Bool, s = .bool b ∧ ((b = true ∧ ae = 0 ∧ Ret 12 #[.int .i64 idx] (.agg #[.int .i64 am, .int .i64 ax])) ∨ (b = false ∧ am = 0 ∧ ax = 0 ∧ ae = 1)) ∧ Fr w wx [(w1.heap.size, am, ax), (w.heap.size + 1, qm, qx), (w.heap.size, pm, px)])
  case first =>
    rcases HAT.out with ⟨g1, g2, g3, RA⟩ | ⟨g1, g3, g4, g5⟩ | ⟨g1, g2, g3, g4, g5⟩
    · have G := Lib.hid (And.intro g3 RA); clear g3 RA
      go_wp2_with fail
      go_meet
      exact ⟨true, by first | rfl | (simp; done) | (simp; omega), .inl ⟨rfl, G.out⟩, FR.out⟩
    · have G := Lib.hid (And.intro g3 (And.intro g4 g5)); clear g3 g4 g5
      go_wp2_with fail
      go_meet
      exact ⟨false, by first | rfl | (simp; done) | (simp; omega), .inr ⟨rfl, G.out⟩, FR.out⟩
    · have G := Lib.hid (And.intro g3 (And.intro g4 g5)); clear g3 g4 g5
      go_wp2_with fail
      go_meet
      exact ⟨false, by first | rfl | (simp; done) | (simp; omega), .inr ⟨rfl, G.out⟩, FR.out⟩
  case rest =>
    obtain ⟨b, rfl, hb, hfr⟩ := hcut
    clear FR HAT; have FR := Lib.hid hfr; clear hfr
    go_upto_if 33 with (fail)
    go_cut [8] from 34 (fun s wx => s = .bool false ∧ Fr w wx [(w1.heap.size, am, ax), (w.heap.size + 1, qm, qx), (w.heap.size, pm, px)])
    case first =>
      rcases hb with ⟨g1, g3, RA⟩ | ⟨g1, g3, g4, g5⟩
      · subst g1 g3
        go_upto_region 3 with (fail)
        have HT0 : Fr w wc [(w1.heap.size, am, ax), (w.heap.size + 1, qm, qx), (w.heap.size, pm, px)] := FR.out
        refine wp_region_S (fun u : World => Fr w u [(w1.heap.size, am, ax), (w.heap.size + 1, qm, qx), (w.heap.size, pm, px)]) 5 (by kernel_rfl) ?_
        have HS := HT0.later (Ext.refl _).drew
        clear HT0 FR
        refine GoS.take (i := 0) (v := ?_) rfl (by kernel_rfl) (by kernel_rfl) (by kernel_rfl) (by kernel_rfl) (fun _ _ _ h => h) (Or.inl ⟨by rfl, ?hy173⟩) HS ?_
        case hy173 => ((intro u' hT; have da0 := hT.c0 (b := w1.heap.size) (.head _); have da1 := hT.c1 (b := w1.heap.size) (.head _); go_simp); try with_reducible rfl)
        try simp only [List.getElem_toArray, List.getElem_cons_zero, Act.put, List.setIfInBounds_toArray, List.set_cons_zero, List.set_cons_succ]
        refine GoS.pure (i := 1) (v := ?_) rfl (by kernel_rfl) (by kernel_rfl) (by kernel_rfl) (by kernel_rfl) (fun _ _ _ h => h) (Or.inl ⟨by rfl, ?hy174⟩) (fun _ => HS) ?_
        case hy174 => ((intro u' hT; go_simp); try with_reducible rfl)
        try simp only [List.getElem_toArray, List.getElem_cons_succ, List.getElem_cons_zero, Act.put, List.setIfInBounds_toArray, List.set_cons_zero, List.set_cons_succ]
        refine GoS.pure (i := 2) (v := ?_) rfl (by kernel_rfl) (by kernel_rfl) (by kernel_rfl) (by kernel_rfl) (fun _ _ _ h => h) (Or.inl ⟨by rfl, ?hy175⟩) (fun _ => HS) ?_
        case hy175 => ((intro u' hT; go_simp); try with_reducible rfl)
        try simp only [List.getElem_toArray, List.getElem_cons_succ, List.getElem_cons_zero, Act.put, List.setIfInBounds_toArray, List.set_cons_zero, List.set_cons_succ]
        refine GoS.one (i := 3) (by kernel_rfl) rfl (fun K hK => ?_)
        go_simp
        (with_reducible refine (RA.call _).mono ?_)
        rintro e q176 ⟨rfl, hx176⟩
        have HS2 := HS.later hx176
        clear HS; have HS := HS2; clear HS2 hx176
        go_wp2_with fail
        refine hK.out _ _ HS (fun _ => ?_)
        clear hK K
        try simp only [List.getElem_toArray, List.getElem_cons_succ, List.getElem_cons_zero, Act.put, List.setIfInBounds_toArray, List.set_cons_zero, List.set_cons_succ]
        refine GoS.one (i := 4) (by kernel_rfl) rfl (fun K hK => ?_)
        go_simp
        (with_reducible refine (is_true am ax _).mono ?_)
        rintro e q177 ⟨rfl, hx177⟩
        have HS2 := HS.later hx177
        clear HS; have HS := HS2; clear HS2 hx177
        go_wp2_with fail
        refine hK.out _ _ HS (fun _ => ?_)
        clear hK K
        try simp only [List.getElem_toArray, List.getElem_cons_succ, List.getElem_cons_zero, Act.put, List.setIfInBounds_toArray, List.set_cons_zero, List.set_cons_succ]
        refine GoS.store (i := 5) (by kernel_rfl) rfl (by kernel_rfl) (fun K hK => ?_)
        go_simp
        refine hK.out _ _ ?_
        clear hK K
        try simp only [List.getElem_toArray, List.getElem_cons_succ, List.getElem_cons_zero, Act.put, List.setIfInBounds_toArray, List.set_cons_zero, List.set_cons_succ]
        refine GoS.done (by kernel_rfl) ?_
        have FR := Lib.hid HS; clear HS
        go_wp2_with fail
        go_meet
        exact ⟨rfl, FR.out⟩
      · subst g1 g3 g4 g5
        have ca0 := FR.out.c0 (b := w1.heap.size) (.head _); have ca1 := FR.out.c1 (b := w1.heap.size) (.head _)
        go_wp2_with fail
        go_meet
        exact ⟨rfl, FR.out⟩
    case rest =>
      obtain ⟨rfl, hfr⟩ := hcut
      clear FR hb; have FR := Lib.hid hfr; clear hfr
      go_upto_region 7 with (fail)
      have HT0 : Fr w wc [(w1.heap.size, am, ax), (w.heap.size + 1, qm, qx), (w.heap.size, pm, px)] := FR.out
      refine wp_region_S (fun u : World => Fr w u [(w1.heap.size, am, ax), (w.heap.size + 1, qm, qx), (w.heap.size, pm, px)]) 11 (by kernel_rfl) ?_
      have HS := HT0.later (Ext.refl _).drew
      clear HT0 FR
      refine GoS.pure (i := 0) (v := ?_) rfl (by kernel_rfl) (by kernel_rfl) (by kernel_rfl) (by kernel_rfl) (fun _ _ _ h => h) (Or.inl ⟨by rfl, ?hy178⟩) (fun _ => HS) ?_
      case hy178 => ((intro u' hT; go_simp); try with_reducible rfl)
      try simp only [List.getElem_toArray, List.getElem_cons_zero, Act.put, List.setIfInBounds_toArray, List.set_cons_zero, List.set_cons_succ]
      refine GoS.pure (i := 2) (v := ?_) rfl (by kernel_rfl) (by kernel_rfl) (by kernel_rfl) (by kernel_rfl) (fun _ _ _ h => h) (Or.inl ⟨by rfl, ?hy179⟩) (fun _ => HS) ?_
      case hy179 => ((intro u' hT; go_simp); try with_reducible rfl)
      try simp only [List.getElem_toArray, List.getElem_cons_succ, List.getElem_cons_zero, Act.put, List.setIfInBounds_toArray, List.set_cons_zero, List.set_cons_succ]
      refine GoS.one (i := 1) (by kernel_rfl) rfl (fun K hK => ?_)
      go_simp
      (with_reducible refine (FI.call _).mono ?_)
      rintro e q180 ⟨rfl, hx180⟩
      have HS2 := HS.later hx180
      clear HS; have HS := HS2; clear HS2 hx180
      go_wp2_with fail
      refine hK.out _ _ HS (fun _ => ?_)
      clear hK K
      try simp only [List.getElem_toArray, List.getElem_cons_succ, List.getElem_cons_zero, Act.put, List.setIfInBounds_toArray, List.set_cons_zero, List.set_cons_succ]
      refine GoS.one (i := 3) (by kernel_rfl) rfl (fun K hK => ?_)
      go_simp
      (with_reducible refine (RFI.call _).mono ?_)
      rintro e q181 ⟨rfl, hx181⟩
      have HS2 := HS.later hx181
      clear HS; have HS := HS2; clear HS2 hx181
      go_wp2_with fail
      refine hK.out _ _ HS (fun _ => ?_)
      clear hK K
      try simp only [List.getElem_toArray, List.getElem_cons_succ, List.getElem_cons_zero, Act.put, List.setIfInBounds_toArray, List.set_cons_zero, List.set_cons_succ]
      refine GoS.pure (i := 4) (v := ?_) rfl (by kernel_rfl) (by kernel_rfl) (by kernel_rfl) (by kernel_rfl) (fun _ _ _ h => h) (Or.inl ⟨by rfl, ?hy182⟩) (fun _ => HS) ?_
      case hy182 => ((intro u' hT; go_simp); try with_reducible rfl)
      try simp only [List.getElem_toArray, List.getElem_cons_succ, List.getElem_cons_zero, Act.put, List.setIfInBounds_toArray, List.set_cons_zero, List.set_cons_succ]
      refine GoS.pure (i := 5) (v := ?_) rfl (by kernel_rfl) (by kernel_rfl) (by kernel_rfl) (by kernel_rfl) (fun _ _ _ h => h) (Or.inl ⟨by rfl, ?hy183⟩) (fun _ => HS) ?_
      case hy183 => ((intro u' hT; go_simp); try with_reducible rfl)
      try simp only [List.getElem_toArray, List.getElem_cons_succ, List.getElem_cons_zero, Act.put, List.setIfInBounds_toArray, List.set_cons_zero, List.set_cons_succ]
      refine GoS.take (i := 6) (v := ?_) rfl (by kernel_rfl) (by kernel_rfl) (by kernel_rfl) (by kernel_rfl) (fun _ _ _ h => h) (Or.inl ⟨by rfl, ?hy184⟩) HS ?_
      case hy184 => ((intro u' hT; have dx0 := hT.c0 (b := w.heap.size) (.tail _ (.tail _ (.head _))); have dx1 := hT.c1 (b := w.heap.size) (.tail _ (.tail _ (.head _))); go_simp); try with_reducible rfl)
      try simp only [List.getElem_toArray, List.getElem_cons_succ, List.getElem_cons_zero, Act.put, List.setIfInBounds_toArray, List.set_cons_zero, List.set_cons_succ]
      refine GoS.take (i := 8) (v := ?_) rfl (by kernel_rfl) (by kernel_rfl) (by kernel_rfl) (by kernel_rfl) (fun _ _ _ h => h) (Or.inl ⟨by rfl, ?hy185⟩) HS ?_
      case hy185 => ((intro u' hT; have dx0 := hT.c0 (b := w.heap.size) (.tail _ (.tail _ (.head _))); have dx1 := hT.c1 (b := w.heap.size) (.tail _ (.tail _ (.head _))); go_simp); try with_reducible rfl)
      try simp only [List.getElem_toArray, List.getElem_cons_succ, List.getElem_cons_zero, Act.put, List.setIfInBounds_toArray, List.set_cons_zero, List.set_cons_succ]
      refine GoS.one (i := 7) (by kernel_rfl) rfl (fun K hK => ?_)
      go_simp
      (with_reducible refine (VA.call _).mono ?_)
      rintro e q186 ⟨rfl, hx186⟩
      have HS2 := HS.later hx186
      clear HS; have HS := HS2; clear HS2 hx186
      go_wp2_with fail
      refine hK.out _ _ HS (fun _ => ?_)
      clear hK K
      try simp only [List.getElem_toArray, List.getElem_cons_succ, List.getElem_cons_zero, Act.put, List.setIfInBounds_toArray, List.set_cons_zero, List.set_cons_succ]
      refine GoS.one (i := 9) (by kernel_rfl) rfl (fun K hK => ?_)
      go_simp
      (with_reducible refine (VX.call _).mono ?_)
      rintro e q187 ⟨rfl, hx187⟩
      have HS2 := HS.later hx187
      clear HS; have HS := HS2; clear HS2 hx187
      go_wp2_with fail
      refine hK.out _ _ HS (fun _ => ?_)
      clear hK K
      try simp only [List.getElem_toArray, List.getElem_cons_succ, List.getElem_cons_zero, Act.put, List.setIfInBounds_toArray, List.set_cons_zero, List.set_cons_succ]
      refine GoS.pure (i := 10) (v := ?_) rfl (by kernel_rfl) (by kernel_rfl) (by kernel_rfl) (by kernel_rfl) (fun _ _ _ h => h) (Or.inl ⟨by rfl, ?hy188⟩) (fun _ => HS) ?_
      case hy188 => ((intro u' hT; go_simp); try with_reducible rfl)
      try simp only [List.getElem_toArray, List.getElem_cons_succ, List.getElem_cons_zero, Act.put, List.setIfInBounds_toArray, List.set_cons_zero, List.set_cons_succ]
      refine GoS.store (i := 11) (by kernel_rfl) rfl (by kernel_rfl) (fun K hK => ?_)
      go_simp
      refine hK.out _ _ ?_
      clear hK K
      try simp only [List.getElem_toArray, List.getElem_cons_succ, List.getElem_cons_zero, Act.put, List.setIfInBounds_toArray, List.set_cons_zero, List.set_cons_succ]
      refine GoS.done (by kernel_rfl) ?_
      have FR := Lib.hid HS; clear HS
      have cx0 := FR.out.c0 (b := w.heap.size) (.tail _ (.tail _ (.head _))); have cx1 := FR.out.c1 (b := w.heap.size) (.tail _ (.tail _ (.head _)))
      go_wp2_with fail
      refine (IX _).mono ?_
      rintro e w2 ⟨rfl, hx⟩
      have FR2 : Hid (Fr w w2 [(w1.heap.size, am, ax), (w.heap.size + 1, qm, qx), (w.heap.size, pm, px)]) := Lib.hid (FR.out.later hx)
      clear cx0 cx1
      clear hx FR; have FR := FR2; clear FR2
      have cx0 := FR.out.c0 (b := w.heap.size) (.tail _ (.tail _ (.head _))); have cx1 := FR.out.c1 (b := w.heap.size) (.tail _ (.tail _ (.head _)))
      go_wp2_with fail
      refine (NX _).mono ?_
      rintro e w3 ⟨rfl, hx⟩
      have FR2 : Hid (Fr w w3 [(w1.heap.size, am, ax), (w.heap.size + 1, qm, qx), (w.heap.size, pm, px)]) := Lib.hid (FR.out.later hx)
      clear cx0 cx1
      clear hx FR; have FR := FR2; clear FR2
      have cx0 := FR.out.g0 (b := w.heap.size) (.tail _ (.tail _ (.head _))); have cx1 := FR.out.g1 (b := w.heap.size) (.tail _ (.tail _ (.head _)))
      go_wp2_with fail
      refine (NG _).mono ?_
      rintro e w4 ⟨rfl, hx⟩
      have FR2 : Hid (Fr w w4 [(w3.heap.size, nm, nx), (w1.heap.size, am, ax), (w.heap.size + 1, qm, qx), (w.heap.size, pm, px)]) := Lib.hid ((FR.out.lay (nm) (nx) 23).later hx)
      clear cx0 cx1
      clear hx FR; have FR := FR2; clear FR2
      have cx0 := FR.out.g0 (b := w.heap.size) (.tail _ (.tail _ (.tail _ (.head _)))); have cx1 := FR.out.g1 (b := w.heap.size) (.tail _ (.tail _ (.tail _ (.head _))))
      go_wp2_with fail
      refine (AB _).mono ?_
      rintro e w5 ⟨rfl, hx⟩
      have FR2 : Hid (Fr w w5 [(w4.heap.size, gm, px), (w3.heap.size, nm, nx), (w1.heap.size, am, ax), (w.heap.size + 1, qm, qx), (w.heap.size, pm, px)]) := Lib.hid ((FR.out.lay (gm) (px) 23).later hx)
      clear cx0 cx1
      clear hx FR; have FR := FR2; clear FR2
      have cx0 := FR.out.g0 (b := w.heap.size) (.tail _ (.tail _ (.tail _ (.tail _ (.head _))))); have cx1 := FR.out.g1 (b := w.heap.size) (.tail _ (.tail _ (.tail _ (.tail _ (.head _)))))
      go_wp2_with fail
      refine (SG _).mono ?_
      rintro e w6 ⟨rfl, hx⟩
      have FR2 : Hid (Fr w w6 [(w5.heap.size, wm, px), (w4.heap.size, gm, px), (w3.heap.size, nm, nx), (w1.heap.size, am, ax), (w.heap.size + 1, qm, qx), (w.heap.size, pm, px)]) := Lib.hid ((FR.out.lay (wm) (px) 23).later hx)
      clear cx0 cx1
      clear hx FR; have FR := FR2; clear FR2
      have cx0 := FR.out.c0 (b := w.heap.size) (.tail _ (.tail _ (.tail _ (.tail _ (.tail _ (.head _)))))); have cx1 := FR.out.c1 (b := w.heap.size) (.tail _ (.tail _ (.tail _ (.tail _ (.tail _ (.head _))))))
      have cy0 := FR.out.c0 (b := w.heap.size + 1) (.tail _ (.tail _ (.tail _ (.tail _ (.head _))))); have cy1 := FR.out.c1 (b := w.heap.size + 1) (.tail _ (.tail _ (.tail _ (.tail _ (.head _)))))
      go_wp2_with fail
      refine (CM _).mono ?_
      rintro e w7 ⟨rfl, hx⟩
      have FR2 : Hid (Fr w w7 [(w5.heap.size, wm, px), (w4.heap.size, gm, px), (w3.heap.size, nm, nx), (w1.heap.size, am, ax), (w.heap.size + 1, qm, qx), (w.heap.size, pm, px)]) := Lib.hid (FR.out.later hx)
      clear cx0 cx1 cy0 cy1
      clear hx FR; have FR := FR2; clear FR2
      have cx0 := FR.out.c0 (b := w.heap.size) (.tail _ (.tail _ (.tail _ (.tail _ (.tail _ (.head _)))))); have cx1 := FR.out.c1 (b := w.heap.size) (.tail _ (.tail _ (.tail _ (.tail _ (.tail _ (.head _))))))
      go_wp2_with fail
      refine (VX _).mono ?_
      rintro e w8 ⟨rfl, hx⟩
      have FR2 : Hid (Fr w w8 [(w5.heap.size, wm, px), (w4.heap.size, gm, px), (w3.heap.size, nm, nx), (w1.heap.size, am, ax), (w.heap.size + 1, qm, qx), (w.heap.size, pm, px)]) := Lib.hid (FR.out.later hx)
      clear cx0 cx1
      clear hx FR; have FR := FR2; clear FR2
      have cy0 := FR.out.c0 (b := w.heap.size + 1) (.tail _ (.tail _ (.tail _ (.tail _ (.head _))))); have cy1 := FR.out.c1 (b := w.heap.size + 1) (.tail _ (.tail _ (.tail _ (.tail _ (.head _)))))
      go_wp2_with fail
      refine (VY _).mono ?_
      rintro e w9 ⟨rfl, hx⟩
      have FR2 : Hid (Fr w w9 [(w5.heap.size, wm, px), (w4.heap.size, gm, px), (w3.heap.size, nm, nx), (w1.heap.size, am, ax), (w.heap.size + 1, qm, qx), (w.heap.size, pm, px)]) := Lib.hid (FR.out.later hx)
      clear cy0 cy1
      clear hx FR; have FR := FR2; clear FR2
      have cy0 := FR.out.c0 (b := w.heap.size + 1) (.tail _ (.tail _ (.tail _ (.tail _ (.head _))))); have cy1 := FR.out.c1 (b := w.heap.size + 1) (.tail _ (.tail _ (.tail _ (.tail _ (.head _)))))
      go_wp2_with fail
      refine (VY _).mono ?_
      rintro e w10 ⟨rfl, hx⟩
      have FR2 : Hid (Fr w w10 [(w5.heap.size, wm, px), (w4.heap.size, gm, px), (w3.heap.size, nm, nx), (w1.heap.size, am, ax), (w.heap.size + 1, qm, qx), (w.heap.size, pm, px)]) := Lib.hid (FR.out.later hx)
      clear cy0 cy1
      clear hx FR; have FR := FR2; clear FR2
      have cx0 := FR.out.c0 (b := w.heap.size) (.tail _ (.tail _ (.tail _ (.tail _ (.tail _ (.head _)))))); have cx1 := FR.out.c1 (b := w.heap.size) (.tail _ (.tail _ (.tail _ (.tail _ (.tail _ (.head _))))))
      go_upto_region 20 with (fail)
      have FR2 : Hid (Fr w _ [(w10.heap.size, pm, px), (w5.heap.size, wm, px), (w4.heap.size, gm, px), (w3.heap.size, nm, nx), (w1.heap.size, am, ax), (w.heap.size + 1, qm, qx), (w.heap.size, pm, px)]) := Lib.hid (FR.out.lay pm px 23); clear FR cx0 cx1; have FR := FR2; clear FR2
      generalize hww : w10.alloc (.cells #[.int .i64 pm, .int .i64 px] 23) = ww at *
      clear hww
      have HW := Lib.hid hw; clear hw
      go_cut [174] from 172 (fun s wx => ∃ b : Bool, s = .bool b ∧ b = decide (pm < 0) ∧ Fr w wx [(w10.heap.size, pm, px), (w5.heap.size, wm, px), (w4.heap.size, gm, px), (w3.heap.size, nm, nx), (w1.heap.size, am, ax), (w.heap.size + 1, qm, qx), (w.heap.size, pm, px)])
      case first =>
        have cx0 := FR.out.c0 (b := w.heap.size) (.tail _ (.tail _ (.tail _ (.tail _ (.tail _ (.tail _ (.head _))))))); have cx1 := FR.out.c1 (b := w.heap.size) (.tail _ (.tail _ (.tail _ (.tail _ (.tail _ (.tail _ (.head _)))))))
        go_wp2_with fail
        go_meet
        exact ⟨_, rfl, by first | rfl | simp, FR.out⟩
      case rest =>
        obtain ⟨bn, rfl, hbn, hfr⟩ := hcut
        have HBN := Lib.hid hbn; clear hbn
        clear FR; have FR := Lib.hid hfr; clear hfr
        go_upto_if 174 with (fail)
        go_cut [8] from 175 (fun s wx => s = .bool false ∧ Fr w wx [(w10.heap.size, wm, px), (w5.heap.size, wm, px), (w4.heap.size, gm, px), (w3.heap.size, nm, nx), (w1.heap.size, am, ax), (w.heap.size + 1, qm, qx), (w.heap.size, pm, px)])
        case first =>
          rcases HW.out with ⟨g1, g2⟩ | ⟨g1, g2⟩
          · obtain rfl : bn = true := HBN.out.trans (decide_eq_true (by omega))
            have G2 := Lib.hid g2; clear g2
            have cx0 := FR.out.c0 (b := w.heap.size) (.tail _ (.tail _ (.tail _ (.tail _ (.tail _ (.tail _ (.head _))))))); have cx1 := FR.out.c1 (b := w.heap.size) (.tail _ (.tail _ (.tail _ (.tail _ (.tail _ (.tail _ (.head _)))))))
            go_wp2_with fail
            refine (RN _).mono ?_
            rintro e w11 ⟨rfl, hx⟩
            have FR2 : Hid (Fr w w11 [(w10.heap.size, pm, px), (w5.heap.size, wm, px), (w4.heap.size, gm, px), (w3.heap.size, nm, nx), (w1.heap.size, am, ax), (w.heap.size + 1, qm, qx), (w.heap.size, pm, px)]) := Lib.hid (FR.out.later hx)
            clear cx0 cx1
            clear hx FR; have FR := FR2; clear FR2
            have st0 := FR.out.c0 (b := w10.heap.size) (.head _); have st1 := FR.out.c1 (b := w10.heap.size) (.head _); have stf := FR.out.fz (b := w10.heap.size) (.head _)
            have FS := FR.out.set 0 rfl (gm) (px)
            have FS : Fr w ((w11.setCell ⟨w10.heap.size, 0, none⟩ (.int .i64 (gm))).setCell ⟨w10.heap.size, 1, none⟩ (.int .i64 (px))) [(w10.heap.size, gm, px), (w5.heap.size, wm, px), (w4.heap.size, gm, px), (w3.heap.size, nm, nx), (w1.heap.size, am, ax), (w.heap.size + 1, qm, qx), (w.heap.size, pm, px)] := FS
            go_wp2_with fail
            go_meet
            exact ⟨rfl, by simpa only [G2.out] using FS⟩
          · obtain rfl : bn = false := HBN.out.trans (decide_eq_false (by omega))
            have G2 := Lib.hid g2; clear g2
            go_wp2_with fail
            go_meet
            exact ⟨rfl, by simpa only [G2.out] using FR.out⟩
        case rest =>
            obtain ⟨rfl, hfr⟩ := hcut
            clear FR HW HBN; have FR := Lib.hid hfr; clear hfr
            go_upto_region 22 with (fail)
            have HT0 : Fr w wc [(w10.heap.size, wm, px), (w5.heap.size, wm, px), (w4.heap.size, gm, px), (w3.heap.size, nm, nx), (w1.heap.size, am, ax), (w.heap.size + 1, qm, qx), (w.heap.size, pm, px)] := FR.out
            refine wp_region_S (fun u : World => Fr w u [(w10.heap.size, wm, px), (w5.heap.size, wm, px), (w4.heap.size, gm, px), (w3.heap.size, nm, nx), (w1.heap.size, am, ax), (w.heap.size + 1, qm, qx), (w.heap.size, pm, px)]) 33 (by kernel_rfl) ?_
            have HS := HT0.later (Ext.refl _).drew
            clear HT0 FR
            refine GoS.pure (i := 0) (v := ?_) rfl (by kernel_rfl) (by kernel_rfl) (by kernel_rfl) (by kernel_rfl) (fun _ _ _ h => h) (Or.inl ⟨by rfl, ?hy189⟩) (fun _ => HS) ?_
            case hy189 => ((intro u' hT; go_simp); try with_reducible rfl)
            try simp only [List.getElem_toArray, List.getElem_cons_zero, Act.put, List.setIfInBounds_toArray, List.set_cons_zero, List.set_cons_succ]
            refine GoS.pure (i := 1) (v := ?_) rfl (by kernel_rfl) (by kernel_rfl) (by kernel_rfl) (by kernel_rfl) (fun _ _ _ h => h) (Or.inl ⟨by rfl, ?hy190⟩) (fun _ => HS) ?_
            case hy190 => ((intro u' hT; go_simp); try with_reducible rfl)
            try simp only [List.getElem_toArray, List.getElem_cons_succ, List.getElem_cons_zero, Act.put, List.setIfInBounds_toArray, List.set_cons_zero, List.set_cons_succ]
            refine GoS.pure (i := 2) (v := ?_) rfl (by kernel_rfl) (by kernel_rfl) (by kernel_rfl) (by kernel_rfl) (fun _ _ _ h => h) (Or.inl ⟨by rfl, ?hy191⟩) (fun _ => HS) ?_
            case hy191 => ((intro u' hT; go_simp); try with_reducible rfl)
            try simp only [List.getElem_toArray, List.getElem_cons_succ, List.getElem_cons_zero, Act.put, List.setIfInBounds_toArray, List.set_cons_zero, List.set_cons_succ]
            refine GoS.pure (i := 3) (v := ?_) rfl (by kernel_rfl) (by kernel_rfl) (by kernel_rfl) (by kernel_rfl) (fun _ _ _ h => h) (Or.inl ⟨by rfl, ?hy192⟩) (fun _ => HS) ?_
            case hy192 => ((intro u' hT; go_simp); try with_reducible rfl)
            try simp only [List.getElem_toArray, List.getElem_cons_succ, List.getElem_cons_zero, Act.put, List.setIfInBounds_toArray, List.set_cons_zero, List.set_cons_succ]
            refine GoS.take (i := 4) (v := ?_) rfl (by kernel_rfl) (by kernel_rfl) (by kernel_rfl) (by kernel_rfl) (fun _ _ _ h => h) (Or.inl ⟨by rfl, ?hy193⟩) HS ?_
            case hy193 => ((intro u' hT; have dx0 := hT.c0 (b := w.heap.size) (.tail _ (.tail _ (.tail _ (.tail _ (.tail _ (.tail _ (.head _))))))); have dx1 := hT.c1 (b := w.heap.size) (.tail _ (.tail _ (.tail _ (.tail _ (.tail _ (.tail _ (.head _))))))); go_simp); try with_reducible rfl)
            try simp only [List.getElem_toArray, List.getElem_cons_succ, List.getElem_cons_zero, Act.put, List.setIfInBounds_toArray, List.set_cons_zero, List.set_cons_succ]
            refine GoS.one (i := 5) (by kernel_rfl) rfl (fun K hK => ?_)
            go_simp
            (with_reducible refine (RI.call _).mono ?_)
            rintro e q194 ⟨rfl, hx194⟩
            have HS2 := HS.later hx194
            clear HS; have HS := HS2; clear HS2 hx194
            go_wp2_with fail
            refine hK.out _ _ HS (fun _ => ?_)
            clear hK K
            try simp only [List.getElem_toArray, List.getElem_cons_succ, List.getElem_cons_zero, Act.put, List.setIfInBounds_toArray, List.set_cons_zero, List.set_cons_succ]
            refine GoS.pure (i := 6) (v := ?_) rfl (by kernel_rfl) (by kernel_rfl) (by kernel_rfl) (by kernel_rfl) (fun _ _ _ h => h) (Or.inl ⟨by rfl, ?hy195⟩) (fun _ => HS) ?_
            case hy195 => ((intro u' hT; go_simp); try with_reducible rfl)
            try simp only [List.getElem_toArray, List.getElem_cons_succ, List.getElem_cons_zero, Act.put, List.setIfInBounds_toArray, List.set_cons_zero, List.set_cons_succ]
            refine GoS.pure (i := 7) (v := ?_) rfl (by kernel_rfl) (by kernel_rfl) (by kernel_rfl) (by kernel_rfl) (fun _ _ _ h => h) (Or.inl ⟨by rfl, ?hy196⟩) (fun _ => HS) ?_
            case hy196 => ((intro u' hT; go_simp); try with_reducible rfl)
            try simp only [List.getElem_toArray, List.getElem_cons_succ, List.getElem_cons_zero, Act.put, List.setIfInBounds_toArray, List.set_cons_zero, List.set_cons_succ]
            refine GoS.pure (i := 8) (v := ?_) rfl (by kernel_rfl) (by kernel_rfl) (by kernel_rfl) (by kernel_rfl) (fun _ _ _ h => h) (Or.inl ⟨by rfl, ?hy197⟩) (fun _ => HS) ?_
            case hy197 => ((intro u' hT; go_simp); try with_reducible rfl)
            try simp only [List.getElem_toArray, List.getElem_cons_succ, List.getElem_cons_zero, Act.put, List.setIfInBounds_toArray, List.set_cons_zero, List.set_cons_succ]
            refine GoS.take (i := 9) (v := ?_) rfl (by kernel_rfl) (by kernel_rfl) (by kernel_rfl) (by kernel_rfl) (fun _ _ _ h => h) (Or.inl ⟨by rfl, ?hy198⟩) HS ?_
            case hy198 => ((intro u' hT; have dng0 := hT.c0 (b := w4.heap.size) (.tail _ (.tail _ (.head _))); have dng1 := hT.c1 (b := w4.heap.size) (.tail _ (.tail _ (.head _))); go_simp); try with_reducible rfl)
            try simp only [List.getElem_toArray, List.getElem_cons_succ, List.getElem_cons_zero, Act.put, List.setIfInBounds_toArray, List.set_cons_zero, List.set_cons_succ]
            refine GoS.pure (i := 10) (v := ?_) rfl (by kernel_rfl) (by kernel_rfl) (by kernel_rfl) (by kernel_rfl) (fun _ _ _ h => h) (Or.inl ⟨by rfl, ?hy199⟩) (fun _ => HS) ?_
            case hy199 => ((intro u' hT; go_simp); try with_reducible rfl)
            try simp only [List.getElem_toArray, List.getElem_cons_succ, List.getElem_cons_zero, Act.put, List.setIfInBounds_toArray, List.set_cons_zero, List.set_cons_succ]
            refine GoS.take (i := 11) (v := ?_) rfl (by kernel_rfl) (by kernel_rfl) (by kernel_rfl) (by kernel_rfl) (fun _ _ _ h => h) (Or.inl ⟨by rfl, ?hy200⟩) HS ?_
            case hy200 => ((intro u' hT; have dx0 := hT.c0 (b := w.heap.size) (.tail _ (.tail _ (.tail _ (.tail _ (.tail _ (.tail _ (.head _))))))); have dx1 := hT.c1 (b := w.heap.size) (.tail _ (.tail _ (.tail _ (.tail _ (.tail _ (.tail _ (.head _))))))); go_simp); try with_reducible rfl)
            try simp only [List.getElem_toArray, List.getElem_cons_succ, List.getElem_cons_zero, Act.put, List.setIfInBounds_toArray, List.set_cons_zero, List.set_cons_succ]
            refine GoS.one (i := 12) (by kernel_rfl) rfl (fun K hK => ?_)
            go_simp
            (with_reducible refine (RN.call _).mono ?_)
            rintro e q201 ⟨rfl, hx201⟩
            have HS2 := HS.later hx201
            clear HS; have HS := HS2; clear HS2 hx201
            go_wp2_with fail
            refine hK.out _ _ HS (fun _ => ?_)
            clear hK K
            try simp only [List.getElem_toArray, List.getElem_cons_succ, List.getElem_cons_zero, Act.put, List.setIfInBounds_toArray, List.set_cons_zero, List.set_cons_succ]
            refine GoS.one (i := 13) (by kernel_rfl) rfl (fun K hK => ?_)
            go_simp
            (with_reducible refine (is_true gm px _).mono ?_)
            rintro e q202 ⟨rfl, hx202⟩
            have HS2 := HS.later hx202
            clear HS; have HS := HS2; clear HS2 hx202
            go_wp2_with fail
            refine hK.out _ _ HS (fun _ => ?_)
            clear hK K
            try simp only [List.getElem_toArray, List.getElem_cons_succ, List.getElem_cons_zero, Act.put, List.setIfInBounds_toArray, List.set_cons_zero, List.set_cons_succ]
            refine GoS.pure (i := 14) (v := ?_) rfl (by kernel_rfl) (by kernel_rfl) (by kernel_rfl) (by kernel_rfl) (fun _ _ _ h => h) (Or.inl ⟨by rfl, ?hy203⟩) (fun _ => HS) ?_
            case hy203 => ((intro u' hT; go_simp); try with_reducible rfl)
            try simp only [List.getElem_toArray, List.getElem_cons_succ, List.getElem_cons_zero, Act.put, List.setIfInBounds_toArray, List.set_cons_zero, List.set_cons_succ]
            refine GoS.pure (i := 15) (v := ?_) rfl (by kernel_rfl) (by kernel_rfl) (by kernel_rfl) (by kernel_rfl) (fun _ _ _ h => h) (Or.inl ⟨by rfl, ?hy204⟩) (fun _ => HS) ?_
            case hy204 => ((intro u' hT; go_simp); try with_reducible rfl)
            try simp only [List.getElem_toArray, List.getElem_cons_succ, List.getElem_cons_zero, Act.put, List.setIfInBounds_toArray, List.set_cons_zero, List.set_cons_succ]
            refine GoS.pure (i := 16) (v := ?_) rfl (by kernel_rfl) (by kernel_rfl) (by kernel_rfl) (by kernel_rfl) (fun _ _ _ h => h) (Or.inl ⟨by rfl, ?hy205⟩) (fun _ => HS) ?_
            case hy205 => ((intro u' hT; go_simp); try with_reducible rfl)
            try simp only [List.getElem_toArray, List.getElem_cons_succ, List.getElem_cons_zero, Act.put, List.setIfInBounds_toArray, List.set_cons_zero, List.set_cons_succ]
            refine GoS.take (i := 17) (v := ?_) rfl (by kernel_rfl) (by kernel_rfl) (by kernel_rfl) (by kernel_rfl) (fun _ _ _ h => h) (Or.inl ⟨by rfl, ?hy206⟩) HS ?_
            case hy206 => ((intro u' hT; have dab0 := hT.c0 (b := w5.heap.size) (.tail _ (.head _)); have dab1 := hT.c1 (b := w5.heap.size) (.tail _ (.head _)); go_simp); try with_reducible rfl)
            try simp only [List.getElem_toArray, List.getElem_cons_succ, List.getElem_cons_zero, Act.put, List.setIfInBounds_toArray, List.set_cons_zero, List.set_cons_succ]
            refine GoS.pure (i := 18) (v := ?_) rfl (by kernel_rfl) (by kernel_rfl) (by kernel_rfl) (by kernel_rfl) (fun _ _ _ h => h) (Or.inl ⟨by rfl, ?hy207⟩) (fun _ => HS) ?_
            case hy207 => ((intro u' hT; go_simp); try with_reducible rfl)
            try simp only [List.getElem_toArray, List.getElem_cons_succ, List.getElem_cons_zero, Act.put, List.setIfInBounds_toArray, List.set_cons_zero, List.set_cons_succ]
            refine GoS.take (i := 19) (v := ?_) rfl (by kernel_rfl) (by kernel_rfl) (by kernel_rfl) (by kernel_rfl) (fun _ _ _ h => h) (Or.inl ⟨by rfl, ?hy208⟩) HS ?_
            case hy208 => ((intro u' hT; have dwant0 := hT.c0 (b := w10.heap.size) (.head _); have dwant1 := hT.c1 (b := w10.heap.size) (.head _); go_simp); try with_reducible rfl)
            try simp only [List.getElem_toArray, List.getElem_cons_succ, List.getElem_cons_zero, Act.put, List.setIfInBounds_toArray, List.set_cons_zero, List.set_cons_succ]
            refine GoS.one (i := 20) (by kernel_rfl) rfl (fun K hK => ?_)
            go_simp
            (with_reducible refine (is_true wm px _).mono ?_)
            rintro e q209 ⟨rfl, hx209⟩
            have HS2 := HS.later hx209
            clear HS; have HS := HS2; clear HS2 hx209
            go_wp2_with fail
            refine hK.out _ _ HS (fun _ => ?_)
            clear hK K
            try simp only [List.getElem_toArray, List.getElem_cons_succ, List.getElem_cons_zero, Act.put, List.setIfInBounds_toArray, List.set_cons_zero, List.set_cons_succ]
            refine GoS.pure (i := 21) (v := ?_) rfl (by kernel_rfl) (by kernel_rfl) (by kernel_rfl) (by kernel_rfl) (fun _ _ _ h => h) (Or.inl ⟨by rfl, ?hy210⟩) (fun _ => HS) ?_
            case hy210 => ((intro u' hT; go_simp); try with_reducible rfl)
            try simp only [List.getElem_toArray, List.getElem_cons_succ, List.getElem_cons_zero, Act.put, List.setIfInBounds_toArray, List.set_cons_zero, List.set_cons_succ]
            refine GoS.pure (i := 22) (v := ?_) rfl (by kernel_rfl) (by kernel_rfl) (by kernel_rfl) (by kernel_rfl) (fun _ _ _ h => h) (Or.inl ⟨by rfl, ?hy211⟩) (fun _ => HS) ?_
            case hy211 => ((intro u' hT; go_simp); try with_reducible rfl)
            try simp only [List.getElem_toArray, List.getElem_cons_succ, List.getElem_cons_zero, Act.put, List.setIfInBounds_toArray, List.set_cons_zero, List.set_cons_succ]
            refine GoS.pure (i := 23) (v := ?_) rfl (by kernel_rfl) (by kernel_rfl) (by kernel_rfl) (by kernel_rfl) (fun _ _ _ h => h) (Or.inl ⟨by rfl, ?hy212⟩) (fun _ => HS) ?_
            case hy212 => ((intro u' hT; go_simp); try with_reducible rfl)
            try simp only [List.getElem_toArray, List.getElem_cons_succ, List.getElem_cons_zero, Act.put, List.setIfInBounds_toArray, List.set_cons_zero, List.set_cons_succ]
            refine GoS.pure (i := 24) (v := ?_) rfl (by kernel_rfl) (by kernel_rfl) (by kernel_rfl) (by kernel_rfl) (fun _ _ _ h => h) (Or.inl ⟨by rfl, ?hy213⟩) (fun _ => HS) ?_
            case hy213 => ((intro u' hT; go_simp); try with_reducible rfl)
            try simp only [List.getElem_toArray, List.getElem_cons_succ, List.getElem_cons_zero, Act.put, List.setIfInBounds_toArray, List.set_cons_zero, List.set_cons_succ]
            refine GoS.pure (i := 25) (v := ?_) rfl (by kernel_rfl) (by kernel_rfl) (by kernel_rfl) (by kernel_rfl) (fun _ _ _ h => h) (Or.inl ⟨by rfl, ?hy214⟩) (fun _ => HS) ?_
            case hy214 => ((intro u' hT; go_simp); try with_reducible rfl)
            try simp only [List.getElem_toArray, List.getElem_cons_succ, List.getElem_cons_zero, Act.put, List.setIfInBounds_toArray, List.set_cons_zero, List.set_cons_succ]
            refine GoS.pure (i := 26) (v := ?_) rfl (by kernel_rfl) (by kernel_rfl) (by kernel_rfl) (by kernel_rfl) (fun _ _ _ h => h) (Or.inl ⟨by rfl, ?hy215⟩) (fun _ => HS) ?_
            case hy215 => ((intro u' hT; go_simp); try with_reducible rfl)
            try simp only [List.getElem_toArray, List.getElem_cons_succ, List.getElem_cons_zero, Act.put, List.setIfInBounds_toArray, List.set_cons_zero, List.set_cons_succ]
            refine GoS.pure (i := 27) (v := ?_) rfl (by kernel_rfl) (by kernel_rfl) (by kernel_rfl) (by kernel_rfl) (fun _ _ _ h => h) (Or.inl ⟨by rfl, ?hy216⟩) (fun _ => HS) ?_
            case hy216 => ((intro u' hT; go_simp); try with_reducible rfl)
            try simp only [List.getElem_toArray, List.getElem_cons_succ, List.getElem_cons_zero, Act.put, List.setIfInBounds_toArray, List.set_cons_zero, List.set_cons_succ]
            refine GoS.pure (i := 28) (v := ?_) rfl (by kernel_rfl) (by kernel_rfl) (by kernel_rfl) (by kernel_rfl) (fun _ _ _ h => h) (Or.inl ⟨by rfl, ?hy217⟩) (fun _ => HS) ?_
            case hy217 => ((intro u' hT; go_simp); try with_reducible rfl)
            try simp only [List.getElem_toArray, List.getElem_cons_succ, List.getElem_cons_zero, Act.put, List.setIfInBounds_toArray, List.set_cons_zero, List.set_cons_succ]
            refine GoS.pure (i := 29) (v := ?_) rfl (by kernel_rfl) (by kernel_rfl) (by kernel_rfl) (by kernel_rfl) (fun _ _ _ h => h) (Or.inl ⟨by rfl, ?hy218⟩) (fun _ => HS) ?_
            case hy218 => ((intro u' hT; go_simp); try with_reducible rfl)
            try simp only [List.getElem_toArray, List.getElem_cons_succ, List.getElem_cons_zero, Act.put, List.setIfInBounds_toArray, List.set_cons_zero, List.set_cons_succ]
            refine GoS.take (i := 30) (v := ?_) rfl (by kernel_rfl) (by kernel_rfl) (by kernel_rfl) (by kernel_rfl) (fun _ _ _ h => h) (Or.inl ⟨by rfl, ?hy219⟩) HS ?_
            case hy219 => ((intro u' hT; have dx0 := hT.c0 (b := w.heap.size) (.tail _ (.tail _ (.tail _ (.tail _ (.tail _ (.tail _ (.head _))))))); have dx1 := hT.c1 (b := w.heap.size) (.tail _ (.tail _ (.tail _ (.tail _ (.tail _ (.tail _ (.head _))))))); go_simp); try with_reducible rfl)
            try simp only [List.getElem_toArray, List.getElem_cons_succ, List.getElem_cons_zero, Act.put, List.setIfInBounds_toArray, List.set_cons_zero, List.set_cons_succ]
            refine GoS.one (i := 31) (by kernel_rfl) rfl (fun K hK => ?_)
            go_simp
            (with_reducible refine (RS.call _).mono ?_)
            rintro e q220 ⟨rfl, hx220⟩
            have HS2 := HS.later hx220
            clear HS; have HS := HS2; clear HS2 hx220
            go_wp2_with fail
            refine hK.out _ _ HS (fun _ => ?_)
            clear hK K
            try simp only [List.getElem_toArray, List.getElem_cons_succ, List.getElem_cons_zero, Act.put, List.setIfInBounds_toArray, List.set_cons_zero, List.set_cons_succ]
            refine GoS.pure (i := 32) (v := ?_) rfl (by kernel_rfl) (by kernel_rfl) (by kernel_rfl) (by kernel_rfl) (fun _ _ _ h => h) (Or.inl ⟨by rfl, ?hy221⟩) (fun _ => HS) ?_
            case hy221 => ((intro u' hT; go_simp); try with_reducible rfl)
            try simp only [List.getElem_toArray, List.getElem_cons_succ, List.getElem_cons_zero, Act.put, List.setIfInBounds_toArray, List.set_cons_zero, List.set_cons_succ]
            refine GoS.store (i := 33) (by kernel_rfl) rfl (by kernel_rfl) (fun K hK => ?_)
            go_simp
            refine hK.out _ _ ?_
            clear hK K
            try simp only [List.getElem_toArray, List.getElem_cons_succ, List.getElem_cons_zero, Act.put, List.setIfInBounds_toArray, List.set_cons_zero, List.set_cons_succ]
            refine GoS.done (by kernel_rfl) ?_
            have FR := Lib.hid HS; clear HS
            go_upto_region 26 with (fail)
            have HT0 : Fr w q220 [(w10.heap.size, wm, px), (w5.heap.size, wm, px), (w4.heap.size, gm, px), (w3.heap.size, nm, nx), (w1.heap.size, am, ax), (w.heap.size + 1, qm, qx), (w.heap.size, pm, px)] := FR.out
            refine wp_region_S (fun u : World => Fr w u [(w10.heap.size, wm, px), (w5.heap.size, wm, px), (w4.heap.size, gm, px), (w3.heap.size, nm, nx), (w1.heap.size, am, ax), (w.heap.size + 1, qm, qx), (w.heap.size, pm, px)]) 9 (by kernel_rfl) ?_
            have HS := HT0.later (Ext.refl _).drew
            clear HT0 FR
            refine GoS.one (i := 0) (by kernel_rfl) rfl (fun K hK => ?_)
            go_simp
            (with_reducible refine (SN _ (HT.out.later HS.x)).mono ?_)
            rintro e q222 ⟨rfl, hx222⟩
            have HS2 := HS.later hx222
            clear HS; have HS := HS2; clear HS2 hx222
            go_wp2_with fail
            refine hK.out _ _ HS (fun _ => ?_)
            clear hK K
            try simp only [List.getElem_toArray, List.getElem_cons_succ, List.getElem_cons_zero, Act.put, List.setIfInBounds_toArray, List.set_cons_zero, List.set_cons_succ]
            refine GoS.pure (i := 1) (v := ?_) rfl (by kernel_rfl) (by kernel_rfl) (by kernel_rfl) (by kernel_rfl) (fun _ _ _ h => h) (Or.inl ⟨by rfl, ?hy223⟩) (fun _ => HS) ?_
            case hy223 => ((intro u' hT; go_simp); try with_reducible rfl)
            try simp only [List.getElem_toArray, List.getElem_cons_succ, List.getElem_cons_zero, Act.put, List.setIfInBounds_toArray, List.set_cons_zero, List.set_cons_succ]
            refine GoS.take (i := 2) (v := ?_) rfl (by kernel_rfl) (by kernel_rfl) (by kernel_rfl) (by kernel_rfl) (fun _ _ _ h => h) (Or.inl ⟨by rfl, ?hy224⟩) HS ?_
            case hy224 => ((intro u' hT; have dnx0 := hT.c0 (b := w3.heap.size) (.tail _ (.tail _ (.tail _ (.head _)))); have dnx1 := hT.c1 (b := w3.heap.size) (.tail _ (.tail _ (.tail _ (.head _)))); go_simp); try with_reducible rfl)
            try simp only [List.getElem_toArray, List.getElem_cons_succ, List.getElem_cons_zero, Act.put, List.setIfInBounds_toArray, List.set_cons_zero, List.set_cons_succ]
            refine GoS.pure (i := 3) (v := ?_) rfl (by kernel_rfl) (by kernel_rfl) (by kernel_rfl) (by kernel_rfl) (fun _ _ _ h => h) (Or.inl ⟨by rfl, ?hy225⟩) (fun _ => HS) ?_
            case hy225 => ((intro u' hT; go_simp); try with_reducible rfl)
            try simp only [List.getElem_toArray, List.getElem_cons_succ, List.getElem_cons_zero, Act.put, List.setIfInBounds_toArray, List.set_cons_zero, List.set_cons_succ]
            refine GoS.pure (i := 4) (v := ?_) rfl (by kernel_rfl) (by kernel_rfl) (by kernel_rfl) (by kernel_rfl) (fun _ _ _ h => h) (Or.inl ⟨by rfl, ?hy226⟩) (fun _ => HS) ?_
            case hy226 => ((intro u' hT; go_simp); try with_reducible rfl)
            try simp only [List.getElem_toArray, List.getElem_cons_succ, List.getElem_cons_zero, Act.put, List.setIfInBounds_toArray, List.set_cons_zero, List.set_cons_succ]
            refine GoS.pure (i := 5) (v := ?_) rfl (by kernel_rfl) (by kernel_rfl) (by kernel_rfl) (by kernel_rfl) (fun _ _ _ h => h) (Or.inl ⟨by rfl, ?hy227⟩) (fun _ => HS) ?_
            case hy227 => ((intro u' hT; go_simp); try with_reducible rfl)
            try simp only [List.getElem_toArray, List.getElem_cons_succ, List.getElem_cons_zero, Act.put, List.setIfInBounds_toArray, List.set_cons_zero, List.set_cons_succ]
            refine GoS.one (i := 6) (by kernel_rfl) rfl (fun K hK => ?_)
            go_simp
            (with_reducible refine (RA1.call _).mono ?_)
            rintro e q228 ⟨rfl, hx228⟩
            have HS2 := HS.later hx228
            clear HS; have HS := HS2; clear HS2 hx228
            go_wp2_with fail
            refine hK.out _ _ HS (fun _ => ?_)
            clear hK K
            try simp only [List.getElem_toArray, List.getElem_cons_succ, List.getElem_cons_zero, Act.put, List.setIfInBounds_toArray, List.set_cons_zero, List.set_cons_succ]
            refine GoS.one (i := 7) (by kernel_rfl) rfl (fun K hK => ?_)
            go_simp
            (with_reducible refine (is_true nm nx _).mono ?_)
            rintro e q229 ⟨rfl, hx229⟩
            have HS2 := HS.later hx229
            clear HS; have HS := HS2; clear HS2 hx229
            go_wp2_with fail
            refine hK.out _ _ HS (fun _ => ?_)
            clear hK K
            try simp only [List.getElem_toArray, List.getElem_cons_succ, List.getElem_cons_zero, Act.put, List.setIfInBounds_toArray, List.set_cons_zero, List.set_cons_succ]
            refine GoS.pure (i := 8) (v := ?_) rfl (by kernel_rfl) (by kernel_rfl) (by kernel_rfl) (by kernel_rfl) (fun _ _ _ h => h) (Or.inl ⟨by rfl, ?hy230⟩) (fun _ => HS) ?_
            case hy230 => ((intro u' hT; go_simp); try with_reducible rfl)
            try simp only [List.getElem_toArray, List.getElem_cons_succ, List.getElem_cons_zero, Act.put, List.setIfInBounds_toArray, List.set_cons_zero, List.set_cons_succ]
            refine GoS.store (i := 9) (by kernel_rfl) rfl (by kernel_rfl) (fun K hK => ?_)
            go_simp
            refine hK.out _ _ ?_
            clear hK K
            try simp only [List.getElem_toArray, List.getElem_cons_succ, List.getElem_cons_zero, Act.put, List.setIfInBounds_toArray, List.set_cons_zero, List.set_cons_succ]
            refine GoS.done (by kernel_rfl) ?_
            have FR := Lib.hid HS; clear HS
            go_wp2
            go_ret
            exact ⟨rfl, FR.out.x⟩
end Go.Proofs.YthmndafjogndaaaGreatDoor.realNumbers
