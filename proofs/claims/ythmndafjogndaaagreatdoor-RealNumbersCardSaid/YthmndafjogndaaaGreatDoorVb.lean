/- The walk of RealNumbers: an x that is no real. -/
import Derived.Test.YthmndafjogndaaaGreatDoorVa
import Derived.Test.YthmndafjogndaaaGreatDoorTh
import Derived.Test.YthmndafjogndaaaGreatDoorGr
import Derived.Deep.Cut
namespace Go.Proofs.YthmndafjogndaaaGreatDoor.realNumbers
open Go.RowKit

set_option maxRecDepth 100000 in
set_option maxHeartbeats 16000000 in
theorem bad_x (w : World) (ht : Tb w) (pm px qm qx idx n am ax ae fm fx  : Int) (AT : Ret 10 #[.int .i64 idx] (.tuple #[.agg #[.int .i64 am, .int .i64 ax], .int .i64 ae])) (hat : (idx ≥ -2533359615 ∧ idx ≤ 2533359615 ∧ ae = 0 ∧ Ret 12 #[.int .i64 idx] (.agg #[.int .i64 am, .int .i64 ax])) ∨ (¬ idx ≥ -2533359615 ∧ am = 0 ∧ ax = 0 ∧ ae = 1) ∨ (idx ≥ -2533359615 ∧ ¬ idx ≤ 2533359615 ∧ am = 0 ∧ ax = 0 ∧ ae = 1)) (FI : Ret 13 #[.int .i64 n] (.agg #[.int .i64 fm, .int .i64 fx])) (RFI : Ret 14 #[.int .i64 n] (.agg #[.int .i64 fm, .int .i64 fx])) (VA : Ret 15 #[.agg #[.int .i64 pm, .int .i64 px]] (.bool false)) (VX : Ret 16 #[.agg #[.int .i64 pm, .int .i64 px]] (.bool false)) (IX : Ret 17 #[.agg #[.int .i64 pm, .int .i64 px]] (.tuple #[.int .i64 0, .int .i64 1])) (NX : Ret 18 #[.agg #[.int .i64 pm, .int .i64 px]] (.tuple #[.agg #[.int .i64 0, .int .i64 0], .int .i64 1])) (NG : Ret 19 #[.agg #[.int .i64 pm, .int .i64 px]] (.tuple #[.agg #[.int .i64 0, .int .i64 0], .int .i64 1])) (AB : Ret 20 #[.agg #[.int .i64 pm, .int .i64 px]] (.tuple #[.agg #[.int .i64 0, .int .i64 0], .int .i64 1])) (SG : Ret 21 #[.agg #[.int .i64 pm, .int .i64 px]] (.tuple #[.int .i64 0, .int .i64 1])) (CM : Ret 22 #[.agg #[.int .i64 pm, .int .i64 px], .agg #[.int .i64 qm, .int .i64 qx]] (.tuple #[.int .i64 0, .int .i64 1])) (SN : ∀ u, Tb u → Calls Tryz.prog 23 #[] u fun e u' => e = .returned (.bool true) ∧ Ext u u') :
    Calls Tryz.prog 3 #[.agg #[.int .i64 pm, .int .i64 px], .agg #[.int .i64 qm, .int .i64 qx], .int .i64 idx, .int .i64 n] w fun e w' => e = .returned (.bool true) ∧ Ext w w' := by
  have HT := Lib.hid ht; clear ht
  have FR := Lib.hid (Fr.nil w)
  have eqR := eqReal
  go_enter Tryz.func3, Tryz.ntmps3
  have HAT := Lib.hid hat; clear hat
  go_wp2_with fail
  refine (AT _).mono ?_
  rintro e w1 ⟨rfl, hx⟩
  have FR2 : Hid (Fr w w1 [(w.heap.size + 1, qm, qx), (w.heap.size, pm, px)]) := Lib.hid ((FR.out.lay2 (pm) (px) (qm) (qx) 23).later hx)
  clear hx FR; have FR := FR2; clear FR2
  go_upto_region 2 with (fail)
  have FR2 : Hid (Fr w _ [(w1.heap.size, am, ax), (w.heap.size + 1, qm, qx), (w.heap.size, pm, px)]) := Lib.hid (FR.out.lay am ax 23); clear FR; have FR := FR2; clear FR2
  generalize w1.alloc (.cells #[.int .i64 am, .int .i64 ax] 23) = wa at *
  go_cut [33] from 28 (fun s wx => ∃ b : Bool, s = .bool b ∧ ((b = true ∧ ae = 0 ∧ Ret 12 #[.int .i64 idx] (.agg #[.int .i64 am, .int .i64 ax])) ∨ (b = false ∧ am = 0 ∧ ax = 0 ∧ ae = 1)) ∧ Fr w wx [(w1.heap.size, am, ax), (w.heap.size + 1, qm, qx), (w.heap.size, pm, px)])
  case first =>
    rcases HAT.out with ⟨g1, g2, g3, RA⟩ | ⟨g1, g3, g4, g5⟩ | ⟨g1, g2, g3, g4, g5⟩
    · have G := Lib.hid (And.intro g3 RA); clear g3 RA
      go_wp2_with fail
      go_meet
      exact ⟨true, by first | rfl | (simp; done) | (simp; omega), .inl ⟨rfl, G.out⟩, FR.out⟩
    · have G := Lib.hid (And.intro g3 (And.intro g4 g5)); clear g3 g4 g5
      go_wp2_with fail
      go_meet
      exact ⟨false, by first | rfl | (simp; done) | (simp; omega), .inr ⟨rfl, G.out⟩, FR.out⟩
    · have G := Lib.hid (And.intro g3 (And.intro g4 g5)); clear g3 g4 g5
      go_wp2_with fail
      go_meet
      exact ⟨false, by first | rfl | (simp; done) | (simp; omega), .inr ⟨rfl, G.out⟩, FR.out⟩
  case rest =>
    obtain ⟨b, rfl, hb, hfr⟩ := hcut
    clear FR HAT; have FR := Lib.hid hfr; clear hfr
    go_upto_if 33 with (fail)
    go_cut [8] from 34 (fun s wx => s = .bool false ∧ Fr w wx [(w1.heap.size, am, ax), (w.heap.size + 1, qm, qx), (w.heap.size, pm, px)])
    case first =>
      rcases hb with ⟨g1, g3, RA⟩ | ⟨g1, g3, g4, g5⟩
      · subst g1 g3
        go_upto_region 3 with (fail)
        have HT0 : Fr w wc [(w1.heap.size, am, ax), (w.heap.size + 1, qm, qx), (w.heap.size, pm, px)] := FR.out
        refine wp_region_S (fun u : World => Fr w u [(w1.heap.size, am, ax), (w.heap.size + 1, qm, qx), (w.heap.size, pm, px)]) 5 (by kernel_rfl) ?_
        have HS := HT0.later (Ext.refl _).drew
        clear HT0 FR
        refine GoS.take (i := 0) (v := ?_) rfl (by kernel_rfl) (by kernel_rfl) (by kernel_rfl) (by kernel_rfl) (fun _ _ _ h => h) (Or.inl ⟨by rfl, ?hy1⟩) HS ?_
        case hy1 => ((intro u' hT; have da0 := hT.c0 (b := w1.heap.size) (.head _); have da1 := hT.c1 (b := w1.heap.size) (.head _); go_simp); try with_reducible rfl)
        try simp only [List.getElem_toArray, List.getElem_cons_zero, Act.put, List.setIfInBounds_toArray, List.set_cons_zero, List.set_cons_succ]
        refine GoS.pure (i := 1) (v := ?_) rfl (by kernel_rfl) (by kernel_rfl) (by kernel_rfl) (by kernel_rfl) (fun _ _ _ h => h) (Or.inl ⟨by rfl, ?hy2⟩) (fun _ => HS) ?_
        case hy2 => ((intro u' hT; go_simp); try with_reducible rfl)
        try simp only [List.getElem_toArray, List.getElem_cons_succ, List.getElem_cons_zero, Act.put, List.setIfInBounds_toArray, List.set_cons_zero, List.set_cons_succ]
        refine GoS.pure (i := 2) (v := ?_) rfl (by kernel_rfl) (by kernel_rfl) (by kernel_rfl) (by kernel_rfl) (fun _ _ _ h => h) (Or.inl ⟨by rfl, ?hy3⟩) (fun _ => HS) ?_
        case hy3 => ((intro u' hT; go_simp); try with_reducible rfl)
        try simp only [List.getElem_toArray, List.getElem_cons_succ, List.getElem_cons_zero, Act.put, List.setIfInBounds_toArray, List.set_cons_zero, List.set_cons_succ]
        refine GoS.one (i := 3) (by kernel_rfl) rfl (fun K hK => ?_)
        go_simp
        (with_reducible refine (RA.call _).mono ?_)
        rintro e q4 ⟨rfl, hx4⟩
        have HS2 := HS.later hx4
        clear HS; have HS := HS2; clear HS2 hx4
        go_wp2_with fail
        refine hK.out _ _ HS (fun _ => ?_)
        clear hK K
        try simp only [List.getElem_toArray, List.getElem_cons_succ, List.getElem_cons_zero, Act.put, List.setIfInBounds_toArray, List.set_cons_zero, List.set_cons_succ]
        refine GoS.one (i := 4) (by kernel_rfl) rfl (fun K hK => ?_)
        go_simp
        (with_reducible refine (is_true am ax _).mono ?_)
        rintro e q5 ⟨rfl, hx5⟩
        have HS2 := HS.later hx5
        clear HS; have HS := HS2; clear HS2 hx5
        go_wp2_with fail
        refine hK.out _ _ HS (fun _ => ?_)
        clear hK K
        try simp only [List.getElem_toArray, List.getElem_cons_succ, List.getElem_cons_zero, Act.put, List.setIfInBounds_toArray, List.set_cons_zero, List.set_cons_succ]
        refine GoS.store (i := 5) (by kernel_rfl) rfl (by kernel_rfl) (fun K hK => ?_)
        go_simp
        refine hK.out _ _ ?_
        clear hK K
        try simp only [List.getElem_toArray, List.getElem_cons_succ, List.getElem_cons_zero, Act.put, List.setIfInBounds_toArray, List.set_cons_zero, List.set_cons_succ]
        refine GoS.done (by kernel_rfl) ?_
        have FR := Lib.hid HS; clear HS
        go_wp2_with fail
        go_meet
        exact ⟨rfl, FR.out⟩
      · subst g1 g3 g4 g5
        have ca0 := FR.out.c0 (b := w1.heap.size) (.head _); have ca1 := FR.out.c1 (b := w1.heap.size) (.head _)
        go_wp2_with fail
        go_meet
        exact ⟨rfl, FR.out⟩
    case rest =>
      obtain ⟨rfl, hfr⟩ := hcut
      clear FR hb; have FR := Lib.hid hfr; clear hfr
      go_upto_region 7 with (fail)
      have HT0 : Fr w wc [(w1.heap.size, am, ax), (w.heap.size + 1, qm, qx), (w.heap.size, pm, px)] := FR.out
      refine wp_region_S (fun u : World => Fr w u [(w1.heap.size, am, ax), (w.heap.size + 1, qm, qx), (w.heap.size, pm, px)]) 11 (by kernel_rfl) ?_
      have HS := HT0.later (Ext.refl _).drew
      clear HT0 FR
      refine GoS.pure (i := 0) (v := ?_) rfl (by kernel_rfl) (by kernel_rfl) (by kernel_rfl) (by kernel_rfl) (fun _ _ _ h => h) (Or.inl ⟨by rfl, ?hy6⟩) (fun _ => HS) ?_
      case hy6 => ((intro u' hT; go_simp); try with_reducible rfl)
      try simp only [List.getElem_toArray, List.getElem_cons_zero, Act.put, List.setIfInBounds_toArray, List.set_cons_zero, List.set_cons_succ]
      refine GoS.pure (i := 2) (v := ?_) rfl (by kernel_rfl) (by kernel_rfl) (by kernel_rfl) (by kernel_rfl) (fun _ _ _ h => h) (Or.inl ⟨by rfl, ?hy7⟩) (fun _ => HS) ?_
      case hy7 => ((intro u' hT; go_simp); try with_reducible rfl)
      try simp only [List.getElem_toArray, List.getElem_cons_succ, List.getElem_cons_zero, Act.put, List.setIfInBounds_toArray, List.set_cons_zero, List.set_cons_succ]
      refine GoS.one (i := 1) (by kernel_rfl) rfl (fun K hK => ?_)
      go_simp
      (with_reducible refine (FI.call _).mono ?_)
      rintro e q8 ⟨rfl, hx8⟩
      have HS2 := HS.later hx8
      clear HS; have HS := HS2; clear HS2 hx8
      go_wp2_with fail
      refine hK.out _ _ HS (fun _ => ?_)
      clear hK K
      try simp only [List.getElem_toArray, List.getElem_cons_succ, List.getElem_cons_zero, Act.put, List.setIfInBounds_toArray, List.set_cons_zero, List.set_cons_succ]
      refine GoS.one (i := 3) (by kernel_rfl) rfl (fun K hK => ?_)
      go_simp
      (with_reducible refine (RFI.call _).mono ?_)
      rintro e q9 ⟨rfl, hx9⟩
      have HS2 := HS.later hx9
      clear HS; have HS := HS2; clear HS2 hx9
      go_wp2_with fail
      refine hK.out _ _ HS (fun _ => ?_)
      clear hK K
      try simp only [List.getElem_toArray, List.getElem_cons_succ, List.getElem_cons_zero, Act.put, List.setIfInBounds_toArray, List.set_cons_zero, List.set_cons_succ]
      refine GoS.pure (i := 4) (v := ?_) rfl (by kernel_rfl) (by kernel_rfl) (by kernel_rfl) (by kernel_rfl) (fun _ _ _ h => h) (Or.inl ⟨by rfl, ?hy10⟩) (fun _ => HS) ?_
      case hy10 => ((intro u' hT; go_simp); try with_reducible rfl)
      try simp only [List.getElem_toArray, List.getElem_cons_succ, List.getElem_cons_zero, Act.put, List.setIfInBounds_toArray, List.set_cons_zero, List.set_cons_succ]
      refine GoS.pure (i := 5) (v := ?_) rfl (by kernel_rfl) (by kernel_rfl) (by kernel_rfl) (by kernel_rfl) (fun _ _ _ h => h) (Or.inl ⟨by rfl, ?hy11⟩) (fun _ => HS) ?_
      case hy11 => ((intro u' hT; go_simp); try with_reducible rfl)
      try simp only [List.getElem_toArray, List.getElem_cons_succ, List.getElem_cons_zero, Act.put, List.setIfInBounds_toArray, List.set_cons_zero, List.set_cons_succ]
      refine GoS.take (i := 6) (v := ?_) rfl (by kernel_rfl) (by kernel_rfl) (by kernel_rfl) (by kernel_rfl) (fun _ _ _ h => h) (Or.inl ⟨by rfl, ?hy12⟩) HS ?_
      case hy12 => ((intro u' hT; have dx0 := hT.c0 (b := w.heap.size) (.tail _ (.tail _ (.head _))); have dx1 := hT.c1 (b := w.heap.size) (.tail _ (.tail _ (.head _))); go_simp); try with_reducible rfl)
      try simp only [List.getElem_toArray, List.getElem_cons_succ, List.getElem_cons_zero, Act.put, List.setIfInBounds_toArray, List.set_cons_zero, List.set_cons_succ]
      refine GoS.take (i := 8) (v := ?_) rfl (by kernel_rfl) (by kernel_rfl) (by kernel_rfl) (by kernel_rfl) (fun _ _ _ h => h) (Or.inl ⟨by rfl, ?hy13⟩) HS ?_
      case hy13 => ((intro u' hT; have dx0 := hT.c0 (b := w.heap.size) (.tail _ (.tail _ (.head _))); have dx1 := hT.c1 (b := w.heap.size) (.tail _ (.tail _ (.head _))); go_simp); try with_reducible rfl)
      try simp only [List.getElem_toArray, List.getElem_cons_succ, List.getElem_cons_zero, Act.put, List.setIfInBounds_toArray, List.set_cons_zero, List.set_cons_succ]
      refine GoS.one (i := 7) (by kernel_rfl) rfl (fun K hK => ?_)
      go_simp
      (with_reducible refine (VA.call _).mono ?_)
      rintro e q14 ⟨rfl, hx14⟩
      have HS2 := HS.later hx14
      clear HS; have HS := HS2; clear HS2 hx14
      go_wp2_with fail
      refine hK.out _ _ HS (fun _ => ?_)
      clear hK K
      try simp only [List.getElem_toArray, List.getElem_cons_succ, List.getElem_cons_zero, Act.put, List.setIfInBounds_toArray, List.set_cons_zero, List.set_cons_succ]
      refine GoS.one (i := 9) (by kernel_rfl) rfl (fun K hK => ?_)
      go_simp
      (with_reducible refine (VX.call _).mono ?_)
      rintro e q15 ⟨rfl, hx15⟩
      have HS2 := HS.later hx15
      clear HS; have HS := HS2; clear HS2 hx15
      go_wp2_with fail
      refine hK.out _ _ HS (fun _ => ?_)
      clear hK K
      try simp only [List.getElem_toArray, List.getElem_cons_succ, List.getElem_cons_zero, Act.put, List.setIfInBounds_toArray, List.set_cons_zero, List.set_cons_succ]
      refine GoS.pure (i := 10) (v := ?_) rfl (by kernel_rfl) (by kernel_rfl) (by kernel_rfl) (by kernel_rfl) (fun _ _ _ h => h) (Or.inl ⟨by rfl, ?hy16⟩) (fun _ => HS) ?_
      case hy16 => ((intro u' hT; go_simp); try with_reducible rfl)
      try simp only [List.getElem_toArray, List.getElem_cons_succ, List.getElem_cons_zero, Act.put, List.setIfInBounds_toArray, List.set_cons_zero, List.set_cons_succ]
      refine GoS.store (i := 11) (by kernel_rfl) rfl (by kernel_rfl) (fun K hK => ?_)
      go_simp
      refine hK.out _ _ ?_
      clear hK K
      try simp only [List.getElem_toArray, List.getElem_cons_succ, List.getElem_cons_zero, Act.put, List.setIfInBounds_toArray, List.set_cons_zero, List.set_cons_succ]
      refine GoS.done (by kernel_rfl) ?_
      have FR := Lib.hid HS; clear HS
      have cx0 := FR.out.c0 (b := w.heap.size) (.tail _ (.tail _ (.head _))); have cx1 := FR.out.c1 (b := w.heap.size) (.tail _ (.tail _ (.head _)))
      go_wp2_with fail
      refine (IX _).mono ?_
      rintro e w2 ⟨rfl, hx⟩
      have FR2 : Hid (Fr w w2 [(w1.heap.size, am, ax), (w.heap.size + 1, qm, qx), (w.heap.size, pm, px)]) := Lib.hid (FR.out.later hx)
      clear cx0 cx1
      clear hx FR; have FR := FR2; clear FR2
      have cx0 := FR.out.c0 (b := w.heap.size) (.tail _ (.tail _ (.head _))); have cx1 := FR.out.c1 (b := w.heap.size) (.tail _ (.tail _ (.head _)))
      go_wp2_with fail
      refine (NX _).mono ?_
      rintro e w3 ⟨rfl, hx⟩
      have FR2 : Hid (Fr w w3 [(w1.heap.size, am, ax), (w.heap.size + 1, qm, qx), (w.heap.size, pm, px)]) := Lib.hid (FR.out.later hx)
      clear cx0 cx1
      clear hx FR; have FR := FR2; clear FR2
      have cx0 := FR.out.g0 (b := w.heap.size) (.tail _ (.tail _ (.head _))); have cx1 := FR.out.g1 (b := w.heap.size) (.tail _ (.tail _ (.head _)))
      go_wp2_with fail
      refine (NG _).mono ?_
      rintro e w4 ⟨rfl, hx⟩
      have FR2 : Hid (Fr w w4 [(w3.heap.size, 0, 0), (w1.heap.size, am, ax), (w.heap.size + 1, qm, qx), (w.heap.size, pm, px)]) := Lib.hid ((FR.out.lay (0) (0) 23).later hx)
      clear cx0 cx1
      clear hx FR; have FR := FR2; clear FR2
      have cx0 := FR.out.g0 (b := w.heap.size) (.tail _ (.tail _ (.tail _ (.head _)))); have cx1 := FR.out.g1 (b := w.heap.size) (.tail _ (.tail _ (.tail _ (.head _))))
      go_wp2_with fail
      refine (AB _).mono ?_
      rintro e w5 ⟨rfl, hx⟩
      have FR2 : Hid (Fr w w5 [(w4.heap.size, 0, 0), (w3.heap.size, 0, 0), (w1.heap.size, am, ax), (w.heap.size + 1, qm, qx), (w.heap.size, pm, px)]) := Lib.hid ((FR.out.lay (0) (0) 23).later hx)
      clear cx0 cx1
      clear hx FR; have FR := FR2; clear FR2
      have cx0 := FR.out.g0 (b := w.heap.size) (.tail _ (.tail _ (.tail _ (.tail _ (.head _))))); have cx1 := FR.out.g1 (b := w.heap.size) (.tail _ (.tail _ (.tail _ (.tail _ (.head _)))))
      go_wp2_with fail
      refine (SG _).mono ?_
      rintro e w6 ⟨rfl, hx⟩
      have FR2 : Hid (Fr w w6 [(w5.heap.size, 0, 0), (w4.heap.size, 0, 0), (w3.heap.size, 0, 0), (w1.heap.size, am, ax), (w.heap.size + 1, qm, qx), (w.heap.size, pm, px)]) := Lib.hid ((FR.out.lay (0) (0) 23).later hx)
      clear cx0 cx1
      clear hx FR; have FR := FR2; clear FR2
      have cx0 := FR.out.c0 (b := w.heap.size) (.tail _ (.tail _ (.tail _ (.tail _ (.tail _ (.head _)))))); have cx1 := FR.out.c1 (b := w.heap.size) (.tail _ (.tail _ (.tail _ (.tail _ (.tail _ (.head _))))))
      have cy0 := FR.out.c0 (b := w.heap.size + 1) (.tail _ (.tail _ (.tail _ (.tail _ (.head _))))); have cy1 := FR.out.c1 (b := w.heap.size + 1) (.tail _ (.tail _ (.tail _ (.tail _ (.head _)))))
      go_wp2_with fail
      refine (CM _).mono ?_
      rintro e w7 ⟨rfl, hx⟩
      have FR2 : Hid (Fr w w7 [(w5.heap.size, 0, 0), (w4.heap.size, 0, 0), (w3.heap.size, 0, 0), (w1.heap.size, am, ax), (w.heap.size + 1, qm, qx), (w.heap.size, pm, px)]) := Lib.hid (FR.out.later hx)
      clear cx0 cx1 cy0 cy1
      clear hx FR; have FR := FR2; clear FR2
      have cx0 := FR.out.c0 (b := w.heap.size) (.tail _ (.tail _ (.tail _ (.tail _ (.tail _ (.head _)))))); have cx1 := FR.out.c1 (b := w.heap.size) (.tail _ (.tail _ (.tail _ (.tail _ (.tail _ (.head _))))))
      go_wp2_with fail
      refine (VX _).mono ?_
      rintro e w8 ⟨rfl, hx⟩
      have FR2 : Hid (Fr w w8 [(w5.heap.size, 0, 0), (w4.heap.size, 0, 0), (w3.heap.size, 0, 0), (w1.heap.size, am, ax), (w.heap.size + 1, qm, qx), (w.heap.size, pm, px)]) := Lib.hid (FR.out.later hx)
      clear cx0 cx1
      clear hx FR; have FR := FR2; clear FR2
      go_wp2_with fail
      refine (SN _ (HT.out.later FR.out.x)).mono ?_
      rintro e w9 ⟨rfl, hx⟩
      have FR2 : Hid (Fr w w9 [(w5.heap.size, 0, 0), (w4.heap.size, 0, 0), (w3.heap.size, 0, 0), (w1.heap.size, am, ax), (w.heap.size + 1, qm, qx), (w.heap.size, pm, px)]) := Lib.hid (FR.out.later hx)
      clear hx FR; have FR := FR2; clear FR2
      have cnx0 := FR.out.c0 (b := w3.heap.size) (.tail _ (.tail _ (.head _))); have cnx1 := FR.out.c1 (b := w3.heap.size) (.tail _ (.tail _ (.head _)))
      have cng0 := FR.out.c0 (b := w4.heap.size) (.tail _ (.head _)); have cng1 := FR.out.c1 (b := w4.heap.size) (.tail _ (.head _))
      have cab0 := FR.out.c0 (b := w5.heap.size) (.head _); have cab1 := FR.out.c1 (b := w5.heap.size) (.head _)
      go_wp2
      go_ret
      exact ⟨rfl, FR.out.x⟩
end Go.Proofs.YthmndafjogndaaaGreatDoor.realNumbers
