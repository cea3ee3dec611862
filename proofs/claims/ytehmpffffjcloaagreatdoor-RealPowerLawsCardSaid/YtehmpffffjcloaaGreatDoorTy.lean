/- Layer 2: the walk of RealPowerLaws. -/
import Derived.Test.YtehmpffffjcloaaGreatDoorTv
import Derived.Deep.Cut
namespace Go.Proofs.YtehmpffffjcloaaGreatDoor
open Go.RowKit

set_option maxRecDepth 100000 in
set_option maxHeartbeats 8000000 in
theorem plaw_even (w : World) (ht : Tb w) (i n : Int) (pm px sm sx tm tx gm gx am ax rm rx qm qx se te ae qe c : Int) (A : Ret 56 #[.int .i64 i] (.agg #[.int .i64 pm, .int .i64 px])) (P1 : Ret 46 #[.agg #[.int .i64 pm, .int .i64 px], .int .i64 1] (.tuple #[.agg #[.int .i64 pm, .int .i64 px], .int .i64 0])) (P2 : Ret 46 #[.agg #[.int .i64 pm, .int .i64 px], .int .i64 2] (.tuple #[.agg #[.int .i64 sm, .int .i64 sx], .int .i64 se])) (MU : Ret 40 #[.agg #[.int .i64 pm, .int .i64 px], .agg #[.int .i64 pm, .int .i64 px]] (.tuple #[.agg #[.int .i64 sm, .int .i64 sx], .int .i64 se])) (FT : Ret 20 #[.int .i64 2] (.agg #[.int .i64 8388608, .int .i64 (-22)])) (PT : Ret 46 #[.agg #[.int .i64 8388608, .int .i64 (-22)], .int .i64 n] (.tuple #[.agg #[.int .i64 tm, .int .i64 tx], .int .i64 te])) (TW : -126 ≤ n → n ≤ 173 → Ret 62 #[.int .i64 n] (.agg #[.int .i64 8388608, .int .i64 (n - 23)])) (ht2 : -126 ≤ n → n ≤ 173 → tm = 8388608 ∧ tx = n - 23 ∧ te = 0) (NG : Ret 26 #[.agg #[.int .i64 pm, .int .i64 px]] (.tuple #[.agg #[.int .i64 gm, .int .i64 gx], .int .i64 0])) (PX : Ret 46 #[.agg #[.int .i64 pm, .int .i64 px], .int .i64 n] (.tuple #[.agg #[.int .i64 am, .int .i64 ax], .int .i64 ae])) (PM : Ret 46 #[.agg #[.int .i64 gm, .int .i64 gx], .int .i64 n] (.tuple #[.agg #[.int .i64 am, .int .i64 ax], .int .i64 ae])) (h2 : n.tmod 2 = 0) (TH : Ret 62 #[.int .i64 (-100)] (.agg #[.int .i64 8388608, .int .i64 (-123)])) (CP : Ret 29 #[.agg #[.int .i64 sm, .int .i64 sx], .agg #[.int .i64 8388608, .int .i64 (-123)]] (.tuple #[.int .i64 c, .int .i64 0])) (AB : Ret 27 #[.agg #[.int .i64 pm, .int .i64 px]] (.tuple #[.agg #[.int .i64 rm, .int .i64 rx], .int .i64 0])) (SQ : Ret 42 #[.agg #[.int .i64 sm, .int .i64 sx]] (.tuple #[.agg #[.int .i64 qm, .int .i64 qx], .int .i64 qe])) (fin : se = 0 → qe = 0 ∧ (0 ≤ c → qm = rm ∧ qx = rx)) (SN : ∀ u, Tb u → Calls Tryz.prog 30 #[] u fun e u' => e = .returned (.bool true) ∧ Ext u u') :
    Calls Tryz.prog 14 #[.int .i64 i, .int .i64 n] w fun e w' => e = .returned (.bool true) ∧ Ext w w' := by
  have HT := Lib.hid ht; clear ht
  have IS : Ret 18 #[.agg #[.int .i64 pm, .int .i64 px], .int .i64 0, .agg #[.int .i64 pm, .int .i64 px]] (.bool true) := is_true pm px
  have IS2 : Ret 18 #[.agg #[.int .i64 8388608, .int .i64 (n - 23)], .int .i64 0, .agg #[.int .i64 8388608, .int .i64 (n - 23)]] (.bool true) := is_true 8388608 (n - 23)
  have EQ := equal_same sm sx se
  have HF := Lib.hid fin; clear fin
  have H2 := Lib.hid ht2; clear ht2
  have HTW := Lib.hid TW; clear TW
  have FR := Lib.hid (Fr.nil w)
  have eqR := eqReal
  go_enter Tryz.func14, Tryz.ntmps14
  go_wp2_with fail
  refine (A _).mono ?_
  rintro e w1 ⟨rfl, hx⟩
  have FR2 : Hid (Fr w w1 []) := Lib.hid (FR.out.later hx)
  clear hx FR; have FR := FR2; clear FR2
  go_wp2_with fail
  refine (P1 _).mono ?_
  rintro e w2 ⟨rfl, hx⟩
  have FR2 : Hid (Fr w w2 [(w1.heap.size, pm, px)]) := Lib.hid ((FR.out.lay (pm) (px) 23).later hx)
  clear hx FR; have FR := FR2; clear FR2
  have cx0 := FR.out.g0 (b := w1.heap.size) (.head _); have cx1 := FR.out.g1 (b := w1.heap.size) (.head _)
  go_wp2_with fail
  refine (P2 _).mono ?_
  rintro e w3 ⟨rfl, hx⟩
  have FR2 : Hid (Fr w w3 [(w2.heap.size, pm, px), (w1.heap.size, pm, px)]) := Lib.hid ((FR.out.lay (pm) (px) 23).later hx)
  clear cx0 cx1
  clear hx FR; have FR := FR2; clear FR2
  have cx0 := FR.out.g0 (b := w1.heap.size) (.tail _ (.head _)); have cx1 := FR.out.g1 (b := w1.heap.size) (.tail _ (.head _))
  go_wp2_with fail
  refine (MU _).mono ?_
  rintro e w4 ⟨rfl, hx⟩
  have FR2 : Hid (Fr w w4 [(w3.heap.size, sm, sx), (w2.heap.size, pm, px), (w1.heap.size, pm, px)]) := Lib.hid ((FR.out.lay (sm) (sx) 23).later hx)
  clear cx0 cx1
  clear hx FR; have FR := FR2; clear FR2
  have cone0 := FR.out.g0 (b := w2.heap.size) (.tail _ (.head _)); have cone1 := FR.out.g1 (b := w2.heap.size) (.tail _ (.head _))
  have cx0 := FR.out.g0 (b := w1.heap.size) (.tail _ (.tail _ (.head _))); have cx1 := FR.out.g1 (b := w1.heap.size) (.tail _ (.tail _ (.head _)))
  go_wp2_with fail
  refine (IS _).mono ?_
  rintro e w5 ⟨rfl, hx⟩
  have FR2 : Hid (Fr w w5 [(w4.heap.size, sm, sx), (w3.heap.size, sm, sx), (w2.heap.size, pm, px), (w1.heap.size, pm, px)]) := Lib.hid ((FR.out.lay (sm) (sx) 23).later hx)
  clear cone0 cone1 cx0 cx1
  clear hx FR; have FR := FR2; clear FR2
  have csq0 := FR.out.c0 (b := w3.heap.size) (.tail _ (.head _)); have csq1 := FR.out.c1 (b := w3.heap.size) (.tail _ (.head _))
  have cpr0 := FR.out.c0 (b := w4.heap.size) (.head _); have cpr1 := FR.out.c1 (b := w4.heap.size) (.head _)
  go_wp2_with fail
  refine (EQ _).mono ?_
  rintro e w6 ⟨rfl, hx⟩
  have FR2 : Hid (Fr w w6 [(w4.heap.size, sm, sx), (w3.heap.size, sm, sx), (w2.heap.size, pm, px), (w1.heap.size, pm, px)]) := Lib.hid (FR.out.later hx)
  clear csq0 csq1 cpr0 cpr1
  clear hx FR; have FR := FR2; clear FR2
  go_wp2_with fail
  refine (FT _).mono ?_
  rintro e w7 ⟨rfl, hx⟩
  have FR2 : Hid (Fr w w7 [(w4.heap.size, sm, sx), (w3.heap.size, sm, sx), (w2.heap.size, pm, px), (w1.heap.size, pm, px)]) := Lib.hid (FR.out.later hx)
  clear hx FR; have FR := FR2; clear FR2
  go_wp2_with fail
  refine (PT _).mono ?_
  rintro e w8 ⟨rfl, hx⟩
  have FR2 : Hid (Fr w w8 [(w4.heap.size, sm, sx), (w3.heap.size, sm, sx), (w2.heap.size, pm, px), (w1.heap.size, pm, px)]) := Lib.hid (FR.out.later hx)
  clear hx FR; have FR := FR2; clear FR2
  go_upto_region 8 with (fail)
  have FR2 : Hid (Fr w _ [(w8.heap.size, tm, tx), (w4.heap.size, sm, sx), (w3.heap.size, sm, sx), (w2.heap.size, pm, px), (w1.heap.size, pm, px)]) := Lib.hid (FR.out.lay tm tx 23); clear FR; have FR := FR2; clear FR2
  revert FR; generalize (w8.alloc (.cells #[.int .i64 tm, .int .i64 tx] 23)) = wz; intro FR
  go_cut [70] from 57 (fun s wx => s = .bool false ∧ Fr w wx [(w8.heap.size, tm, tx), (w4.heap.size, sm, sx), (w3.heap.size, sm, sx), (w2.heap.size, pm, px), (w1.heap.size, pm, px)])
  case first =>
    by_cases k1 : n ≥ -126
    · by_cases k2 : n ≤ 173
      · obtain ⟨rfl, rfl, rfl⟩ := H2.out k1 k2
        have TW := HTW.out k1 k2
        refine wp_region_S (fun u : World => Fr w u [(w8.heap.size, 8388608, (n - 23)), (w4.heap.size, sm, sx), (w3.heap.size, sm, sx), (w2.heap.size, pm, px), (w1.heap.size, pm, px)]) 13 (by kernel_rfl) ?_
        have HS := FR.out.later (Ext.refl _).drew
        clear FR
        refine GoS.pure (i := 0) (v := ?_) rfl (by kernel_rfl) (by kernel_rfl) (by kernel_rfl) (by kernel_rfl) (fun _ _ _ h => h) (Or.inl ⟨by rfl, ?hy1⟩) (fun _ => HS) ?_
        case hy1 => ((intro u' hT; go_simp); try with_reducible rfl)
        try simp only [List.getElem_toArray, List.getElem_cons_zero, Act.put, List.setIfInBounds_toArray, List.set_cons_zero, List.set_cons_succ]
        refine GoS.pure (i := 1) (v := ?_) rfl (by kernel_rfl) (by kernel_rfl) (by kernel_rfl) (by kernel_rfl) (fun _ _ _ h => h) (Or.inl ⟨by rfl, ?hy2⟩) (fun _ => HS) ?_
        case hy2 => ((intro u' hT; go_simp); try with_reducible rfl)
        try simp only [List.getElem_toArray, List.getElem_cons_succ, List.getElem_cons_zero, Act.put, List.setIfInBounds_toArray, List.set_cons_zero, List.set_cons_succ]
        refine GoS.pure (i := 2) (v := ?_) rfl (by kernel_rfl) (by kernel_rfl) (by kernel_rfl) (by kernel_rfl) (fun _ _ _ h => h) (Or.inl ⟨by rfl, ?hy3⟩) (fun _ => HS) ?_
        case hy3 => ((intro u' hT; go_simp); try with_reducible rfl)
        try simp only [List.getElem_toArray, List.getElem_cons_succ, List.getElem_cons_zero, Act.put, List.setIfInBounds_toArray, List.set_cons_zero, List.set_cons_succ]
        refine GoS.pure (i := 3) (v := ?_) rfl (by kernel_rfl) (by kernel_rfl) (by kernel_rfl) (by kernel_rfl) (fun _ _ _ h => h) (Or.inl ⟨by rfl, ?hy4⟩) (fun _ => HS) ?_
        case hy4 => ((intro u' hT; go_simp); try with_reducible rfl)
        try simp only [List.getElem_toArray, List.getElem_cons_succ, List.getElem_cons_zero, Act.put, List.setIfInBounds_toArray, List.set_cons_zero, List.set_cons_succ]
        refine GoS.pure (i := 4) (v := ?_) rfl (by kernel_rfl) (by kernel_rfl) (by kernel_rfl) (by kernel_rfl) (fun _ _ _ h => h) (Or.inl ⟨by rfl, ?hy5⟩) (fun _ => HS) ?_
        case hy5 => ((intro u' hT; go_simp); try with_reducible rfl)
        try simp only [List.getElem_toArray, List.getElem_cons_succ, List.getElem_cons_zero, Act.put, List.setIfInBounds_toArray, List.set_cons_zero, List.set_cons_succ]
        refine GoS.pure (i := 5) (v := ?_) rfl (by kernel_rfl) (by kernel_rfl) (by kernel_rfl) (by kernel_rfl) (fun _ _ _ h => h) (Or.inl ⟨by rfl, ?hy6⟩) (fun _ => HS) ?_
        case hy6 => ((intro u' hT; go_simp); try with_reducible rfl)
        try simp only [List.getElem_toArray, List.getElem_cons_succ, List.getElem_cons_zero, Act.put, List.setIfInBounds_toArray, List.set_cons_zero, List.set_cons_succ]
        refine GoS.pure (i := 6) (v := ?_) rfl (by kernel_rfl) (by kernel_rfl) (by kernel_rfl) (by kernel_rfl) (fun _ _ _ h => h) (Or.inl ⟨by rfl, ?hy7⟩) (fun _ => HS) ?_
        case hy7 => ((intro u' hT; go_simp); try with_reducible rfl)
        try simp only [List.getElem_toArray, List.getElem_cons_succ, List.getElem_cons_zero, Act.put, List.setIfInBounds_toArray, List.set_cons_zero, List.set_cons_succ]
        refine GoS.take (i := 7) (v := ?_) rfl (by kernel_rfl) (by kernel_rfl) (by kernel_rfl) (by kernel_rfl) (fun _ _ _ h => h) (Or.inl ⟨by rfl, ?hy8⟩) HS ?_
        case hy8 => ((intro u' hT; have dt0 := hT.c0 (b := w8.heap.size) (.head _); have dt1 := hT.c1 (b := w8.heap.size) (.head _); go_simp); try with_reducible rfl)
        try simp only [List.getElem_toArray, List.getElem_cons_succ, List.getElem_cons_zero, Act.put, List.setIfInBounds_toArray, List.set_cons_zero, List.set_cons_succ]
        refine GoS.pure (i := 8) (v := ?_) rfl (by kernel_rfl) (by kernel_rfl) (by kernel_rfl) (by kernel_rfl) (fun _ _ _ h => h) (Or.inl ⟨by rfl, ?hy9⟩) (fun _ => HS) ?_
        case hy9 => ((intro u' hT; go_simp); try with_reducible rfl)
        try simp only [List.getElem_toArray, List.getElem_cons_succ, List.getElem_cons_zero, Act.put, List.setIfInBounds_toArray, List.set_cons_zero, List.set_cons_succ]
        refine GoS.pure (i := 9) (v := ?_) rfl (by kernel_rfl) (by kernel_rfl) (by kernel_rfl) (by kernel_rfl) (fun _ _ _ h => h) (Or.inl ⟨by rfl, ?hy10⟩) (fun _ => HS) ?_
        case hy10 => ((intro u' hT; go_simp); try with_reducible rfl)
        try simp only [List.getElem_toArray, List.getElem_cons_succ, List.getElem_cons_zero, Act.put, List.setIfInBounds_toArray, List.set_cons_zero, List.set_cons_succ]
        refine GoS.one (i := 10) (by kernel_rfl) rfl (fun K hK => ?_)
        go_simp
        (with_reducible refine (TW.call _).mono ?_)
        rintro e q11 ⟨rfl, hx11⟩
        have HS2 := HS.later hx11
        clear HS; have HS := HS2; clear HS2 hx11
        go_wp2_with fail
        refine hK.out _ _ HS (fun _ => ?_)
        clear hK K
        try simp only [List.getElem_toArray, List.getElem_cons_succ, List.getElem_cons_zero, Act.put, List.setIfInBounds_toArray, List.set_cons_zero, List.set_cons_succ]
        refine GoS.one (i := 11) (by kernel_rfl) rfl (fun K hK => ?_)
        go_simp
        (with_reducible refine (IS2.call _).mono ?_)
        rintro e q12 ⟨rfl, hx12⟩
        have HS2 := HS.later hx12
        clear HS; have HS := HS2; clear HS2 hx12
        go_wp2_with fail
        refine hK.out _ _ HS (fun _ => ?_)
        clear hK K
        try simp only [List.getElem_toArray, List.getElem_cons_succ, List.getElem_cons_zero, Act.put, List.setIfInBounds_toArray, List.set_cons_zero, List.set_cons_succ]
        refine GoS.pure (i := 12) (v := ?_) rfl (by kernel_rfl) (by kernel_rfl) (by kernel_rfl) (by kernel_rfl) (fun _ _ _ h => h) (Or.inl ⟨by rfl, ?hy13⟩) (fun _ => HS) ?_
        case hy13 => ((intro u' hT; go_simp); try with_reducible rfl)
        try simp only [List.getElem_toArray, List.getElem_cons_succ, List.getElem_cons_zero, Act.put, List.setIfInBounds_toArray, List.set_cons_zero, List.set_cons_succ]
        refine GoS.store (i := 13) (by kernel_rfl) rfl (by kernel_rfl) (fun K hK => ?_)
        go_simp
        refine hK.out _ _ ?_
        clear hK K
        try simp only [List.getElem_toArray, List.getElem_cons_succ, List.getElem_cons_zero, Act.put, List.setIfInBounds_toArray, List.set_cons_zero, List.set_cons_succ]
        refine GoS.done (by kernel_rfl) ?_
        have FR := Lib.hid HS
        go_wp2_with fail
        go_meet
        exact ⟨rfl, FR.out⟩
      · skip
        refine wp_region_S (fun u : World => Fr w u [(w8.heap.size, tm, tx), (w4.heap.size, sm, sx), (w3.heap.size, sm, sx), (w2.heap.size, pm, px), (w1.heap.size, pm, px)]) 13 (by kernel_rfl) ?_
        have HS := FR.out.later (Ext.refl _).drew
        clear FR
        refine GoS.pure (i := 0) (v := ?_) rfl (by kernel_rfl) (by kernel_rfl) (by kernel_rfl) (by kernel_rfl) (fun _ _ _ h => h) (Or.inl ⟨by rfl, ?hy14⟩) (fun _ => HS) ?_
        case hy14 => ((intro u' hT; go_simp); try with_reducible rfl)
        try simp only [List.getElem_toArray, List.getElem_cons_zero, Act.put, List.setIfInBounds_toArray, List.set_cons_zero, List.set_cons_succ]
        refine GoS.pure (i := 1) (v := ?_) rfl (by kernel_rfl) (by kernel_rfl) (by kernel_rfl) (by kernel_rfl) (fun _ _ _ h => h) (Or.inl ⟨by rfl, ?hy15⟩) (fun _ => HS) ?_
        case hy15 => ((intro u' hT; go_simp); try with_reducible rfl)
        try simp only [List.getElem_toArray, List.getElem_cons_succ, List.getElem_cons_zero, Act.put, List.setIfInBounds_toArray, List.set_cons_zero, List.set_cons_succ]
        refine GoS.pure (i := 2) (v := ?_) rfl (by kernel_rfl) (by kernel_rfl) (by kernel_rfl) (by kernel_rfl) (fun _ _ _ h => h) (Or.inl ⟨by rfl, ?hy16⟩) (fun _ => HS) ?_
        case hy16 => ((intro u' hT; go_simp); try with_reducible rfl)
        try simp only [List.getElem_toArray, List.getElem_cons_succ, List.getElem_cons_zero, Act.put, List.setIfInBounds_toArray, List.set_cons_zero, List.set_cons_succ]
        refine GoS.pure (i := 3) (v := ?_) rfl (by kernel_rfl) (by kernel_rfl) (by kernel_rfl) (by kernel_rfl) (fun _ _ _ h => h) (Or.inl ⟨by rfl, ?hy17⟩) (fun _ => HS) ?_
        case hy17 => ((intro u' hT; go_simp); try with_reducible rfl)
        try simp only [List.getElem_toArray, List.getElem_cons_succ, List.getElem_cons_zero, Act.put, List.setIfInBounds_toArray, List.set_cons_zero, List.set_cons_succ]
        refine GoS.pure (i := 4) (v := ?_) rfl (by kernel_rfl) (by kernel_rfl) (by kernel_rfl) (by kernel_rfl) (fun _ _ _ h => h) (Or.inl ⟨by rfl, ?hy18⟩) (fun _ => HS) ?_
        case hy18 => ((intro u' hT; go_simp); try with_reducible rfl)
        try simp only [List.getElem_toArray, List.getElem_cons_succ, List.getElem_cons_zero, Act.put, List.setIfInBounds_toArray, List.set_cons_zero, List.set_cons_succ]
        refine GoS.pure (i := 5) (v := ?_) rfl (by kernel_rfl) (by kernel_rfl) (by kernel_rfl) (by kernel_rfl) (fun _ _ _ h => h) (Or.inl ⟨by rfl, ?hy19⟩) (fun _ => HS) ?_
        case hy19 => ((intro u' hT; go_simp); try with_reducible rfl)
        try simp only [List.getElem_toArray, List.getElem_cons_succ, List.getElem_cons_zero, Act.put, List.setIfInBounds_toArray, List.set_cons_zero, List.set_cons_succ]
        refine GoS.pure (i := 6) (v := ?_) rfl (by kernel_rfl) (by kernel_rfl) (by kernel_rfl) (by kernel_rfl) (fun _ _ _ h => h) (Or.inl ⟨by rfl, ?hy20⟩) (fun _ => HS) ?_
        case hy20 => ((intro u' hT; go_simp); try with_reducible rfl)
        try simp only [List.getElem_toArray, List.getElem_cons_succ, List.getElem_cons_zero, Act.put, List.setIfInBounds_toArray, List.set_cons_zero, List.set_cons_succ]
        refine GoS.pure (i := 7) (v := undef) rfl (by kernel_rfl) (by kernel_rfl) (by kernel_rfl) (by kernel_rfl) (fun _ _ _ h => h) (Or.inr ⟨by rfl, rfl⟩) (fun _ => HS) ?_
        try simp only [List.getElem_toArray, List.getElem_cons_succ, List.getElem_cons_zero, Act.put, List.setIfInBounds_toArray, List.set_cons_zero, List.set_cons_succ]
        refine GoS.pure (i := 8) (v := undef) rfl (by kernel_rfl) (by kernel_rfl) (by kernel_rfl) (by kernel_rfl) (fun _ _ _ h => h) (Or.inr ⟨by rfl, rfl⟩) (fun _ => HS) ?_
        try simp only [List.getElem_toArray, List.getElem_cons_succ, List.getElem_cons_zero, Act.put, List.setIfInBounds_toArray, List.set_cons_zero, List.set_cons_succ]
        refine GoS.pure (i := 9) (v := undef) rfl (by kernel_rfl) (by kernel_rfl) (by kernel_rfl) (by kernel_rfl) (fun _ _ _ h => h) (Or.inr ⟨by rfl, rfl⟩) (fun _ => HS) ?_
        try simp only [List.getElem_toArray, List.getElem_cons_succ, List.getElem_cons_zero, Act.put, List.setIfInBounds_toArray, List.set_cons_zero, List.set_cons_succ]
        refine GoS.pure (i := 10) (v := undef) rfl (by kernel_rfl) (by kernel_rfl) (by kernel_rfl) (by kernel_rfl) (fun _ _ _ h => h) (Or.inr ⟨by rfl, rfl⟩) (fun _ => HS) ?_
        try simp only [List.getElem_toArray, List.getElem_cons_succ, List.getElem_cons_zero, Act.put, List.setIfInBounds_toArray, List.set_cons_zero, List.set_cons_succ]
        refine GoS.pure (i := 11) (v := undef) rfl (by kernel_rfl) (by kernel_rfl) (by kernel_rfl) (by kernel_rfl) (fun _ _ _ h => h) (Or.inr ⟨by rfl, rfl⟩) (fun _ => HS) ?_
        try simp only [List.getElem_toArray, List.getElem_cons_succ, List.getElem_cons_zero, Act.put, List.setIfInBounds_toArray, List.set_cons_zero, List.set_cons_succ]
        refine GoS.pure (i := 12) (v := undef) rfl (by kernel_rfl) (by kernel_rfl) (by kernel_rfl) (by kernel_rfl) (fun _ _ _ h => h) (Or.inr ⟨by rfl, rfl⟩) (fun _ => HS) ?_
        try simp only [List.getElem_toArray, List.getElem_cons_succ, List.getElem_cons_zero, Act.put, List.setIfInBounds_toArray, List.set_cons_zero, List.set_cons_succ]
        refine GoS.store (i := 13) (by kernel_rfl) rfl (by kernel_rfl) (fun K hK => ?_)
        go_simp
        refine hK.out _ _ ?_
        clear hK K
        try simp only [List.getElem_toArray, List.getElem_cons_succ, List.getElem_cons_zero, Act.put, List.setIfInBounds_toArray, List.set_cons_zero, List.set_cons_succ]
        refine GoS.done (by kernel_rfl) ?_
        have FR := Lib.hid HS
        go_wp2_with fail
        go_meet
        exact ⟨rfl, FR.out⟩
    · skip
      refine wp_region_S (fun u : World => Fr w u [(w8.heap.size, tm, tx), (w4.heap.size, sm, sx), (w3.heap.size, sm, sx), (w2.heap.size, pm, px), (w1.heap.size, pm, px)]) 13 (by kernel_rfl) ?_
      have HS := FR.out.later (Ext.refl _).drew
      clear FR
      refine GoS.pure (i := 0) (v := ?_) rfl (by kernel_rfl) (by kernel_rfl) (by kernel_rfl) (by kernel_rfl) (fun _ _ _ h => h) (Or.inl ⟨by rfl, ?hy21⟩) (fun _ => HS) ?_
      case hy21 => ((intro u' hT; go_simp); try with_reducible rfl)
      try simp only [List.getElem_toArray, List.getElem_cons_zero, Act.put, List.setIfInBounds_toArray, List.set_cons_zero, List.set_cons_succ]
      refine GoS.pure (i := 1) (v := ?_) rfl (by kernel_rfl) (by kernel_rfl) (by kernel_rfl) (by kernel_rfl) (fun _ _ _ h => h) (Or.inl ⟨by rfl, ?hy22⟩) (fun _ => HS) ?_
      case hy22 => ((intro u' hT; go_simp); try with_reducible rfl)
      try simp only [List.getElem_toArray, List.getElem_cons_succ, List.getElem_cons_zero, Act.put, List.setIfInBounds_toArray, List.set_cons_zero, List.set_cons_succ]
      refine GoS.pure (i := 2) (v := ?_) rfl (by kernel_rfl) (by kernel_rfl) (by kernel_rfl) (by kernel_rfl) (fun _ _ _ h => h) (Or.inl ⟨by rfl, ?hy23⟩) (fun _ => HS) ?_
      case hy23 => ((intro u' hT; go_simp); try with_reducible rfl)
      try simp only [List.getElem_toArray, List.getElem_cons_succ, List.getElem_cons_zero, Act.put, List.setIfInBounds_toArray, List.set_cons_zero, List.set_cons_succ]
      refine GoS.pure (i := 3) (v := undef) rfl (by kernel_rfl) (by kernel_rfl) (by kernel_rfl) (by kernel_rfl) (fun _ _ _ h => h) (Or.inr ⟨by rfl, rfl⟩) (fun _ => HS) ?_
      try simp only [List.getElem_toArray, List.getElem_cons_succ, List.getElem_cons_zero, Act.put, List.setIfInBounds_toArray, List.set_cons_zero, List.set_cons_succ]
      refine GoS.pure (i := 4) (v := undef) rfl (by kernel_rfl) (by kernel_rfl) (by kernel_rfl) (by kernel_rfl) (fun _ _ _ h => h) (Or.inr ⟨by rfl, rfl⟩) (fun _ => HS) ?_
      try simp only [List.getElem_toArray, List.getElem_cons_succ, List.getElem_cons_zero, Act.put, List.setIfInBounds_toArray, List.set_cons_zero, List.set_cons_succ]
      refine GoS.pure (i := 5) (v := ?_) rfl (by kernel_rfl) (by kernel_rfl) (by kernel_rfl) (by kernel_rfl) (fun _ _ _ h => h) (Or.inl ⟨by rfl, ?hy24⟩) (fun _ => HS) ?_
      case hy24 => ((intro u' hT; go_simp); try with_reducible rfl)
      try simp only [List.getElem_toArray, List.getElem_cons_succ, List.getElem_cons_zero, Act.put, List.setIfInBounds_toArray, List.set_cons_zero, List.set_cons_succ]
      refine GoS.pure (i := 6) (v := ?_) rfl (by kernel_rfl) (by kernel_rfl) (by kernel_rfl) (by kernel_rfl) (fun _ _ _ h => h) (Or.inl ⟨by rfl, ?hy25⟩) (fun _ => HS) ?_
      case hy25 => ((intro u' hT; go_simp); try with_reducible rfl)
      try simp only [List.getElem_toArray, List.getElem_cons_succ, List.getElem_cons_zero, Act.put, List.setIfInBounds_toArray, List.set_cons_zero, List.set_cons_succ]
      refine GoS.pure (i := 7) (v := undef) rfl (by kernel_rfl) (by kernel_rfl) (by kernel_rfl) (by kernel_rfl) (fun _ _ _ h => h) (Or.inr ⟨by rfl, rfl⟩) (fun _ => HS) ?_
      try simp only [List.getElem_toArray, List.getElem_cons_succ, List.getElem_cons_zero, Act.put, List.setIfInBounds_toArray, List.set_cons_zero, List.set_cons_succ]
      refine GoS.pure (i := 8) (v := undef) rfl (by kernel_rfl) (by kernel_rfl) (by kernel_rfl) (by kernel_rfl) (fun _ _ _ h => h) (Or.inr ⟨by rfl, rfl⟩) (fun _ => HS) ?_
      try simp only [List.getElem_toArray, List.getElem_cons_succ, List.getElem_cons_zero, Act.put, List.setIfInBounds_toArray, List.set_cons_zero, List.set_cons_succ]
      refine GoS.pure (i := 9) (v := undef) rfl (by kernel_rfl) (by kernel_rfl) (by kernel_rfl) (by kernel_rfl) (fun _ _ _ h => h) (Or.inr ⟨by rfl, rfl⟩) (fun _ => HS) ?_
      try simp only [List.getElem_toArray, List.getElem_cons_succ, List.getElem_cons_zero, Act.put, List.setIfInBounds_toArray, List.set_cons_zero, List.set_cons_succ]
      refine GoS.pure (i := 10) (v := undef) rfl (by kernel_rfl) (by kernel_rfl) (by kernel_rfl) (by kernel_rfl) (fun _ _ _ h => h) (Or.inr ⟨by rfl, rfl⟩) (fun _ => HS) ?_
      try simp only [List.getElem_toArray, List.getElem_cons_succ, List.getElem_cons_zero, Act.put, List.setIfInBounds_toArray, List.set_cons_zero, List.set_cons_succ]
      refine GoS.pure (i := 11) (v := undef) rfl (by kernel_rfl) (by kernel_rfl) (by kernel_rfl) (by kernel_rfl) (fun _ _ _ h => h) (Or.inr ⟨by rfl, rfl⟩) (fun _ => HS) ?_
      try simp only [List.getElem_toArray, List.getElem_cons_succ, List.getElem_cons_zero, Act.put, List.setIfInBounds_toArray, List.set_cons_zero, List.set_cons_succ]
      refine GoS.pure (i := 12) (v := undef) rfl (by kernel_rfl) (by kernel_rfl) (by kernel_rfl) (by kernel_rfl) (fun _ _ _ h => h) (Or.inr ⟨by rfl, rfl⟩) (fun _ => HS) ?_
      try simp only [List.getElem_toArray, List.getElem_cons_succ, List.getElem_cons_zero, Act.put, List.setIfInBounds_toArray, List.set_cons_zero, List.set_cons_succ]
      refine GoS.store (i := 13) (by kernel_rfl) rfl (by kernel_rfl) (fun K hK => ?_)
      go_simp
      refine hK.out _ _ ?_
      clear hK K
      try simp only [List.getElem_toArray, List.getElem_cons_succ, List.getElem_cons_zero, Act.put, List.setIfInBounds_toArray, List.set_cons_zero, List.set_cons_succ]
      refine GoS.done (by kernel_rfl) ?_
      have FR := Lib.hid HS
      go_wp2_with fail
      go_meet
      exact ⟨rfl, FR.out⟩
  case rest =>
    obtain ⟨rfl, hfr⟩ := hcut
    clear FR H2 HTW; have FR := Lib.hid hfr; clear hfr
    have cx0 := FR.out.c0 (b := w1.heap.size) (.tail _ (.tail _ (.tail _ (.tail _ (.head _))))); have cx1 := FR.out.c1 (b := w1.heap.size) (.tail _ (.tail _ (.tail _ (.tail _ (.head _)))))
    go_wp2_with fail
    refine (NG _).mono ?_
    rintro e w9 ⟨rfl, hx⟩
    have FR2 : Hid (Fr w w9 [(w8.heap.size, tm, tx), (w4.heap.size, sm, sx), (w3.heap.size, sm, sx), (w2.heap.size, pm, px), (w1.heap.size, pm, px)]) := Lib.hid (FR.out.later hx)
    clear cx0 cx1
    clear hx FR; have FR := FR2; clear FR2
    have cx0 := FR.out.g0 (b := w1.heap.size) (.tail _ (.tail _ (.tail _ (.tail _ (.head _))))); have cx1 := FR.out.g1 (b := w1.heap.size) (.tail _ (.tail _ (.tail _ (.tail _ (.head _)))))
    go_wp2_with fail
    refine (PX _).mono ?_
    rintro e w10 ⟨rfl, hx⟩
    have FR2 : Hid (Fr w w10 [(w9.heap.size, gm, gx), (w8.heap.size, tm, tx), (w4.heap.size, sm, sx), (w3.heap.size, sm, sx), (w2.heap.size, pm, px), (w1.heap.size, pm, px)]) := Lib.hid ((FR.out.lay (gm) (gx) 23).later hx)
    clear cx0 cx1
    clear hx FR; have FR := FR2; clear FR2
    have cg0 := FR.out.g0 (b := w9.heap.size) (.head _); have cg1 := FR.out.g1 (b := w9.heap.size) (.head _)
    go_wp2_with fail
    refine (PM _).mono ?_
    rintro e w11 ⟨rfl, hx⟩
    have FR2 : Hid (Fr w w11 [(w10.heap.size, am, ax), (w9.heap.size, gm, gx), (w8.heap.size, tm, tx), (w4.heap.size, sm, sx), (w3.heap.size, sm, sx), (w2.heap.size, pm, px), (w1.heap.size, pm, px)]) := Lib.hid ((FR.out.lay (am) (ax) 23).later hx)
    clear cg0 cg1
    clear hx FR; have FR := FR2; clear FR2
    by_cases hs : se = 0
    · subst hs
      obtain ⟨rfl, hq⟩ := HF.out rfl
      have HQ := Lib.hid hq; clear hq
      have ca0 := FR.out.g0 (b := w10.heap.size) (.head _); have ca1 := FR.out.g1 (b := w10.heap.size) (.head _)
      go_upto_region 21 with (fail)
      have HT0 := FR.out.lay (am) (ax) 23
      refine wp_region_S (fun u : World => Fr w u [(w11.heap.size, am, ax), (w10.heap.size, am, ax), (w9.heap.size, gm, gx), (w8.heap.size, tm, tx), (w4.heap.size, sm, sx), (w3.heap.size, sm, sx), (w2.heap.size, pm, px), (w1.heap.size, pm, px)]) 7 (by kernel_rfl) ?_
      have HS := HT0.later (Ext.refl _).drew
      clear HT0 FR ca0 ca1
      refine GoS.take (i := 0) (v := ?_) rfl (by kernel_rfl) (by kernel_rfl) (by kernel_rfl) (by kernel_rfl) (fun _ _ _ h => h) (Or.inl ⟨by rfl, ?hy26⟩) HS ?_
      case hy26 => ((intro u' hT; have dpr0 := hT.c0 (b := w4.heap.size) (.tail _ (.tail _ (.tail _ (.tail _ (.head _))))); have dpr1 := hT.c1 (b := w4.heap.size) (.tail _ (.tail _ (.tail _ (.tail _ (.head _))))); go_simp); try with_reducible rfl)
      try simp only [List.getElem_toArray, List.getElem_cons_zero, Act.put, List.setIfInBounds_toArray, List.set_cons_zero, List.set_cons_succ]
      refine GoS.one (i := 1) (by kernel_rfl) rfl (fun K hK => ?_)
      go_simp
      (with_reducible refine (TH.call _).mono ?_)
      rintro e q27 ⟨rfl, hx27⟩
      have HS2 := HS.later hx27
      clear HS; have HS := HS2; clear HS2 hx27
      go_wp2_with fail
      refine hK.out _ _ HS (fun _ => ?_)
      clear hK K
      try simp only [List.getElem_toArray, List.getElem_cons_succ, List.getElem_cons_zero, Act.put, List.setIfInBounds_toArray, List.set_cons_zero, List.set_cons_succ]
      refine GoS.one (i := 2) (by kernel_rfl) rfl (fun K hK => ?_)
      go_simp
      (with_reducible refine (CP.call _).mono ?_)
      rintro e q28 ⟨rfl, hx28⟩
      have HS2 := HS.later hx28
      clear HS; have HS := HS2; clear HS2 hx28
      go_wp2_with fail
      refine hK.out _ _ HS (fun _ => ?_)
      clear hK K
      try simp only [List.getElem_toArray, List.getElem_cons_succ, List.getElem_cons_zero, Act.put, List.setIfInBounds_toArray, List.set_cons_zero, List.set_cons_succ]
      refine GoS.pure (i := 3) (v := ?_) rfl (by kernel_rfl) (by kernel_rfl) (by kernel_rfl) (by kernel_rfl) (fun _ _ _ h => h) (Or.inl ⟨by rfl, ?hy29⟩) (fun _ => HS) ?_
      case hy29 => ((intro u' hT; go_simp); try with_reducible rfl)
      try simp only [List.getElem_toArray, List.getElem_cons_succ, List.getElem_cons_zero, Act.put, List.setIfInBounds_toArray, List.set_cons_zero, List.set_cons_succ]
      refine GoS.pure (i := 4) (v := ?_) rfl (by kernel_rfl) (by kernel_rfl) (by kernel_rfl) (by kernel_rfl) (fun _ _ _ h => h) (Or.inl ⟨by rfl, ?hy30⟩) (fun _ => HS) ?_
      case hy30 => ((intro u' hT; go_simp); try with_reducible rfl)
      try simp only [List.getElem_toArray, List.getElem_cons_succ, List.getElem_cons_zero, Act.put, List.setIfInBounds_toArray, List.set_cons_zero, List.set_cons_succ]
      refine GoS.pure (i := 5) (v := ?_) rfl (by kernel_rfl) (by kernel_rfl) (by kernel_rfl) (by kernel_rfl) (fun _ _ _ h => h) (Or.inl ⟨by rfl, ?hy31⟩) (fun _ => HS) ?_
      case hy31 => ((intro u' hT; go_simp); try with_reducible rfl)
      try simp only [List.getElem_toArray, List.getElem_cons_succ, List.getElem_cons_zero, Act.put, List.setIfInBounds_toArray, List.set_cons_zero, List.set_cons_succ]
      refine GoS.pure (i := 6) (v := ?_) rfl (by kernel_rfl) (by kernel_rfl) (by kernel_rfl) (by kernel_rfl) (fun _ _ _ h => h) (Or.inl ⟨by rfl, ?hy32⟩) (fun _ => HS) ?_
      case hy32 => ((intro u' hT; go_simp); try with_reducible rfl)
      try simp only [List.getElem_toArray, List.getElem_cons_succ, List.getElem_cons_zero, Act.put, List.setIfInBounds_toArray, List.set_cons_zero, List.set_cons_succ]
      refine GoS.store (i := 7) (by kernel_rfl) rfl (by kernel_rfl) (fun K hK => ?_)
      go_simp
      refine hK.out _ _ ?_
      clear hK K
      try simp only [List.getElem_toArray, List.getElem_cons_succ, List.getElem_cons_zero, Act.put, List.setIfInBounds_toArray, List.set_cons_zero, List.set_cons_succ]
      refine GoS.done (by kernel_rfl) ?_
      have FR := Lib.hid HS; clear HS
      by_cases hc : c < 0
      · clear HQ
        have cx0 := FR.out.c0 (b := w1.heap.size) (.tail _ (.tail _ (.tail _ (.tail _ (.tail _ (.tail _ (.tail _ (.head _)))))))); have cx1 := FR.out.c1 (b := w1.heap.size) (.tail _ (.tail _ (.tail _ (.tail _ (.tail _ (.tail _ (.tail _ (.head _))))))))
        go_wp2_with fail
        refine (AB _).mono ?_
        rintro e w12 ⟨rfl, hx⟩
        have FR2 : Hid (Fr w w12 [(w11.heap.size, am, ax), (w10.heap.size, am, ax), (w9.heap.size, gm, gx), (w8.heap.size, tm, tx), (w4.heap.size, sm, sx), (w3.heap.size, sm, sx), (w2.heap.size, pm, px), (w1.heap.size, pm, px)]) := Lib.hid (FR.out.later hx)
        clear cx0 cx1
        clear hx FR; have FR := FR2; clear FR2
        have cpr0 := FR.out.g0 (b := w4.heap.size) (.tail _ (.tail _ (.tail _ (.tail _ (.head _))))); have cpr1 := FR.out.g1 (b := w4.heap.size) (.tail _ (.tail _ (.tail _ (.tail _ (.head _)))))
        go_wp2_with fail
        refine (SQ _).mono ?_
        rintro e w13 ⟨rfl, hx⟩
        have FR2 : Hid (Fr w w13 [(w12.heap.size, rm, rx), (w11.heap.size, am, ax), (w10.heap.size, am, ax), (w9.heap.size, gm, gx), (w8.heap.size, tm, tx), (w4.heap.size, sm, sx), (w3.heap.size, sm, sx), (w2.heap.size, pm, px), (w1.heap.size, pm, px)]) := Lib.hid ((FR.out.lay (rm) (rx) 23).later hx)
        clear cpr0 cpr1
        clear hx FR; have FR := FR2; clear FR2
        go_wp2_with fail
        refine (SN _ (HT.out.later (FR.out.lay _ _ _).x)).mono ?_
        rintro e w14 ⟨rfl, hx⟩
        have FR2 : Hid (Fr w w14 [(w13.heap.size, qm, qx), (w12.heap.size, rm, rx), (w11.heap.size, am, ax), (w10.heap.size, am, ax), (w9.heap.size, gm, gx), (w8.heap.size, tm, tx), (w4.heap.size, sm, sx), (w3.heap.size, sm, sx), (w2.heap.size, pm, px), (w1.heap.size, pm, px)]) := Lib.hid ((FR.out.lay (qm) (qx) 23).later hx)
        clear hx FR; have FR := FR2; clear FR2
        have cq0 := FR.out.c0 (b := w13.heap.size) (.head _); have cq1 := FR.out.c1 (b := w13.heap.size) (.head _)
        have cr0 := FR.out.c0 (b := w12.heap.size) (.tail _ (.head _)); have cr1 := FR.out.c1 (b := w12.heap.size) (.tail _ (.head _))
        go_wp2
        go_ret
        exact ⟨rfl, FR.out.x⟩
      · obtain ⟨rfl, rfl⟩ := HQ.out (by omega)
        clear HQ
        have cx0 := FR.out.c0 (b := w1.heap.size) (.tail _ (.tail _ (.tail _ (.tail _ (.tail _ (.tail _ (.tail _ (.head _)))))))); have cx1 := FR.out.c1 (b := w1.heap.size) (.tail _ (.tail _ (.tail _ (.tail _ (.tail _ (.tail _ (.tail _ (.head _))))))))
        go_wp2_with fail
        refine (AB _).mono ?_
        rintro e w12 ⟨rfl, hx⟩
        have FR2 : Hid (Fr w w12 [(w11.heap.size, am, ax), (w10.heap.size, am, ax), (w9.heap.size, gm, gx), (w8.heap.size, tm, tx), (w4.heap.size, sm, sx), (w3.heap.size, sm, sx), (w2.heap.size, pm, px), (w1.heap.size, pm, px)]) := Lib.hid (FR.out.later hx)
        clear cx0 cx1
        clear hx FR; have FR := FR2; clear FR2
        have cpr0 := FR.out.g0 (b := w4.heap.size) (.tail _ (.tail _ (.tail _ (.tail _ (.head _))))); have cpr1 := FR.out.g1 (b := w4.heap.size) (.tail _ (.tail _ (.tail _ (.tail _ (.head _)))))
        go_wp2_with fail
        refine (SQ _).mono ?_
        rintro e w13 ⟨rfl, hx⟩
        have FR2 : Hid (Fr w w13 [(w12.heap.size, qm, qx), (w11.heap.size, am, ax), (w10.heap.size, am, ax), (w9.heap.size, gm, gx), (w8.heap.size, tm, tx), (w4.heap.size, sm, sx), (w3.heap.size, sm, sx), (w2.heap.size, pm, px), (w1.heap.size, pm, px)]) := Lib.hid ((FR.out.lay (qm) (qx) 23).later hx)
        clear cpr0 cpr1
        clear hx FR; have FR := FR2; clear FR2
        go_wp2_with fail
        refine (SN _ (HT.out.later (FR.out.lay _ _ _).x)).mono ?_
        rintro e w14 ⟨rfl, hx⟩
        have FR2 : Hid (Fr w w14 [(w13.heap.size, qm, qx), (w12.heap.size, qm, qx), (w11.heap.size, am, ax), (w10.heap.size, am, ax), (w9.heap.size, gm, gx), (w8.heap.size, tm, tx), (w4.heap.size, sm, sx), (w3.heap.size, sm, sx), (w2.heap.size, pm, px), (w1.heap.size, pm, px)]) := Lib.hid ((FR.out.lay (qm) (qx) 23).later hx)
        clear hx FR; have FR := FR2; clear FR2
        have cq0 := FR.out.c0 (b := w13.heap.size) (.head _); have cq1 := FR.out.c1 (b := w13.heap.size) (.head _)
        have cr0 := FR.out.c0 (b := w12.heap.size) (.tail _ (.head _)); have cr1 := FR.out.c1 (b := w12.heap.size) (.tail _ (.head _))
        go_wp2
        go_ret
        exact ⟨rfl, FR.out.x⟩
    · have hs' : (se == 0) = false := by simpa using hs
      have ca0 := FR.out.g0 (b := w10.heap.size) (.head _); have ca1 := FR.out.g1 (b := w10.heap.size) (.head _)
      go_wp2_with fail
      refine (SN _ (HT.out.later (FR.out.lay _ _ _).x)).mono ?_
      rintro e w12 ⟨rfl, hx⟩
      have FR2 : Hid (Fr w w12 [(w11.heap.size, am, ax), (w10.heap.size, am, ax), (w9.heap.size, gm, gx), (w8.heap.size, tm, tx), (w4.heap.size, sm, sx), (w3.heap.size, sm, sx), (w2.heap.size, pm, px), (w1.heap.size, pm, px)]) := Lib.hid ((FR.out.lay (am) (ax) 23).later hx)
      clear ca0 ca1
      clear hx FR; have FR := FR2; clear FR2
      go_wp2
      go_ret
      exact ⟨rfl, FR.out.x⟩
set_option maxRecDepth 100000 in
set_option maxHeartbeats 8000000 in
theorem plaw_odd (w : World) (ht : Tb w) (i n : Int) (pm px sm sx tm tx gm gx am ax bm bx rm rx qm qx se te ae qe c : Int) (A : Ret 56 #[.int .i64 i] (.agg #[.int .i64 pm, .int .i64 px])) (P1 : Ret 46 #[.agg #[.int .i64 pm, .int .i64 px], .int .i64 1] (.tuple #[.agg #[.int .i64 pm, .int .i64 px], .int .i64 0])) (P2 : Ret 46 #[.agg #[.int .i64 pm, .int .i64 px], .int .i64 2] (.tuple #[.agg #[.int .i64 sm, .int .i64 sx], .int .i64 se])) (MU : Ret 40 #[.agg #[.int .i64 pm, .int .i64 px], .agg #[.int .i64 pm, .int .i64 px]] (.tuple #[.agg #[.int .i64 sm, .int .i64 sx], .int .i64 se])) (FT : Ret 20 #[.int .i64 2] (.agg #[.int .i64 8388608, .int .i64 (-22)])) (PT : Ret 46 #[.agg #[.int .i64 8388608, .int .i64 (-22)], .int .i64 n] (.tuple #[.agg #[.int .i64 tm, .int .i64 tx], .int .i64 te])) (TW : -126 ≤ n → n ≤ 173 → Ret 62 #[.int .i64 n] (.agg #[.int .i64 8388608, .int .i64 (n - 23)])) (ht2 : -126 ≤ n → n ≤ 173 → tm = 8388608 ∧ tx = n - 23 ∧ te = 0) (NG : Ret 26 #[.agg #[.int .i64 pm, .int .i64 px]] (.tuple #[.agg #[.int .i64 gm, .int .i64 gx], .int .i64 0])) (PX : Ret 46 #[.agg #[.int .i64 pm, .int .i64 px], .int .i64 n] (.tuple #[.agg #[.int .i64 am, .int .i64 ax], .int .i64 ae])) (PM : Ret 46 #[.agg #[.int .i64 gm, .int .i64 gx], .int .i64 n] (.tuple #[.agg #[.int .i64 bm, .int .i64 bx], .int .i64 ae])) (h2 : ¬ n.tmod 2 = 0) (NB : Ret 26 #[.agg #[.int .i64 bm, .int .i64 bx]] (.tuple #[.agg #[.int .i64 am, .int .i64 ax], .int .i64 0])) (TH : Ret 62 #[.int .i64 (-100)] (.agg #[.int .i64 8388608, .int .i64 (-123)])) (CP : Ret 29 #[.agg #[.int .i64 sm, .int .i64 sx], .agg #[.int .i64 8388608, .int .i64 (-123)]] (.tuple #[.int .i64 c, .int .i64 0])) (AB : Ret 27 #[.agg #[.int .i64 pm, .int .i64 px]] (.tuple #[.agg #[.int .i64 rm, .int .i64 rx], .int .i64 0])) (SQ : Ret 42 #[.agg #[.int .i64 sm, .int .i64 sx]] (.tuple #[.agg #[.int .i64 qm, .int .i64 qx], .int .i64 qe])) (fin : se = 0 → qe = 0 ∧ (0 ≤ c → qm = rm ∧ qx = rx)) (SN : ∀ u, Tb u → Calls Tryz.prog 30 #[] u fun e u' => e = .returned (.bool true) ∧ Ext u u') :
    Calls Tryz.prog 14 #[.int .i64 i, .int .i64 n] w fun e w' => e = .returned (.bool true) ∧ Ext w w' := by
  have HT := Lib.hid ht; clear ht
  have IS : Ret 18 #[.agg #[.int .i64 pm, .int .i64 px], .int .i64 0, .agg #[.int .i64 pm, .int .i64 px]] (.bool true) := is_true pm px
  have IS2 : Ret 18 #[.agg #[.int .i64 8388608, .int .i64 (n - 23)], .int .i64 0, .agg #[.int .i64 8388608, .int .i64 (n - 23)]] (.bool true) := is_true 8388608 (n - 23)
  have EQ := equal_same sm sx se
  have HF := Lib.hid fin; clear fin
  have H2 := Lib.hid ht2; clear ht2
  have HTW := Lib.hid TW; clear TW
  have FR := Lib.hid (Fr.nil w)
  have eqR := eqReal
  go_enter Tryz.func14, Tryz.ntmps14
  go_wp2_with fail
  refine (A _).mono ?_
  rintro e w1 ⟨rfl, hx⟩
  have FR2 : Hid (Fr w w1 []) := Lib.hid (FR.out.later hx)
  clear hx FR; have FR := FR2; clear FR2
  go_wp2_with fail
  refine (P1 _).mono ?_
  rintro e w2 ⟨rfl, hx⟩
  have FR2 : Hid (Fr w w2 [(w1.heap.size, pm, px)]) := Lib.hid ((FR.out.lay (pm) (px) 23).later hx)
  clear hx FR; have FR := FR2; clear FR2
  have cx0 := FR.out.g0 (b := w1.heap.size) (.head _); have cx1 := FR.out.g1 (b := w1.heap.size) (.head _)
  go_wp2_with fail
  refine (P2 _).mono ?_
  rintro e w3 ⟨rfl, hx⟩
  have FR2 : Hid (Fr w w3 [(w2.heap.size, pm, px), (w1.heap.size, pm, px)]) := Lib.hid ((FR.out.lay (pm) (px) 23).later hx)
  clear cx0 cx1
  clear hx FR; have FR := FR2; clear FR2
  have cx0 := FR.out.g0 (b := w1.heap.size) (.tail _ (.head _)); have cx1 := FR.out.g1 (b := w1.heap.size) (.tail _ (.head _))
  go_wp2_with fail
  refine (MU _).mono ?_
  rintro e w4 ⟨rfl, hx⟩
  have FR2 : Hid (Fr w w4 [(w3.heap.size, sm, sx), (w2.heap.size, pm, px), (w1.heap.size, pm, px)]) := Lib.hid ((FR.out.lay (sm) (sx) 23).later hx)
  clear cx0 cx1
  clear hx FR; have FR := FR2; clear FR2
  have cone0 := FR.out.g0 (b := w2.heap.size) (.tail _ (.head _)); have cone1 := FR.out.g1 (b := w2.heap.size) (.tail _ (.head _))
  have cx0 := FR.out.g0 (b := w1.heap.size) (.tail _ (.tail _ (.head _))); have cx1 := FR.out.g1 (b := w1.heap.size) (.tail _ (.tail _ (.head _)))
  go_wp2_with fail
  refine (IS _).mono ?_
  rintro e w5 ⟨rfl, hx⟩
  have FR2 : Hid (Fr w w5 [(w4.heap.size, sm, sx), (w3.heap.size, sm, sx), (w2.heap.size, pm, px), (w1.heap.size, pm, px)]) := Lib.hid ((FR.out.lay (sm) (sx) 23).later hx)
  clear cone0 cone1 cx0 cx1
  clear hx FR; have FR := FR2; clear FR2
  have csq0 := FR.out.c0 (b := w3.heap.size) (.tail _ (.head _)); have csq1 := FR.out.c1 (b := w3.heap.size) (.tail _ (.head _))
  have cpr0 := FR.out.c0 (b := w4.heap.size) (.head _); have cpr1 := FR.out.c1 (b := w4.heap.size) (.head _)
  go_wp2_with fail
  refine (EQ _).mono ?_
  rintro e w6 ⟨rfl, hx⟩
  have FR2 : Hid (Fr w w6 [(w4.heap.size, sm, sx), (w3.heap.size, sm, sx), (w2.heap.size, pm, px), (w1.heap.size, pm, px)]) := Lib.hid (FR.out.later hx)
  clear csq0 csq1 cpr0 cpr1
  clear hx FR; have FR := FR2; clear FR2
  go_wp2_with fail
  refine (FT _).mono ?_
  rintro e w7 ⟨rfl, hx⟩
  have FR2 : Hid (Fr w w7 [(w4.heap.size, sm, sx), (w3.heap.size, sm, sx), (w2.heap.size, pm, px), (w1.heap.size, pm, px)]) := Lib.hid (FR.out.later hx)
  clear hx FR; have FR := FR2; clear FR2
  go_wp2_with fail
  refine (PT _).mono ?_
  rintro e w8 ⟨rfl, hx⟩
  have FR2 : Hid (Fr w w8 [(w4.heap.size, sm, sx), (w3.heap.size, sm, sx), (w2.heap.size, pm, px), (w1.heap.size, pm, px)]) := Lib.hid (FR.out.later hx)
  clear hx FR; have FR := FR2; clear FR2
  go_upto_region 8 with (fail)
  have FR2 : Hid (Fr w _ [(w8.heap.size, tm, tx), (w4.heap.size, sm, sx), (w3.heap.size, sm, sx), (w2.heap.size, pm, px), (w1.heap.size, pm, px)]) := Lib.hid (FR.out.lay tm tx 23); clear FR; have FR := FR2; clear FR2
  revert FR; generalize (w8.alloc (.cells #[.int .i64 tm, .int .i64 tx] 23)) = wz; intro FR
  go_cut [70] from 57 (fun s wx => s = .bool false ∧ Fr w wx [(w8.heap.size, tm, tx), (w4.heap.size, sm, sx), (w3.heap.size, sm, sx), (w2.heap.size, pm, px), (w1.heap.size, pm, px)])
  case first =>
    by_cases k1 : n ≥ -126
    · by_cases k2 : n ≤ 173
      · obtain ⟨rfl, rfl, rfl⟩ := H2.out k1 k2
        have TW := HTW.out k1 k2
        refine wp_region_S (fun u : World => Fr w u [(w8.heap.size, 8388608, (n - 23)), (w4.heap.size, sm, sx), (w3.heap.size, sm, sx), (w2.heap.size, pm, px), (w1.heap.size, pm, px)]) 13 (by kernel_rfl) ?_
        have HS := FR.out.later (Ext.refl _).drew
        clear FR
        refine GoS.pure (i := 0) (v := ?_) rfl (by kernel_rfl) (by kernel_rfl) (by kernel_rfl) (by kernel_rfl) (fun _ _ _ h => h) (Or.inl ⟨by rfl, ?hy33⟩) (fun _ => HS) ?_
        case hy33 => ((intro u' hT; go_simp); try with_reducible rfl)
        try simp only [List.getElem_toArray, List.getElem_cons_zero, Act.put, List.setIfInBounds_toArray, List.set_cons_zero, List.set_cons_succ]
        refine GoS.pure (i := 1) (v := ?_) rfl (by kernel_rfl) (by kernel_rfl) (by kernel_rfl) (by kernel_rfl) (fun _ _ _ h => h) (Or.inl ⟨by rfl, ?hy34⟩) (fun _ => HS) ?_
        case hy34 => ((intro u' hT; go_simp); try with_reducible rfl)
        try simp only [List.getElem_toArray, List.getElem_cons_succ, List.getElem_cons_zero, Act.put, List.setIfInBounds_toArray, List.set_cons_zero, List.set_cons_succ]
        refine GoS.pure (i := 2) (v := ?_) rfl (by kernel_rfl) (by kernel_rfl) (by kernel_rfl) (by kernel_rfl) (fun _ _ _ h => h) (Or.inl ⟨by rfl, ?hy35⟩) (fun _ => HS) ?_
        case hy35 => ((intro u' hT; go_simp); try with_reducible rfl)
        try simp only [List.getElem_toArray, List.getElem_cons_succ, List.getElem_cons_zero, Act.put, List.setIfInBounds_toArray, List.set_cons_zero, List.set_cons_succ]
        refine GoS.pure (i := 3) (v := ?_) rfl (by kernel_rfl) (by kernel_rfl) (by kernel_rfl) (by kernel_rfl) (fun _ _ _ h => h) (Or.inl ⟨by rfl, ?hy36⟩) (fun _ => HS) ?_
        case hy36 => ((intro u' hT; go_simp); try with_reducible rfl)
        try simp only [List.getElem_toArray, List.getElem_cons_succ, List.getElem_cons_zero, Act.put, List.setIfInBounds_toArray, List.set_cons_zero, List.set_cons_succ]
        refine GoS.pure (i := 4) (v := ?_) rfl (by kernel_rfl) (by kernel_rfl) (by kernel_rfl) (by kernel_rfl) (fun _ _ _ h => h) (Or.inl ⟨by rfl, ?hy37⟩) (fun _ => HS) ?_
        case hy37 => ((intro u' hT; go_simp); try with_reducible rfl)
        try simp only [List.getElem_toArray, List.getElem_cons_succ, List.getElem_cons_zero, Act.put, List.setIfInBounds_toArray, List.set_cons_zero, List.set_cons_succ]
        refine GoS.pure (i := 5) (v := ?_) rfl (by kernel_rfl) (by kernel_rfl) (by kernel_rfl) (by kernel_rfl) (fun _ _ _ h => h) (Or.inl ⟨by rfl, ?hy38⟩) (fun _ => HS) ?_
        case hy38 => ((intro u' hT; go_simp); try with_reducible rfl)
        try simp only [List.getElem_toArray, List.getElem_cons_succ, List.getElem_cons_zero, Act.put, List.setIfInBounds_toArray, List.set_cons_zero, List.set_cons_succ]
        refine GoS.pure (i := 6) (v := ?_) rfl (by kernel_rfl) (by kernel_rfl) (by kernel_rfl) (by kernel_rfl) (fun _ _ _ h => h) (Or.inl ⟨by rfl, ?hy39⟩) (fun _ => HS) ?_
        case hy39 => ((intro u' hT; go_simp); try with_reducible rfl)
        try simp only [List.getElem_toArray, List.getElem_cons_succ, List.getElem_cons_zero, Act.put, List.setIfInBounds_toArray, List.set_cons_zero, List.set_cons_succ]
        refine GoS.take (i := 7) (v := ?_) rfl (by kernel_rfl) (by kernel_rfl) (by kernel_rfl) (by kernel_rfl) (fun _ _ _ h => h) (Or.inl ⟨by rfl, ?hy40⟩) HS ?_
        case hy40 => ((intro u' hT; have dt0 := hT.c0 (b := w8.heap.size) (.head _); have dt1 := hT.c1 (b := w8.heap.size) (.head _); go_simp); try with_reducible rfl)
        try simp only [List.getElem_toArray, List.getElem_cons_succ, List.getElem_cons_zero, Act.put, List.setIfInBounds_toArray, List.set_cons_zero, List.set_cons_succ]
        refine GoS.pure (i := 8) (v := ?_) rfl (by kernel_rfl) (by kernel_rfl) (by kernel_rfl) (by kernel_rfl) (fun _ _ _ h => h) (Or.inl ⟨by rfl, ?hy41⟩) (fun _ => HS) ?_
        case hy41 => ((intro u' hT; go_simp); try with_reducible rfl)
        try simp only [List.getElem_toArray, List.getElem_cons_succ, List.getElem_cons_zero, Act.put, List.setIfInBounds_toArray, List.set_cons_zero, List.set_cons_succ]
        refine GoS.pure (i := 9) (v := ?_) rfl (by kernel_rfl) (by kernel_rfl) (by kernel_rfl) (by kernel_rfl) (fun _ _ _ h => h) (Or.inl ⟨by rfl, ?hy42⟩) (fun _ => HS) ?_
        case hy42 => ((intro u' hT; go_simp); try with_reducible rfl)
        try simp only [List.getElem_toArray, List.getElem_cons_succ, List.getElem_cons_zero, Act.put, List.setIfInBounds_toArray, List.set_cons_zero, List.set_cons_succ]
        refine GoS.one (i := 10) (by kernel_rfl) rfl (fun K hK => ?_)
        go_simp
        (with_reducible refine (TW.call _).mono ?_)
        rintro e q43 ⟨rfl, hx43⟩
        have HS2 := HS.later hx43
        clear HS; have HS := HS2; clear HS2 hx43
        go_wp2_with fail
        refine hK.out _ _ HS (fun _ => ?_)
        clear hK K
        try simp only [List.getElem_toArray, List.getElem_cons_succ, List.getElem_cons_zero, Act.put, List.setIfInBounds_toArray, List.set_cons_zero, List.set_cons_succ]
        refine GoS.one (i := 11) (by kernel_rfl) rfl (fun K hK => ?_)
        go_simp
        (with_reducible refine (IS2.call _).mono ?_)
        rintro e q44 ⟨rfl, hx44⟩
        have HS2 := HS.later hx44
        clear HS; have HS := HS2; clear HS2 hx44
        go_wp2_with fail
        refine hK.out _ _ HS (fun _ => ?_)
        clear hK K
        try simp only [List.getElem_toArray, List.getElem_cons_succ, List.getElem_cons_zero, Act.put, List.setIfInBounds_toArray, List.set_cons_zero, List.set_cons_succ]
        refine GoS.pure (i := 12) (v := ?_) rfl (by kernel_rfl) (by kernel_rfl) (by kernel_rfl) (by kernel_rfl) (fun _ _ _ h => h) (Or.inl ⟨by rfl, ?hy45⟩) (fun _ => HS) ?_
        case hy45 => ((intro u' hT; go_simp); try with_reducible rfl)
        try simp only [List.getElem_toArray, List.getElem_cons_succ, List.getElem_cons_zero, Act.put, List.setIfInBounds_toArray, List.set_cons_zero, List.set_cons_succ]
        refine GoS.store (i := 13) (by kernel_rfl) rfl (by kernel_rfl) (fun K hK => ?_)
        go_simp
        refine hK.out _ _ ?_
        clear hK K
        try simp only [List.getElem_toArray, List.getElem_cons_succ, List.getElem_cons_zero, Act.put, List.setIfInBounds_toArray, List.set_cons_zero, List.set_cons_succ]
        refine GoS.done (by kernel_rfl) ?_
        have FR := Lib.hid HS
        go_wp2_with fail
        go_meet
        exact ⟨rfl, FR.out⟩
      · skip
        refine wp_region_S (fun u : World => Fr w u [(w8.heap.size, tm, tx), (w4.heap.size, sm, sx), (w3.heap.size, sm, sx), (w2.heap.size, pm, px), (w1.heap.size, pm, px)]) 13 (by kernel_rfl) ?_
        have HS := FR.out.later (Ext.refl _).drew
        clear FR
        refine GoS.pure (i := 0) (v := ?_) rfl (by kernel_rfl) (by kernel_rfl) (by kernel_rfl) (by kernel_rfl) (fun _ _ _ h => h) (Or.inl ⟨by rfl, ?hy46⟩) (fun _ => HS) ?_
        case hy46 => ((intro u' hT; go_simp); try with_reducible rfl)
        try simp only [List.getElem_toArray, List.getElem_cons_zero, Act.put, List.setIfInBounds_toArray, List.set_cons_zero, List.set_cons_succ]
        refine GoS.pure (i := 1) (v := ?_) rfl (by kernel_rfl) (by kernel_rfl) (by kernel_rfl) (by kernel_rfl) (fun _ _ _ h => h) (Or.inl ⟨by rfl, ?hy47⟩) (fun _ => HS) ?_
        case hy47 => ((intro u' hT; go_simp); try with_reducible rfl)
        try simp only [List.getElem_toArray, List.getElem_cons_succ, List.getElem_cons_zero, Act.put, List.setIfInBounds_toArray, List.set_cons_zero, List.set_cons_succ]
        refine GoS.pure (i := 2) (v := ?_) rfl (by kernel_rfl) (by kernel_rfl) (by kernel_rfl) (by kernel_rfl) (fun _ _ _ h => h) (Or.inl ⟨by rfl, ?hy48⟩) (fun _ => HS) ?_
        case hy48 => ((intro u' hT; go_simp); try with_reducible rfl)
        try simp only [List.getElem_toArray, List.getElem_cons_succ, List.getElem_cons_zero, Act.put, List.setIfInBounds_toArray, List.set_cons_zero, List.set_cons_succ]
        refine GoS.pure (i := 3) (v := ?_) rfl (by kernel_rfl) (by kernel_rfl) (by kernel_rfl) (by kernel_rfl) (fun _ _ _ h => h) (Or.inl ⟨by rfl, ?hy49⟩) (fun _ => HS) ?_
        case hy49 => ((intro u' hT; go_simp); try with_reducible rfl)
        try simp only [List.getElem_toArray, List.getElem_cons_succ, List.getElem_cons_zero, Act.put, List.setIfInBounds_toArray, List.set_cons_zero, List.set_cons_succ]
        refine GoS.pure (i := 4) (v := ?_) rfl (by kernel_rfl) (by kernel_rfl) (by kernel_rfl) (by kernel_rfl) (fun _ _ _ h => h) (Or.inl ⟨by rfl, ?hy50⟩) (fun _ => HS) ?_
        case hy50 => ((intro u' hT; go_simp); try with_reducible rfl)
        try simp only [List.getElem_toArray, List.getElem_cons_succ, List.getElem_cons_zero, Act.put, List.setIfInBounds_toArray, List.set_cons_zero, List.set_cons_succ]
        refine GoS.pure (i := 5) (v := ?_) rfl (by kernel_rfl) (by kernel_rfl) (by kernel_rfl) (by kernel_rfl) (fun _ _ _ h => h) (Or.inl ⟨by rfl, ?hy51⟩) (fun _ => HS) ?_
        case hy51 => ((intro u' hT; go_simp); try with_reducible rfl)
        try simp only [List.getElem_toArray, List.getElem_cons_succ, List.getElem_cons_zero, Act.put, List.setIfInBounds_toArray, List.set_cons_zero, List.set_cons_succ]
        refine GoS.pure (i := 6) (v := ?_) rfl (by kernel_rfl) (by kernel_rfl) (by kernel_rfl) (by kernel_rfl) (fun _ _ _ h => h) (Or.inl ⟨by rfl, ?hy52⟩) (fun _ => HS) ?_
        case hy52 => ((intro u' hT; go_simp); try with_reducible rfl)
        try simp only [List.getElem_toArray, List.getElem_cons_succ, List.getElem_cons_zero, Act.put, List.setIfInBounds_toArray, List.set_cons_zero, List.set_cons_succ]
        refine GoS.pure (i := 7) (v := undef) rfl (by kernel_rfl) (by kernel_rfl) (by kernel_rfl) (by kernel_rfl) (fun _ _ _ h => h) (Or.inr ⟨by rfl, rfl⟩) (fun _ => HS) ?_
        try simp only [List.getElem_toArray, List.getElem_cons_succ, List.getElem_cons_zero, Act.put, List.setIfInBounds_toArray, List.set_cons_zero, List.set_cons_succ]
        refine GoS.pure (i := 8) (v := undef) rfl (by kernel_rfl) (by kernel_rfl) (by kernel_rfl) (by kernel_rfl) (fun _ _ _ h => h) (Or.inr ⟨by rfl, rfl⟩) (fun _ => HS) ?_
        try simp only [List.getElem_toArray, List.getElem_cons_succ, List.getElem_cons_zero, Act.put, List.setIfInBounds_toArray, List.set_cons_zero, List.set_cons_succ]
        refine GoS.pure (i := 9) (v := undef) rfl (by kernel_rfl) (by kernel_rfl) (by kernel_rfl) (by kernel_rfl) (fun _ _ _ h => h) (Or.inr ⟨by rfl, rfl⟩) (fun _ => HS) ?_
        try simp only [List.getElem_toArray, List.getElem_cons_succ, List.getElem_cons_zero, Act.put, List.setIfInBounds_toArray, List.set_cons_zero, List.set_cons_succ]
        refine GoS.pure (i := 10) (v := undef) rfl (by kernel_rfl) (by kernel_rfl) (by kernel_rfl) (by kernel_rfl) (fun _ _ _ h => h) (Or.inr ⟨by rfl, rfl⟩) (fun _ => HS) ?_
        try simp only [List.getElem_toArray, List.getElem_cons_succ, List.getElem_cons_zero, Act.put, List.setIfInBounds_toArray, List.set_cons_zero, List.set_cons_succ]
        refine GoS.pure (i := 11) (v := undef) rfl (by kernel_rfl) (by kernel_rfl) (by kernel_rfl) (by kernel_rfl) (fun _ _ _ h => h) (Or.inr ⟨by rfl, rfl⟩) (fun _ => HS) ?_
        try simp only [List.getElem_toArray, List.getElem_cons_succ, List.getElem_cons_zero, Act.put, List.setIfInBounds_toArray, List.set_cons_zero, List.set_cons_succ]
        refine GoS.pure (i := 12) (v := undef) rfl (by kernel_rfl) (by kernel_rfl) (by kernel_rfl) (by kernel_rfl) (fun _ _ _ h => h) (Or.inr ⟨by rfl, rfl⟩) (fun _ => HS) ?_
        try simp only [List.getElem_toArray, List.getElem_cons_succ, List.getElem_cons_zero, Act.put, List.setIfInBounds_toArray, List.set_cons_zero, List.set_cons_succ]
        refine GoS.store (i := 13) (by kernel_rfl) rfl (by kernel_rfl) (fun K hK => ?_)
        go_simp
        refine hK.out _ _ ?_
        clear hK K
        try simp only [List.getElem_toArray, List.getElem_cons_succ, List.getElem_cons_zero, Act.put, List.setIfInBounds_toArray, List.set_cons_zero, List.set_cons_succ]
        refine GoS.done (by kernel_rfl) ?_
        have FR := Lib.hid HS
        go_wp2_with fail
        go_meet
        exact ⟨rfl, FR.out⟩
    · skip
      refine wp_region_S (fun u : World => Fr w u [(w8.heap.size, tm, tx), (w4.heap.size, sm, sx), (w3.heap.size, sm, sx), (w2.heap.size, pm, px), (w1.heap.size, pm, px)]) 13 (by kernel_rfl) ?_
      have HS := FR.out.later (Ext.refl _).drew
      clear FR
      refine GoS.pure (i := 0) (v := ?_) rfl (by kernel_rfl) (by kernel_rfl) (by kernel_rfl) (by kernel_rfl) (fun _ _ _ h => h) (Or.inl ⟨by rfl, ?hy53⟩) (fun _ => HS) ?_
      case hy53 => ((intro u' hT; go_simp); try with_reducible rfl)
      try simp only [List.getElem_toArray, List.getElem_cons_zero, Act.put, List.setIfInBounds_toArray, List.set_cons_zero, List.set_cons_succ]
      refine GoS.pure (i := 1) (v := ?_) rfl (by kernel_rfl) (by kernel_rfl) (by kernel_rfl) (by kernel_rfl) (fun _ _ _ h => h) (Or.inl ⟨by rfl, ?hy54⟩) (fun _ => HS) ?_
      case hy54 => ((intro u' hT; go_simp); try with_reducible rfl)
      try simp only [List.getElem_toArray, List.getElem_cons_succ, List.getElem_cons_zero, Act.put, List.setIfInBounds_toArray, List.set_cons_zero, List.set_cons_succ]
      refine GoS.pure (i := 2) (v := ?_) rfl (by kernel_rfl) (by kernel_rfl) (by kernel_rfl) (by kernel_rfl) (fun _ _ _ h => h) (Or.inl ⟨by rfl, ?hy55⟩) (fun _ => HS) ?_
      case hy55 => ((intro u' hT; go_simp); try with_reducible rfl)
      try simp only [List.getElem_toArray, List.getElem_cons_succ, List.getElem_cons_zero, Act.put, List.setIfInBounds_toArray, List.set_cons_zero, List.set_cons_succ]
      refine GoS.pure (i := 3) (v := undef) rfl (by kernel_rfl) (by kernel_rfl) (by kernel_rfl) (by kernel_rfl) (fun _ _ _ h => h) (Or.inr ⟨by rfl, rfl⟩) (fun _ => HS) ?_
      try simp only [List.getElem_toArray, List.getElem_cons_succ, List.getElem_cons_zero, Act.put, List.setIfInBounds_toArray, List.set_cons_zero, List.set_cons_succ]
      refine GoS.pure (i := 4) (v := undef) rfl (by kernel_rfl) (by kernel_rfl) (by kernel_rfl) (by kernel_rfl) (fun _ _ _ h => h) (Or.inr ⟨by rfl, rfl⟩) (fun _ => HS) ?_
      try simp only [List.getElem_toArray, List.getElem_cons_succ, List.getElem_cons_zero, Act.put, List.setIfInBounds_toArray, List.set_cons_zero, List.set_cons_succ]
      refine GoS.pure (i := 5) (v := ?_) rfl (by kernel_rfl) (by kernel_rfl) (by kernel_rfl) (by kernel_rfl) (fun _ _ _ h => h) (Or.inl ⟨by rfl, ?hy56⟩) (fun _ => HS) ?_
      case hy56 => ((intro u' hT; go_simp); try with_reducible rfl)
      try simp only [List.getElem_toArray, List.getElem_cons_succ, List.getElem_cons_zero, Act.put, List.setIfInBounds_toArray, List.set_cons_zero, List.set_cons_succ]
      refine GoS.pure (i := 6) (v := ?_) rfl (by kernel_rfl) (by kernel_rfl) (by kernel_rfl) (by kernel_rfl) (fun _ _ _ h => h) (Or.inl ⟨by rfl, ?hy57⟩) (fun _ => HS) ?_
      case hy57 => ((intro u' hT; go_simp); try with_reducible rfl)
      try simp only [List.getElem_toArray, List.getElem_cons_succ, List.getElem_cons_zero, Act.put, List.setIfInBounds_toArray, List.set_cons_zero, List.set_cons_succ]
      refine GoS.pure (i := 7) (v := undef) rfl (by kernel_rfl) (by kernel_rfl) (by kernel_rfl) (by kernel_rfl) (fun _ _ _ h => h) (Or.inr ⟨by rfl, rfl⟩) (fun _ => HS) ?_
      try simp only [List.getElem_toArray, List.getElem_cons_succ, List.getElem_cons_zero, Act.put, List.setIfInBounds_toArray, List.set_cons_zero, List.set_cons_succ]
      refine GoS.pure (i := 8) (v := undef) rfl (by kernel_rfl) (by kernel_rfl) (by kernel_rfl) (by kernel_rfl) (fun _ _ _ h => h) (Or.inr ⟨by rfl, rfl⟩) (fun _ => HS) ?_
      try simp only [List.getElem_toArray, List.getElem_cons_succ, List.getElem_cons_zero, Act.put, List.setIfInBounds_toArray, List.set_cons_zero, List.set_cons_succ]
      refine GoS.pure (i := 9) (v := undef) rfl (by kernel_rfl) (by kernel_rfl) (by kernel_rfl) (by kernel_rfl) (fun _ _ _ h => h) (Or.inr ⟨by rfl, rfl⟩) (fun _ => HS) ?_
      try simp only [List.getElem_toArray, List.getElem_cons_succ, List.getElem_cons_zero, Act.put, List.setIfInBounds_toArray, List.set_cons_zero, List.set_cons_succ]
      refine GoS.pure (i := 10) (v := undef) rfl (by kernel_rfl) (by kernel_rfl) (by kernel_rfl) (by kernel_rfl) (fun _ _ _ h => h) (Or.inr ⟨by rfl, rfl⟩) (fun _ => HS) ?_
      try simp only [List.getElem_toArray, List.getElem_cons_succ, List.getElem_cons_zero, Act.put, List.setIfInBounds_toArray, List.set_cons_zero, List.set_cons_succ]
      refine GoS.pure (i := 11) (v := undef) rfl (by kernel_rfl) (by kernel_rfl) (by kernel_rfl) (by kernel_rfl) (fun _ _ _ h => h) (Or.inr ⟨by rfl, rfl⟩) (fun _ => HS) ?_
      try simp only [List.getElem_toArray, List.getElem_cons_succ, List.getElem_cons_zero, Act.put, List.setIfInBounds_toArray, List.set_cons_zero, List.set_cons_succ]
      refine GoS.pure (i := 12) (v := undef) rfl (by kernel_rfl) (by kernel_rfl) (by kernel_rfl) (by kernel_rfl) (fun _ _ _ h => h) (Or.inr ⟨by rfl, rfl⟩) (fun _ => HS) ?_
      try simp only [List.getElem_toArray, List.getElem_cons_succ, List.getElem_cons_zero, Act.put, List.setIfInBounds_toArray, List.set_cons_zero, List.set_cons_succ]
      refine GoS.store (i := 13) (by kernel_rfl) rfl (by kernel_rfl) (fun K hK => ?_)
      go_simp
      refine hK.out _ _ ?_
      clear hK K
      try simp only [List.getElem_toArray, List.getElem_cons_succ, List.getElem_cons_zero, Act.put, List.setIfInBounds_toArray, List.set_cons_zero, List.set_cons_succ]
      refine GoS.done (by kernel_rfl) ?_
      have FR := Lib.hid HS
      go_wp2_with fail
      go_meet
      exact ⟨rfl, FR.out⟩
  case rest =>
    obtain ⟨rfl, hfr⟩ := hcut
    clear FR H2 HTW; have FR := Lib.hid hfr; clear hfr
    have cx0 := FR.out.c0 (b := w1.heap.size) (.tail _ (.tail _ (.tail _ (.tail _ (.head _))))); have cx1 := FR.out.c1 (b := w1.heap.size) (.tail _ (.tail _ (.tail _ (.tail _ (.head _)))))
    go_wp2_with fail
    refine (NG _).mono ?_
    rintro e w9 ⟨rfl, hx⟩
    have FR2 : Hid (Fr w w9 [(w8.heap.size, tm, tx), (w4.heap.size, sm, sx), (w3.heap.size, sm, sx), (w2.heap.size, pm, px), (w1.heap.size, pm, px)]) := Lib.hid (FR.out.later hx)
    clear cx0 cx1
    clear hx FR; have FR := FR2; clear FR2
    have cx0 := FR.out.g0 (b := w1.heap.size) (.tail _ (.tail _ (.tail _ (.tail _ (.head _))))); have cx1 := FR.out.g1 (b := w1.heap.size) (.tail _ (.tail _ (.tail _ (.tail _ (.head _)))))
    go_wp2_with fail
    refine (PX _).mono ?_
    rintro e w10 ⟨rfl, hx⟩
    have FR2 : Hid (Fr w w10 [(w9.heap.size, gm, gx), (w8.heap.size, tm, tx), (w4.heap.size, sm, sx), (w3.heap.size, sm, sx), (w2.heap.size, pm, px), (w1.heap.size, pm, px)]) := Lib.hid ((FR.out.lay (gm) (gx) 23).later hx)
    clear cx0 cx1
    clear hx FR; have FR := FR2; clear FR2
    have cg0 := FR.out.g0 (b := w9.heap.size) (.head _); have cg1 := FR.out.g1 (b := w9.heap.size) (.head _)
    go_wp2_with fail
    refine (PM _).mono ?_
    rintro e w11 ⟨rfl, hx⟩
    have FR2 : Hid (Fr w w11 [(w10.heap.size, am, ax), (w9.heap.size, gm, gx), (w8.heap.size, tm, tx), (w4.heap.size, sm, sx), (w3.heap.size, sm, sx), (w2.heap.size, pm, px), (w1.heap.size, pm, px)]) := Lib.hid ((FR.out.lay (am) (ax) 23).later hx)
    clear cg0 cg1
    clear hx FR; have FR := FR2; clear FR2
    go_wp2_with fail
    refine (NB _).mono ?_
    rintro e w12 ⟨rfl, hx⟩
    have FR2 : Hid (Fr w w12 [(w11.heap.size, bm, bx), (w10.heap.size, am, ax), (w9.heap.size, gm, gx), (w8.heap.size, tm, tx), (w4.heap.size, sm, sx), (w3.heap.size, sm, sx), (w2.heap.size, pm, px), (w1.heap.size, pm, px)]) := Lib.hid ((FR.out.lay (bm) (bx) 23).later hx)
    clear hx FR; have FR := FR2; clear FR2
    by_cases hs : se = 0
    · subst hs
      obtain ⟨rfl, hq⟩ := HF.out rfl
      have HQ := Lib.hid hq; clear hq
      have st0 := FR.out.c0 (b := w11.heap.size) (.head _); have st1 := FR.out.c1 (b := w11.heap.size) (.head _); have stf := FR.out.fz (b := w11.heap.size) (.head _)
      have FS := FR.out.set 0 rfl (am) (ax)
      have FS : Fr w ((w12.setCell ⟨w11.heap.size, 0, none⟩ (.int .i64 (am))).setCell ⟨w11.heap.size, 1, none⟩ (.int .i64 (ax))) [(w11.heap.size, am, ax), (w10.heap.size, am, ax), (w9.heap.size, gm, gx), (w8.heap.size, tm, tx), (w4.heap.size, sm, sx), (w3.heap.size, sm, sx), (w2.heap.size, pm, px), (w1.heap.size, pm, px)] := FS
      have ca0 := FS.c0 (b := w10.heap.size) (.tail _ (.head _)); have ca1 := FS.c1 (b := w10.heap.size) (.tail _ (.head _))
      have cb0 := FS.c0 (b := w11.heap.size) (.head _); have cb1 := FS.c1 (b := w11.heap.size) (.head _)
      go_upto_region 21 with (fail)
      have HT0 := FS
      refine wp_region_S (fun u : World => Fr w u [(w11.heap.size, am, ax), (w10.heap.size, am, ax), (w9.heap.size, gm, gx), (w8.heap.size, tm, tx), (w4.heap.size, sm, sx), (w3.heap.size, sm, sx), (w2.heap.size, pm, px), (w1.heap.size, pm, px)]) 7 (by kernel_rfl) ?_
      have HS := HT0.later (Ext.refl _).drew
      clear HT0 FR ca0 ca1 cb0 cb1 st0 st1 stf
      refine GoS.take (i := 0) (v := ?_) rfl (by kernel_rfl) (by kernel_rfl) (by kernel_rfl) (by kernel_rfl) (fun _ _ _ h => h) (Or.inl ⟨by rfl, ?hy58⟩) HS ?_
      case hy58 => ((intro u' hT; have dpr0 := hT.c0 (b := w4.heap.size) (.tail _ (.tail _ (.tail _ (.tail _ (.head _))))); have dpr1 := hT.c1 (b := w4.heap.size) (.tail _ (.tail _ (.tail _ (.tail _ (.head _))))); go_simp); try with_reducible rfl)
      try simp only [List.getElem_toArray, List.getElem_cons_zero, Act.put, List.setIfInBounds_toArray, List.set_cons_zero, List.set_cons_succ]
      refine GoS.one (i := 1) (by kernel_rfl) rfl (fun K hK => ?_)
      go_simp
      (with_reducible refine (TH.call _).mono ?_)
      rintro e q59 ⟨rfl, hx59⟩
      have HS2 := HS.later hx59
      clear HS; have HS := HS2; clear HS2 hx59
      go_wp2_with fail
      refine hK.out _ _ HS (fun _ => ?_)
      clear hK K
      try simp only [List.getElem_toArray, List.getElem_cons_succ, List.getElem_cons_zero, Act.put, List.setIfInBounds_toArray, List.set_cons_zero, List.set_cons_succ]
      refine GoS.one (i := 2) (by kernel_rfl) rfl (fun K hK => ?_)
      go_simp
      (with_reducible refine (CP.call _).mono ?_)
      rintro e q60 ⟨rfl, hx60⟩
      have HS2 := HS.later hx60
      clear HS; have HS := HS2; clear HS2 hx60
      go_wp2_with fail
      refine hK.out _ _ HS (fun _ => ?_)
      clear hK K
      try simp only [List.getElem_toArray, List.getElem_cons_succ, List.getElem_cons_zero, Act.put, List.setIfInBounds_toArray, List.set_cons_zero, List.set_cons_succ]
      refine GoS.pure (i := 3) (v := ?_) rfl (by kernel_rfl) (by kernel_rfl) (by kernel_rfl) (by kernel_rfl) (fun _ _ _ h => h) (Or.inl ⟨by rfl, ?hy61⟩) (fun _ => HS) ?_
      case hy61 => ((intro u' hT; go_simp); try with_reducible rfl)
      try simp only [List.getElem_toArray, List.getElem_cons_succ, List.getElem_cons_zero, Act.put, List.setIfInBounds_toArray, List.set_cons_zero, List.set_cons_succ]
      refine GoS.pure (i := 4) (v := ?_) rfl (by kernel_rfl) (by kernel_rfl) (by kernel_rfl) (by kernel_rfl) (fun _ _ _ h => h) (Or.inl ⟨by rfl, ?hy62⟩) (fun _ => HS) ?_
      case hy62 => ((intro u' hT; go_simp); try with_reducible rfl)
      try simp only [List.getElem_toArray, List.getElem_cons_succ, List.getElem_cons_zero, Act.put, List.setIfInBounds_toArray, List.set_cons_zero, List.set_cons_succ]
      refine GoS.pure (i := 5) (v := ?_) rfl (by kernel_rfl) (by kernel_rfl) (by kernel_rfl) (by kernel_rfl) (fun _ _ _ h => h) (Or.inl ⟨by rfl, ?hy63⟩) (fun _ => HS) ?_
      case hy63 => ((intro u' hT; go_simp); try with_reducible rfl)
      try simp only [List.getElem_toArray, List.getElem_cons_succ, List.getElem_cons_zero, Act.put, List.setIfInBounds_toArray, List.set_cons_zero, List.set_cons_succ]
      refine GoS.pure (i := 6) (v := ?_) rfl (by kernel_rfl) (by kernel_rfl) (by kernel_rfl) (by kernel_rfl) (fun _ _ _ h => h) (Or.inl ⟨by rfl, ?hy64⟩) (fun _ => HS) ?_
      case hy64 => ((intro u' hT; go_simp); try with_reducible rfl)
      try simp only [List.getElem_toArray, List.getElem_cons_succ, List.getElem_cons_zero, Act.put, List.setIfInBounds_toArray, List.set_cons_zero, List.set_cons_succ]
      refine GoS.store (i := 7) (by kernel_rfl) rfl (by kernel_rfl) (fun K hK => ?_)
      go_simp
      refine hK.out _ _ ?_
      clear hK K
      try simp only [List.getElem_toArray, List.getElem_cons_succ, List.getElem_cons_zero, Act.put, List.setIfInBounds_toArray, List.set_cons_zero, List.set_cons_succ]
      refine GoS.done (by kernel_rfl) ?_
      have FR := Lib.hid HS; clear HS
      by_cases hc : c < 0
      · clear HQ
        have cx0 := FR.out.c0 (b := w1.heap.size) (.tail _ (.tail _ (.tail _ (.tail _ (.tail _ (.tail _ (.tail _ (.head _)))))))); have cx1 := FR.out.c1 (b := w1.heap.size) (.tail _ (.tail _ (.tail _ (.tail _ (.tail _ (.tail _ (.tail _ (.head _))))))))
        go_wp2_with fail
        refine (AB _).mono ?_
        rintro e w13 ⟨rfl, hx⟩
        have FR2 : Hid (Fr w w13 [(w11.heap.size, am, ax), (w10.heap.size, am, ax), (w9.heap.size, gm, gx), (w8.heap.size, tm, tx), (w4.heap.size, sm, sx), (w3.heap.size, sm, sx), (w2.heap.size, pm, px), (w1.heap.size, pm, px)]) := Lib.hid (FR.out.later hx)
        clear cx0 cx1
        clear hx FR; have FR := FR2; clear FR2
        have cpr0 := FR.out.g0 (b := w4.heap.size) (.tail _ (.tail _ (.tail _ (.tail _ (.head _))))); have cpr1 := FR.out.g1 (b := w4.heap.size) (.tail _ (.tail _ (.tail _ (.tail _ (.head _)))))
        go_wp2_with fail
        refine (SQ _).mono ?_
        rintro e w14 ⟨rfl, hx⟩
        have FR2 : Hid (Fr w w14 [(w13.heap.size, rm, rx), (w11.heap.size, am, ax), (w10.heap.size, am, ax), (w9.heap.size, gm, gx), (w8.heap.size, tm, tx), (w4.heap.size, sm, sx), (w3.heap.size, sm, sx), (w2.heap.size, pm, px), (w1.heap.size, pm, px)]) := Lib.hid ((FR.out.lay (rm) (rx) 23).later hx)
        clear cpr0 cpr1
        clear hx FR; have FR := FR2; clear FR2
        go_wp2_with fail
        refine (SN _ (HT.out.later (FR.out.lay _ _ _).x)).mono ?_
        rintro e w15 ⟨rfl, hx⟩
        have FR2 : Hid (Fr w w15 [(w14.heap.size, qm, qx), (w13.heap.size, rm, rx), (w11.heap.size, am, ax), (w10.heap.size, am, ax), (w9.heap.size, gm, gx), (w8.heap.size, tm, tx), (w4.heap.size, sm, sx), (w3.heap.size, sm, sx), (w2.heap.size, pm, px), (w1.heap.size, pm, px)]) := Lib.hid ((FR.out.lay (qm) (qx) 23).later hx)
        clear hx FR; have FR := FR2; clear FR2
        have cq0 := FR.out.c0 (b := w14.heap.size) (.head _); have cq1 := FR.out.c1 (b := w14.heap.size) (.head _)
        have cr0 := FR.out.c0 (b := w13.heap.size) (.tail _ (.head _)); have cr1 := FR.out.c1 (b := w13.heap.size) (.tail _ (.head _))
        go_wp2
        go_ret
        exact ⟨rfl, FR.out.x⟩
      · obtain ⟨rfl, rfl⟩ := HQ.out (by omega)
        clear HQ
        have cx0 := FR.out.c0 (b := w1.heap.size) (.tail _ (.tail _ (.tail _ (.tail _ (.tail _ (.tail _ (.tail _ (.head _)))))))); have cx1 := FR.out.c1 (b := w1.heap.size) (.tail _ (.tail _ (.tail _ (.tail _ (.tail _ (.tail _ (.tail _ (.head _))))))))
        go_wp2_with fail
        refine (AB _).mono ?_
        rintro e w13 ⟨rfl, hx⟩
        have FR2 : Hid (Fr w w13 [(w11.heap.size, am, ax), (w10.heap.size, am, ax), (w9.heap.size, gm, gx), (w8.heap.size, tm, tx), (w4.heap.size, sm, sx), (w3.heap.size, sm, sx), (w2.heap.size, pm, px), (w1.heap.size, pm, px)]) := Lib.hid (FR.out.later hx)
        clear cx0 cx1
        clear hx FR; have FR := FR2; clear FR2
        have cpr0 := FR.out.g0 (b := w4.heap.size) (.tail _ (.tail _ (.tail _ (.tail _ (.head _))))); have cpr1 := FR.out.g1 (b := w4.heap.size) (.tail _ (.tail _ (.tail _ (.tail _ (.head _)))))
        go_wp2_with fail
        refine (SQ _).mono ?_
        rintro e w14 ⟨rfl, hx⟩
        have FR2 : Hid (Fr w w14 [(w13.heap.size, qm, qx), (w11.heap.size, am, ax), (w10.heap.size, am, ax), (w9.heap.size, gm, gx), (w8.heap.size, tm, tx), (w4.heap.size, sm, sx), (w3.heap.size, sm, sx), (w2.heap.size, pm, px), (w1.heap.size, pm, px)]) := Lib.hid ((FR.out.lay (qm) (qx) 23).later hx)
        clear cpr0 cpr1
        clear hx FR; have FR := FR2; clear FR2
        go_wp2_with fail
        refine (SN _ (HT.out.later (FR.out.lay _ _ _).x)).mono ?_
        rintro e w15 ⟨rfl, hx⟩
        have FR2 : Hid (Fr w w15 [(w14.heap.size, qm, qx), (w13.heap.size, qm, qx), (w11.heap.size, am, ax), (w10.heap.size, am, ax), (w9.heap.size, gm, gx), (w8.heap.size, tm, tx), (w4.heap.size, sm, sx), (w3.heap.size, sm, sx), (w2.heap.size, pm, px), (w1.heap.size, pm, px)]) := Lib.hid ((FR.out.lay (qm) (qx) 23).later hx)
        clear hx FR; have FR := FR2; clear FR2
        have cq0 := FR.out.c0 (b := w14.heap.size) (.head _); have cq1 := FR.out.c1 (b := w14.heap.size) (.head _)
        have cr0 := FR.out.c0 (b := w13.heap.size) (.tail _ (.head _)); have cr1 := FR.out.c1 (b := w13.heap.size) (.tail _ (.head _))
        go_wp2
        go_ret
        exact ⟨rfl, FR.out.x⟩
    · have hs' : (se == 0) = false := by simpa using hs
      have st0 := FR.out.c0 (b := w11.heap.size) (.head _); have st1 := FR.out.c1 (b := w11.heap.size) (.head _); have stf := FR.out.fz (b := w11.heap.size) (.head _)
      have FS := FR.out.set 0 rfl (am) (ax)
      have FS : Fr w ((w12.setCell ⟨w11.heap.size, 0, none⟩ (.int .i64 (am))).setCell ⟨w11.heap.size, 1, none⟩ (.int .i64 (ax))) [(w11.heap.size, am, ax), (w10.heap.size, am, ax), (w9.heap.size, gm, gx), (w8.heap.size, tm, tx), (w4.heap.size, sm, sx), (w3.heap.size, sm, sx), (w2.heap.size, pm, px), (w1.heap.size, pm, px)] := FS
      have ca0 := FS.c0 (b := w10.heap.size) (.tail _ (.head _)); have ca1 := FS.c1 (b := w10.heap.size) (.tail _ (.head _))
      have cb0 := FS.c0 (b := w11.heap.size) (.head _); have cb1 := FS.c1 (b := w11.heap.size) (.head _)
      go_wp2_with fail
      refine (SN _ (HT.out.later FS.x)).mono ?_
      rintro e w13 ⟨rfl, hx⟩
      have FR2 : Hid (Fr w w13 [(w11.heap.size, am, ax), (w10.heap.size, am, ax), (w9.heap.size, gm, gx), (w8.heap.size, tm, tx), (w4.heap.size, sm, sx), (w3.heap.size, sm, sx), (w2.heap.size, pm, px), (w1.heap.size, pm, px)]) := Lib.hid (FS.later hx)
      clear ca0 ca1 cb0 cb1 st0 st1 stf
      clear FS
      clear hx FR; have FR := FR2; clear FR2
      go_wp2
      go_ret
      exact ⟨rfl, FR.out.x⟩
end Go.Proofs.YtehmpffffjcloaaGreatDoor
