/- Layer 2: the walk of RealExact. -/
import Derived.Test.YtehmpffffjcloaaGreatDoorTs
import Derived.Deep.Cut
namespace Go.Proofs.YtehmpffffjcloaaGreatDoor
open Go.RowKit

set_option maxRecDepth 100000 in
set_option maxHeartbeats 4000000 in
theorem small_w (w : World) (i j M E am ax pm px xm xx : Int) (hM : i.tmod 4096 = M) (_hM' : IntKind.i64.wrap M = M) (_hM2 : wrap64 M = M) (hE : j.tmod 21 = E) (_hE' : IntKind.i64.wrap E = E) (_hE2 : wrap64 E = E) (FM : Ret 20 #[.int .i64 M] (.agg #[.int .i64 am, .int .i64 ax])) (FT : Ret 20 #[.int .i64 2] (.agg #[.int .i64 8388608, .int .i64 (-22)])) (PO : Ret 46 #[.agg #[.int .i64 8388608, .int .i64 (-22)], .int .i64 E] (.tuple #[.agg #[.int .i64 pm, .int .i64 px], .int .i64 0])) (MU : Ret 40 #[.agg #[.int .i64 am, .int .i64 ax], .agg #[.int .i64 pm, .int .i64 px]] (.tuple #[.agg #[.int .i64 xm, .int .i64 xx], .int .i64 0])) :
    Calls Tryz.prog 59 #[.int .i64 i, .int .i64 j] w fun e w' => e = .returned (.agg #[.int .i64 xm, .int .i64 xx]) ∧ Ext w w' := by
  have FR := Lib.hid (Fr.nil w)
  have eqR := eqReal
  go_enter Tryz.func59, Tryz.ntmps59
  go_wp2_with fail
  refine (FM _).mono ?_
  rintro e w1 ⟨rfl, hx⟩
  have FR2 : Hid (Fr w w1 [(w.heap.size, 0, 0)]) := Lib.hid ((FR.out.lay (0) (0) 23).later hx)
  clear hx FR; have FR := FR2; clear FR2
  go_wp2_with fail
  refine (FT _).mono ?_
  rintro e w2 ⟨rfl, hx⟩
  have FR2 : Hid (Fr w w2 [(w1.heap.size, am, ax), (w.heap.size, 0, 0)]) := Lib.hid ((FR.out.lay (am) (ax) 23).later hx)
  clear hx FR; have FR := FR2; clear FR2
  go_wp2_with fail
  refine (PO _).mono ?_
  rintro e w3 ⟨rfl, hx⟩
  have FR2 : Hid (Fr w w3 [(w1.heap.size, am, ax), (w.heap.size, 0, 0)]) := Lib.hid (FR.out.later hx)
  clear hx FR; have FR := FR2; clear FR2
  have ca0 := FR.out.g0 (b := w1.heap.size) (.head _); have ca1 := FR.out.g1 (b := w1.heap.size) (.head _)
  go_wp2_with fail
  refine (MU _).mono ?_
  rintro e w4 ⟨rfl, hx⟩
  have FR2 : Hid (Fr w w4 [(w3.heap.size, pm, px), (w1.heap.size, am, ax), (w.heap.size, 0, 0)]) := Lib.hid ((FR.out.lay (pm) (px) 23).later hx)
  clear ca0 ca1
  clear hx FR; have FR := FR2; clear FR2
  have cres0 := FR.out.c0 (b := w.heap.size) (.tail _ (.tail _ (.head _))); have cres1 := FR.out.c1 (b := w.heap.size) (.tail _ (.tail _ (.head _)))
  have g0 : ∀ ob, (w4.alloc ob).cell? ⟨w.heap.size, 0, none⟩ = some (.int .i64 0) := FR.out.g0 (.tail _ (.tail _ (.head _)))
  have g1 : ∀ ob, (w4.alloc ob).cell? ⟨w.heap.size, 1, none⟩ = some (.int .i64 0) := FR.out.g1 (.tail _ (.tail _ (.head _)))
  have gf : ∀ ob j, (w4.alloc ob).frozen? ⟨w.heap.size, j, none⟩ = false := fun ob j => (FR.out.later ((Ext.refl _).alloc ob)).fz (.tail _ (.tail _ (.head _))) j
  have hne : w.heap.size ≠ w4.heap.size := Nat.ne_of_lt (FR.out.lt (.tail _ (.tail _ (.head _))))
  have hne' : w4.heap.size ≠ w.heap.size := fun e => hne e.symm
  go_wp2
  refine bodyPost_ret (v := .agg #[.int .i64 xm, .int .i64 xx]) ?_ rfl ⟨rfl, ?_⟩
  · simp [results, Tryz.results59, go_sem, g0, g1]
  · exact ((FR.out.x.alloc _).setCell (Nat.le_refl _) _).setCell (Nat.le_refl _) _
set_option maxRecDepth 100000 in
set_option maxHeartbeats 8000000 in
theorem exact_zero (w : World) (ht : Tb w) (i j k l M E F EF xm xx ym yx am ax tm tx : Int) (hM : i.tmod 4096 = M) (_hM' : IntKind.i64.wrap M = M) (_hM2 : wrap64 M = M) (hE : j.tmod 21 = E) (_hE' : IntKind.i64.wrap E = E) (_hE2 : wrap64 E = E) (hN : k.tmod 4096 = 0) (hF : l.tmod 21 = F) (_hF' : IntKind.i64.wrap F = F) (_hF2 : wrap64 F = F) (hK : IntKind.i64.wrap (E + F) = EF) (_hK2 : wrap64 (E + F) = EF) (hz : IntKind.i64.wrap 0 = 0) (_hz2 : wrap64 0 = 0) (S1 : Ret 59 #[.int .i64 i, .int .i64 j] (.agg #[.int .i64 xm, .int .i64 xx])) (S2 : Ret 59 #[.int .i64 k, .int .i64 l] (.agg #[.int .i64 ym, .int .i64 yx])) (MU : Ret 40 #[.agg #[.int .i64 xm, .int .i64 xx], .agg #[.int .i64 ym, .int .i64 yx]] (.tuple #[.agg #[.int .i64 0, .int .i64 0], .int .i64 0])) (FT : Ret 20 #[.int .i64 2] (.agg #[.int .i64 8388608, .int .i64 (-22)])) (PO : Ret 46 #[.agg #[.int .i64 8388608, .int .i64 (-22)], .int .i64 EF] (.tuple #[.agg #[.int .i64 tm, .int .i64 tx], .int .i64 0])) (FP : Ret 20 #[.int .i64 0] (.agg #[.int .i64 am, .int .i64 ax])) (MQ : Ret 40 #[.agg #[.int .i64 am, .int .i64 ax], .agg #[.int .i64 tm, .int .i64 tx]] (.tuple #[.agg #[.int .i64 0, .int .i64 0], .int .i64 0])) (SN : ∀ u, Tb u → Calls Tryz.prog 30 #[] u fun e u' => e = .returned (.bool true) ∧ Ext u u') :
    Calls Tryz.prog 11 #[.int .i64 i, .int .i64 j, .int .i64 k, .int .i64 l] w fun e w' => e = .returned (.bool true) ∧ Ext w w' := by
  have HT := Lib.hid ht; clear ht
  have FR := Lib.hid (Fr.nil w)
  have eqR := eqReal
  go_enter Tryz.func11, Tryz.ntmps11
  go_wp2_with fail
  refine (S1 _).mono ?_
  rintro e w1 ⟨rfl, hx⟩
  have FR2 : Hid (Fr w w1 []) := Lib.hid (FR.out.later hx)
  clear hx FR; have FR := FR2; clear FR2
  go_wp2_with fail
  refine (S2 _).mono ?_
  rintro e w2 ⟨rfl, hx⟩
  have FR2 : Hid (Fr w w2 [(w1.heap.size, xm, xx)]) := Lib.hid ((FR.out.lay (xm) (xx) 23).later hx)
  clear hx FR; have FR := FR2; clear FR2
  have cx0 := FR.out.g0 (b := w1.heap.size) (.head _); have cx1 := FR.out.g1 (b := w1.heap.size) (.head _)
  go_wp2_with fail
  refine (MU _).mono ?_
  rintro e w3 ⟨rfl, hx⟩
  have FR2 : Hid (Fr w w3 [(w2.heap.size, ym, yx), (w1.heap.size, xm, xx)]) := Lib.hid ((FR.out.lay (ym) (yx) 23).later hx)
  clear cx0 cx1
  clear hx FR; have FR := FR2; clear FR2
  go_wp2_with fail
  refine (FT _).mono ?_
  rintro e w4 ⟨rfl, hx⟩
  have FR2 : Hid (Fr w w4 [(w3.heap.size, 0, 0), (w2.heap.size, ym, yx), (w1.heap.size, xm, xx)]) := Lib.hid ((FR.out.lay (0) (0) 23).later hx)
  clear hx FR; have FR := FR2; clear FR2
  go_wp2_with fail
  refine (PO _).mono ?_
  rintro e w5 ⟨rfl, hx⟩
  have FR2 : Hid (Fr w w5 [(w3.heap.size, 0, 0), (w2.heap.size, ym, yx), (w1.heap.size, xm, xx)]) := Lib.hid (FR.out.later hx)
  clear hx FR; have FR := FR2; clear FR2
  go_upto_region 7 with (fail)
  have FR2 : Hid (Fr w _ [(w5.heap.size, tm, tx), (w3.heap.size, 0, 0), (w2.heap.size, ym, yx), (w1.heap.size, xm, xx)]) := Lib.hid (FR.out.lay tm tx 23); clear FR; have FR := FR2; clear FR2
  revert FR; generalize (w5.alloc (.cells #[.int .i64 tm, .int .i64 tx] 23)) = wz; intro FR
  go_cut [15, 16] from 47 (fun s15 s16 wx => ∃ b : Nat, s15 = .pointer (some ⟨b, 0, none⟩) ∧ s16 = .int .i64 0 ∧ Fr w wx [(b, 0, 0), (w5.heap.size, tm, tx), (w3.heap.size, 0, 0), (w2.heap.size, ym, yx), (w1.heap.size, xm, xx)])
  case first =>
    refine wp_region_S (fun u : World => Fr w u [(w5.heap.size, tm, tx), (w3.heap.size, 0, 0), (w2.heap.size, ym, yx), (w1.heap.size, xm, xx)]) 12 (by kernel_rfl) ?_
    have HS := FR.out.later (Ext.refl _).drew
    clear FR
    refine GoS.pure (i := 0) (v := ?_) rfl (by kernel_rfl) (by kernel_rfl) (by kernel_rfl) (by kernel_rfl) (fun _ _ _ h => h) (Or.inl ⟨by rfl, ?hy1⟩) (fun _ => HS) ?_
    case hy1 => ((intro u' hT; go_simp); try with_reducible rfl)
    try simp only [List.getElem_toArray, List.getElem_cons_zero, Act.put, List.setIfInBounds_toArray, List.set_cons_zero, List.set_cons_succ]
    refine GoS.pure (i := 1) (v := ?_) rfl (by kernel_rfl) (by kernel_rfl) (by kernel_rfl) (by kernel_rfl) (fun _ _ _ h => h) (Or.inl ⟨by rfl, ?hy2⟩) (fun _ => HS) ?_
    case hy2 => ((intro u' hT; go_simp); try with_reducible rfl)
    try simp only [List.getElem_toArray, List.getElem_cons_succ, List.getElem_cons_zero, Act.put, List.setIfInBounds_toArray, List.set_cons_zero, List.set_cons_succ]
    refine GoS.pure (i := 2) (v := ?_) rfl (by kernel_rfl) (by kernel_rfl) (by kernel_rfl) (by kernel_rfl) (fun _ _ _ h => h) (Or.inl ⟨by rfl, ?hy3⟩) (fun _ => HS) ?_
    case hy3 => ((intro u' hT; go_simp); try with_reducible rfl)
    try simp only [List.getElem_toArray, List.getElem_cons_succ, List.getElem_cons_zero, Act.put, List.setIfInBounds_toArray, List.set_cons_zero, List.set_cons_succ]
    refine GoS.pure (i := 3) (v := ?_) rfl (by kernel_rfl) (by kernel_rfl) (by kernel_rfl) (by kernel_rfl) (fun _ _ _ h => h) (Or.inl ⟨by rfl, ?hy4⟩) (fun _ => HS) ?_
    case hy4 => ((intro u' hT; go_simp); try with_reducible rfl)
    try simp only [List.getElem_toArray, List.getElem_cons_succ, List.getElem_cons_zero, Act.put, List.setIfInBounds_toArray, List.set_cons_zero, List.set_cons_succ]
    refine GoS.pure (i := 4) (v := ?_) rfl (by kernel_rfl) (by kernel_rfl) (by kernel_rfl) (by kernel_rfl) (fun _ _ _ h => h) (Or.inl ⟨by rfl, ?hy5⟩) (fun _ => HS) ?_
    case hy5 => ((intro u' hT; go_simp); try with_reducible rfl)
    try simp only [List.getElem_toArray, List.getElem_cons_succ, List.getElem_cons_zero, Act.put, List.setIfInBounds_toArray, List.set_cons_zero, List.set_cons_succ]
    refine GoS.take (i := 6) (v := ?_) rfl (by kernel_rfl) (by kernel_rfl) (by kernel_rfl) (by kernel_rfl) (fun _ _ _ h => h) (Or.inl ⟨by rfl, ?hy6⟩) HS ?_
    case hy6 => ((intro u' hT; have dt0 := hT.c0 (b := w5.heap.size) (.head _); have dt1 := hT.c1 (b := w5.heap.size) (.head _); go_simp); try with_reducible rfl)
    try simp only [List.getElem_toArray, List.getElem_cons_succ, List.getElem_cons_zero, Act.put, List.setIfInBounds_toArray, List.set_cons_zero, List.set_cons_succ]
    refine GoS.two (i := 5) (j := 11) (by kernel_rfl) rfl rfl (fun K hK => ?_) (fun K hK => ?_)
    · skip
      go_simp
      (with_reducible refine (FP.call _).mono ?_)
      rintro e q7 ⟨rfl, hx7⟩
      have HS2 := HS.later hx7
      clear HS; have HS := HS2; clear HS2 hx7
      go_wp2_with fail
      refine hK.out _ _ HS (fun _ => ?_)
      clear hK K
      try simp only [List.getElem_toArray, List.getElem_cons_succ, List.getElem_cons_zero, Act.put, List.setIfInBounds_toArray, List.set_cons_zero, List.set_cons_succ]
      refine GoS.two (i := 7) (j := 11) (by kernel_rfl) rfl rfl (fun K hK => ?_) (fun K hK => ?_)
      · skip
        go_simp
        (with_reducible refine (MQ.call _).mono ?_)
        rintro e q8 ⟨rfl, hx8⟩
        have HS2 := HS.later hx8
        clear HS; have HS := HS2; clear HS2 hx8
        go_wp2_with fail
        refine hK.out _ _ HS (fun _ => ?_)
        clear hK K
        try simp only [List.getElem_toArray, List.getElem_cons_succ, List.getElem_cons_zero, Act.put, List.setIfInBounds_toArray, List.set_cons_zero, List.set_cons_succ]
        refine GoS.pure (i := 8) (v := ?_) rfl (by kernel_rfl) (by kernel_rfl) (by kernel_rfl) (by kernel_rfl) (fun _ _ _ h => h) (Or.inl ⟨by rfl, ?hy9⟩) (fun _ => HS) ?_
        case hy9 => ((intro u' hT; go_simp); try with_reducible rfl)
        try simp only [List.getElem_toArray, List.getElem_cons_succ, List.getElem_cons_zero, Act.put, List.setIfInBounds_toArray, List.set_cons_zero, List.set_cons_succ]
        refine GoS.pure (i := 9) (v := ?_) rfl (by kernel_rfl) (by kernel_rfl) (by kernel_rfl) (by kernel_rfl) (fun _ _ _ h => h) (Or.inl ⟨by rfl, ?hy10⟩) (fun _ => HS) ?_
        case hy10 => ((intro u' hT; go_simp); try with_reducible rfl)
        try simp only [List.getElem_toArray, List.getElem_cons_succ, List.getElem_cons_zero, Act.put, List.setIfInBounds_toArray, List.set_cons_zero, List.set_cons_succ]
        refine GoS.pure (i := 10) (v := ?_) rfl (by kernel_rfl) (by kernel_rfl) (by kernel_rfl) (by kernel_rfl) (fun _ _ _ h => h) (Or.inl ⟨by rfl, ?hy11⟩) (fun _ => HS) ?_
        case hy11 => ((intro u' hT; go_simp); try with_reducible rfl)
        try simp only [List.getElem_toArray, List.getElem_cons_succ, List.getElem_cons_zero, Act.put, List.setIfInBounds_toArray, List.set_cons_zero, List.set_cons_succ]
        refine GoS.one (i := 11) (by kernel_rfl) rfl (fun K hK => ?_)
        go_simp
        have HQ := HS
        have FQ := Lib.hid (HS.lay 0 0 23)
        have HS2 := HS.later ((Ext.refl _).alloc (.cells #[.int .i64 0, .int .i64 0] 23))
        clear HS; have HS := HS2; clear HS2
        refine hK.out _ _ HS (fun _ => ?_)
        clear hK K
        try simp only [List.getElem_toArray, List.getElem_cons_succ, List.getElem_cons_zero, Act.put, List.setIfInBounds_toArray, List.set_cons_zero, List.set_cons_succ]
        refine GoS.store (i := 12) (by kernel_rfl) rfl (by kernel_rfl) (fun K hK => ?_)
        have st0 := FQ.out.c0 (b := q8.heap.size) (.head _); have st1 := FQ.out.c1 (b := q8.heap.size) (.head _); have stf := FQ.out.fz (b := q8.heap.size) (.head _)
        go_simp
        have FR := Lib.hid (HQ.lay (0) (0) 23); clear FQ HQ st0 st1 stf
        refine hK.out _ _ ?_
        clear hK K
        try simp only [List.getElem_toArray, List.getElem_cons_succ, List.getElem_cons_zero, Act.put, List.setIfInBounds_toArray, List.set_cons_zero, List.set_cons_succ]
        refine GoS.behind (i := 13) (v := ?_) rfl (by kernel_rfl) (by kernel_rfl) (by kernel_rfl) (by kernel_rfl) (fun _ _ _ h => h) (Or.inl ⟨by rfl, ?hy12⟩) (by kernel_rfl) ?_
        case hy12 => ((intro u' hT; go_simp); try with_reducible rfl)
        try simp only [List.getElem_toArray, List.getElem_cons_succ, List.getElem_cons_zero, Act.put, List.setIfInBounds_toArray, List.set_cons_zero, List.set_cons_succ]
        refine GoS.done (by kernel_rfl) ?_
        go_wp2_with fail
        go_meet
        exact ⟨_, rfl, rfl, FR.out⟩
      · skip
        go_simp
        have HQ := HS
        have FQ := Lib.hid (HS.lay 0 0 23)
        have HS2 := HS.later ((Ext.refl _).alloc (.cells #[.int .i64 0, .int .i64 0] 23))
        clear HS; have HS := HS2; clear HS2
        refine hK.out _ _ HS (fun _ => ?_)
        clear hK K
        try simp only [List.getElem_toArray, List.getElem_cons_succ, List.getElem_cons_zero, Act.put, List.setIfInBounds_toArray, List.set_cons_zero, List.set_cons_succ]
        refine GoS.one (i := 7) (by kernel_rfl) rfl (fun K hK => ?_)
        go_simp
        (with_reducible refine (MQ.call _).mono ?_)
        rintro e q13 ⟨rfl, hx13⟩
        have HS2 := HS.later hx13
        have FQ2 := Lib.hid (FQ.out.later hx13); clear FQ; have FQ := FQ2; clear FQ2
        clear HS; have HS := HS2; clear HS2 hx13
        go_wp2_with fail
        refine hK.out _ _ HS (fun _ => ?_)
        clear hK K
        try simp only [List.getElem_toArray, List.getElem_cons_succ, List.getElem_cons_zero, Act.put, List.setIfInBounds_toArray, List.set_cons_zero, List.set_cons_succ]
        refine GoS.pure (i := 8) (v := ?_) rfl (by kernel_rfl) (by kernel_rfl) (by kernel_rfl) (by kernel_rfl) (fun _ _ _ h => h) (Or.inl ⟨by rfl, ?hy14⟩) (fun _ => HS) ?_
        case hy14 => ((intro u' hT; go_simp); try with_reducible rfl)
        try simp only [List.getElem_toArray, List.getElem_cons_succ, List.getElem_cons_zero, Act.put, List.setIfInBounds_toArray, List.set_cons_zero, List.set_cons_succ]
        refine GoS.pure (i := 9) (v := ?_) rfl (by kernel_rfl) (by kernel_rfl) (by kernel_rfl) (by kernel_rfl) (fun _ _ _ h => h) (Or.inl ⟨by rfl, ?hy15⟩) (fun _ => HS) ?_
        case hy15 => ((intro u' hT; go_simp); try with_reducible rfl)
        try simp only [List.getElem_toArray, List.getElem_cons_succ, List.getElem_cons_zero, Act.put, List.setIfInBounds_toArray, List.set_cons_zero, List.set_cons_succ]
        refine GoS.pure (i := 10) (v := ?_) rfl (by kernel_rfl) (by kernel_rfl) (by kernel_rfl) (by kernel_rfl) (fun _ _ _ h => h) (Or.inl ⟨by rfl, ?hy16⟩) (fun _ => HS) ?_
        case hy16 => ((intro u' hT; go_simp); try with_reducible rfl)
        try simp only [List.getElem_toArray, List.getElem_cons_succ, List.getElem_cons_zero, Act.put, List.setIfInBounds_toArray, List.set_cons_zero, List.set_cons_succ]
        refine GoS.store (i := 12) (by kernel_rfl) rfl (by kernel_rfl) (fun K hK => ?_)
        have st0 := FQ.out.c0 (b := q7.heap.size) (.head _); have st1 := FQ.out.c1 (b := q7.heap.size) (.head _); have stf := FQ.out.fz (b := q7.heap.size) (.head _)
        go_simp
        have FR := Lib.hid (FQ.out.set 0 rfl (0) (0)); clear FQ HQ st0 st1 stf
        refine hK.out _ _ ?_
        clear hK K
        try simp only [List.getElem_toArray, List.getElem_cons_succ, List.getElem_cons_zero, Act.put, List.setIfInBounds_toArray, List.set_cons_zero, List.set_cons_succ]
        refine GoS.behind (i := 13) (v := ?_) rfl (by kernel_rfl) (by kernel_rfl) (by kernel_rfl) (by kernel_rfl) (fun _ _ _ h => h) (Or.inl ⟨by rfl, ?hy17⟩) (by kernel_rfl) ?_
        case hy17 => ((intro u' hT; go_simp); try with_reducible rfl)
        try simp only [List.getElem_toArray, List.getElem_cons_succ, List.getElem_cons_zero, Act.put, List.setIfInBounds_toArray, List.set_cons_zero, List.set_cons_succ]
        refine GoS.done (by kernel_rfl) ?_
        go_wp2_with fail
        go_meet
        exact ⟨_, rfl, rfl, FR.out⟩
    · skip
      go_simp
      have HQ := HS
      have FQ := Lib.hid (HS.lay 0 0 23)
      have HS2 := HS.later ((Ext.refl _).alloc (.cells #[.int .i64 0, .int .i64 0] 23))
      clear HS; have HS := HS2; clear HS2
      refine hK.out _ _ HS (fun _ => ?_)
      clear hK K
      try simp only [List.getElem_toArray, List.getElem_cons_succ, List.getElem_cons_zero, Act.put, List.setIfInBounds_toArray, List.set_cons_zero, List.set_cons_succ]
      refine GoS.one (i := 5) (by kernel_rfl) rfl (fun K hK => ?_)
      go_simp
      (with_reducible refine (FP.call _).mono ?_)
      rintro e q18 ⟨rfl, hx18⟩
      have HS2 := HS.later hx18
      have FQ2 := Lib.hid (FQ.out.later hx18); clear FQ; have FQ := FQ2; clear FQ2
      clear HS; have HS := HS2; clear HS2 hx18
      go_wp2_with fail
      refine hK.out _ _ HS (fun _ => ?_)
      clear hK K
      try simp only [List.getElem_toArray, List.getElem_cons_succ, List.getElem_cons_zero, Act.put, List.setIfInBounds_toArray, List.set_cons_zero, List.set_cons_succ]
      refine GoS.one (i := 7) (by kernel_rfl) rfl (fun K hK => ?_)
      go_simp
      (with_reducible refine (MQ.call _).mono ?_)
      rintro e q19 ⟨rfl, hx19⟩
      have HS2 := HS.later hx19
      have FQ2 := Lib.hid (FQ.out.later hx19); clear FQ; have FQ := FQ2; clear FQ2
      clear HS; have HS := HS2; clear HS2 hx19
      go_wp2_with fail
      refine hK.out _ _ HS (fun _ => ?_)
      clear hK K
      try simp only [List.getElem_toArray, List.getElem_cons_succ, List.getElem_cons_zero, Act.put, List.setIfInBounds_toArray, List.set_cons_zero, List.set_cons_succ]
      refine GoS.pure (i := 8) (v := ?_) rfl (by kernel_rfl) (by kernel_rfl) (by kernel_rfl) (by kernel_rfl) (fun _ _ _ h => h) (Or.inl ⟨by rfl, ?hy20⟩) (fun _ => HS) ?_
      case hy20 => ((intro u' hT; go_simp); try with_reducible rfl)
      try simp only [List.getElem_toArray, List.getElem_cons_succ, List.getElem_cons_zero, Act.put, List.setIfInBounds_toArray, List.set_cons_zero, List.set_cons_succ]
      refine GoS.pure (i := 9) (v := ?_) rfl (by kernel_rfl) (by kernel_rfl) (by kernel_rfl) (by kernel_rfl) (fun _ _ _ h => h) (Or.inl ⟨by rfl, ?hy21⟩) (fun _ => HS) ?_
      case hy21 => ((intro u' hT; go_simp); try with_reducible rfl)
      try simp only [List.getElem_toArray, List.getElem_cons_succ, List.getElem_cons_zero, Act.put, List.setIfInBounds_toArray, List.set_cons_zero, List.set_cons_succ]
      refine GoS.pure (i := 10) (v := ?_) rfl (by kernel_rfl) (by kernel_rfl) (by kernel_rfl) (by kernel_rfl) (fun _ _ _ h => h) (Or.inl ⟨by rfl, ?hy22⟩) (fun _ => HS) ?_
      case hy22 => ((intro u' hT; go_simp); try with_reducible rfl)
      try simp only [List.getElem_toArray, List.getElem_cons_succ, List.getElem_cons_zero, Act.put, List.setIfInBounds_toArray, List.set_cons_zero, List.set_cons_succ]
      refine GoS.store (i := 12) (by kernel_rfl) rfl (by kernel_rfl) (fun K hK => ?_)
      have st0 := FQ.out.c0 (b := wz.heap.size) (.head _); have st1 := FQ.out.c1 (b := wz.heap.size) (.head _); have stf := FQ.out.fz (b := wz.heap.size) (.head _)
      go_simp
      have FR := Lib.hid (FQ.out.set 0 rfl (0) (0)); clear FQ HQ st0 st1 stf
      refine hK.out _ _ ?_
      clear hK K
      try simp only [List.getElem_toArray, List.getElem_cons_succ, List.getElem_cons_zero, Act.put, List.setIfInBounds_toArray, List.set_cons_zero, List.set_cons_succ]
      refine GoS.behind (i := 13) (v := ?_) rfl (by kernel_rfl) (by kernel_rfl) (by kernel_rfl) (by kernel_rfl) (fun _ _ _ h => h) (Or.inl ⟨by rfl, ?hy23⟩) (by kernel_rfl) ?_
      case hy23 => ((intro u' hT; go_simp); try with_reducible rfl)
      try simp only [List.getElem_toArray, List.getElem_cons_succ, List.getElem_cons_zero, Act.put, List.setIfInBounds_toArray, List.set_cons_zero, List.set_cons_succ]
      refine GoS.done (by kernel_rfl) ?_
      go_wp2_with fail
      go_meet
      exact ⟨_, rfl, rfl, FR.out⟩
  case rest =>
    obtain ⟨b, rfl, rfl, hfr⟩ := hcut
    clear FR; have FR := Lib.hid hfr; clear hfr
    have cp0 := FR.out.c0 (b := w3.heap.size) (.tail _ (.tail _ (.head _))); have cp1 := FR.out.c1 (b := w3.heap.size) (.tail _ (.tail _ (.head _)))
    have cq0 := FR.out.c0 (b := b) (.head _); have cq1 := FR.out.c1 (b := b) (.head _)
    go_wp2_with fail
    refine (SN _ (HT.out.later FR.out.x)).mono ?_
    rintro e w6 ⟨rfl, hx⟩
    have FR2 : Hid (Fr w w6 [(b, 0, 0), (w5.heap.size, tm, tx), (w3.heap.size, 0, 0), (w2.heap.size, ym, yx), (w1.heap.size, xm, xx)]) := Lib.hid (FR.out.later hx)
    clear cp0 cp1 cq0 cq1
    clear hx FR; have FR := FR2; clear FR2
    have cp0 := FR.out.c0 (b := w3.heap.size) (.tail _ (.tail _ (.head _))); have cp1 := FR.out.c1 (b := w3.heap.size) (.tail _ (.tail _ (.head _)))
    go_wp2
    go_ret
    exact ⟨rfl, FR.out.x⟩
set_option maxRecDepth 100000 in
set_option maxHeartbeats 8000000 in
theorem exact_some (w : World) (ht : Tb w) (i j k l M E N F EF MN xm xx ym yx am ax tm tx pm px : Int) (hM : i.tmod 4096 = M) (_hM' : IntKind.i64.wrap M = M) (_hM2 : wrap64 M = M) (hE : j.tmod 21 = E) (_hE' : IntKind.i64.wrap E = E) (_hE2 : wrap64 E = E) (hN : k.tmod 4096 = N) (_hN' : IntKind.i64.wrap N = N) (_hN2 : wrap64 N = N) (nN : (N == 0) = false) (_nN' : ¬ N = 0) (hF : l.tmod 21 = F) (_hF' : IntKind.i64.wrap F = F) (_hF2 : wrap64 F = F) (hK : IntKind.i64.wrap (E + F) = EF) (_hK2 : wrap64 (E + F) = EF) (hMN : IntKind.i64.wrap (M * N) = MN) (_hMN2 : wrap64 (M * N) = MN) (S1 : Ret 59 #[.int .i64 i, .int .i64 j] (.agg #[.int .i64 xm, .int .i64 xx])) (S2 : Ret 59 #[.int .i64 k, .int .i64 l] (.agg #[.int .i64 ym, .int .i64 yx])) (MU : Ret 40 #[.agg #[.int .i64 xm, .int .i64 xx], .agg #[.int .i64 ym, .int .i64 yx]] (.tuple #[.agg #[.int .i64 pm, .int .i64 px], .int .i64 0])) (FT : Ret 20 #[.int .i64 2] (.agg #[.int .i64 8388608, .int .i64 (-22)])) (PO : Ret 46 #[.agg #[.int .i64 8388608, .int .i64 (-22)], .int .i64 EF] (.tuple #[.agg #[.int .i64 tm, .int .i64 tx], .int .i64 0])) (FP : Ret 20 #[.int .i64 MN] (.agg #[.int .i64 am, .int .i64 ax])) (MQ : Ret 40 #[.agg #[.int .i64 am, .int .i64 ax], .agg #[.int .i64 tm, .int .i64 tx]] (.tuple #[.agg #[.int .i64 pm, .int .i64 px], .int .i64 0])) (DV : Ret 41 #[.agg #[.int .i64 pm, .int .i64 px], .agg #[.int .i64 ym, .int .i64 yx]] (.tuple #[.agg #[.int .i64 xm, .int .i64 xx], .int .i64 0])) (SN : ∀ u, Tb u → Calls Tryz.prog 30 #[] u fun e u' => e = .returned (.bool true) ∧ Ext u u') :
    Calls Tryz.prog 11 #[.int .i64 i, .int .i64 j, .int .i64 k, .int .i64 l] w fun e w' => e = .returned (.bool true) ∧ Ext w w' := by
  have HT := Lib.hid ht; clear ht
  have FR := Lib.hid (Fr.nil w)
  have eqR := eqReal
  go_enter Tryz.func11, Tryz.ntmps11
  go_wp2_with fail
  refine (S1 _).mono ?_
  rintro e w1 ⟨rfl, hx⟩
  have FR2 : Hid (Fr w w1 []) := Lib.hid (FR.out.later hx)
  clear hx FR; have FR := FR2; clear FR2
  go_wp2_with fail
  refine (S2 _).mono ?_
  rintro e w2 ⟨rfl, hx⟩
  have FR2 : Hid (Fr w w2 [(w1.heap.size, xm, xx)]) := Lib.hid ((FR.out.lay (xm) (xx) 23).later hx)
  clear hx FR; have FR := FR2; clear FR2
  have cx0 := FR.out.g0 (b := w1.heap.size) (.head _); have cx1 := FR.out.g1 (b := w1.heap.size) (.head _)
  go_wp2_with fail
  refine (MU _).mono ?_
  rintro e w3 ⟨rfl, hx⟩
  have FR2 : Hid (Fr w w3 [(w2.heap.size, ym, yx), (w1.heap.size, xm, xx)]) := Lib.hid ((FR.out.lay (ym) (yx) 23).later hx)
  clear cx0 cx1
  clear hx FR; have FR := FR2; clear FR2
  go_wp2_with fail
  refine (FT _).mono ?_
  rintro e w4 ⟨rfl, hx⟩
  have FR2 : Hid (Fr w w4 [(w3.heap.size, pm, px), (w2.heap.size, ym, yx), (w1.heap.size, xm, xx)]) := Lib.hid ((FR.out.lay (pm) (px) 23).later hx)
  clear hx FR; have FR := FR2; clear FR2
  go_wp2_with fail
  refine (PO _).mono ?_
  rintro e w5 ⟨rfl, hx⟩
  have FR2 : Hid (Fr w w5 [(w3.heap.size, pm, px), (w2.heap.size, ym, yx), (w1.heap.size, xm, xx)]) := Lib.hid (FR.out.later hx)
  clear hx FR; have FR := FR2; clear FR2
  go_upto_region 7 with (fail)
  have FR2 : Hid (Fr w _ [(w5.heap.size, tm, tx), (w3.heap.size, pm, px), (w2.heap.size, ym, yx), (w1.heap.size, xm, xx)]) := Lib.hid (FR.out.lay tm tx 23); clear FR; have FR := FR2; clear FR2
  revert FR; generalize (w5.alloc (.cells #[.int .i64 tm, .int .i64 tx] 23)) = wz; intro FR
  go_cut [15, 16] from 47 (fun s15 s16 wx => ∃ b : Nat, s15 = .pointer (some ⟨b, 0, none⟩) ∧ s16 = .int .i64 0 ∧ Fr w wx [(b, pm, px), (w5.heap.size, tm, tx), (w3.heap.size, pm, px), (w2.heap.size, ym, yx), (w1.heap.size, xm, xx)])
  case first =>
    refine wp_region_S (fun u : World => Fr w u [(w5.heap.size, tm, tx), (w3.heap.size, pm, px), (w2.heap.size, ym, yx), (w1.heap.size, xm, xx)]) 12 (by kernel_rfl) ?_
    have HS := FR.out.later (Ext.refl _).drew
    clear FR
    refine GoS.pure (i := 0) (v := ?_) rfl (by kernel_rfl) (by kernel_rfl) (by kernel_rfl) (by kernel_rfl) (fun _ _ _ h => h) (Or.inl ⟨by rfl, ?hy24⟩) (fun _ => HS) ?_
    case hy24 => ((intro u' hT; go_simp); try with_reducible rfl)
    try simp only [List.getElem_toArray, List.getElem_cons_zero, Act.put, List.setIfInBounds_toArray, List.set_cons_zero, List.set_cons_succ]
    refine GoS.pure (i := 1) (v := ?_) rfl (by kernel_rfl) (by kernel_rfl) (by kernel_rfl) (by kernel_rfl) (fun _ _ _ h => h) (Or.inl ⟨by rfl, ?hy25⟩) (fun _ => HS) ?_
    case hy25 => ((intro u' hT; go_simp); try with_reducible rfl)
    try simp only [List.getElem_toArray, List.getElem_cons_succ, List.getElem_cons_zero, Act.put, List.setIfInBounds_toArray, List.set_cons_zero, List.set_cons_succ]
    refine GoS.pure (i := 2) (v := ?_) rfl (by kernel_rfl) (by kernel_rfl) (by kernel_rfl) (by kernel_rfl) (fun _ _ _ h => h) (Or.inl ⟨by rfl, ?hy26⟩) (fun _ => HS) ?_
    case hy26 => ((intro u' hT; go_simp); try with_reducible rfl)
    try simp only [List.getElem_toArray, List.getElem_cons_succ, List.getElem_cons_zero, Act.put, List.setIfInBounds_toArray, List.set_cons_zero, List.set_cons_succ]
    refine GoS.pure (i := 3) (v := ?_) rfl (by kernel_rfl) (by kernel_rfl) (by kernel_rfl) (by kernel_rfl) (fun _ _ _ h => h) (Or.inl ⟨by rfl, ?hy27⟩) (fun _ => HS) ?_
    case hy27 => ((intro u' hT; go_simp); try with_reducible rfl)
    try simp only [List.getElem_toArray, List.getElem_cons_succ, List.getElem_cons_zero, Act.put, List.setIfInBounds_toArray, List.set_cons_zero, List.set_cons_succ]
    refine GoS.pure (i := 4) (v := ?_) rfl (by kernel_rfl) (by kernel_rfl) (by kernel_rfl) (by kernel_rfl) (fun _ _ _ h => h) (Or.inl ⟨by rfl, ?hy28⟩) (fun _ => HS) ?_
    case hy28 => ((intro u' hT; go_simp); try with_reducible rfl)
    try simp only [List.getElem_toArray, List.getElem_cons_succ, List.getElem_cons_zero, Act.put, List.setIfInBounds_toArray, List.set_cons_zero, List.set_cons_succ]
    refine GoS.take (i := 6) (v := ?_) rfl (by kernel_rfl) (by kernel_rfl) (by kernel_rfl) (by kernel_rfl) (fun _ _ _ h => h) (Or.inl ⟨by rfl, ?hy29⟩) HS ?_
    case hy29 => ((intro u' hT; have dt0 := hT.c0 (b := w5.heap.size) (.head _); have dt1 := hT.c1 (b := w5.heap.size) (.head _); go_simp); try with_reducible rfl)
    try simp only [List.getElem_toArray, List.getElem_cons_succ, List.getElem_cons_zero, Act.put, List.setIfInBounds_toArray, List.set_cons_zero, List.set_cons_succ]
    refine GoS.two (i := 5) (j := 11) (by kernel_rfl) rfl rfl (fun K hK => ?_) (fun K hK => ?_)
    · skip
      go_simp
      (with_reducible refine (FP.call _).mono ?_)
      rintro e q30 ⟨rfl, hx30⟩
      have HS2 := HS.later hx30
      clear HS; have HS := HS2; clear HS2 hx30
      go_wp2_with fail
      refine hK.out _ _ HS (fun _ => ?_)
      clear hK K
      try simp only [List.getElem_toArray, List.getElem_cons_succ, List.getElem_cons_zero, Act.put, List.setIfInBounds_toArray, List.set_cons_zero, List.set_cons_succ]
      refine GoS.two (i := 7) (j := 11) (by kernel_rfl) rfl rfl (fun K hK => ?_) (fun K hK => ?_)
      · skip
        go_simp
        (with_reducible refine (MQ.call _).mono ?_)
        rintro e q31 ⟨rfl, hx31⟩
        have HS2 := HS.later hx31
        clear HS; have HS := HS2; clear HS2 hx31
        go_wp2_with fail
        refine hK.out _ _ HS (fun _ => ?_)
        clear hK K
        try simp only [List.getElem_toArray, List.getElem_cons_succ, List.getElem_cons_zero, Act.put, List.setIfInBounds_toArray, List.set_cons_zero, List.set_cons_succ]
        refine GoS.pure (i := 8) (v := ?_) rfl (by kernel_rfl) (by kernel_rfl) (by kernel_rfl) (by kernel_rfl) (fun _ _ _ h => h) (Or.inl ⟨by rfl, ?hy32⟩) (fun _ => HS) ?_
        case hy32 => ((intro u' hT; go_simp); try with_reducible rfl)
        try simp only [List.getElem_toArray, List.getElem_cons_succ, List.getElem_cons_zero, Act.put, List.setIfInBounds_toArray, List.set_cons_zero, List.set_cons_succ]
        refine GoS.pure (i := 9) (v := ?_) rfl (by kernel_rfl) (by kernel_rfl) (by kernel_rfl) (by kernel_rfl) (fun _ _ _ h => h) (Or.inl ⟨by rfl, ?hy33⟩) (fun _ => HS) ?_
        case hy33 => ((intro u' hT; go_simp); try with_reducible rfl)
        try simp only [List.getElem_toArray, List.getElem_cons_succ, List.getElem_cons_zero, Act.put, List.setIfInBounds_toArray, List.set_cons_zero, List.set_cons_succ]
        refine GoS.pure (i := 10) (v := ?_) rfl (by kernel_rfl) (by kernel_rfl) (by kernel_rfl) (by kernel_rfl) (fun _ _ _ h => h) (Or.inl ⟨by rfl, ?hy34⟩) (fun _ => HS) ?_
        case hy34 => ((intro u' hT; go_simp); try with_reducible rfl)
        try simp only [List.getElem_toArray, List.getElem_cons_succ, List.getElem_cons_zero, Act.put, List.setIfInBounds_toArray, List.set_cons_zero, List.set_cons_succ]
        refine GoS.one (i := 11) (by kernel_rfl) rfl (fun K hK => ?_)
        go_simp
        have HQ := HS
        have FQ := Lib.hid (HS.lay 0 0 23)
        have HS2 := HS.later ((Ext.refl _).alloc (.cells #[.int .i64 0, .int .i64 0] 23))
        clear HS; have HS := HS2; clear HS2
        refine hK.out _ _ HS (fun _ => ?_)
        clear hK K
        try simp only [List.getElem_toArray, List.getElem_cons_succ, List.getElem_cons_zero, Act.put, List.setIfInBounds_toArray, List.set_cons_zero, List.set_cons_succ]
        refine GoS.store (i := 12) (by kernel_rfl) rfl (by kernel_rfl) (fun K hK => ?_)
        have st0 := FQ.out.c0 (b := q31.heap.size) (.head _); have st1 := FQ.out.c1 (b := q31.heap.size) (.head _); have stf := FQ.out.fz (b := q31.heap.size) (.head _)
        go_simp
        have FR := Lib.hid (HQ.lay (pm) (px) 23); clear FQ HQ st0 st1 stf
        refine hK.out _ _ ?_
        clear hK K
        try simp only [List.getElem_toArray, List.getElem_cons_succ, List.getElem_cons_zero, Act.put, List.setIfInBounds_toArray, List.set_cons_zero, List.set_cons_succ]
        refine GoS.behind (i := 13) (v := ?_) rfl (by kernel_rfl) (by kernel_rfl) (by kernel_rfl) (by kernel_rfl) (fun _ _ _ h => h) (Or.inl ⟨by rfl, ?hy35⟩) (by kernel_rfl) ?_
        case hy35 => ((intro u' hT; go_simp); try with_reducible rfl)
        try simp only [List.getElem_toArray, List.getElem_cons_succ, List.getElem_cons_zero, Act.put, List.setIfInBounds_toArray, List.set_cons_zero, List.set_cons_succ]
        refine GoS.done (by kernel_rfl) ?_
        go_wp2_with fail
        go_meet
        exact ⟨_, rfl, rfl, FR.out⟩
      · skip
        go_simp
        have HQ := HS
        have FQ := Lib.hid (HS.lay 0 0 23)
        have HS2 := HS.later ((Ext.refl _).alloc (.cells #[.int .i64 0, .int .i64 0] 23))
        clear HS; have HS := HS2; clear HS2
        refine hK.out _ _ HS (fun _ => ?_)
        clear hK K
        try simp only [List.getElem_toArray, List.getElem_cons_succ, List.getElem_cons_zero, Act.put, List.setIfInBounds_toArray, List.set_cons_zero, List.set_cons_succ]
        refine GoS.one (i := 7) (by kernel_rfl) rfl (fun K hK => ?_)
        go_simp
        (with_reducible refine (MQ.call _).mono ?_)
        rintro e q36 ⟨rfl, hx36⟩
        have HS2 := HS.later hx36
        have FQ2 := Lib.hid (FQ.out.later hx36); clear FQ; have FQ := FQ2; clear FQ2
        clear HS; have HS := HS2; clear HS2 hx36
        go_wp2_with fail
        refine hK.out _ _ HS (fun _ => ?_)
        clear hK K
        try simp only [List.getElem_toArray, List.getElem_cons_succ, List.getElem_cons_zero, Act.put, List.setIfInBounds_toArray, List.set_cons_zero, List.set_cons_succ]
        refine GoS.pure (i := 8) (v := ?_) rfl (by kernel_rfl) (by kernel_rfl) (by kernel_rfl) (by kernel_rfl) (fun _ _ _ h => h) (Or.inl ⟨by rfl, ?hy37⟩) (fun _ => HS) ?_
        case hy37 => ((intro u' hT; go_simp); try with_reducible rfl)
        try simp only [List.getElem_toArray, List.getElem_cons_succ, List.getElem_cons_zero, Act.put, List.setIfInBounds_toArray, List.set_cons_zero, List.set_cons_succ]
        refine GoS.pure (i := 9) (v := ?_) rfl (by kernel_rfl) (by kernel_rfl) (by kernel_rfl) (by kernel_rfl) (fun _ _ _ h => h) (Or.inl ⟨by rfl, ?hy38⟩) (fun _ => HS) ?_
        case hy38 => ((intro u' hT; go_simp); try with_reducible rfl)
        try simp only [List.getElem_toArray, List.getElem_cons_succ, List.getElem_cons_zero, Act.put, List.setIfInBounds_toArray, List.set_cons_zero, List.set_cons_succ]
        refine GoS.pure (i := 10) (v := ?_) rfl (by kernel_rfl) (by kernel_rfl) (by kernel_rfl) (by kernel_rfl) (fun _ _ _ h => h) (Or.inl ⟨by rfl, ?hy39⟩) (fun _ => HS) ?_
        case hy39 => ((intro u' hT; go_simp); try with_reducible rfl)
        try simp only [List.getElem_toArray, List.getElem_cons_succ, List.getElem_cons_zero, Act.put, List.setIfInBounds_toArray, List.set_cons_zero, List.set_cons_succ]
        refine GoS.store (i := 12) (by kernel_rfl) rfl (by kernel_rfl) (fun K hK => ?_)
        have st0 := FQ.out.c0 (b := q30.heap.size) (.head _); have st1 := FQ.out.c1 (b := q30.heap.size) (.head _); have stf := FQ.out.fz (b := q30.heap.size) (.head _)
        go_simp
        have FR := Lib.hid (FQ.out.set 0 rfl (pm) (px)); clear FQ HQ st0 st1 stf
        refine hK.out _ _ ?_
        clear hK K
        try simp only [List.getElem_toArray, List.getElem_cons_succ, List.getElem_cons_zero, Act.put, List.setIfInBounds_toArray, List.set_cons_zero, List.set_cons_succ]
        refine GoS.behind (i := 13) (v := ?_) rfl (by kernel_rfl) (by kernel_rfl) (by kernel_rfl) (by kernel_rfl) (fun _ _ _ h => h) (Or.inl ⟨by rfl, ?hy40⟩) (by kernel_rfl) ?_
        case hy40 => ((intro u' hT; go_simp); try with_reducible rfl)
        try simp only [List.getElem_toArray, List.getElem_cons_succ, List.getElem_cons_zero, Act.put, List.setIfInBounds_toArray, List.set_cons_zero, List.set_cons_succ]
        refine GoS.done (by kernel_rfl) ?_
        go_wp2_with fail
        go_meet
        exact ⟨_, rfl, rfl, FR.out⟩
    · skip
      go_simp
      have HQ := HS
      have FQ := Lib.hid (HS.lay 0 0 23)
      have HS2 := HS.later ((Ext.refl _).alloc (.cells #[.int .i64 0, .int .i64 0] 23))
      clear HS; have HS := HS2; clear HS2
      refine hK.out _ _ HS (fun _ => ?_)
      clear hK K
      try simp only [List.getElem_toArray, List.getElem_cons_succ, List.getElem_cons_zero, Act.put, List.setIfInBounds_toArray, List.set_cons_zero, List.set_cons_succ]
      refine GoS.one (i := 5) (by kernel_rfl) rfl (fun K hK => ?_)
      go_simp
      (with_reducible refine (FP.call _).mono ?_)
      rintro e q41 ⟨rfl, hx41⟩
      have HS2 := HS.later hx41
      have FQ2 := Lib.hid (FQ.out.later hx41); clear FQ; have FQ := FQ2; clear FQ2
      clear HS; have HS := HS2; clear HS2 hx41
      go_wp2_with fail
      refine hK.out _ _ HS (fun _ => ?_)
      clear hK K
      try simp only [List.getElem_toArray, List.getElem_cons_succ, List.getElem_cons_zero, Act.put, List.setIfInBounds_toArray, List.set_cons_zero, List.set_cons_succ]
      refine GoS.one (i := 7) (by kernel_rfl) rfl (fun K hK => ?_)
      go_simp
      (with_reducible refine (MQ.call _).mono ?_)
      rintro e q42 ⟨rfl, hx42⟩
      have HS2 := HS.later hx42
      have FQ2 := Lib.hid (FQ.out.later hx42); clear FQ; have FQ := FQ2; clear FQ2
      clear HS; have HS := HS2; clear HS2 hx42
      go_wp2_with fail
      refine hK.out _ _ HS (fun _ => ?_)
      clear hK K
      try simp only [List.getElem_toArray, List.getElem_cons_succ, List.getElem_cons_zero, Act.put, List.setIfInBounds_toArray, List.set_cons_zero, List.set_cons_succ]
      refine GoS.pure (i := 8) (v := ?_) rfl (by kernel_rfl) (by kernel_rfl) (by kernel_rfl) (by kernel_rfl) (fun _ _ _ h => h) (Or.inl ⟨by rfl, ?hy43⟩) (fun _ => HS) ?_
      case hy43 => ((intro u' hT; go_simp); try with_reducible rfl)
      try simp only [List.getElem_toArray, List.getElem_cons_succ, List.getElem_cons_zero, Act.put, List.setIfInBounds_toArray, List.set_cons_zero, List.set_cons_succ]
      refine GoS.pure (i := 9) (v := ?_) rfl (by kernel_rfl) (by kernel_rfl) (by kernel_rfl) (by kernel_rfl) (fun _ _ _ h => h) (Or.inl ⟨by rfl, ?hy44⟩) (fun _ => HS) ?_
      case hy44 => ((intro u' hT; go_simp); try with_reducible rfl)
      try simp only [List.getElem_toArray, List.getElem_cons_succ, List.getElem_cons_zero, Act.put, List.setIfInBounds_toArray, List.set_cons_zero, List.set_cons_succ]
      refine GoS.pure (i := 10) (v := ?_) rfl (by kernel_rfl) (by kernel_rfl) (by kernel_rfl) (by kernel_rfl) (fun _ _ _ h => h) (Or.inl ⟨by rfl, ?hy45⟩) (fun _ => HS) ?_
      case hy45 => ((intro u' hT; go_simp); try with_reducible rfl)
      try simp only [List.getElem_toArray, List.getElem_cons_succ, List.getElem_cons_zero, Act.put, List.setIfInBounds_toArray, List.set_cons_zero, List.set_cons_succ]
      refine GoS.store (i := 12) (by kernel_rfl) rfl (by kernel_rfl) (fun K hK => ?_)
      have st0 := FQ.out.c0 (b := wz.heap.size) (.head _); have st1 := FQ.out.c1 (b := wz.heap.size) (.head _); have stf := FQ.out.fz (b := wz.heap.size) (.head _)
      go_simp
      have FR := Lib.hid (FQ.out.set 0 rfl (pm) (px)); clear FQ HQ st0 st1 stf
      refine hK.out _ _ ?_
      clear hK K
      try simp only [List.getElem_toArray, List.getElem_cons_succ, List.getElem_cons_zero, Act.put, List.setIfInBounds_toArray, List.set_cons_zero, List.set_cons_succ]
      refine GoS.behind (i := 13) (v := ?_) rfl (by kernel_rfl) (by kernel_rfl) (by kernel_rfl) (by kernel_rfl) (fun _ _ _ h => h) (Or.inl ⟨by rfl, ?hy46⟩) (by kernel_rfl) ?_
      case hy46 => ((intro u' hT; go_simp); try with_reducible rfl)
      try simp only [List.getElem_toArray, List.getElem_cons_succ, List.getElem_cons_zero, Act.put, List.setIfInBounds_toArray, List.set_cons_zero, List.set_cons_succ]
      refine GoS.done (by kernel_rfl) ?_
      go_wp2_with fail
      go_meet
      exact ⟨_, rfl, rfl, FR.out⟩
  case rest =>
    obtain ⟨b, rfl, rfl, hfr⟩ := hcut
    clear FR; have FR := Lib.hid hfr; clear hfr
    have cp0 := FR.out.c0 (b := w3.heap.size) (.tail _ (.tail _ (.head _))); have cp1 := FR.out.c1 (b := w3.heap.size) (.tail _ (.tail _ (.head _)))
    have cq0 := FR.out.c0 (b := b) (.head _); have cq1 := FR.out.c1 (b := b) (.head _)
    have cy0 := FR.out.c0 (b := w2.heap.size) (.tail _ (.tail _ (.tail _ (.head _)))); have cy1 := FR.out.c1 (b := w2.heap.size) (.tail _ (.tail _ (.tail _ (.head _))))
    go_wp2_with fail
    refine (DV _).mono ?_
    rintro e w6 ⟨rfl, hx⟩
    have FR2 : Hid (Fr w w6 [(b, pm, px), (w5.heap.size, tm, tx), (w3.heap.size, pm, px), (w2.heap.size, ym, yx), (w1.heap.size, xm, xx)]) := Lib.hid (FR.out.later hx)
    clear cp0 cp1 cq0 cq1 cy0 cy1
    clear hx FR; have FR := FR2; clear FR2
    go_wp2_with fail
    refine (SN _ (HT.out.later (FR.out.lay _ _ _).x)).mono ?_
    rintro e w7 ⟨rfl, hx⟩
    have FR2 : Hid (Fr w w7 [(w6.heap.size, xm, xx), (b, pm, px), (w5.heap.size, tm, tx), (w3.heap.size, pm, px), (w2.heap.size, ym, yx), (w1.heap.size, xm, xx)]) := Lib.hid ((FR.out.lay (xm) (xx) 23).later hx)
    clear hx FR; have FR := FR2; clear FR2
    have ck0 := FR.out.c0 (b := w6.heap.size) (.head _); have ck1 := FR.out.c1 (b := w6.heap.size) (.head _)
    have cx0 := FR.out.c0 (b := w1.heap.size) (.tail _ (.tail _ (.tail _ (.tail _ (.tail _ (.head _)))))); have cx1 := FR.out.c1 (b := w1.heap.size) (.tail _ (.tail _ (.tail _ (.tail _ (.tail _ (.head _))))))
    go_wp2
    go_ret
    exact ⟨rfl, FR.out.x⟩
end Go.Proofs.YtehmpffffjcloaaGreatDoor
