/- Layer 2: the reference's square root. -/
import Derived.Test.YthmndafjogndaaaGreatDoorUr
import Derived.Test.YthmndafjogndaaaGreatDoorUt
namespace Go.Proofs.YthmndafjogndaaaGreatDoor
open Go.ChangeShapes Go.WideShapes Go.ChangeAt Go.RowKit

/-- A real that is still zero. -/
structure Yb (w : World) (b : Nat) : Prop where
  c0 : w.cell? ⟨b, 0, none⟩ = some (.int .i64 0)
  c1 : w.cell? ⟨b, 1, none⟩ = some (.int .i64 0)
  fz : ∀ j, w.frozen? ⟨b, j, none⟩ = false
  lt : b < w.heap.size
theorem Yb.later {w w' : World} {b : Nat} (h : Yb w b) (hx : Ext w w') : Yb w' b :=
  ⟨(hx.cell 0 h.lt).trans h.c0, (hx.cell 1 h.lt).trans h.c1, fun j => (hx.froz j h.lt).trans (h.fz j), Nat.lt_of_lt_of_le h.lt hx.size⟩
theorem at_upto {r : Nat} (h : r ≤ 2533359616) : Ret 12 #[.int .i64 (r : Int)] (.agg #[.int .i64 (atV r).1, .int .i64 (atV r).2]) := rat_any (by omega) (by omega)
set_option maxRecDepth 100000 in
set_option maxHeartbeats 4000000 in
theorem rsqrt_walk (pm px : Int) (A d1 R r n : Nat) (OA : OfTo pm px false A d1) (hA : n = A * tw 152) (hf : Fits n) (hfm : ∀ r, r ≤ 2533359615 → Fits (midN r * midN r))
    (hc : ∀ k, (n ≤ midN k * midN k ↔ R ≤ midN k * 2) ∧ (n = midN k * midN k ↔ R = midN k * 2)) (ht : R ≤ midN 2533359615 * 2) (hr : Near R 2 r) (w : World) :
    Calls Tryz.prog 36 #[.agg #[.int .i64 pm, .int .i64 px]] w fun e w' => e = .returned (.agg #[.int .i64 (atV r).1, .int .i64 (atV r).2]) ∧ Ext w w' := by
  have HOA := Lib.hid OA; have HA := Lib.hid hA; have HF := Lib.hid hf; have HFM := Lib.hid hfm; have HCC := Lib.hid hc; have HTOP := Lib.hid ht
  have HSE := Lib.hid (fun lo (h : Seek R 2 lo lo) => seek_end (by omega) h hr)
  clear OA hA hf hfm hc ht hr
  have S152 := Lib.hid (ntwo_any 152 (by omega))
  rw [show ((152 : Nat) : Int) = 152 from rfl] at S152
  go_enter Tryz.func36, Tryz.ntmps36
  go_upto_region 1 with (fail)
  have X0 : Hid (Ext w ((w.alloc (.cells #[.int .i64 pm, .int .i64 px] 23)).alloc (.cells #[.int .i64 0, .int .i64 0] 23))) := Lib.hid (((Ext.refl w).alloc _).alloc _)
  have YB : Hid (Yb ((w.alloc (.cells #[.int .i64 pm, .int .i64 px] 23)).alloc (.cells #[.int .i64 0, .int .i64 0] 23)) (w.heap.size + 1)) := Lib.hid ⟨by simp [go_sem], by simp [go_sem], fun j => by simp [go_sem], by simp [go_sem]⟩
  have cx0 : ((w.alloc (.cells #[.int .i64 pm, .int .i64 px] 23)).alloc (.cells #[.int .i64 0, .int .i64 0] 23)).cell? ⟨w.heap.size, 0, none⟩ = some (.int .i64 pm) := by simp [go_sem]
  have cx1 : ((w.alloc (.cells #[.int .i64 pm, .int .i64 px] 23)).alloc (.cells #[.int .i64 0, .int .i64 0] 23)).cell? ⟨w.heap.size, 1, none⟩ = some (.int .i64 px) := by simp [go_sem]
  generalize (w.alloc (.cells #[.int .i64 pm, .int .i64 px] 23)).alloc (.cells #[.int .i64 0, .int .i64 0] 23) = W0 at *
  go_wp2_with fail
  refine (HOA.out _).mono ?_
  rintro e w1 ⟨⟨a1, L1, C1, a2, L2, C2, rfl, hn, hd⟩, hx⟩
  clear cx0 cx1
  have XW := Lib.hid ((X0.out.trans hx).alloc (.cells #[.bool false, .slice a1 L1 C1, .slice a2 L2 C2] 73))
  have YW := Lib.hid (YB.out.later (hx.alloc (.cells #[.bool false, .slice a1 L1 C1, .slice a2 L2 C2] 73)))
  have QA : Hid (Qb (w1.alloc (.cells #[.bool false, .slice a1 L1 C1, .slice a2 L2 C2] 73)) w1.heap.size false (.slice a1 L1 C1) (.slice a2 L2 C2)) := Lib.hid ⟨by simp [go_sem], by simp [go_sem], by simp [go_sem], by simp⟩
  have NA := Lib.hid (hn.later ((Ext.refl w1).alloc (.cells #[.bool false, .slice a1 L1 C1, .slice a2 L2 C2] 73)))
  clear hn hd hx X0 YB HOA
  go_upto_region 2 with (fail)
  generalize w1.alloc (.cells #[.bool false, .slice a1 L1 C1, .slice a2 L2 C2] 73) = W at *
  refine wp_region_S (fun uu : World => Ext W uu) 4 (by kernel_rfl) ?_
  have HS : Ext W W.drew := (Ext.refl W).drew
  refine GoS.pure (i := 0) (v := ?_) rfl (by kernel_rfl) (by kernel_rfl) (by kernel_rfl) (by kernel_rfl) (fun _ _ _ h => h) (Or.inl ⟨by rfl, ?hy1⟩) (fun _ => HS) ?_
  case hy1 => ((intro u' hT; go_simp); try with_reducible rfl)
  try simp only [List.getElem_toArray, List.getElem_cons_zero, Act.put, List.setIfInBounds_toArray, List.set_cons_zero, List.set_cons_succ]
  refine GoS.take (i := 1) (v := ?_) rfl (by kernel_rfl) (by kernel_rfl) (by kernel_rfl) (by kernel_rfl) (fun _ _ _ h => h) (Or.inl ⟨by rfl, ?hy2⟩) HS ?_
  case hy2 => ((intro u' hT; have d1 := (QA.out.later hT).c1; go_simp); try with_reducible rfl)
  try simp only [List.getElem_toArray, List.getElem_cons_succ, List.getElem_cons_zero, Act.put, List.setIfInBounds_toArray, List.set_cons_zero, List.set_cons_succ]
  refine GoS.one (i := 2) (by kernel_rfl) rfl (fun K hK => ?_)
  go_simp
  (with_reducible refine (S152.out _).mono ?_)
  rintro e q3 ⟨v, rfl, hv, hx⟩
  have HS2 := HS.trans hx; clear HS; have HS := HS2; clear HS2 hx
  go_wp2_with fail
  refine hK.out _ _ HS (fun _ => ?_)
  clear hK K
  try simp only [List.getElem_toArray, List.getElem_cons_succ, List.getElem_cons_zero, Act.put, List.setIfInBounds_toArray, List.set_cons_zero, List.set_cons_succ]
  have V := Lib.hid hv; clear hv
  refine GoS.one (i := 3) (by kernel_rfl) rfl (fun K hK => ?_)
  go_simp
  (with_reducible refine (nmul_any (NA.out.later HS) V.out (by have := HF.out; rwa [HA.out] at this)).mono ?_)
  rintro e q4 ⟨v2, rfl, hv, hx⟩
  have HS2 := HS.trans hx; clear HS; have HS := HS2; clear HS2 hx
  go_wp2_with fail
  refine hK.out _ _ HS (fun _ => ?_)
  clear hK K
  try simp only [List.getElem_toArray, List.getElem_cons_succ, List.getElem_cons_zero, Act.put, List.setIfInBounds_toArray, List.set_cons_zero, List.set_cons_succ]
  have V2 := Lib.hid hv; clear hv V
  refine GoS.store (i := 4) (by kernel_rfl) rfl (by kernel_rfl) (fun K hK => ?_)
  go_simp
  refine hK.out _ _ ?_
  clear hK K
  try simp only [List.getElem_toArray, List.getElem_cons_succ, List.getElem_cons_zero, Act.put, List.setIfInBounds_toArray, List.set_cons_zero, List.set_cons_succ]
  refine GoS.done (by kernel_rfl) ?_
  rw [← HA.out] at V2
  have X1 := Lib.hid (XW.out.trans HS)
  have Y1 := Lib.hid (YW.out.later HS)
  clear HS QA YW XW NA HA S152
  generalize q4 = W1 at *
  go_wp2
  go_loopw [5, 6] (fun a b u => ∃ (u2 : World) (lo hi : Nat), u2 = u ∧ hi ≤ 2533359615 ∧ a = .int .i64 (lo : Int) ∧ b = .int .i64 (hi : Int) ∧ Hid (Seek R 2 lo hi) ∧ Hid (Ext W1 u2)) (fun a b _ => (intOf b - intOf a).toNat)
  case atStart => exact ⟨_, 0, 2533359615, rfl, Nat.le_refl _, rfl, rfl, Lib.hid ⟨by omega, by omega, fun r h => absurd h (Nat.not_lt_zero _), .inr HTOP.out⟩, Lib.hid (Ext.refl _)⟩
  case round =>
    obtain ⟨u, lo, hi, hu, hbd, rfl, rfl, SK, XU⟩ := hrel
    subst hu
    have YU := Lib.hid (Y1.out.later XU.out)
    have VU := Lib.hid (V2.out.later XU.out)
    have XA := Lib.hid (X1.out.trans XU.out)
    by_cases hlt : lo < hi
    · have g1 : (lo : Int) < (hi : Int) := Int.ofNat_lt.2 hlt
      obtain ⟨S, m, hm, bm, l1, l2, t1, t2, t3, t4, t5, t6, t7⟩ := mid_way hlt SK.out.top
      have M1 := Lib.hid (less_lo l2 l1)
      have M2 := Lib.hid (less_hi l2 l1)
      have HM := Lib.hid hm
      have BM := Lib.hid bm
      have HLT := Lib.hid hlt
      have HBD := Lib.hid hbd
      obtain ⟨c, hc⟩ : ∃ c, cmpI (midN m * midN m : Nat) n = c := ⟨_, rfl⟩
      have CG : Hid ((c ≥ 0) = (n ≤ midN m * midN m)) := Lib.hid (by rw [← hc]; exact cmpI_ge)
      have HC := Lib.hid hc
      clear hlt hm bm l1 l2 hc hbd
      by_cases hcg : c ≥ 0
      · have hle := Lib.hid ((HCC.out m).1.1 (by have := hcg; rwa [CG.out] at this) : R ≤ midN m * 2)
        go_wp2_with fail
        refine (half_any BM.out _).mono ?_
        rintro e w3 ⟨v3, rfl, hv, hx⟩
        have V3 := Lib.hid hv; have X3 := Lib.hid hx; clear hv hx
        go_wp2_with fail
        refine (nmul_any V3.out V3.out (HFM.out m BM.out)).mono ?_
        rintro e w4 ⟨v4, rfl, hv, hx⟩
        have V4 := Lib.hid hv; have X4 := Lib.hid (X3.out.trans hx); clear hv hx V3 X3
        go_wp2_with fail
        refine (ncmp_eq V4.out (VU.out.later X4.out) HC.out).mono ?_
        rintro e w5 ⟨rfl, hx⟩
        have X5 := Lib.hid (X4.out.trans hx); clear hx X4 V4
        go_wp2
        go_roundw
        case rel => exact ⟨_, lo, m, rfl, BM.out, rfl, rfl, Lib.hid (SK.out.low' HLT.out HM.out hle.out), Lib.hid (XU.out.trans X5.out)⟩
        case measure => first | exact M2.out | (simp [intOf]; have := M2.out; omega)
      · have hle := Lib.hid (fun h => hcg (by rw [CG.out]; exact (HCC.out m).1.2 h) : ¬ R ≤ midN m * 2)
        go_wp2_with fail
        refine (half_any BM.out _).mono ?_
        rintro e w3 ⟨v3, rfl, hv, hx⟩
        have V3 := Lib.hid hv; have X3 := Lib.hid hx; clear hv hx
        go_wp2_with fail
        refine (nmul_any V3.out V3.out (HFM.out m BM.out)).mono ?_
        rintro e w4 ⟨v4, rfl, hv, hx⟩
        have V4 := Lib.hid hv; have X4 := Lib.hid (X3.out.trans hx); clear hv hx V3 X3
        go_wp2_with fail
        refine (ncmp_eq V4.out (VU.out.later X4.out) HC.out).mono ?_
        rintro e w5 ⟨rfl, hx⟩
        have X5 := Lib.hid (X4.out.trans hx); clear hx X4 V4
        go_wp2
        go_roundw
        case rel => exact ⟨_, m + 1, hi, rfl, HBD.out, by first | rfl | go_num, rfl, Lib.hid (SK.out.high' HLT.out HM.out hle.out), Lib.hid (XU.out.trans X5.out)⟩
        case measure => first | exact M1.out | (simp [intOf]; have := M1.out; omega)
    · have e : lo = hi := Nat.le_antisymm SK.out.le (Nat.le_of_not_lt hlt)
      subst e
      have g1 : ¬ (lo : Int) < (lo : Int) := Int.lt_irrefl _
      have HCA := HSE.out lo SK.out
      have BM := Lib.hid hbd
      clear hlt SK HSE Y1 V2 X1 XU
      rcases HCA with ⟨c1, c2⟩ | ⟨c1, c2, c3⟩ | ⟨c1, c2, c4, c3⟩ | ⟨c1, c2, c4, c3⟩
      · exact absurd hbd (Nat.not_le_of_lt c1)
      · have HR := Lib.hid c3
        obtain ⟨c, hc⟩ : ∃ c, cmpI (midN lo * midN lo : Nat) n = c := ⟨_, rfl⟩
        have HC := Lib.hid hc
        have k1 := not_eq_false (fun h => c2 (((HCC.out lo).2.1 (cmpI_zero.1 (hc.trans h)).symm).symm) : ¬ c = 0)
        have k2 : ¬ c = 0 := fun h => c2 (((HCC.out lo).2.1 (cmpI_zero.1 (hc.trans h)).symm).symm)
        clear c1 c2 c3 hc hbd
        go_wp2_with fail
        refine (half_any BM.out _).mono ?_
        rintro e w3 ⟨v3, rfl, hv, hx⟩
        have V3 := Lib.hid hv; have X3 := Lib.hid hx; clear hv hx
        go_wp2_with fail
        refine (nmul_any V3.out V3.out (HFM.out lo BM.out)).mono ?_
        rintro e w4 ⟨v4, rfl, hv, hx⟩
        have V4 := Lib.hid hv; have X4 := Lib.hid (X3.out.trans hx); clear hv hx V3 X3
        go_wp2_with fail
        refine (ncmp_eq V4.out (VU.out.later X4.out) HC.out).mono ?_
        rintro e w5 ⟨rfl, hx⟩
        have X5 := Lib.hid (X4.out.trans hx); clear hx X4 V4
        have A1 := at_walk BM.out
        generalize hm : (atV (lo : Int)).1 = am at *
        generalize hx : (atV (lo : Int)).2 = ax at *
        have HMX := Lib.hid (And.intro hm hx)
        clear hm hx
        go_wp2_with fail
        refine (A1.call _).mono ?_
        rintro e w8 ⟨rfl, hx⟩
        have X8 := Lib.hid (X5.out.trans hx); clear hx X5
        have z0 := (YU.out.later X8.out).c0; have z1 := (YU.out.later X8.out).c1; have zf := (YU.out.later X8.out).fz
        have X9 := Lib.hid (XA.out.trans X8.out)
        go_wp2
        refine bodyPost_ret (v := .agg #[.int .i64 am, .int .i64 ax]) ?_ rfl ⟨by rw [HR.out, HMX.out.1, HMX.out.2], ?_⟩
        · simp [results, Tryz.results36, go_sem, z0, z1]
        · repeat (first | with_reducible exact X9.out | with_reducible refine Ext.setCell ?_ (by simp) _)
      · have HR := Lib.hid c3
        have HC := Lib.hid (cmpI_zero.2 ((HCC.out lo).2.2 c2.symm).symm)
        have A1 := Lib.hid (at_walk c1)
        have HPAR := at_par c1
        rw [c4] at HPAR
        have hfld := field0
        generalize hm : (atV (lo : Int)).1 = am at *
        generalize hx : (atV (lo : Int)).2 = ax at *
        have HMX := Lib.hid (And.intro hm hx)
        clear c1 c2 c3 c4 hbd hm hx
        go_wp2_with fail
        refine (half_any BM.out _).mono ?_
        rintro e w3 ⟨v3, rfl, hv, hx⟩
        have V3 := Lib.hid hv; have X3 := Lib.hid hx; clear hv hx
        go_wp2_with fail
        refine (nmul_any V3.out V3.out (HFM.out lo BM.out)).mono ?_
        rintro e w4 ⟨v4, rfl, hv, hx⟩
        have V4 := Lib.hid hv; have X4 := Lib.hid (X3.out.trans hx); clear hv hx V3 X3
        go_wp2_with fail
        refine (ncmp_eq V4.out (VU.out.later X4.out) HC.out).mono ?_
        rintro e w5 ⟨rfl, hx⟩
        have X5 := Lib.hid (X4.out.trans hx); clear hx X4 V4
        go_wp2_with fail
        refine (A1.out.call _).mono ?_
        rintro e w7 ⟨rfl, hx⟩
        have X7 := Lib.hid (X5.out.trans hx); clear hx X5
        go_wp2_with fail
        refine (A1.out.call _).mono ?_
        rintro e w8 ⟨rfl, hx⟩
        have X8 := Lib.hid (X7.out.trans hx); clear hx X7
        have z0 := (YU.out.later X8.out).c0; have z1 := (YU.out.later X8.out).c1; have zf := (YU.out.later X8.out).fz
        have X9 := Lib.hid (XA.out.trans X8.out)
        go_wp2
        refine bodyPost_ret (v := .agg #[.int .i64 am, .int .i64 ax]) ?_ rfl ⟨by rw [HR.out, HMX.out.1, HMX.out.2], ?_⟩
        · simp [results, Tryz.results36, go_sem, z0, z1]
        · repeat (first | with_reducible exact X9.out | with_reducible refine Ext.setCell ?_ (by simp) _)
      · have HC := Lib.hid (cmpI_zero.2 ((HCC.out lo).2.2 c2.symm).symm)
        have A1 := Lib.hid (at_walk c1)
        have HPAR := at_par c1
        rw [c4] at HPAR
        have hfld := field0
        obtain ⟨q, hq⟩ : ∃ q, q = lo + 1 := ⟨_, rfl⟩
        obtain ⟨v1, v2⟩ := next_wrap c1
        have AQ := Lib.hid (@at_upto q (by rw [hq]; exact Nat.succ_le_succ c1))
        rw [← hq] at v1 v2 c3
        have HR := Lib.hid c3
        generalize (atV (lo : Int)).1 = am at *
        generalize (atV (lo : Int)).2 = ax at *
        generalize hm : (atV (q : Int)).1 = bm at *
        generalize hx : (atV (q : Int)).2 = bx at *
        have HMX := Lib.hid (And.intro hm hx)
        clear c1 c2 c3 c4 hbd hq hm hx
        go_wp2_with fail
        refine (half_any BM.out _).mono ?_
        rintro e w3 ⟨v3, rfl, hv, hx⟩
        have V3 := Lib.hid hv; have X3 := Lib.hid hx; clear hv hx
        go_wp2_with fail
        refine (nmul_any V3.out V3.out (HFM.out lo BM.out)).mono ?_
        rintro e w4 ⟨v4, rfl, hv, hx⟩
        have V4 := Lib.hid hv; have X4 := Lib.hid (X3.out.trans hx); clear hv hx V3 X3
        go_wp2_with fail
        refine (ncmp_eq V4.out (VU.out.later X4.out) HC.out).mono ?_
        rintro e w5 ⟨rfl, hx⟩
        have X5 := Lib.hid (X4.out.trans hx); clear hx X4 V4
        go_wp2_with fail
        refine (A1.out.call _).mono ?_
        rintro e w7 ⟨rfl, hx⟩
        have X7 := Lib.hid (X5.out.trans hx); clear hx X5
        go_wp2_with fail
        refine (AQ.out.call _).mono ?_
        rintro e w8 ⟨rfl, hx⟩
        have X8 := Lib.hid (X7.out.trans hx); clear hx X7
        have z0 := (YU.out.later X8.out).c0; have z1 := (YU.out.later X8.out).c1; have zf := (YU.out.later X8.out).fz
        have X9 := Lib.hid (XA.out.trans X8.out)
        go_wp2
        refine bodyPost_ret (v := .agg #[.int .i64 bm, .int .i64 bx]) ?_ rfl ⟨by rw [HR.out, HMX.out.1, HMX.out.2], ?_⟩
        · simp [results, Tryz.results36, go_sem, z0, z1]
        · repeat (first | with_reducible exact X9.out | with_reducible refine Ext.setCell ?_ (by simp) _)
end Go.Proofs.YthmndafjogndaaaGreatDoor
