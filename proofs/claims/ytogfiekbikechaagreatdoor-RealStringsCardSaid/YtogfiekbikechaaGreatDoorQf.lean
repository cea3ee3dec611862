/- Layer 2: the reference's decimals compared with exact numbers, and searched. -/
import Derived.Test.YtogfiekbikechaaGreatDoorGw
namespace Go.Proofs.YtogfiekbikechaaGreatDoor
open Go.ChangeShapes Go.WideShapes Go.ChangeAt Go.RowKit

set_option maxRecDepth 100000 in
set_option maxHeartbeats 4000000 in
theorem am_yes (D n d U E : Nat) (K : Int) (b : Bool) (a1 a2 : Option Addr) (L1 C1 L2 C2 : Nat) (EXH : ∀ w, Calls Tryz.prog 120 #[.agg #[.int .i64 (D : Int), .int .i64 K]] w fun e w' => QEnd e w' false U E ∧ Ext w w') (c : Int) (hc : cmpI ((U * d : Nat) : Int) ((n * E : Nat) : Int) = c) (hf1 : Fits (U * d)) (hf2 : Fits (n * E)) (g : c ≤ 0) (w : World) (h1 : IsNat w (.slice a1 L1 C1) n) (h2 : IsNat w (.slice a2 L2 C2) d) :
    Calls Tryz.prog 145 #[.agg #[.int .i64 (D : Int), .int .i64 K], .agg #[.bool b, .slice a1 L1 C1, .slice a2 L2 C2]] w fun e w' => e = .returned (.bool true) ∧ Ext w w' := by
  have HEX := Lib.hid EXH; have HC := Lib.hid hc; have F1 := Lib.hid hf1; have F2 := Lib.hid hf2; have H1 := Lib.hid h1; have H2 := Lib.hid h2
  clear EXH hc hf1 hf2 h1 h2
  go_enter Tryz.func145, Tryz.ntmps145
  go_upto_region 1 with (fail)
  have X0 : Hid (Ext w ((w.alloc (.cells #[.int .i64 (D : Int), .int .i64 K] 102)).alloc (.cells #[.bool b, .slice a1 L1 C1, .slice a2 L2 C2] 73))) := Lib.hid (((Ext.refl w).alloc _).alloc _)
  have RB : Hid (Rc ((w.alloc (.cells #[.int .i64 (D : Int), .int .i64 K] 102)).alloc (.cells #[.bool b, .slice a1 L1 C1, .slice a2 L2 C2] 73)) w.heap.size (D : Int) K) := Lib.hid ⟨by simp [go_sem], by simp [go_sem]⟩
  have QB : Hid (Qb ((w.alloc (.cells #[.int .i64 (D : Int), .int .i64 K] 102)).alloc (.cells #[.bool b, .slice a1 L1 C1, .slice a2 L2 C2] 73)) (w.heap.size + 1) b (.slice a1 L1 C1) (.slice a2 L2 C2)) := Lib.hid ⟨by simp [go_sem], by simp [go_sem], by simp [go_sem], by simp [go_sem]⟩
  generalize ((w.alloc (.cells #[.int .i64 (D : Int), .int .i64 K] 102)).alloc (.cells #[.bool b, .slice a1 L1 C1, .slice a2 L2 C2] 73)) = W at *
  have d0 := RB.out.c0; have d1 := RB.out.c1
  go_wp2_with fail
  refine (HEX.out _).mono ?_
  rintro e w1 ⟨⟨a3, L3, C3, a4, L4, C4, rfl, hn, hd⟩, hx⟩
  clear d0 d1 RB
  have XW := Lib.hid ((X0.out.trans hx).alloc (.cells #[.bool false, .slice a3 L3 C3, .slice a4 L4 C4] 73))
  have QW := Lib.hid (QB.out.later (hx.alloc (.cells #[.bool false, .slice a3 L3 C3, .slice a4 L4 C4] 73)))
  have PB : Hid (Qb (w1.alloc (.cells #[.bool false, .slice a3 L3 C3, .slice a4 L4 C4] 73)) w1.heap.size false (.slice a3 L3 C3) (.slice a4 L4 C4)) := Lib.hid ⟨by simp [go_sem], by simp [go_sem], by simp [go_sem], by simp⟩
  have NU := Lib.hid (hn.later ((Ext.refl w1).alloc (.cells #[.bool false, .slice a3 L3 C3, .slice a4 L4 C4] 73)))
  have NE := Lib.hid (hd.later ((Ext.refl w1).alloc (.cells #[.bool false, .slice a3 L3 C3, .slice a4 L4 C4] 73)))
  have NN := Lib.hid (H1.out.later XW.out)
  have ND := Lib.hid (H2.out.later XW.out)
  clear hn hd hx X0 QB HEX H1 H2
  go_upto_region 2 with (fail)
  generalize w1.alloc (.cells #[.bool false, .slice a3 L3 C3, .slice a4 L4 C4] 73) = W1 at *
  refine wp_region_S (fun uu : World => Ext W1 uu) 12 (by kernel_rfl) ?_
  have HS : Ext W1 W1.drew := (Ext.refl W1).drew
  refine GoS.pure (i := 0) (v := ?_) rfl (by kernel_rfl) (by kernel_rfl) (by kernel_rfl) (by kernel_rfl) (fun _ _ _ h => h) (Or.inl ⟨by rfl, ?hy1⟩) (fun _ => HS) ?_
  case hy1 => ((intro u' hT; go_simp); try with_reducible rfl)
  try simp only [List.getElem_toArray, List.getElem_cons_zero, Act.put, List.setIfInBounds_toArray, List.set_cons_zero, List.set_cons_succ]
  refine GoS.take (i := 1) (v := ?_) rfl (by kernel_rfl) (by kernel_rfl) (by kernel_rfl) (by kernel_rfl) (fun _ _ _ h => h) (Or.inl ⟨by rfl, ?hy2⟩) HS ?_
  case hy2 => ((intro u' hT; have d1 := (PB.out.later hT).c1; go_simp); try with_reducible rfl)
  try simp only [List.getElem_toArray, List.getElem_cons_succ, List.getElem_cons_zero, Act.put, List.setIfInBounds_toArray, List.set_cons_zero, List.set_cons_succ]
  refine GoS.pure (i := 2) (v := ?_) rfl (by kernel_rfl) (by kernel_rfl) (by kernel_rfl) (by kernel_rfl) (fun _ _ _ h => h) (Or.inl ⟨by rfl, ?hy3⟩) (fun _ => HS) ?_
  case hy3 => ((intro u' hT; go_simp); try with_reducible rfl)
  try simp only [List.getElem_toArray, List.getElem_cons_succ, List.getElem_cons_zero, Act.put, List.setIfInBounds_toArray, List.set_cons_zero, List.set_cons_succ]
  refine GoS.take (i := 3) (v := ?_) rfl (by kernel_rfl) (by kernel_rfl) (by kernel_rfl) (by kernel_rfl) (fun _ _ _ h => h) (Or.inl ⟨by rfl, ?hy4⟩) HS ?_
  case hy4 => ((intro u' hT; have d1 := (QW.out.later hT).c2; go_simp); try with_reducible rfl)
  try simp only [List.getElem_toArray, List.getElem_cons_succ, List.getElem_cons_zero, Act.put, List.setIfInBounds_toArray, List.set_cons_zero, List.set_cons_succ]
  refine GoS.pure (i := 5) (v := ?_) rfl (by kernel_rfl) (by kernel_rfl) (by kernel_rfl) (by kernel_rfl) (fun _ _ _ h => h) (Or.inl ⟨by rfl, ?hy5⟩) (fun _ => HS) ?_
  case hy5 => ((intro u' hT; go_simp); try with_reducible rfl)
  try simp only [List.getElem_toArray, List.getElem_cons_succ, List.getElem_cons_zero, Act.put, List.setIfInBounds_toArray, List.set_cons_zero, List.set_cons_succ]
  refine GoS.take (i := 6) (v := ?_) rfl (by kernel_rfl) (by kernel_rfl) (by kernel_rfl) (by kernel_rfl) (fun _ _ _ h => h) (Or.inl ⟨by rfl, ?hy6⟩) HS ?_
  case hy6 => ((intro u' hT; have d1 := (QW.out.later hT).c1; go_simp); try with_reducible rfl)
  try simp only [List.getElem_toArray, List.getElem_cons_succ, List.getElem_cons_zero, Act.put, List.setIfInBounds_toArray, List.set_cons_zero, List.set_cons_succ]
  refine GoS.pure (i := 7) (v := ?_) rfl (by kernel_rfl) (by kernel_rfl) (by kernel_rfl) (by kernel_rfl) (fun _ _ _ h => h) (Or.inl ⟨by rfl, ?hy7⟩) (fun _ => HS) ?_
  case hy7 => ((intro u' hT; go_simp); try with_reducible rfl)
  try simp only [List.getElem_toArray, List.getElem_cons_succ, List.getElem_cons_zero, Act.put, List.setIfInBounds_toArray, List.set_cons_zero, List.set_cons_succ]
  refine GoS.take (i := 8) (v := ?_) rfl (by kernel_rfl) (by kernel_rfl) (by kernel_rfl) (by kernel_rfl) (fun _ _ _ h => h) (Or.inl ⟨by rfl, ?hy8⟩) HS ?_
  case hy8 => ((intro u' hT; have d1 := (PB.out.later hT).c2; go_simp); try with_reducible rfl)
  try simp only [List.getElem_toArray, List.getElem_cons_succ, List.getElem_cons_zero, Act.put, List.setIfInBounds_toArray, List.set_cons_zero, List.set_cons_succ]
  refine GoS.one (i := 4) (by kernel_rfl) rfl (fun K hK => ?_)
  go_simp
  (with_reducible refine (nmul_any (NU.out.later HS) (ND.out.later HS) F1.out).mono ?_)
  rintro e q9 ⟨v5, rfl, hv, hx⟩
  have HS2 := HS.trans hx; clear HS; have HS := HS2; clear HS2 hx
  go_wp2_with fail
  refine hK.out _ _ HS (fun _ => ?_)
  clear hK K
  try simp only [List.getElem_toArray, List.getElem_cons_succ, List.getElem_cons_zero, Act.put, List.setIfInBounds_toArray, List.set_cons_zero, List.set_cons_succ]
  have V5 := Lib.hid hv; clear hv
  refine GoS.one (i := 9) (by kernel_rfl) rfl (fun K hK => ?_)
  go_simp
  (with_reducible refine (nmul_any (NN.out.later HS) (NE.out.later HS) F2.out).mono ?_)
  rintro e q10 ⟨v6, rfl, hv, hx⟩
  have V5b := Lib.hid (V5.out.later hx); clear V5
  have HS2 := HS.trans hx; clear HS; have HS := HS2; clear HS2 hx
  go_wp2_with fail
  refine hK.out _ _ HS (fun _ => ?_)
  clear hK K
  try simp only [List.getElem_toArray, List.getElem_cons_succ, List.getElem_cons_zero, Act.put, List.setIfInBounds_toArray, List.set_cons_zero, List.set_cons_succ]
  have V6 := Lib.hid hv; clear hv
  refine GoS.one (i := 10) (by kernel_rfl) rfl (fun K hK => ?_)
  go_simp
  (with_reducible refine (ncmp_eq V5b.out V6.out HC.out).mono ?_)
  rintro e q11 ⟨rfl, hx⟩
  have HS2 := HS.trans hx; clear HS; have HS := HS2; clear HS2 hx
  go_wp2_with fail
  refine hK.out _ _ HS (fun _ => ?_)
  clear hK K
  try simp only [List.getElem_toArray, List.getElem_cons_succ, List.getElem_cons_zero, Act.put, List.setIfInBounds_toArray, List.set_cons_zero, List.set_cons_succ]
  refine GoS.pure (i := 11) (v := ?_) rfl (by kernel_rfl) (by kernel_rfl) (by kernel_rfl) (by kernel_rfl) (fun _ _ _ h => h) (Or.inl ⟨by rfl, ?hy12⟩) (fun _ => HS) ?_
  case hy12 => ((intro u' hT; go_simp); try with_reducible rfl)
  try simp only [List.getElem_toArray, List.getElem_cons_succ, List.getElem_cons_zero, Act.put, List.setIfInBounds_toArray, List.set_cons_zero, List.set_cons_succ]
  refine GoS.store (i := 12) (by kernel_rfl) rfl (by kernel_rfl) (fun K hK => ?_)
  go_simp
  refine hK.out _ _ ?_
  clear hK K
  try simp only [List.getElem_toArray, List.getElem_cons_succ, List.getElem_cons_zero, Act.put, List.setIfInBounds_toArray, List.set_cons_zero, List.set_cons_succ]
  refine GoS.done (by kernel_rfl) ?_
  have X9 := Lib.hid (XW.out.trans HS)
  clear HS V5b V6 PB QW NU NE NN ND
  go_wp2
  go_ret
  refine ⟨?_, X9.out⟩
  first | rfl | (simp [g]; done)
set_option maxRecDepth 100000 in
set_option maxHeartbeats 4000000 in
theorem am_no (D n d U E : Nat) (K : Int) (b : Bool) (a1 a2 : Option Addr) (L1 C1 L2 C2 : Nat) (EXH : ∀ w, Calls Tryz.prog 120 #[.agg #[.int .i64 (D : Int), .int .i64 K]] w fun e w' => QEnd e w' false U E ∧ Ext w w') (c : Int) (hc : cmpI ((U * d : Nat) : Int) ((n * E : Nat) : Int) = c) (hf1 : Fits (U * d)) (hf2 : Fits (n * E)) (g : ¬ c ≤ 0) (w : World) (h1 : IsNat w (.slice a1 L1 C1) n) (h2 : IsNat w (.slice a2 L2 C2) d) :
    Calls Tryz.prog 145 #[.agg #[.int .i64 (D : Int), .int .i64 K], .agg #[.bool b, .slice a1 L1 C1, .slice a2 L2 C2]] w fun e w' => e = .returned (.bool false) ∧ Ext w w' := by
  have HEX := Lib.hid EXH; have HC := Lib.hid hc; have F1 := Lib.hid hf1; have F2 := Lib.hid hf2; have H1 := Lib.hid h1; have H2 := Lib.hid h2
  clear EXH hc hf1 hf2 h1 h2
  go_enter Tryz.func145, Tryz.ntmps145
  go_upto_region 1 with (fail)
  have X0 : Hid (Ext w ((w.alloc (.cells #[.int .i64 (D : Int), .int .i64 K] 102)).alloc (.cells #[.bool b, .slice a1 L1 C1, .slice a2 L2 C2] 73))) := Lib.hid (((Ext.refl w).alloc _).alloc _)
  have RB : Hid (Rc ((w.alloc (.cells #[.int .i64 (D : Int), .int .i64 K] 102)).alloc (.cells #[.bool b, .slice a1 L1 C1, .slice a2 L2 C2] 73)) w.heap.size (D : Int) K) := Lib.hid ⟨by simp [go_sem], by simp [go_sem]⟩
  have QB : Hid (Qb ((w.alloc (.cells #[.int .i64 (D : Int), .int .i64 K] 102)).alloc (.cells #[.bool b, .slice a1 L1 C1, .slice a2 L2 C2] 73)) (w.heap.size + 1) b (.slice a1 L1 C1) (.slice a2 L2 C2)) := Lib.hid ⟨by simp [go_sem], by simp [go_sem], by simp [go_sem], by simp [go_sem]⟩
  generalize ((w.alloc (.cells #[.int .i64 (D : Int), .int .i64 K] 102)).alloc (.cells #[.bool b, .slice a1 L1 C1, .slice a2 L2 C2] 73)) = W at *
  have d0 := RB.out.c0; have d1 := RB.out.c1
  go_wp2_with fail
  refine (HEX.out _).mono ?_
  rintro e w1 ⟨⟨a3, L3, C3, a4, L4, C4, rfl, hn, hd⟩, hx⟩
  clear d0 d1 RB
  have XW := Lib.hid ((X0.out.trans hx).alloc (.cells #[.bool false, .slice a3 L3 C3, .slice a4 L4 C4] 73))
  have QW := Lib.hid (QB.out.later (hx.alloc (.cells #[.bool false, .slice a3 L3 C3, .slice a4 L4 C4] 73)))
  have PB : Hid (Qb (w1.alloc (.cells #[.bool false, .slice a3 L3 C3, .slice a4 L4 C4] 73)) w1.heap.size false (.slice a3 L3 C3) (.slice a4 L4 C4)) := Lib.hid ⟨by simp [go_sem], by simp [go_sem], by simp [go_sem], by simp⟩
  have NU := Lib.hid (hn.later ((Ext.refl w1).alloc (.cells #[.bool false, .slice a3 L3 C3, .slice a4 L4 C4] 73)))
  have NE := Lib.hid (hd.later ((Ext.refl w1).alloc (.cells #[.bool false, .slice a3 L3 C3, .slice a4 L4 C4] 73)))
  have NN := Lib.hid (H1.out.later XW.out)
  have ND := Lib.hid (H2.out.later XW.out)
  clear hn hd hx X0 QB HEX H1 H2
  go_upto_region 2 with (fail)
  generalize w1.alloc (.cells #[.bool false, .slice a3 L3 C3, .slice a4 L4 C4] 73) = W1 at *
  refine wp_region_S (fun uu : World => Ext W1 uu) 12 (by kernel_rfl) ?_
  have HS : Ext W1 W1.drew := (Ext.refl W1).drew
  refine GoS.pure (i := 0) (v := ?_) rfl (by kernel_rfl) (by kernel_rfl) (by kernel_rfl) (by kernel_rfl) (fun _ _ _ h => h) (Or.inl ⟨by rfl, ?hy13⟩) (fun _ => HS) ?_
  case hy13 => ((intro u' hT; go_simp); try with_reducible rfl)
  try simp only [List.getElem_toArray, List.getElem_cons_zero, Act.put, List.setIfInBounds_toArray, List.set_cons_zero, List.set_cons_succ]
  refine GoS.take (i := 1) (v := ?_) rfl (by kernel_rfl) (by kernel_rfl) (by kernel_rfl) (by kernel_rfl) (fun _ _ _ h => h) (Or.inl ⟨by rfl, ?hy14⟩) HS ?_
  case hy14 => ((intro u' hT; have d1 := (PB.out.later hT).c1; go_simp); try with_reducible rfl)
  try simp only [List.getElem_toArray, List.getElem_cons_succ, List.getElem_cons_zero, Act.put, List.setIfInBounds_toArray, List.set_cons_zero, List.set_cons_succ]
  refine GoS.pure (i := 2) (v := ?_) rfl (by kernel_rfl) (by kernel_rfl) (by kernel_rfl) (by kernel_rfl) (fun _ _ _ h => h) (Or.inl ⟨by rfl, ?hy15⟩) (fun _ => HS) ?_
  case hy15 => ((intro u' hT; go_simp); try with_reducible rfl)
  try simp only [List.getElem_toArray, List.getElem_cons_succ, List.getElem_cons_zero, Act.put, List.setIfInBounds_toArray, List.set_cons_zero, List.set_cons_succ]
  refine GoS.take (i := 3) (v := ?_) rfl (by kernel_rfl) (by kernel_rfl) (by kernel_rfl) (by kernel_rfl) (fun _ _ _ h => h) (Or.inl ⟨by rfl, ?hy16⟩) HS ?_
  case hy16 => ((intro u' hT; have d1 := (QW.out.later hT).c2; go_simp); try with_reducible rfl)
  try simp only [List.getElem_toArray, List.getElem_cons_succ, List.getElem_cons_zero, Act.put, List.setIfInBounds_toArray, List.set_cons_zero, List.set_cons_succ]
  refine GoS.pure (i := 5) (v := ?_) rfl (by kernel_rfl) (by kernel_rfl) (by kernel_rfl) (by kernel_rfl) (fun _ _ _ h => h) (Or.inl ⟨by rfl, ?hy17⟩) (fun _ => HS) ?_
  case hy17 => ((intro u' hT; go_simp); try with_reducible rfl)
  try simp only [List.getElem_toArray, List.getElem_cons_succ, List.getElem_cons_zero, Act.put, List.setIfInBounds_toArray, List.set_cons_zero, List.set_cons_succ]
  refine GoS.take (i := 6) (v := ?_) rfl (by kernel_rfl) (by kernel_rfl) (by kernel_rfl) (by kernel_rfl) (fun _ _ _ h => h) (Or.inl ⟨by rfl, ?hy18⟩) HS ?_
  case hy18 => ((intro u' hT; have d1 := (QW.out.later hT).c1; go_simp); try with_reducible rfl)
  try simp only [List.getElem_toArray, List.getElem_cons_succ, List.getElem_cons_zero, Act.put, List.setIfInBounds_toArray, List.set_cons_zero, List.set_cons_succ]
  refine GoS.pure (i := 7) (v := ?_) rfl (by kernel_rfl) (by kernel_rfl) (by kernel_rfl) (by kernel_rfl) (fun _ _ _ h => h) (Or.inl ⟨by rfl, ?hy19⟩) (fun _ => HS) ?_
  case hy19 => ((intro u' hT; go_simp); try with_reducible rfl)
  try simp only [List.getElem_toArray, List.getElem_cons_succ, List.getElem_cons_zero, Act.put, List.setIfInBounds_toArray, List.set_cons_zero, List.set_cons_succ]
  refine GoS.take (i := 8) (v := ?_) rfl (by kernel_rfl) (by kernel_rfl) (by kernel_rfl) (by kernel_rfl) (fun _ _ _ h => h) (Or.inl ⟨by rfl, ?hy20⟩) HS ?_
  case hy20 => ((intro u' hT; have d1 := (PB.out.later hT).c2; go_simp); try with_reducible rfl)
  try simp only [List.getElem_toArray, List.getElem_cons_succ, List.getElem_cons_zero, Act.put, List.setIfInBounds_toArray, List.set_cons_zero, List.set_cons_succ]
  refine GoS.one (i := 4) (by kernel_rfl) rfl (fun K hK => ?_)
  go_simp
  (with_reducible refine (nmul_any (NU.out.later HS) (ND.out.later HS) F1.out).mono ?_)
  rintro e q21 ⟨v5, rfl, hv, hx⟩
  have HS2 := HS.trans hx; clear HS; have HS := HS2; clear HS2 hx
  go_wp2_with fail
  refine hK.out _ _ HS (fun _ => ?_)
  clear hK K
  try simp only [List.getElem_toArray, List.getElem_cons_succ, List.getElem_cons_zero, Act.put, List.setIfInBounds_toArray, List.set_cons_zero, List.set_cons_succ]
  have V5 := Lib.hid hv; clear hv
  refine GoS.one (i := 9) (by kernel_rfl) rfl (fun K hK => ?_)
  go_simp
  (with_reducible refine (nmul_any (NN.out.later HS) (NE.out.later HS) F2.out).mono ?_)
  rintro e q22 ⟨v6, rfl, hv, hx⟩
  have V5b := Lib.hid (V5.out.later hx); clear V5
  have HS2 := HS.trans hx; clear HS; have HS := HS2; clear HS2 hx
  go_wp2_with fail
  refine hK.out _ _ HS (fun _ => ?_)
  clear hK K
  try simp only [List.getElem_toArray, List.getElem_cons_succ, List.getElem_cons_zero, Act.put, List.setIfInBounds_toArray, List.set_cons_zero, List.set_cons_succ]
  have V6 := Lib.hid hv; clear hv
  refine GoS.one (i := 10) (by kernel_rfl) rfl (fun K hK => ?_)
  go_simp
  (with_reducible refine (ncmp_eq V5b.out V6.out HC.out).mono ?_)
  rintro e q23 ⟨rfl, hx⟩
  have HS2 := HS.trans hx; clear HS; have HS := HS2; clear HS2 hx
  go_wp2_with fail
  refine hK.out _ _ HS (fun _ => ?_)
  clear hK K
  try simp only [List.getElem_toArray, List.getElem_cons_succ, List.getElem_cons_zero, Act.put, List.setIfInBounds_toArray, List.set_cons_zero, List.set_cons_succ]
  refine GoS.pure (i := 11) (v := ?_) rfl (by kernel_rfl) (by kernel_rfl) (by kernel_rfl) (by kernel_rfl) (fun _ _ _ h => h) (Or.inl ⟨by rfl, ?hy24⟩) (fun _ => HS) ?_
  case hy24 => ((intro u' hT; go_simp); try with_reducible rfl)
  try simp only [List.getElem_toArray, List.getElem_cons_succ, List.getElem_cons_zero, Act.put, List.setIfInBounds_toArray, List.set_cons_zero, List.set_cons_succ]
  refine GoS.store (i := 12) (by kernel_rfl) rfl (by kernel_rfl) (fun K hK => ?_)
  go_simp
  refine hK.out _ _ ?_
  clear hK K
  try simp only [List.getElem_toArray, List.getElem_cons_succ, List.getElem_cons_zero, Act.put, List.setIfInBounds_toArray, List.set_cons_zero, List.set_cons_succ]
  refine GoS.done (by kernel_rfl) ?_
  have X9 := Lib.hid (XW.out.trans HS)
  clear HS V5b V6 PB QW NU NE NN ND
  go_wp2
  go_ret
  refine ⟨?_, X9.out⟩
  first | rfl | (simp [g]; done)
set_option maxRecDepth 100000 in
set_option maxHeartbeats 4000000 in
theorem di_ge (D n d U E : Nat) (K : Int) (b : Bool) (a1 a2 : Option Addr) (L1 C1 L2 C2 : Nat) (EXH : ∀ w, Calls Tryz.prog 120 #[.agg #[.int .i64 (D : Int), .int .i64 K]] w fun e w' => QEnd e w' false U E ∧ Ext w w') (c : Int) (hc : cmpI ((U * d : Nat) : Int) ((n * E : Nat) : Int) = c) (hf1 : Fits (U * d)) (hf2 : Fits (n * E)) (g : c ≥ 0) (hle : n * E ≤ U * d) (w : World) (h1 : IsNat w (.slice a1 L1 C1) n) (h2 : IsNat w (.slice a2 L2 C2) d) :
    Calls Tryz.prog 121 #[.agg #[.int .i64 (D : Int), .int .i64 K], .agg #[.bool b, .slice a1 L1 C1, .slice a2 L2 C2]] w fun e w' => ∃ v, e = .returned v ∧ IsNat w' v (U * d - n * E) ∧ Ext w w' := by
  have HLE := Lib.hid hle; clear hle
  have HEX := Lib.hid EXH; have HC := Lib.hid hc; have F1 := Lib.hid hf1; have F2 := Lib.hid hf2; have H1 := Lib.hid h1; have H2 := Lib.hid h2
  clear EXH hc hf1 hf2 h1 h2
  go_enter Tryz.func121, Tryz.ntmps121
  go_upto_region 1 with (fail)
  have X0 : Hid (Ext w ((w.alloc (.cells #[.int .i64 (D : Int), .int .i64 K] 102)).alloc (.cells #[.bool b, .slice a1 L1 C1, .slice a2 L2 C2] 73))) := Lib.hid (((Ext.refl w).alloc _).alloc _)
  have RB : Hid (Rc ((w.alloc (.cells #[.int .i64 (D : Int), .int .i64 K] 102)).alloc (.cells #[.bool b, .slice a1 L1 C1, .slice a2 L2 C2] 73)) w.heap.size (D : Int) K) := Lib.hid ⟨by simp [go_sem], by simp [go_sem]⟩
  have QB : Hid (Qb ((w.alloc (.cells #[.int .i64 (D : Int), .int .i64 K] 102)).alloc (.cells #[.bool b, .slice a1 L1 C1, .slice a2 L2 C2] 73)) (w.heap.size + 1) b (.slice a1 L1 C1) (.slice a2 L2 C2)) := Lib.hid ⟨by simp [go_sem], by simp [go_sem], by simp [go_sem], by simp [go_sem]⟩
  generalize ((w.alloc (.cells #[.int .i64 (D : Int), .int .i64 K] 102)).alloc (.cells #[.bool b, .slice a1 L1 C1, .slice a2 L2 C2] 73)) = W at *
  have d0 := RB.out.c0; have d1 := RB.out.c1
  go_wp2_with fail
  refine (HEX.out _).mono ?_
  rintro e w1 ⟨⟨a3, L3, C3, a4, L4, C4, rfl, hn, hd⟩, hx⟩
  clear d0 d1 RB
  have XW := Lib.hid ((X0.out.trans hx).alloc (.cells #[.bool false, .slice a3 L3 C3, .slice a4 L4 C4] 73))
  have QW := Lib.hid (QB.out.later (hx.alloc (.cells #[.bool false, .slice a3 L3 C3, .slice a4 L4 C4] 73)))
  have PB : Hid (Qb (w1.alloc (.cells #[.bool false, .slice a3 L3 C3, .slice a4 L4 C4] 73)) w1.heap.size false (.slice a3 L3 C3) (.slice a4 L4 C4)) := Lib.hid ⟨by simp [go_sem], by simp [go_sem], by simp [go_sem], by simp⟩
  have NU := Lib.hid (hn.later ((Ext.refl w1).alloc (.cells #[.bool false, .slice a3 L3 C3, .slice a4 L4 C4] 73)))
  have NE := Lib.hid (hd.later ((Ext.refl w1).alloc (.cells #[.bool false, .slice a3 L3 C3, .slice a4 L4 C4] 73)))
  have NN := Lib.hid (H1.out.later XW.out)
  have ND := Lib.hid (H2.out.later XW.out)
  clear hn hd hx X0 QB HEX H1 H2
  go_upto_region 2 with (fail)
  generalize w1.alloc (.cells #[.bool false, .slice a3 L3 C3, .slice a4 L4 C4] 73) = W1 at *
  have p1 := PB.out.c1; have q2 := QW.out.c2
  go_wp2_with fail
  refine (nmul_any NU.out ND.out F1.out).mono ?_
  rintro e w2 ⟨v5, rfl, hv, hx⟩
  have V5 := Lib.hid hv; have XB := Lib.hid hx; clear hv hx p1 q2
  have q1 := (QW.out.later XB.out).c1; have p2 := (PB.out.later XB.out).c2
  go_wp2_with fail
  refine (nmul_any (NN.out.later XB.out) (NE.out.later XB.out) F2.out).mono ?_
  rintro e w3 ⟨v6, rfl, hv, hx⟩
  have V6 := Lib.hid hv; have V5b := Lib.hid (V5.out.later hx); have XC := Lib.hid ((XW.out.trans XB.out).trans hx); clear hv hx q1 p2 V5 XB PB QW NU NE NN ND XW
  have V5 := V5b
  go_wp2_with fail
  refine (ncmp_eq V5.out V6.out HC.out).mono ?_
  rintro e w4 ⟨rfl, hx⟩
  have V6b := Lib.hid (V6.out.later hx); have V5c := Lib.hid (V5.out.later hx); have XD := Lib.hid (XC.out.trans hx); clear hx V5 V5b V6 XC
  have V5 := V5c; have V6 := V6b
  clear V5c V6b
  go_wp2_with fail
  refine (nsub_any V5.out V6.out HLE.out F1.out).mono ?_
  rintro e w5 ⟨v7, rfl, hv, hx⟩
  have V7 := Lib.hid hv; have X9 := Lib.hid (XD.out.trans hx); clear hv hx V5 V6 XD
  go_wp2
  go_ret
  exact ⟨_, rfl, V7.out, X9.out⟩
set_option maxRecDepth 100000 in
set_option maxHeartbeats 4000000 in
theorem di_lt (D n d U E : Nat) (K : Int) (b : Bool) (a1 a2 : Option Addr) (L1 C1 L2 C2 : Nat) (EXH : ∀ w, Calls Tryz.prog 120 #[.agg #[.int .i64 (D : Int), .int .i64 K]] w fun e w' => QEnd e w' false U E ∧ Ext w w') (c : Int) (hc : cmpI ((U * d : Nat) : Int) ((n * E : Nat) : Int) = c) (hf1 : Fits (U * d)) (hf2 : Fits (n * E)) (g : ¬ c ≥ 0) (hle : U * d ≤ n * E) (w : World) (h1 : IsNat w (.slice a1 L1 C1) n) (h2 : IsNat w (.slice a2 L2 C2) d) :
    Calls Tryz.prog 121 #[.agg #[.int .i64 (D : Int), .int .i64 K], .agg #[.bool b, .slice a1 L1 C1, .slice a2 L2 C2]] w fun e w' => ∃ v, e = .returned v ∧ IsNat w' v (n * E - U * d) ∧ Ext w w' := by
  have HLE := Lib.hid hle; clear hle
  have HEX := Lib.hid EXH; have HC := Lib.hid hc; have F1 := Lib.hid hf1; have F2 := Lib.hid hf2; have H1 := Lib.hid h1; have H2 := Lib.hid h2
  clear EXH hc hf1 hf2 h1 h2
  go_enter Tryz.func121, Tryz.ntmps121
  go_upto_region 1 with (fail)
  have X0 : Hid (Ext w ((w.alloc (.cells #[.int .i64 (D : Int), .int .i64 K] 102)).alloc (.cells #[.bool b, .slice a1 L1 C1, .slice a2 L2 C2] 73))) := Lib.hid (((Ext.refl w).alloc _).alloc _)
  have RB : Hid (Rc ((w.alloc (.cells #[.int .i64 (D : Int), .int .i64 K] 102)).alloc (.cells #[.bool b, .slice a1 L1 C1, .slice a2 L2 C2] 73)) w.heap.size (D : Int) K) := Lib.hid ⟨by simp [go_sem], by simp [go_sem]⟩
  have QB : Hid (Qb ((w.alloc (.cells #[.int .i64 (D : Int), .int .i64 K] 102)).alloc (.cells #[.bool b, .slice a1 L1 C1, .slice a2 L2 C2] 73)) (w.heap.size + 1) b (.slice a1 L1 C1) (.slice a2 L2 C2)) := Lib.hid ⟨by simp [go_sem], by simp [go_sem], by simp [go_sem], by simp [go_sem]⟩
  generalize ((w.alloc (.cells #[.int .i64 (D : Int), .int .i64 K] 102)).alloc (.cells #[.bool b, .slice a1 L1 C1, .slice a2 L2 C2] 73)) = W at *
  have d0 := RB.out.c0; have d1 := RB.out.c1
  go_wp2_with fail
  refine (HEX.out _).mono ?_
  rintro e w1 ⟨⟨a3, L3, C3, a4, L4, C4, rfl, hn, hd⟩, hx⟩
  clear d0 d1 RB
  have XW := Lib.hid ((X0.out.trans hx).alloc (.cells #[.bool false, .slice a3 L3 C3, .slice a4 L4 C4] 73))
  have QW := Lib.hid (QB.out.later (hx.alloc (.cells #[.bool false, .slice a3 L3 C3, .slice a4 L4 C4] 73)))
  have PB : Hid (Qb (w1.alloc (.cells #[.bool false, .slice a3 L3 C3, .slice a4 L4 C4] 73)) w1.heap.size false (.slice a3 L3 C3) (.slice a4 L4 C4)) := Lib.hid ⟨by simp [go_sem], by simp [go_sem], by simp [go_sem], by simp⟩
  have NU := Lib.hid (hn.later ((Ext.refl w1).alloc (.cells #[.bool false, .slice a3 L3 C3, .slice a4 L4 C4] 73)))
  have NE := Lib.hid (hd.later ((Ext.refl w1).alloc (.cells #[.bool false, .slice a3 L3 C3, .slice a4 L4 C4] 73)))
  have NN := Lib.hid (H1.out.later XW.out)
  have ND := Lib.hid (H2.out.later XW.out)
  clear hn hd hx X0 QB HEX H1 H2
  go_upto_region 2 with (fail)
  generalize w1.alloc (.cells #[.bool false, .slice a3 L3 C3, .slice a4 L4 C4] 73) = W1 at *
  have p1 := PB.out.c1; have q2 := QW.out.c2
  go_wp2_with fail
  refine (nmul_any NU.out ND.out F1.out).mono ?_
  rintro e w2 ⟨v5, rfl, hv, hx⟩
  have V5 := Lib.hid hv; have XB := Lib.hid hx; clear hv hx p1 q2
  have q1 := (QW.out.later XB.out).c1; have p2 := (PB.out.later XB.out).c2
  go_wp2_with fail
  refine (nmul_any (NN.out.later XB.out) (NE.out.later XB.out) F2.out).mono ?_
  rintro e w3 ⟨v6, rfl, hv, hx⟩
  have V6 := Lib.hid hv; have V5b := Lib.hid (V5.out.later hx); have XC := Lib.hid ((XW.out.trans XB.out).trans hx); clear hv hx q1 p2 V5 XB PB QW NU NE NN ND XW
  have V5 := V5b
  go_wp2_with fail
  refine (ncmp_eq V5.out V6.out HC.out).mono ?_
  rintro e w4 ⟨rfl, hx⟩
  have V6b := Lib.hid (V6.out.later hx); have V5c := Lib.hid (V5.out.later hx); have XD := Lib.hid (XC.out.trans hx); clear hx V5 V5b V6 XC
  have V5 := V5c; have V6 := V6b
  clear V5c V6b
  go_wp2_with fail
  refine (nsub_any V6.out V5.out HLE.out F2.out).mono ?_
  rintro e w5 ⟨v7, rfl, hv, hx⟩
  have V7 := Lib.hid hv; have X9 := Lib.hid (XD.out.trans hx); clear hv hx V5 V6 XD
  go_wp2
  go_ret
  exact ⟨_, rfl, V7.out, X9.out⟩
/-- A quotient that lies in memory: sign, numerator, denominator. -/
structure Qv (w : World) (v : Value) (b : Bool) (n d : Nat) : Prop where
  is : ∃ a1 L1 C1 a2 L2 C2, v = .agg #[.bool b, .slice a1 L1 C1, .slice a2 L2 C2] ∧ IsNat w (.slice a1 L1 C1) n ∧ IsNat w (.slice a2 L2 C2) d
theorem Qv.later {w w' : World} {v : Value} {b : Bool} {n d : Nat} (h : Qv w v b n d) (hx : Ext w w') : Qv w' v b n d := by
  obtain ⟨a1, L1, C1, a2, L2, C2, e, h1, h2⟩ := h.is
  exact ⟨a1, L1, C1, a2, L2, C2, e, h1.later hx, h2.later hx⟩
/-- Sizes that fit. -/
structure Szs (n d : Nat) : Prop where
  sn : ∃ k, k ≤ 400 ∧ n < 2 ^ k
  sd : ∃ k, k ≤ 200 ∧ d < 2 ^ k
theorem ten_size {k : Nat} (h : k ≤ 500) : ∃ e, e ≤ 2001 ∧ 10 ^ k < 2 ^ e := ⟨4 * k + 1, by omega, (ten_fits (by omega)).1⟩
theorem size_fits {n d D : Nat} {K : Int} (h : Szs n d) (hD : D ≤ 2000000000000) (h1 : -500 ≤ K) (h2 : K ≤ 500) : Fits (D * tenU K * d) ∧ Fits (n * tenD K) := by
  have hD2 : D < 2 ^ 41 := by omega
  obtain ⟨e1, l1, t1⟩ := ten_size (k := K.toNat) (by omega)
  obtain ⟨e2, l2, t2⟩ := ten_size (k := (-K).toNat) (by omega)
  obtain ⟨k1, m1, n1⟩ := h.sn
  obtain ⟨k2, m2, n2⟩ := h.sd
  exact ⟨(fits_mul (fits_mul hD2 t1 (by clear t1 t2 n1 n2; omega)).1 n2 (by clear t1 t2 n1 n2; omega)).2, (fits_mul n1 t2 (by clear t1 t2 n1 n2; omega)).2⟩
theorem am_any {D n d : Nat} {K : Int} {b : Bool} {v : Value} {w : World} (h : Qv w v b n d) (hs : Szs n d) (hD : D ≤ 2000000000000) (h1 : -500 ≤ K) (h2 : K ≤ 500) :
    Calls Tryz.prog 145 #[.agg #[.int .i64 (D : Int), .int .i64 K], v] w fun e w' => e = .returned (.bool (decide (D * tenU K * d ≤ n * tenD K))) ∧ Ext w w' := by
  obtain ⟨a1, L1, C1, a2, L2, C2, e, q1, q2⟩ := h.is
  subst e
  obtain ⟨f1, f2⟩ := size_fits hs hD h1 h2
  have hc : (cmpI ((D * tenU K * d : Nat) : Int) ((n * tenD K : Nat) : Int) ≤ 0) ↔ D * tenU K * d ≤ n * tenD K := by
    unfold cmpI; split <;> (try split) <;> omega
  by_cases g : cmpI ((D * tenU K * d : Nat) : Int) ((n * tenD K : Nat) : Int) ≤ 0
  · rw [decide_eq_true (hc.1 g)]
    exact am_yes D n d _ _ K b a1 a2 L1 C1 L2 C2 (dec_exact hD h1 h2) _ rfl f1 f2 g w q1 q2
  · rw [decide_eq_false (fun c => g (hc.2 c))]
    exact am_no D n d _ _ K b a1 a2 L1 C1 L2 C2 (dec_exact hD h1 h2) _ rfl f1 f2 g w q1 q2
/-- By how much two numbers differ. -/
def gapN (a b : Nat) : Nat := if b ≤ a then a - b else b - a
theorem di_any {D n d : Nat} {K : Int} {b : Bool} {v : Value} {w : World} (h : Qv w v b n d) (hs : Szs n d) (hD : D ≤ 2000000000000) (h1 : -500 ≤ K) (h2 : K ≤ 500) :
    Calls Tryz.prog 121 #[.agg #[.int .i64 (D : Int), .int .i64 K], v] w fun e w' => ∃ u, e = .returned u ∧ IsNat w' u (gapN (D * tenU K * d) (n * tenD K)) ∧ Ext w w' := by
  obtain ⟨a1, L1, C1, a2, L2, C2, e, q1, q2⟩ := h.is
  subst e
  obtain ⟨f1, f2⟩ := size_fits hs hD h1 h2
  have hc : (cmpI ((D * tenU K * d : Nat) : Int) ((n * tenD K : Nat) : Int) ≥ 0) ↔ n * tenD K ≤ D * tenU K * d := by
    unfold cmpI; split <;> (try split) <;> omega
  unfold gapN
  by_cases g : cmpI ((D * tenU K * d : Nat) : Int) ((n * tenD K : Nat) : Int) ≥ 0
  · rw [if_pos (hc.1 g)]
    exact di_ge D n d _ _ K b a1 a2 L1 C1 L2 C2 (dec_exact hD h1 h2) _ rfl f1 f2 g (hc.1 g) w q1 q2
  · rw [if_neg (fun c => g (hc.2 c))]
    exact di_lt D n d _ _ K b a1 a2 L1 C1 L2 C2 (dec_exact hD h1 h2) _ rfl f1 f2 g (Nat.le_of_not_le (fun c => g (hc.2 c))) w q1 q2
end Go.Proofs.YtogfiekbikechaaGreatDoor
