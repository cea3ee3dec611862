/- Layer 2: the reference's sums, products and quotients, walked. -/
import Derived.Test.YthmndafjogndaaaGreatDoorUo
import Derived.Test.YthmndafjogndaaaGreatDoorUn
import Derived.Test.YthmndafjogndaaaGreatDoorGs
namespace Go.Proofs.YthmndafjogndaaaGreatDoor
open Go.ChangeShapes Go.WideShapes Go.ChangeAt Go.RowKit

theorem rnd_shape (o : Option (Int × Int)) : ∃ a b ok, rndV o = .agg #[.int .i64 a, .int .i64 b, .bool ok] := by
  cases o with
  | none => exact ⟨_, _, _, rfl⟩
  | some q => exact ⟨_, _, _, rfl⟩
theorem round_eq {s : Bool} {a1 a2 : Option Addr} {L1 C1 L2 C2 n d r P : Nat} {w : World} {V : Value} (h1 : IsNat w (.slice a1 L1 C1) n) (h2 : IsNat w (.slice a2 L2 C2) d) (hd : 0 < d) (hP : P = n * tw 151) (hf : Fits P) (hfd : ∀ r, r ≤ 2533359615 → Fits (midN r * d)) (hr : Near P d r) (hV : rndV (resI s r) = V) :
    Calls Tryz.prog 55 #[.agg #[.bool s, .slice a1 L1 C1, .slice a2 L2 C2]] w fun e w' => e = .returned V ∧ Ext w w' := hV ▸ round_nat s a1 a2 L1 C1 L2 C2 n d r P w h1 h2 hd hP hf hfd hr
/-- What a rounding of n / d wants to know. -/
structure Rok (n d r : Nat) : Prop where
  pos : 0 < d
  fit : Fits (n * tw 151)
  all : ∀ r, r ≤ 2533359615 → Fits (midN r * d)
  near : Near (n * tw 151) d r
abbrev OfTo (m x : Int) (b : Bool) (n d : Nat) : Prop := ∀ w, Calls Tryz.prog 65 #[.agg #[.int .i64 m, .int .i64 x]] w fun e w' => QEnd e w' b n d ∧ Ext w w' 
set_option maxRecDepth 100000 in
set_option maxHeartbeats 4000000 in
theorem rmul_walk (m x n y rm rx : Int) (ok : Bool) (ba bb : Bool) (A B d1 d2 : Nat) (OA : OfTo m x ba A d1) (OB : OfTo n y bb B d2) (hfn : Fits (A * B)) (hfd : Fits (d1 * d2)) (r : Nat) (RK : Rok (A * B) (d1 * d2) r) (hV : rndV (resI (!(ba == bb)) r) = .agg #[.int .i64 rm, .int .i64 rx, .bool ok]) (w : World) :
    Calls Tryz.prog 37 #[.agg #[.int .i64 m, .int .i64 x], .agg #[.int .i64 n, .int .i64 y]] w fun e w' => e = .returned (.agg #[.int .i64 rm, .int .i64 rx, .bool ok]) ∧ Ext w w' := by
  have HOA := Lib.hid OA; have HOB := Lib.hid OB; clear OA OB
  have HFN := Lib.hid hfn; have HFD := Lib.hid hfd; have HRK := Lib.hid RK; have HV := Lib.hid hV
  clear hfn hfd RK hV
  go_enter Tryz.func37, Tryz.ntmps37
  go_upto_region 1 with (fail)
  have X0 : Hid (Ext w (((w.alloc (.cells #[.int .i64 m, .int .i64 x] 23)).alloc (.cells #[.int .i64 n, .int .i64 y] 23)).alloc (.cells #[.int .i64 0, .int .i64 0, .bool false] 43))) := Lib.hid ((((Ext.refl w).alloc _).alloc _).alloc _)
  have ZB : Hid (Zb (((w.alloc (.cells #[.int .i64 m, .int .i64 x] 23)).alloc (.cells #[.int .i64 n, .int .i64 y] 23)).alloc (.cells #[.int .i64 0, .int .i64 0, .bool false] 43)) (w.heap.size + 1 + 1)) := Lib.hid ⟨by simp [go_sem], by simp [go_sem], by simp [go_sem], fun j => by simp [go_sem], by simp [go_sem]⟩
  have cx0 : (((w.alloc (.cells #[.int .i64 m, .int .i64 x] 23)).alloc (.cells #[.int .i64 n, .int .i64 y] 23)).alloc (.cells #[.int .i64 0, .int .i64 0, .bool false] 43)).cell? ⟨w.heap.size, 0, none⟩ = some (.int .i64 m) := by simp [go_sem]
  have cx1 : (((w.alloc (.cells #[.int .i64 m, .int .i64 x] 23)).alloc (.cells #[.int .i64 n, .int .i64 y] 23)).alloc (.cells #[.int .i64 0, .int .i64 0, .bool false] 43)).cell? ⟨w.heap.size, 1, none⟩ = some (.int .i64 x) := by simp [go_sem]
  have cy0 : (((w.alloc (.cells #[.int .i64 m, .int .i64 x] 23)).alloc (.cells #[.int .i64 n, .int .i64 y] 23)).alloc (.cells #[.int .i64 0, .int .i64 0, .bool false] 43)).cell? ⟨w.heap.size + 1, 0, none⟩ = some (.int .i64 n) := by simp [go_sem]
  have cy1 : (((w.alloc (.cells #[.int .i64 m, .int .i64 x] 23)).alloc (.cells #[.int .i64 n, .int .i64 y] 23)).alloc (.cells #[.int .i64 0, .int .i64 0, .bool false] 43)).cell? ⟨w.heap.size + 1, 1, none⟩ = some (.int .i64 y) := by simp [go_sem]
  have ly : w.heap.size + 1 < (((w.alloc (.cells #[.int .i64 m, .int .i64 x] 23)).alloc (.cells #[.int .i64 n, .int .i64 y] 23)).alloc (.cells #[.int .i64 0, .int .i64 0, .bool false] 43)).heap.size := by simp [go_sem]
  generalize ((w.alloc (.cells #[.int .i64 m, .int .i64 x] 23)).alloc (.cells #[.int .i64 n, .int .i64 y] 23)).alloc (.cells #[.int .i64 0, .int .i64 0, .bool false] 43) = W0 at *
  have LY := Lib.hid ly; have CY0 := Lib.hid cy0; have CY1 := Lib.hid cy1
  clear ly cy0 cy1
  go_wp2_with fail
  refine (HOA.out _).mono ?_
  rintro e w1 ⟨⟨a1, L1, C1, a2, L2, C2, rfl, hn, hd⟩, hx⟩
  have NA := Lib.hid hn; have DA := Lib.hid hd; have XA := Lib.hid hx
  clear hn hd hx cx0 cx1
  have cy0 : ∀ ob, (w1.alloc ob).cell? ⟨w.heap.size + 1, 0, none⟩ = some (.int .i64 n) := fun ob => ((XA.out.alloc ob).cell 0 LY.out).trans CY0.out
  have cy1 : ∀ ob, (w1.alloc ob).cell? ⟨w.heap.size + 1, 1, none⟩ = some (.int .i64 y) := fun ob => ((XA.out.alloc ob).cell 1 LY.out).trans CY1.out
  go_wp2_with fail
  refine (HOB.out _).mono ?_
  rintro e w2 ⟨⟨a3, L3, C3, a4, L4, C4, rfl, hn, hd⟩, hx⟩
  clear cy0 cy1
  have XW := Lib.hid (((X0.out.trans XA.out).alloc (.cells #[.bool ba, .slice a1 L1 C1, .slice a2 L2 C2] 73)).trans (hx.alloc (.cells #[.bool bb, .slice a3 L3 C3, .slice a4 L4 C4] 73)))
  have ZW := Lib.hid (ZB.out.later ((XA.out.alloc (.cells #[.bool ba, .slice a1 L1 C1, .slice a2 L2 C2] 73)).trans (hx.alloc (.cells #[.bool bb, .slice a3 L3 C3, .slice a4 L4 C4] 73))))
  have QA : Hid (Qb (w2.alloc (.cells #[.bool bb, .slice a3 L3 C3, .slice a4 L4 C4] 73)) w1.heap.size ba (.slice a1 L1 C1) (.slice a2 L2 C2)) := Lib.hid ((⟨by simp [go_sem], by simp [go_sem], by simp [go_sem], by simp⟩ : Qb (w1.alloc (.cells #[.bool ba, .slice a1 L1 C1, .slice a2 L2 C2] 73)) w1.heap.size ba (.slice a1 L1 C1) (.slice a2 L2 C2)).later (hx.alloc _))
  have QB : Hid (Qb (w2.alloc (.cells #[.bool bb, .slice a3 L3 C3, .slice a4 L4 C4] 73)) w2.heap.size bb (.slice a3 L3 C3) (.slice a4 L4 C4)) := Lib.hid ⟨by simp [go_sem], by simp [go_sem], by simp [go_sem], by simp⟩
  have NAW := Lib.hid (NA.out.later ((Ext.refl w1).alloc (.cells #[.bool ba, .slice a1 L1 C1, .slice a2 L2 C2] 73) |>.trans (hx.alloc (.cells #[.bool bb, .slice a3 L3 C3, .slice a4 L4 C4] 73))))
  have DAW := Lib.hid (DA.out.later ((Ext.refl w1).alloc (.cells #[.bool ba, .slice a1 L1 C1, .slice a2 L2 C2] 73) |>.trans (hx.alloc (.cells #[.bool bb, .slice a3 L3 C3, .slice a4 L4 C4] 73))))
  have NBW := Lib.hid (hn.later ((Ext.refl w2).alloc (.cells #[.bool bb, .slice a3 L3 C3, .slice a4 L4 C4] 73)))
  have DBW := Lib.hid (hd.later ((Ext.refl w2).alloc (.cells #[.bool bb, .slice a3 L3 C3, .slice a4 L4 C4] 73)))
  clear hn hd hx X0 XA ZB NA DA LY CY0 CY1 HOA HOB
  go_upto_region 3 with (fail)
  generalize w2.alloc (.cells #[.bool bb, .slice a3 L3 C3, .slice a4 L4 C4] 73) = W at *
  refine wp_region_S (fun uu : World => Ext W uu) 17 (by kernel_rfl) ?_
  have HS : Ext W W.drew := (Ext.refl W).drew
  refine GoS.pure (i := 0) (v := ?_) rfl (by kernel_rfl) (by kernel_rfl) (by kernel_rfl) (by kernel_rfl) (fun _ _ _ h => h) (Or.inl ⟨by rfl, ?hy1⟩) (fun _ => HS) ?_
  case hy1 => ((intro u' hT; go_simp); try with_reducible rfl)
  try simp only [List.getElem_toArray, List.getElem_cons_zero, Act.put, List.setIfInBounds_toArray, List.set_cons_zero, List.set_cons_succ]
  refine GoS.take (i := 1) (v := ?_) rfl (by kernel_rfl) (by kernel_rfl) (by kernel_rfl) (by kernel_rfl) (fun _ _ _ h => h) (Or.inl ⟨by rfl, ?hy2⟩) HS ?_
  case hy2 => ((intro u' hT; have d1 := (QA.out.later hT).c0; go_simp); try with_reducible rfl)
  try simp only [List.getElem_toArray, List.getElem_cons_succ, List.getElem_cons_zero, Act.put, List.setIfInBounds_toArray, List.set_cons_zero, List.set_cons_succ]
  refine GoS.pure (i := 2) (v := ?_) rfl (by kernel_rfl) (by kernel_rfl) (by kernel_rfl) (by kernel_rfl) (fun _ _ _ h => h) (Or.inl ⟨by rfl, ?hy3⟩) (fun _ => HS) ?_
  case hy3 => ((intro u' hT; go_simp); try with_reducible rfl)
  try simp only [List.getElem_toArray, List.getElem_cons_succ, List.getElem_cons_zero, Act.put, List.setIfInBounds_toArray, List.set_cons_zero, List.set_cons_succ]
  refine GoS.take (i := 3) (v := ?_) rfl (by kernel_rfl) (by kernel_rfl) (by kernel_rfl) (by kernel_rfl) (fun _ _ _ h => h) (Or.inl ⟨by rfl, ?hy4⟩) HS ?_
  case hy4 => ((intro u' hT; have d1 := (QB.out.later hT).c0; go_simp); try with_reducible rfl)
  try simp only [List.getElem_toArray, List.getElem_cons_succ, List.getElem_cons_zero, Act.put, List.setIfInBounds_toArray, List.set_cons_zero, List.set_cons_succ]
  refine GoS.pure (i := 4) (v := ?_) rfl (by kernel_rfl) (by kernel_rfl) (by kernel_rfl) (by kernel_rfl) (fun _ _ _ h => h) (Or.inl ⟨by rfl, ?hy5⟩) (fun _ => HS) ?_
  case hy5 => ((intro u' hT; go_simp); try with_reducible rfl)
  try simp only [List.getElem_toArray, List.getElem_cons_succ, List.getElem_cons_zero, Act.put, List.setIfInBounds_toArray, List.set_cons_zero, List.set_cons_succ]
  refine GoS.pure (i := 5) (v := ?_) rfl (by kernel_rfl) (by kernel_rfl) (by kernel_rfl) (by kernel_rfl) (fun _ _ _ h => h) (Or.inl ⟨by rfl, ?hy6⟩) (fun _ => HS) ?_
  case hy6 => ((intro u' hT; go_simp); try with_reducible rfl)
  try simp only [List.getElem_toArray, List.getElem_cons_succ, List.getElem_cons_zero, Act.put, List.setIfInBounds_toArray, List.set_cons_zero, List.set_cons_succ]
  refine GoS.take (i := 6) (v := ?_) rfl (by kernel_rfl) (by kernel_rfl) (by kernel_rfl) (by kernel_rfl) (fun _ _ _ h => h) (Or.inl ⟨by rfl, ?hy7⟩) HS ?_
  case hy7 => ((intro u' hT; have d1 := (QA.out.later hT).c1; go_simp); try with_reducible rfl)
  try simp only [List.getElem_toArray, List.getElem_cons_succ, List.getElem_cons_zero, Act.put, List.setIfInBounds_toArray, List.set_cons_zero, List.set_cons_succ]
  refine GoS.pure (i := 7) (v := ?_) rfl (by kernel_rfl) (by kernel_rfl) (by kernel_rfl) (by kernel_rfl) (fun _ _ _ h => h) (Or.inl ⟨by rfl, ?hy8⟩) (fun _ => HS) ?_
  case hy8 => ((intro u' hT; go_simp); try with_reducible rfl)
  try simp only [List.getElem_toArray, List.getElem_cons_succ, List.getElem_cons_zero, Act.put, List.setIfInBounds_toArray, List.set_cons_zero, List.set_cons_succ]
  refine GoS.take (i := 8) (v := ?_) rfl (by kernel_rfl) (by kernel_rfl) (by kernel_rfl) (by kernel_rfl) (fun _ _ _ h => h) (Or.inl ⟨by rfl, ?hy9⟩) HS ?_
  case hy9 => ((intro u' hT; have d1 := (QB.out.later hT).c1; go_simp); try with_reducible rfl)
  try simp only [List.getElem_toArray, List.getElem_cons_succ, List.getElem_cons_zero, Act.put, List.setIfInBounds_toArray, List.set_cons_zero, List.set_cons_succ]
  refine GoS.pure (i := 10) (v := ?_) rfl (by kernel_rfl) (by kernel_rfl) (by kernel_rfl) (by kernel_rfl) (fun _ _ _ h => h) (Or.inl ⟨by rfl, ?hy10⟩) (fun _ => HS) ?_
  case hy10 => ((intro u' hT; go_simp); try with_reducible rfl)
  try simp only [List.getElem_toArray, List.getElem_cons_succ, List.getElem_cons_zero, Act.put, List.setIfInBounds_toArray, List.set_cons_zero, List.set_cons_succ]
  refine GoS.take (i := 11) (v := ?_) rfl (by kernel_rfl) (by kernel_rfl) (by kernel_rfl) (by kernel_rfl) (fun _ _ _ h => h) (Or.inl ⟨by rfl, ?hy11⟩) HS ?_
  case hy11 => ((intro u' hT; have d1 := (QA.out.later hT).c2; go_simp); try with_reducible rfl)
  try simp only [List.getElem_toArray, List.getElem_cons_succ, List.getElem_cons_zero, Act.put, List.setIfInBounds_toArray, List.set_cons_zero, List.set_cons_succ]
  refine GoS.pure (i := 12) (v := ?_) rfl (by kernel_rfl) (by kernel_rfl) (by kernel_rfl) (by kernel_rfl) (fun _ _ _ h => h) (Or.inl ⟨by rfl, ?hy12⟩) (fun _ => HS) ?_
  case hy12 => ((intro u' hT; go_simp); try with_reducible rfl)
  try simp only [List.getElem_toArray, List.getElem_cons_succ, List.getElem_cons_zero, Act.put, List.setIfInBounds_toArray, List.set_cons_zero, List.set_cons_succ]
  refine GoS.take (i := 13) (v := ?_) rfl (by kernel_rfl) (by kernel_rfl) (by kernel_rfl) (by kernel_rfl) (fun _ _ _ h => h) (Or.inl ⟨by rfl, ?hy13⟩) HS ?_
  case hy13 => ((intro u' hT; have d1 := (QB.out.later hT).c2; go_simp); try with_reducible rfl)
  try simp only [List.getElem_toArray, List.getElem_cons_succ, List.getElem_cons_zero, Act.put, List.setIfInBounds_toArray, List.set_cons_zero, List.set_cons_succ]
  refine GoS.one (i := 9) (by kernel_rfl) rfl (fun K hK => ?_)
  go_simp
  (with_reducible refine (nmul_any (NAW.out.later HS) (NBW.out.later HS) HFN.out).mono ?_)
  rintro e q14 ⟨v5, rfl, hv, hx⟩
  have HS2 := HS.trans hx; clear HS; have HS := HS2; clear HS2 hx
  go_wp2_with fail
  refine hK.out _ _ HS (fun _ => ?_)
  clear hK K
  try simp only [List.getElem_toArray, List.getElem_cons_succ, List.getElem_cons_zero, Act.put, List.setIfInBounds_toArray, List.set_cons_zero, List.set_cons_succ]
  have V5 := Lib.hid hv; clear hv
  refine GoS.one (i := 14) (by kernel_rfl) rfl (fun K hK => ?_)
  go_simp
  (with_reducible refine (nmul_any (DAW.out.later HS) (DBW.out.later HS) HFD.out).mono ?_)
  rintro e q15 ⟨v6, rfl, hv, hx⟩
  have V5b := Lib.hid (V5.out.later hx); clear V5
  have HS2 := HS.trans hx; clear HS; have HS := HS2; clear HS2 hx
  go_wp2_with fail
  refine hK.out _ _ HS (fun _ => ?_)
  clear hK K
  try simp only [List.getElem_toArray, List.getElem_cons_succ, List.getElem_cons_zero, Act.put, List.setIfInBounds_toArray, List.set_cons_zero, List.set_cons_succ]
  have V6 := Lib.hid hv; clear hv
  obtain ⟨a5, L5, C5, rfl⟩ := V5b.out.shape
  obtain ⟨a6, L6, C6, rfl⟩ := V6.out.shape
  refine GoS.pure (i := 15) (v := ?_) rfl (by kernel_rfl) (by kernel_rfl) (by kernel_rfl) (by kernel_rfl) (fun _ _ _ h => h) (Or.inl ⟨by rfl, ?hy16⟩) (fun _ => HS) ?_
  case hy16 => ((intro u' hT; go_simp); try with_reducible rfl)
  try simp only [List.getElem_toArray, List.getElem_cons_succ, List.getElem_cons_zero, Act.put, List.setIfInBounds_toArray, List.set_cons_zero, List.set_cons_succ]
  refine GoS.one (i := 16) (by kernel_rfl) rfl (fun K hK => ?_)
  go_simp
  (with_reducible refine (round_eq V5b.out V6.out HRK.out.pos rfl HRK.out.fit HRK.out.all HRK.out.near HV.out).mono ?_)
  rintro e q17 ⟨rfl, hx⟩
  have HS2 := HS.trans hx; clear HS; have HS := HS2; clear HS2 hx
  go_wp2_with fail
  refine hK.out _ _ HS (fun _ => ?_)
  clear hK K
  try simp only [List.getElem_toArray, List.getElem_cons_succ, List.getElem_cons_zero, Act.put, List.setIfInBounds_toArray, List.set_cons_zero, List.set_cons_succ]
  have z0 := (ZW.out.later HS).c0; have z1 := (ZW.out.later HS).c1; have z2 := (ZW.out.later HS).c2; have zf := (ZW.out.later HS).fz
  have X9 := Lib.hid (XW.out.trans HS)
  refine GoS.store (i := 17) (by kernel_rfl) rfl (by kernel_rfl) (fun K hK => ?_)
  go_simp
  refine hK.out _ _ ?_
  clear hK K
  try simp only [List.getElem_toArray, List.getElem_cons_succ, List.getElem_cons_zero, Act.put, List.setIfInBounds_toArray, List.set_cons_zero, List.set_cons_succ]
  refine GoS.done (by kernel_rfl) ?_
  go_wp2
  refine bodyPost_ret (v := .agg #[.int .i64 rm, .int .i64 rx, .bool ok]) ?_ rfl ⟨rfl, ?_⟩
  · simp [results, Tryz.results37, go_sem, z0, z1, z2]
  · repeat (first | with_reducible exact X9.out | with_reducible refine Ext.setCell ?_ (by simp; try omega) _)
set_option maxRecDepth 100000 in
set_option maxHeartbeats 4000000 in
theorem rdiv_walk (m x n y rm rx : Int) (ok : Bool) (ba bb : Bool) (A B d1 d2 : Nat) (OA : OfTo m x ba A d1) (OB : OfTo n y bb B d2) (r : Nat) (RK : Rok A B r) (hV : rndV (resI (ba != bb) r) = .agg #[.int .i64 rm, .int .i64 rx, .bool ok]) (w : World) :
    Calls Tryz.prog 38 #[.agg #[.int .i64 m, .int .i64 x], .agg #[.int .i64 n, .int .i64 y]] w fun e w' => e = .returned (.agg #[.int .i64 rm, .int .i64 rx, .bool ok]) ∧ Ext w w' := by
  have HOA := Lib.hid OA; have HOB := Lib.hid OB; clear OA OB
  have HRK := Lib.hid RK; have HV := Lib.hid hV
  clear RK hV
  go_enter Tryz.func38, Tryz.ntmps38
  go_upto_region 1 with (fail)
  have X0 : Hid (Ext w (((w.alloc (.cells #[.int .i64 m, .int .i64 x] 23)).alloc (.cells #[.int .i64 n, .int .i64 y] 23)).alloc (.cells #[.int .i64 0, .int .i64 0, .bool false] 43))) := Lib.hid ((((Ext.refl w).alloc _).alloc _).alloc _)
  have ZB : Hid (Zb (((w.alloc (.cells #[.int .i64 m, .int .i64 x] 23)).alloc (.cells #[.int .i64 n, .int .i64 y] 23)).alloc (.cells #[.int .i64 0, .int .i64 0, .bool false] 43)) (w.heap.size + 1 + 1)) := Lib.hid ⟨by simp [go_sem], by simp [go_sem], by simp [go_sem], fun j => by simp [go_sem], by simp [go_sem]⟩
  have cx0 : (((w.alloc (.cells #[.int .i64 m, .int .i64 x] 23)).alloc (.cells #[.int .i64 n, .int .i64 y] 23)).alloc (.cells #[.int .i64 0, .int .i64 0, .bool false] 43)).cell? ⟨w.heap.size, 0, none⟩ = some (.int .i64 m) := by simp [go_sem]
  have cx1 : (((w.alloc (.cells #[.int .i64 m, .int .i64 x] 23)).alloc (.cells #[.int .i64 n, .int .i64 y] 23)).alloc (.cells #[.int .i64 0, .int .i64 0, .bool false] 43)).cell? ⟨w.heap.size, 1, none⟩ = some (.int .i64 x) := by simp [go_sem]
  have cy0 : (((w.alloc (.cells #[.int .i64 m, .int .i64 x] 23)).alloc (.cells #[.int .i64 n, .int .i64 y] 23)).alloc (.cells #[.int .i64 0, .int .i64 0, .bool false] 43)).cell? ⟨w.heap.size + 1, 0, none⟩ = some (.int .i64 n) := by simp [go_sem]
  have cy1 : (((w.alloc (.cells #[.int .i64 m, .int .i64 x] 23)).alloc (.cells #[.int .i64 n, .int .i64 y] 23)).alloc (.cells #[.int .i64 0, .int .i64 0, .bool false] 43)).cell? ⟨w.heap.size + 1, 1, none⟩ = some (.int .i64 y) := by simp [go_sem]
  have ly : w.heap.size + 1 < (((w.alloc (.cells #[.int .i64 m, .int .i64 x] 23)).alloc (.cells #[.int .i64 n, .int .i64 y] 23)).alloc (.cells #[.int .i64 0, .int .i64 0, .bool false] 43)).heap.size := by simp [go_sem]
  generalize ((w.alloc (.cells #[.int .i64 m, .int .i64 x] 23)).alloc (.cells #[.int .i64 n, .int .i64 y] 23)).alloc (.cells #[.int .i64 0, .int .i64 0, .bool false] 43) = W0 at *
  have LY := Lib.hid ly; have CY0 := Lib.hid cy0; have CY1 := Lib.hid cy1
  clear ly cy0 cy1
  go_wp2_with fail
  refine (HOA.out _).mono ?_
  rintro e w1 ⟨⟨a1, L1, C1, a2, L2, C2, rfl, hn, hd⟩, hx⟩
  have NA := Lib.hid hn; have DA := Lib.hid hd; have XA := Lib.hid hx
  clear hn hd hx cx0 cx1
  have cy0 : ∀ ob, (w1.alloc ob).cell? ⟨w.heap.size + 1, 0, none⟩ = some (.int .i64 n) := fun ob => ((XA.out.alloc ob).cell 0 LY.out).trans CY0.out
  have cy1 : ∀ ob, (w1.alloc ob).cell? ⟨w.heap.size + 1, 1, none⟩ = some (.int .i64 y) := fun ob => ((XA.out.alloc ob).cell 1 LY.out).trans CY1.out
  go_wp2_with fail
  refine (HOB.out _).mono ?_
  rintro e w2 ⟨⟨a3, L3, C3, a4, L4, C4, rfl, hn, hd⟩, hx⟩
  clear cy0 cy1
  have XW := Lib.hid (((X0.out.trans XA.out).alloc (.cells #[.bool ba, .slice a1 L1 C1, .slice a2 L2 C2] 73)).trans (hx.alloc (.cells #[.bool bb, .slice a3 L3 C3, .slice a4 L4 C4] 73)))
  have ZW := Lib.hid (ZB.out.later ((XA.out.alloc (.cells #[.bool ba, .slice a1 L1 C1, .slice a2 L2 C2] 73)).trans (hx.alloc (.cells #[.bool bb, .slice a3 L3 C3, .slice a4 L4 C4] 73))))
  have QA : Hid (Qb (w2.alloc (.cells #[.bool bb, .slice a3 L3 C3, .slice a4 L4 C4] 73)) w1.heap.size ba (.slice a1 L1 C1) (.slice a2 L2 C2)) := Lib.hid ((⟨by simp [go_sem], by simp [go_sem], by simp [go_sem], by simp⟩ : Qb (w1.alloc (.cells #[.bool ba, .slice a1 L1 C1, .slice a2 L2 C2] 73)) w1.heap.size ba (.slice a1 L1 C1) (.slice a2 L2 C2)).later (hx.alloc _))
  have QB : Hid (Qb (w2.alloc (.cells #[.bool bb, .slice a3 L3 C3, .slice a4 L4 C4] 73)) w2.heap.size bb (.slice a3 L3 C3) (.slice a4 L4 C4)) := Lib.hid ⟨by simp [go_sem], by simp [go_sem], by simp [go_sem], by simp⟩
  have NAW := Lib.hid (NA.out.later ((Ext.refl w1).alloc (.cells #[.bool ba, .slice a1 L1 C1, .slice a2 L2 C2] 73) |>.trans (hx.alloc (.cells #[.bool bb, .slice a3 L3 C3, .slice a4 L4 C4] 73))))
  have DAW := Lib.hid (DA.out.later ((Ext.refl w1).alloc (.cells #[.bool ba, .slice a1 L1 C1, .slice a2 L2 C2] 73) |>.trans (hx.alloc (.cells #[.bool bb, .slice a3 L3 C3, .slice a4 L4 C4] 73))))
  have NBW := Lib.hid (hn.later ((Ext.refl w2).alloc (.cells #[.bool bb, .slice a3 L3 C3, .slice a4 L4 C4] 73)))
  have DBW := Lib.hid (hd.later ((Ext.refl w2).alloc (.cells #[.bool bb, .slice a3 L3 C3, .slice a4 L4 C4] 73)))
  clear hn hd hx X0 XA ZB NA DA LY CY0 CY1 HOA HOB
  go_upto_region 3 with (fail)
  generalize w2.alloc (.cells #[.bool bb, .slice a3 L3 C3, .slice a4 L4 C4] 73) = W at *
  have q0 := QA.out.c0; have q1 := QA.out.c1; have p0 := QB.out.c0; have p1 := QB.out.c1
  go_wp2_with fail
  refine (round_eq NAW.out NBW.out HRK.out.pos rfl HRK.out.fit HRK.out.all HRK.out.near HV.out).mono ?_
  rintro e w5 ⟨rfl, HS⟩
  clear q0 q1 p0 p1
  have z0 := (ZW.out.later HS).c0; have z1 := (ZW.out.later HS).c1; have z2 := (ZW.out.later HS).c2; have zf := (ZW.out.later HS).fz
  have X9 := Lib.hid (XW.out.trans HS)
  go_wp2
  refine bodyPost_ret (v := .agg #[.int .i64 rm, .int .i64 rx, .bool ok]) ?_ rfl ⟨rfl, ?_⟩
  · simp [results, Tryz.results38, go_sem, z0, z1, z2]
  · repeat (first | with_reducible exact X9.out | with_reducible refine Ext.setCell ?_ (by simp; try omega) _)
set_option maxRecDepth 100000 in
set_option maxHeartbeats 4000000 in
theorem radd_same (m x n y rm rx : Int) (ok : Bool) (bs : Bool) (A B d1 d2 : Nat) (OA : OfTo m x bs A d1) (OB : OfTo n y bs B d2) (hfn : Fits (A + B)) (r : Nat) (RK : Rok (A + B) d1 r) (hV : rndV (resI bs r) = .agg #[.int .i64 rm, .int .i64 rx, .bool ok]) (w : World) :
    Calls Tryz.prog 31 #[.agg #[.int .i64 m, .int .i64 x], .agg #[.int .i64 n, .int .i64 y]] w fun e w' => e = .returned (.agg #[.int .i64 rm, .int .i64 rx, .bool ok]) ∧ Ext w w' := by
  have HOA := Lib.hid OA; have HOB := Lib.hid OB; clear OA OB
  have HFN := Lib.hid hfn; have HRK := Lib.hid RK; have HV := Lib.hid hV
  clear hfn RK hV
  go_enter Tryz.func31, Tryz.ntmps31
  go_upto_region 1 with (fail)
  have X0 : Hid (Ext w (((w.alloc (.cells #[.int .i64 m, .int .i64 x] 23)).alloc (.cells #[.int .i64 n, .int .i64 y] 23)).alloc (.cells #[.int .i64 0, .int .i64 0, .bool false] 43))) := Lib.hid ((((Ext.refl w).alloc _).alloc _).alloc _)
  have ZB : Hid (Zb (((w.alloc (.cells #[.int .i64 m, .int .i64 x] 23)).alloc (.cells #[.int .i64 n, .int .i64 y] 23)).alloc (.cells #[.int .i64 0, .int .i64 0, .bool false] 43)) (w.heap.size + 1 + 1)) := Lib.hid ⟨by simp [go_sem], by simp [go_sem], by simp [go_sem], fun j => by simp [go_sem], by simp [go_sem]⟩
  have cx0 : (((w.alloc (.cells #[.int .i64 m, .int .i64 x] 23)).alloc (.cells #[.int .i64 n, .int .i64 y] 23)).alloc (.cells #[.int .i64 0, .int .i64 0, .bool false] 43)).cell? ⟨w.heap.size, 0, none⟩ = some (.int .i64 m) := by simp [go_sem]
  have cx1 : (((w.alloc (.cells #[.int .i64 m, .int .i64 x] 23)).alloc (.cells #[.int .i64 n, .int .i64 y] 23)).alloc (.cells #[.int .i64 0, .int .i64 0, .bool false] 43)).cell? ⟨w.heap.size, 1, none⟩ = some (.int .i64 x) := by simp [go_sem]
  have cy0 : (((w.alloc (.cells #[.int .i64 m, .int .i64 x] 23)).alloc (.cells #[.int .i64 n, .int .i64 y] 23)).alloc (.cells #[.int .i64 0, .int .i64 0, .bool false] 43)).cell? ⟨w.heap.size + 1, 0, none⟩ = some (.int .i64 n) := by simp [go_sem]
  have cy1 : (((w.alloc (.cells #[.int .i64 m, .int .i64 x] 23)).alloc (.cells #[.int .i64 n, .int .i64 y] 23)).alloc (.cells #[.int .i64 0, .int .i64 0, .bool false] 43)).cell? ⟨w.heap.size + 1, 1, none⟩ = some (.int .i64 y) := by simp [go_sem]
  have ly : w.heap.size + 1 < (((w.alloc (.cells #[.int .i64 m, .int .i64 x] 23)).alloc (.cells #[.int .i64 n, .int .i64 y] 23)).alloc (.cells #[.int .i64 0, .int .i64 0, .bool false] 43)).heap.size := by simp [go_sem]
  generalize ((w.alloc (.cells #[.int .i64 m, .int .i64 x] 23)).alloc (.cells #[.int .i64 n, .int .i64 y] 23)).alloc (.cells #[.int .i64 0, .int .i64 0, .bool false] 43) = W0 at *
  have LY := Lib.hid ly; have CY0 := Lib.hid cy0; have CY1 := Lib.hid cy1
  clear ly cy0 cy1
  go_wp2_with fail
  refine (HOA.out _).mono ?_
  rintro e w1 ⟨⟨a1, L1, C1, a2, L2, C2, rfl, hn, hd⟩, hx⟩
  have NA := Lib.hid hn; have DA := Lib.hid hd; have XA := Lib.hid hx
  clear hn hd hx cx0 cx1
  have cy0 : ∀ ob, (w1.alloc ob).cell? ⟨w.heap.size + 1, 0, none⟩ = some (.int .i64 n) := fun ob => ((XA.out.alloc ob).cell 0 LY.out).trans CY0.out
  have cy1 : ∀ ob, (w1.alloc ob).cell? ⟨w.heap.size + 1, 1, none⟩ = some (.int .i64 y) := fun ob => ((XA.out.alloc ob).cell 1 LY.out).trans CY1.out
  go_wp2_with fail
  refine (HOB.out _).mono ?_
  rintro e w2 ⟨⟨a3, L3, C3, a4, L4, C4, rfl, hn, hd⟩, hx⟩
  clear cy0 cy1
  have XW := Lib.hid (((X0.out.trans XA.out).alloc (.cells #[.bool bs, .slice a1 L1 C1, .slice a2 L2 C2] 73)).trans (hx.alloc (.cells #[.bool bs, .slice a3 L3 C3, .slice a4 L4 C4] 73)))
  have ZW := Lib.hid (ZB.out.later ((XA.out.alloc (.cells #[.bool bs, .slice a1 L1 C1, .slice a2 L2 C2] 73)).trans (hx.alloc (.cells #[.bool bs, .slice a3 L3 C3, .slice a4 L4 C4] 73))))
  have QA : Hid (Qb (w2.alloc (.cells #[.bool bs, .slice a3 L3 C3, .slice a4 L4 C4] 73)) w1.heap.size bs (.slice a1 L1 C1) (.slice a2 L2 C2)) := Lib.hid ((⟨by simp [go_sem], by simp [go_sem], by simp [go_sem], by simp⟩ : Qb (w1.alloc (.cells #[.bool bs, .slice a1 L1 C1, .slice a2 L2 C2] 73)) w1.heap.size bs (.slice a1 L1 C1) (.slice a2 L2 C2)).later (hx.alloc _))
  have QB : Hid (Qb (w2.alloc (.cells #[.bool bs, .slice a3 L3 C3, .slice a4 L4 C4] 73)) w2.heap.size bs (.slice a3 L3 C3) (.slice a4 L4 C4)) := Lib.hid ⟨by simp [go_sem], by simp [go_sem], by simp [go_sem], by simp⟩
  have NAW := Lib.hid (NA.out.later ((Ext.refl w1).alloc (.cells #[.bool bs, .slice a1 L1 C1, .slice a2 L2 C2] 73) |>.trans (hx.alloc (.cells #[.bool bs, .slice a3 L3 C3, .slice a4 L4 C4] 73))))
  have DAW := Lib.hid (DA.out.later ((Ext.refl w1).alloc (.cells #[.bool bs, .slice a1 L1 C1, .slice a2 L2 C2] 73) |>.trans (hx.alloc (.cells #[.bool bs, .slice a3 L3 C3, .slice a4 L4 C4] 73))))
  have NBW := Lib.hid (hn.later ((Ext.refl w2).alloc (.cells #[.bool bs, .slice a3 L3 C3, .slice a4 L4 C4] 73)))
  have DBW := Lib.hid (hd.later ((Ext.refl w2).alloc (.cells #[.bool bs, .slice a3 L3 C3, .slice a4 L4 C4] 73)))
  clear hn hd hx X0 XA ZB NA DA LY CY0 CY1 HOA HOB
  go_upto_region 3 with (fail)
  generalize w2.alloc (.cells #[.bool bs, .slice a3 L3 C3, .slice a4 L4 C4] 73) = W at *
  have q0 := QA.out.c0; have p0 := QB.out.c0
  go_upto_region 4 with (fail)
  clear q0 p0
  refine wp_region_S (fun uu : World => Ext W uu) 11 (by kernel_rfl) ?_
  have HS : Ext W W.drew := (Ext.refl W).drew
  refine GoS.pure (i := 0) (v := ?_) rfl (by kernel_rfl) (by kernel_rfl) (by kernel_rfl) (by kernel_rfl) (fun _ _ _ h => h) (Or.inl ⟨by rfl, ?hy18⟩) (fun _ => HS) ?_
  case hy18 => ((intro u' hT; go_simp); try with_reducible rfl)
  try simp only [List.getElem_toArray, List.getElem_cons_zero, Act.put, List.setIfInBounds_toArray, List.set_cons_zero, List.set_cons_succ]
  refine GoS.take (i := 1) (v := ?_) rfl (by kernel_rfl) (by kernel_rfl) (by kernel_rfl) (by kernel_rfl) (fun _ _ _ h => h) (Or.inl ⟨by rfl, ?hy19⟩) HS ?_
  case hy19 => ((intro u' hT; have d1 := (QA.out.later hT).c0; go_simp); try with_reducible rfl)
  try simp only [List.getElem_toArray, List.getElem_cons_succ, List.getElem_cons_zero, Act.put, List.setIfInBounds_toArray, List.set_cons_zero, List.set_cons_succ]
  refine GoS.pure (i := 2) (v := ?_) rfl (by kernel_rfl) (by kernel_rfl) (by kernel_rfl) (by kernel_rfl) (fun _ _ _ h => h) (Or.inl ⟨by rfl, ?hy20⟩) (fun _ => HS) ?_
  case hy20 => ((intro u' hT; go_simp); try with_reducible rfl)
  try simp only [List.getElem_toArray, List.getElem_cons_succ, List.getElem_cons_zero, Act.put, List.setIfInBounds_toArray, List.set_cons_zero, List.set_cons_succ]
  refine GoS.take (i := 3) (v := ?_) rfl (by kernel_rfl) (by kernel_rfl) (by kernel_rfl) (by kernel_rfl) (fun _ _ _ h => h) (Or.inl ⟨by rfl, ?hy21⟩) HS ?_
  case hy21 => ((intro u' hT; have d1 := (QA.out.later hT).c1; go_simp); try with_reducible rfl)
  try simp only [List.getElem_toArray, List.getElem_cons_succ, List.getElem_cons_zero, Act.put, List.setIfInBounds_toArray, List.set_cons_zero, List.set_cons_succ]
  refine GoS.pure (i := 4) (v := ?_) rfl (by kernel_rfl) (by kernel_rfl) (by kernel_rfl) (by kernel_rfl) (fun _ _ _ h => h) (Or.inl ⟨by rfl, ?hy22⟩) (fun _ => HS) ?_
  case hy22 => ((intro u' hT; go_simp); try with_reducible rfl)
  try simp only [List.getElem_toArray, List.getElem_cons_succ, List.getElem_cons_zero, Act.put, List.setIfInBounds_toArray, List.set_cons_zero, List.set_cons_succ]
  refine GoS.take (i := 5) (v := ?_) rfl (by kernel_rfl) (by kernel_rfl) (by kernel_rfl) (by kernel_rfl) (fun _ _ _ h => h) (Or.inl ⟨by rfl, ?hy23⟩) HS ?_
  case hy23 => ((intro u' hT; have d1 := (QB.out.later hT).c1; go_simp); try with_reducible rfl)
  try simp only [List.getElem_toArray, List.getElem_cons_succ, List.getElem_cons_zero, Act.put, List.setIfInBounds_toArray, List.set_cons_zero, List.set_cons_succ]
  refine GoS.pure (i := 7) (v := ?_) rfl (by kernel_rfl) (by kernel_rfl) (by kernel_rfl) (by kernel_rfl) (fun _ _ _ h => h) (Or.inl ⟨by rfl, ?hy24⟩) (fun _ => HS) ?_
  case hy24 => ((intro u' hT; go_simp); try with_reducible rfl)
  try simp only [List.getElem_toArray, List.getElem_cons_succ, List.getElem_cons_zero, Act.put, List.setIfInBounds_toArray, List.set_cons_zero, List.set_cons_succ]
  refine GoS.take (i := 8) (v := ?_) rfl (by kernel_rfl) (by kernel_rfl) (by kernel_rfl) (by kernel_rfl) (fun _ _ _ h => h) (Or.inl ⟨by rfl, ?hy25⟩) HS ?_
  case hy25 => ((intro u' hT; have d1 := (QA.out.later hT).c2; go_simp); try with_reducible rfl)
  try simp only [List.getElem_toArray, List.getElem_cons_succ, List.getElem_cons_zero, Act.put, List.setIfInBounds_toArray, List.set_cons_zero, List.set_cons_succ]
  refine GoS.one (i := 6) (by kernel_rfl) rfl (fun K hK => ?_)
  go_simp
  (with_reducible refine (nadd_any (NAW.out.later HS) (NBW.out.later HS) HFN.out).mono ?_)
  rintro e q26 ⟨v5, rfl, hv, hx⟩
  have HS2 := HS.trans hx; clear HS; have HS := HS2; clear HS2 hx
  go_wp2_with fail
  refine hK.out _ _ HS (fun _ => ?_)
  clear hK K
  try simp only [List.getElem_toArray, List.getElem_cons_succ, List.getElem_cons_zero, Act.put, List.setIfInBounds_toArray, List.set_cons_zero, List.set_cons_succ]
  have V5 := Lib.hid hv; clear hv
  obtain ⟨a5, L5, C5, rfl⟩ := V5.out.shape
  refine GoS.pure (i := 9) (v := ?_) rfl (by kernel_rfl) (by kernel_rfl) (by kernel_rfl) (by kernel_rfl) (fun _ _ _ h => h) (Or.inl ⟨by rfl, ?hy27⟩) (fun _ => HS) ?_
  case hy27 => ((intro u' hT; go_simp); try with_reducible rfl)
  try simp only [List.getElem_toArray, List.getElem_cons_succ, List.getElem_cons_zero, Act.put, List.setIfInBounds_toArray, List.set_cons_zero, List.set_cons_succ]
  refine GoS.one (i := 10) (by kernel_rfl) rfl (fun K hK => ?_)
  go_simp
  (with_reducible refine (round_eq V5.out (DAW.out.later HS) HRK.out.pos rfl HRK.out.fit HRK.out.all HRK.out.near HV.out).mono ?_)
  rintro e q28 ⟨rfl, hx⟩
  have HS2 := HS.trans hx; clear HS; have HS := HS2; clear HS2 hx
  go_wp2_with fail
  refine hK.out _ _ HS (fun _ => ?_)
  clear hK K
  try simp only [List.getElem_toArray, List.getElem_cons_succ, List.getElem_cons_zero, Act.put, List.setIfInBounds_toArray, List.set_cons_zero, List.set_cons_succ]
  have z0 := (ZW.out.later HS).c0; have z1 := (ZW.out.later HS).c1; have z2 := (ZW.out.later HS).c2; have zf := (ZW.out.later HS).fz
  have X9 := Lib.hid (XW.out.trans HS)
  refine GoS.store (i := 11) (by kernel_rfl) rfl (by kernel_rfl) (fun K hK => ?_)
  go_simp
  refine hK.out _ _ ?_
  clear hK K
  try simp only [List.getElem_toArray, List.getElem_cons_succ, List.getElem_cons_zero, Act.put, List.setIfInBounds_toArray, List.set_cons_zero, List.set_cons_succ]
  refine GoS.done (by kernel_rfl) ?_
  go_wp2
  refine bodyPost_ret (v := .agg #[.int .i64 rm, .int .i64 rx, .bool ok]) ?_ rfl ⟨rfl, ?_⟩
  · simp [results, Tryz.results31, go_sem, z0, z1, z2]
  · repeat (first | with_reducible exact X9.out | with_reducible refine Ext.setCell ?_ (by simp; try omega) _)
set_option maxRecDepth 100000 in
set_option maxHeartbeats 4000000 in
theorem radd_true_ge (m x n y rm rx : Int) (ok : Bool)  (A B d1 d2 : Nat) (OA : OfTo m x true A d1) (OB : OfTo n y false B d2) (c : Int) (hc : cmpI A B = c) (hg : c ≥ 0) (hle : B ≤ A) (hfn : Fits A) (r : Nat) (RK : Rok (A - B) d1 r) (hV : rndV (resI true r) = .agg #[.int .i64 rm, .int .i64 rx, .bool ok]) (w : World) :
    Calls Tryz.prog 31 #[.agg #[.int .i64 m, .int .i64 x], .agg #[.int .i64 n, .int .i64 y]] w fun e w' => e = .returned (.agg #[.int .i64 rm, .int .i64 rx, .bool ok]) ∧ Ext w w' := by
  have HOA := Lib.hid OA; have HOB := Lib.hid OB; clear OA OB
  have HC := Lib.hid hc; have HLE := Lib.hid hle; have HFN := Lib.hid hfn; have HRK := Lib.hid RK; have HV := Lib.hid hV
  clear hc hle hfn RK hV
  go_enter Tryz.func31, Tryz.ntmps31
  go_upto_region 1 with (fail)
  have X0 : Hid (Ext w (((w.alloc (.cells #[.int .i64 m, .int .i64 x] 23)).alloc (.cells #[.int .i64 n, .int .i64 y] 23)).alloc (.cells #[.int .i64 0, .int .i64 0, .bool false] 43))) := Lib.hid ((((Ext.refl w).alloc _).alloc _).alloc _)
  have ZB : Hid (Zb (((w.alloc (.cells #[.int .i64 m, .int .i64 x] 23)).alloc (.cells #[.int .i64 n, .int .i64 y] 23)).alloc (.cells #[.int .i64 0, .int .i64 0, .bool false] 43)) (w.heap.size + 1 + 1)) := Lib.hid ⟨by simp [go_sem], by simp [go_sem], by simp [go_sem], fun j => by simp [go_sem], by simp [go_sem]⟩
  have cx0 : (((w.alloc (.cells #[.int .i64 m, .int .i64 x] 23)).alloc (.cells #[.int .i64 n, .int .i64 y] 23)).alloc (.cells #[.int .i64 0, .int .i64 0, .bool false] 43)).cell? ⟨w.heap.size, 0, none⟩ = some (.int .i64 m) := by simp [go_sem]
  have cx1 : (((w.alloc (.cells #[.int .i64 m, .int .i64 x] 23)).alloc (.cells #[.int .i64 n, .int .i64 y] 23)).alloc (.cells #[.int .i64 0, .int .i64 0, .bool false] 43)).cell? ⟨w.heap.size, 1, none⟩ = some (.int .i64 x) := by simp [go_sem]
  have cy0 : (((w.alloc (.cells #[.int .i64 m, .int .i64 x] 23)).alloc (.cells #[.int .i64 n, .int .i64 y] 23)).alloc (.cells #[.int .i64 0, .int .i64 0, .bool false] 43)).cell? ⟨w.heap.size + 1, 0, none⟩ = some (.int .i64 n) := by simp [go_sem]
  have cy1 : (((w.alloc (.cells #[.int .i64 m, .int .i64 x] 23)).alloc (.cells #[.int .i64 n, .int .i64 y] 23)).alloc (.cells #[.int .i64 0, .int .i64 0, .bool false] 43)).cell? ⟨w.heap.size + 1, 1, none⟩ = some (.int .i64 y) := by simp [go_sem]
  have ly : w.heap.size + 1 < (((w.alloc (.cells #[.int .i64 m, .int .i64 x] 23)).alloc (.cells #[.int .i64 n, .int .i64 y] 23)).alloc (.cells #[.int .i64 0, .int .i64 0, .bool false] 43)).heap.size := by simp [go_sem]
  generalize ((w.alloc (.cells #[.int .i64 m, .int .i64 x] 23)).alloc (.cells #[.int .i64 n, .int .i64 y] 23)).alloc (.cells #[.int .i64 0, .int .i64 0, .bool false] 43) = W0 at *
  have LY := Lib.hid ly; have CY0 := Lib.hid cy0; have CY1 := Lib.hid cy1
  clear ly cy0 cy1
  go_wp2_with fail
  refine (HOA.out _).mono ?_
  rintro e w1 ⟨⟨a1, L1, C1, a2, L2, C2, rfl, hn, hd⟩, hx⟩
  have NA := Lib.hid hn; have DA := Lib.hid hd; have XA := Lib.hid hx
  clear hn hd hx cx0 cx1
  have cy0 : ∀ ob, (w1.alloc ob).cell? ⟨w.heap.size + 1, 0, none⟩ = some (.int .i64 n) := fun ob => ((XA.out.alloc ob).cell 0 LY.out).trans CY0.out
  have cy1 : ∀ ob, (w1.alloc ob).cell? ⟨w.heap.size + 1, 1, none⟩ = some (.int .i64 y) := fun ob => ((XA.out.alloc ob).cell 1 LY.out).trans CY1.out
  go_wp2_with fail
  refine (HOB.out _).mono ?_
  rintro e w2 ⟨⟨a3, L3, C3, a4, L4, C4, rfl, hn, hd⟩, hx⟩
  clear cy0 cy1
  have XW := Lib.hid (((X0.out.trans XA.out).alloc (.cells #[.bool true, .slice a1 L1 C1, .slice a2 L2 C2] 73)).trans (hx.alloc (.cells #[.bool false, .slice a3 L3 C3, .slice a4 L4 C4] 73)))
  have ZW := Lib.hid (ZB.out.later ((XA.out.alloc (.cells #[.bool true, .slice a1 L1 C1, .slice a2 L2 C2] 73)).trans (hx.alloc (.cells #[.bool false, .slice a3 L3 C3, .slice a4 L4 C4] 73))))
  have QA : Hid (Qb (w2.alloc (.cells #[.bool false, .slice a3 L3 C3, .slice a4 L4 C4] 73)) w1.heap.size true (.slice a1 L1 C1) (.slice a2 L2 C2)) := Lib.hid ((⟨by simp [go_sem], by simp [go_sem], by simp [go_sem], by simp⟩ : Qb (w1.alloc (.cells #[.bool true, .slice a1 L1 C1, .slice a2 L2 C2] 73)) w1.heap.size true (.slice a1 L1 C1) (.slice a2 L2 C2)).later (hx.alloc _))
  have QB : Hid (Qb (w2.alloc (.cells #[.bool false, .slice a3 L3 C3, .slice a4 L4 C4] 73)) w2.heap.size false (.slice a3 L3 C3) (.slice a4 L4 C4)) := Lib.hid ⟨by simp [go_sem], by simp [go_sem], by simp [go_sem], by simp⟩
  have NAW := Lib.hid (NA.out.later ((Ext.refl w1).alloc (.cells #[.bool true, .slice a1 L1 C1, .slice a2 L2 C2] 73) |>.trans (hx.alloc (.cells #[.bool false, .slice a3 L3 C3, .slice a4 L4 C4] 73))))
  have DAW := Lib.hid (DA.out.later ((Ext.refl w1).alloc (.cells #[.bool true, .slice a1 L1 C1, .slice a2 L2 C2] 73) |>.trans (hx.alloc (.cells #[.bool false, .slice a3 L3 C3, .slice a4 L4 C4] 73))))
  have NBW := Lib.hid (hn.later ((Ext.refl w2).alloc (.cells #[.bool false, .slice a3 L3 C3, .slice a4 L4 C4] 73)))
  have DBW := Lib.hid (hd.later ((Ext.refl w2).alloc (.cells #[.bool false, .slice a3 L3 C3, .slice a4 L4 C4] 73)))
  clear hn hd hx X0 XA ZB NA DA LY CY0 CY1 HOA HOB
  go_upto_region 3 with (fail)
  generalize w2.alloc (.cells #[.bool false, .slice a3 L3 C3, .slice a4 L4 C4] 73) = W at *
  have q0 := QA.out.c0; have p0 := QB.out.c0; have q1 := QA.out.c1; have p1 := QB.out.c1
  go_wp2_with fail
  refine (ncmp_eq NAW.out NBW.out HC.out).mono ?_
  rintro e w5 ⟨rfl, hx⟩
  clear q0 p0 q1 p1
  have QA2 := Lib.hid (QA.out.later hx); clear QA; have QA := QA2; clear QA2
  have QB2 := Lib.hid (QB.out.later hx); clear QB; have QB := QB2; clear QB2
  have ZW2 := Lib.hid (ZW.out.later hx); clear ZW; have ZW := ZW2; clear ZW2
  have XW2 := Lib.hid (XW.out.trans hx); clear XW; have XW := XW2; clear XW2
  have NAW2 := Lib.hid (NAW.out.later hx); clear NAW; have NAW := NAW2; clear NAW2
  have NBW2 := Lib.hid (NBW.out.later hx); clear NBW; have NBW := NBW2; clear NBW2
  have DAW2 := Lib.hid (DAW.out.later hx); clear DAW; have DAW := DAW2; clear DAW2
  clear hx DBW
  generalize w5 = W at *
  go_upto_region 6 with (fail)
  refine wp_region_S (fun uu : World => Ext W uu) 11 (by kernel_rfl) ?_
  have HS : Ext W W.drew := (Ext.refl W).drew
  refine GoS.pure (i := 0) (v := ?_) rfl (by kernel_rfl) (by kernel_rfl) (by kernel_rfl) (by kernel_rfl) (fun _ _ _ h => h) (Or.inl ⟨by rfl, ?hy29⟩) (fun _ => HS) ?_
  case hy29 => ((intro u' hT; go_simp); try with_reducible rfl)
  try simp only [List.getElem_toArray, List.getElem_cons_zero, Act.put, List.setIfInBounds_toArray, List.set_cons_zero, List.set_cons_succ]
  refine GoS.take (i := 1) (v := ?_) rfl (by kernel_rfl) (by kernel_rfl) (by kernel_rfl) (by kernel_rfl) (fun _ _ _ h => h) (Or.inl ⟨by rfl, ?hy30⟩) HS ?_
  case hy30 => ((intro u' hT; have d1 := (QA.out.later hT).c0; go_simp); try with_reducible rfl)
  try simp only [List.getElem_toArray, List.getElem_cons_succ, List.getElem_cons_zero, Act.put, List.setIfInBounds_toArray, List.set_cons_zero, List.set_cons_succ]
  refine GoS.pure (i := 2) (v := ?_) rfl (by kernel_rfl) (by kernel_rfl) (by kernel_rfl) (by kernel_rfl) (fun _ _ _ h => h) (Or.inl ⟨by rfl, ?hy31⟩) (fun _ => HS) ?_
  case hy31 => ((intro u' hT; go_simp); try with_reducible rfl)
  try simp only [List.getElem_toArray, List.getElem_cons_succ, List.getElem_cons_zero, Act.put, List.setIfInBounds_toArray, List.set_cons_zero, List.set_cons_succ]
  refine GoS.take (i := 3) (v := ?_) rfl (by kernel_rfl) (by kernel_rfl) (by kernel_rfl) (by kernel_rfl) (fun _ _ _ h => h) (Or.inl ⟨by rfl, ?hy32⟩) HS ?_
  case hy32 => ((intro u' hT; have d1 := (QA.out.later hT).c1; go_simp); try with_reducible rfl)
  try simp only [List.getElem_toArray, List.getElem_cons_succ, List.getElem_cons_zero, Act.put, List.setIfInBounds_toArray, List.set_cons_zero, List.set_cons_succ]
  refine GoS.pure (i := 4) (v := ?_) rfl (by kernel_rfl) (by kernel_rfl) (by kernel_rfl) (by kernel_rfl) (fun _ _ _ h => h) (Or.inl ⟨by rfl, ?hy33⟩) (fun _ => HS) ?_
  case hy33 => ((intro u' hT; go_simp); try with_reducible rfl)
  try simp only [List.getElem_toArray, List.getElem_cons_succ, List.getElem_cons_zero, Act.put, List.setIfInBounds_toArray, List.set_cons_zero, List.set_cons_succ]
  refine GoS.take (i := 5) (v := ?_) rfl (by kernel_rfl) (by kernel_rfl) (by kernel_rfl) (by kernel_rfl) (fun _ _ _ h => h) (Or.inl ⟨by rfl, ?hy34⟩) HS ?_
  case hy34 => ((intro u' hT; have d1 := (QB.out.later hT).c1; go_simp); try with_reducible rfl)
  try simp only [List.getElem_toArray, List.getElem_cons_succ, List.getElem_cons_zero, Act.put, List.setIfInBounds_toArray, List.set_cons_zero, List.set_cons_succ]
  refine GoS.pure (i := 7) (v := ?_) rfl (by kernel_rfl) (by kernel_rfl) (by kernel_rfl) (by kernel_rfl) (fun _ _ _ h => h) (Or.inl ⟨by rfl, ?hy35⟩) (fun _ => HS) ?_
  case hy35 => ((intro u' hT; go_simp); try with_reducible rfl)
  try simp only [List.getElem_toArray, List.getElem_cons_succ, List.getElem_cons_zero, Act.put, List.setIfInBounds_toArray, List.set_cons_zero, List.set_cons_succ]
  refine GoS.take (i := 8) (v := ?_) rfl (by kernel_rfl) (by kernel_rfl) (by kernel_rfl) (by kernel_rfl) (fun _ _ _ h => h) (Or.inl ⟨by rfl, ?hy36⟩) HS ?_
  case hy36 => ((intro u' hT; have d1 := (QA.out.later hT).c2; go_simp); try with_reducible rfl)
  try simp only [List.getElem_toArray, List.getElem_cons_succ, List.getElem_cons_zero, Act.put, List.setIfInBounds_toArray, List.set_cons_zero, List.set_cons_succ]
  refine GoS.one (i := 6) (by kernel_rfl) rfl (fun K hK => ?_)
  go_simp
  (with_reducible refine (nsub_any (NAW.out.later HS) (NBW.out.later HS) HLE.out HFN.out).mono ?_)
  rintro e q37 ⟨v5, rfl, hv, hx⟩
  have HS2 := HS.trans hx; clear HS; have HS := HS2; clear HS2 hx
  go_wp2_with fail
  refine hK.out _ _ HS (fun _ => ?_)
  clear hK K
  try simp only [List.getElem_toArray, List.getElem_cons_succ, List.getElem_cons_zero, Act.put, List.setIfInBounds_toArray, List.set_cons_zero, List.set_cons_succ]
  have V5 := Lib.hid hv; clear hv
  obtain ⟨a5, L5, C5, rfl⟩ := V5.out.shape
  refine GoS.pure (i := 9) (v := ?_) rfl (by kernel_rfl) (by kernel_rfl) (by kernel_rfl) (by kernel_rfl) (fun _ _ _ h => h) (Or.inl ⟨by rfl, ?hy38⟩) (fun _ => HS) ?_
  case hy38 => ((intro u' hT; go_simp); try with_reducible rfl)
  try simp only [List.getElem_toArray, List.getElem_cons_succ, List.getElem_cons_zero, Act.put, List.setIfInBounds_toArray, List.set_cons_zero, List.set_cons_succ]
  refine GoS.one (i := 10) (by kernel_rfl) rfl (fun K hK => ?_)
  go_simp
  (with_reducible refine (round_eq V5.out (DAW.out.later HS) HRK.out.pos rfl HRK.out.fit HRK.out.all HRK.out.near HV.out).mono ?_)
  rintro e q39 ⟨rfl, hx⟩
  have HS2 := HS.trans hx; clear HS; have HS := HS2; clear HS2 hx
  go_wp2_with fail
  refine hK.out _ _ HS (fun _ => ?_)
  clear hK K
  try simp only [List.getElem_toArray, List.getElem_cons_succ, List.getElem_cons_zero, Act.put, List.setIfInBounds_toArray, List.set_cons_zero, List.set_cons_succ]
  have z0 := (ZW.out.later HS).c0; have z1 := (ZW.out.later HS).c1; have z2 := (ZW.out.later HS).c2; have zf := (ZW.out.later HS).fz
  have X9 := Lib.hid (XW.out.trans HS)
  refine GoS.store (i := 11) (by kernel_rfl) rfl (by kernel_rfl) (fun K hK => ?_)
  go_simp
  refine hK.out _ _ ?_
  clear hK K
  try simp only [List.getElem_toArray, List.getElem_cons_succ, List.getElem_cons_zero, Act.put, List.setIfInBounds_toArray, List.set_cons_zero, List.set_cons_succ]
  refine GoS.done (by kernel_rfl) ?_
  go_wp2
  refine bodyPost_ret (v := .agg #[.int .i64 rm, .int .i64 rx, .bool ok]) ?_ rfl ⟨rfl, ?_⟩
  · simp [results, Tryz.results31, go_sem, z0, z1, z2]
  · repeat (first | with_reducible exact X9.out | with_reducible refine Ext.setCell ?_ (by simp; try omega) _)
set_option maxRecDepth 100000 in
set_option maxHeartbeats 4000000 in
theorem radd_true_lt (m x n y rm rx : Int) (ok : Bool)  (A B d1 d2 : Nat) (OA : OfTo m x true A d1) (OB : OfTo n y false B d2) (c : Int) (hc : cmpI A B = c) (hg : ¬ c ≥ 0) (hle : A ≤ B) (hfn : Fits B) (r : Nat) (RK : Rok (B - A) d1 r) (hV : rndV (resI false r) = .agg #[.int .i64 rm, .int .i64 rx, .bool ok]) (w : World) :
    Calls Tryz.prog 31 #[.agg #[.int .i64 m, .int .i64 x], .agg #[.int .i64 n, .int .i64 y]] w fun e w' => e = .returned (.agg #[.int .i64 rm, .int .i64 rx, .bool ok]) ∧ Ext w w' := by
  have HOA := Lib.hid OA; have HOB := Lib.hid OB; clear OA OB
  have HC := Lib.hid hc; have HLE := Lib.hid hle; have HFN := Lib.hid hfn; have HRK := Lib.hid RK; have HV := Lib.hid hV
  clear hc hle hfn RK hV
  go_enter Tryz.func31, Tryz.ntmps31
  go_upto_region 1 with (fail)
  have X0 : Hid (Ext w (((w.alloc (.cells #[.int .i64 m, .int .i64 x] 23)).alloc (.cells #[.int .i64 n, .int .i64 y] 23)).alloc (.cells #[.int .i64 0, .int .i64 0, .bool false] 43))) := Lib.hid ((((Ext.refl w).alloc _).alloc _).alloc _)
  have ZB : Hid (Zb (((w.alloc (.cells #[.int .i64 m, .int .i64 x] 23)).alloc (.cells #[.int .i64 n, .int .i64 y] 23)).alloc (.cells #[.int .i64 0, .int .i64 0, .bool false] 43)) (w.heap.size + 1 + 1)) := Lib.hid ⟨by simp [go_sem], by simp [go_sem], by simp [go_sem], fun j => by simp [go_sem], by simp [go_sem]⟩
  have cx0 : (((w.alloc (.cells #[.int .i64 m, .int .i64 x] 23)).alloc (.cells #[.int .i64 n, .int .i64 y] 23)).alloc (.cells #[.int .i64 0, .int .i64 0, .bool false] 43)).cell? ⟨w.heap.size, 0, none⟩ = some (.int .i64 m) := by simp [go_sem]
  have cx1 : (((w.alloc (.cells #[.int .i64 m, .int .i64 x] 23)).alloc (.cells #[.int .i64 n, .int .i64 y] 23)).alloc (.cells #[.int .i64 0, .int .i64 0, .bool false] 43)).cell? ⟨w.heap.size, 1, none⟩ = some (.int .i64 x) := by simp [go_sem]
  have cy0 : (((w.alloc (.cells #[.int .i64 m, .int .i64 x] 23)).alloc (.cells #[.int .i64 n, .int .i64 y] 23)).alloc (.cells #[.int .i64 0, .int .i64 0, .bool false] 43)).cell? ⟨w.heap.size + 1, 0, none⟩ = some (.int .i64 n) := by simp [go_sem]
  have cy1 : (((w.alloc (.cells #[.int .i64 m, .int .i64 x] 23)).alloc (.cells #[.int .i64 n, .int .i64 y] 23)).alloc (.cells #[.int .i64 0, .int .i64 0, .bool false] 43)).cell? ⟨w.heap.size + 1, 1, none⟩ = some (.int .i64 y) := by simp [go_sem]
  have ly : w.heap.size + 1 < (((w.alloc (.cells #[.int .i64 m, .int .i64 x] 23)).alloc (.cells #[.int .i64 n, .int .i64 y] 23)).alloc (.cells #[.int .i64 0, .int .i64 0, .bool false] 43)).heap.size := by simp [go_sem]
  generalize ((w.alloc (.cells #[.int .i64 m, .int .i64 x] 23)).alloc (.cells #[.int .i64 n, .int .i64 y] 23)).alloc (.cells #[.int .i64 0, .int .i64 0, .bool false] 43) = W0 at *
  have LY := Lib.hid ly; have CY0 := Lib.hid cy0; have CY1 := Lib.hid cy1
  clear ly cy0 cy1
  go_wp2_with fail
  refine (HOA.out _).mono ?_
  rintro e w1 ⟨⟨a1, L1, C1, a2, L2, C2, rfl, hn, hd⟩, hx⟩
  have NA := Lib.hid hn; have DA := Lib.hid hd; have XA := Lib.hid hx
  clear hn hd hx cx0 cx1
  have cy0 : ∀ ob, (w1.alloc ob).cell? ⟨w.heap.size + 1, 0, none⟩ = some (.int .i64 n) := fun ob => ((XA.out.alloc ob).cell 0 LY.out).trans CY0.out
  have cy1 : ∀ ob, (w1.alloc ob).cell? ⟨w.heap.size + 1, 1, none⟩ = some (.int .i64 y) := fun ob => ((XA.out.alloc ob).cell 1 LY.out).trans CY1.out
  go_wp2_with fail
  refine (HOB.out _).mono ?_
  rintro e w2 ⟨⟨a3, L3, C3, a4, L4, C4, rfl, hn, hd⟩, hx⟩
  clear cy0 cy1
  have XW := Lib.hid (((X0.out.trans XA.out).alloc (.cells #[.bool true, .slice a1 L1 C1, .slice a2 L2 C2] 73)).trans (hx.alloc (.cells #[.bool false, .slice a3 L3 C3, .slice a4 L4 C4] 73)))
  have ZW := Lib.hid (ZB.out.later ((XA.out.alloc (.cells #[.bool true, .slice a1 L1 C1, .slice a2 L2 C2] 73)).trans (hx.alloc (.cells #[.bool false, .slice a3 L3 C3, .slice a4 L4 C4] 73))))
  have QA : Hid (Qb (w2.alloc (.cells #[.bool false, .slice a3 L3 C3, .slice a4 L4 C4] 73)) w1.heap.size true (.slice a1 L1 C1) (.slice a2 L2 C2)) := Lib.hid ((⟨by simp [go_sem], by simp [go_sem], by simp [go_sem], by simp⟩ : Qb (w1.alloc (.cells #[.bool true, .slice a1 L1 C1, .slice a2 L2 C2] 73)) w1.heap.size true (.slice a1 L1 C1) (.slice a2 L2 C2)).later (hx.alloc _))
  have QB : Hid (Qb (w2.alloc (.cells #[.bool false, .slice a3 L3 C3, .slice a4 L4 C4] 73)) w2.heap.size false (.slice a3 L3 C3) (.slice a4 L4 C4)) := Lib.hid ⟨by simp [go_sem], by simp [go_sem], by simp [go_sem], by simp⟩
  have NAW := Lib.hid (NA.out.later ((Ext.refl w1).alloc (.cells #[.bool true, .slice a1 L1 C1, .slice a2 L2 C2] 73) |>.trans (hx.alloc (.cells #[.bool false, .slice a3 L3 C3, .slice a4 L4 C4] 73))))
  have DAW := Lib.hid (DA.out.later ((Ext.refl w1).alloc (.cells #[.bool true, .slice a1 L1 C1, .slice a2 L2 C2] 73) |>.trans (hx.alloc (.cells #[.bool false, .slice a3 L3 C3, .slice a4 L4 C4] 73))))
  have NBW := Lib.hid (hn.later ((Ext.refl w2).alloc (.cells #[.bool false, .slice a3 L3 C3, .slice a4 L4 C4] 73)))
  have DBW := Lib.hid (hd.later ((Ext.refl w2).alloc (.cells #[.bool false, .slice a3 L3 C3, .slice a4 L4 C4] 73)))
  clear hn hd hx X0 XA ZB NA DA LY CY0 CY1 HOA HOB
  go_upto_region 3 with (fail)
  generalize w2.alloc (.cells #[.bool false, .slice a3 L3 C3, .slice a4 L4 C4] 73) = W at *
  have q0 := QA.out.c0; have p0 := QB.out.c0; have q1 := QA.out.c1; have p1 := QB.out.c1
  go_wp2_with fail
  refine (ncmp_eq NAW.out NBW.out HC.out).mono ?_
  rintro e w5 ⟨rfl, hx⟩
  clear q0 p0 q1 p1
  have QA2 := Lib.hid (QA.out.later hx); clear QA; have QA := QA2; clear QA2
  have QB2 := Lib.hid (QB.out.later hx); clear QB; have QB := QB2; clear QB2
  have ZW2 := Lib.hid (ZW.out.later hx); clear ZW; have ZW := ZW2; clear ZW2
  have XW2 := Lib.hid (XW.out.trans hx); clear XW; have XW := XW2; clear XW2
  have NAW2 := Lib.hid (NAW.out.later hx); clear NAW; have NAW := NAW2; clear NAW2
  have NBW2 := Lib.hid (NBW.out.later hx); clear NBW; have NBW := NBW2; clear NBW2
  have DAW2 := Lib.hid (DAW.out.later hx); clear DAW; have DAW := DAW2; clear DAW2
  clear hx DBW
  generalize w5 = W at *
  go_upto_region 7 with (fail)
  refine wp_region_S (fun uu : World => Ext W uu) 11 (by kernel_rfl) ?_
  have HS : Ext W W.drew := (Ext.refl W).drew
  refine GoS.pure (i := 0) (v := ?_) rfl (by kernel_rfl) (by kernel_rfl) (by kernel_rfl) (by kernel_rfl) (fun _ _ _ h => h) (Or.inl ⟨by rfl, ?hy40⟩) (fun _ => HS) ?_
  case hy40 => ((intro u' hT; go_simp); try with_reducible rfl)
  try simp only [List.getElem_toArray, List.getElem_cons_zero, Act.put, List.setIfInBounds_toArray, List.set_cons_zero, List.set_cons_succ]
  refine GoS.take (i := 1) (v := ?_) rfl (by kernel_rfl) (by kernel_rfl) (by kernel_rfl) (by kernel_rfl) (fun _ _ _ h => h) (Or.inl ⟨by rfl, ?hy41⟩) HS ?_
  case hy41 => ((intro u' hT; have d1 := (QB.out.later hT).c0; go_simp); try with_reducible rfl)
  try simp only [List.getElem_toArray, List.getElem_cons_succ, List.getElem_cons_zero, Act.put, List.setIfInBounds_toArray, List.set_cons_zero, List.set_cons_succ]
  refine GoS.pure (i := 2) (v := ?_) rfl (by kernel_rfl) (by kernel_rfl) (by kernel_rfl) (by kernel_rfl) (fun _ _ _ h => h) (Or.inl ⟨by rfl, ?hy42⟩) (fun _ => HS) ?_
  case hy42 => ((intro u' hT; go_simp); try with_reducible rfl)
  try simp only [List.getElem_toArray, List.getElem_cons_succ, List.getElem_cons_zero, Act.put, List.setIfInBounds_toArray, List.set_cons_zero, List.set_cons_succ]
  refine GoS.take (i := 3) (v := ?_) rfl (by kernel_rfl) (by kernel_rfl) (by kernel_rfl) (by kernel_rfl) (fun _ _ _ h => h) (Or.inl ⟨by rfl, ?hy43⟩) HS ?_
  case hy43 => ((intro u' hT; have d1 := (QB.out.later hT).c1; go_simp); try with_reducible rfl)
  try simp only [List.getElem_toArray, List.getElem_cons_succ, List.getElem_cons_zero, Act.put, List.setIfInBounds_toArray, List.set_cons_zero, List.set_cons_succ]
  refine GoS.pure (i := 4) (v := ?_) rfl (by kernel_rfl) (by kernel_rfl) (by kernel_rfl) (by kernel_rfl) (fun _ _ _ h => h) (Or.inl ⟨by rfl, ?hy44⟩) (fun _ => HS) ?_
  case hy44 => ((intro u' hT; go_simp); try with_reducible rfl)
  try simp only [List.getElem_toArray, List.getElem_cons_succ, List.getElem_cons_zero, Act.put, List.setIfInBounds_toArray, List.set_cons_zero, List.set_cons_succ]
  refine GoS.take (i := 5) (v := ?_) rfl (by kernel_rfl) (by kernel_rfl) (by kernel_rfl) (by kernel_rfl) (fun _ _ _ h => h) (Or.inl ⟨by rfl, ?hy45⟩) HS ?_
  case hy45 => ((intro u' hT; have d1 := (QA.out.later hT).c1; go_simp); try with_reducible rfl)
  try simp only [List.getElem_toArray, List.getElem_cons_succ, List.getElem_cons_zero, Act.put, List.setIfInBounds_toArray, List.set_cons_zero, List.set_cons_succ]
  refine GoS.pure (i := 7) (v := ?_) rfl (by kernel_rfl) (by kernel_rfl) (by kernel_rfl) (by kernel_rfl) (fun _ _ _ h => h) (Or.inl ⟨by rfl, ?hy46⟩) (fun _ => HS) ?_
  case hy46 => ((intro u' hT; go_simp); try with_reducible rfl)
  try simp only [List.getElem_toArray, List.getElem_cons_succ, List.getElem_cons_zero, Act.put, List.setIfInBounds_toArray, List.set_cons_zero, List.set_cons_succ]
  refine GoS.take (i := 8) (v := ?_) rfl (by kernel_rfl) (by kernel_rfl) (by kernel_rfl) (by kernel_rfl) (fun _ _ _ h => h) (Or.inl ⟨by rfl, ?hy47⟩) HS ?_
  case hy47 => ((intro u' hT; have d1 := (QA.out.later hT).c2; go_simp); try with_reducible rfl)
  try simp only [List.getElem_toArray, List.getElem_cons_succ, List.getElem_cons_zero, Act.put, List.setIfInBounds_toArray, List.set_cons_zero, List.set_cons_succ]
  refine GoS.one (i := 6) (by kernel_rfl) rfl (fun K hK => ?_)
  go_simp
  (with_reducible refine (nsub_any (NBW.out.later HS) (NAW.out.later HS) HLE.out HFN.out).mono ?_)
  rintro e q48 ⟨v5, rfl, hv, hx⟩
  have HS2 := HS.trans hx; clear HS; have HS := HS2; clear HS2 hx
  go_wp2_with fail
  refine hK.out _ _ HS (fun _ => ?_)
  clear hK K
  try simp only [List.getElem_toArray, List.getElem_cons_succ, List.getElem_cons_zero, Act.put, List.setIfInBounds_toArray, List.set_cons_zero, List.set_cons_succ]
  have V5 := Lib.hid hv; clear hv
  obtain ⟨a5, L5, C5, rfl⟩ := V5.out.shape
  refine GoS.pure (i := 9) (v := ?_) rfl (by kernel_rfl) (by kernel_rfl) (by kernel_rfl) (by kernel_rfl) (fun _ _ _ h => h) (Or.inl ⟨by rfl, ?hy49⟩) (fun _ => HS) ?_
  case hy49 => ((intro u' hT; go_simp); try with_reducible rfl)
  try simp only [List.getElem_toArray, List.getElem_cons_succ, List.getElem_cons_zero, Act.put, List.setIfInBounds_toArray, List.set_cons_zero, List.set_cons_succ]
  refine GoS.one (i := 10) (by kernel_rfl) rfl (fun K hK => ?_)
  go_simp
  (with_reducible refine (round_eq V5.out (DAW.out.later HS) HRK.out.pos rfl HRK.out.fit HRK.out.all HRK.out.near HV.out).mono ?_)
  rintro e q50 ⟨rfl, hx⟩
  have HS2 := HS.trans hx; clear HS; have HS := HS2; clear HS2 hx
  go_wp2_with fail
  refine hK.out _ _ HS (fun _ => ?_)
  clear hK K
  try simp only [List.getElem_toArray, List.getElem_cons_succ, List.getElem_cons_zero, Act.put, List.setIfInBounds_toArray, List.set_cons_zero, List.set_cons_succ]
  have z0 := (ZW.out.later HS).c0; have z1 := (ZW.out.later HS).c1; have z2 := (ZW.out.later HS).c2; have zf := (ZW.out.later HS).fz
  have X9 := Lib.hid (XW.out.trans HS)
  refine GoS.store (i := 11) (by kernel_rfl) rfl (by kernel_rfl) (fun K hK => ?_)
  go_simp
  refine hK.out _ _ ?_
  clear hK K
  try simp only [List.getElem_toArray, List.getElem_cons_succ, List.getElem_cons_zero, Act.put, List.setIfInBounds_toArray, List.set_cons_zero, List.set_cons_succ]
  refine GoS.done (by kernel_rfl) ?_
  go_wp2
  refine bodyPost_ret (v := .agg #[.int .i64 rm, .int .i64 rx, .bool ok]) ?_ rfl ⟨rfl, ?_⟩
  · simp [results, Tryz.results31, go_sem, z0, z1, z2]
  · repeat (first | with_reducible exact X9.out | with_reducible refine Ext.setCell ?_ (by simp; try omega) _)
set_option maxRecDepth 100000 in
set_option maxHeartbeats 4000000 in
theorem radd_false_ge (m x n y rm rx : Int) (ok : Bool)  (A B d1 d2 : Nat) (OA : OfTo m x false A d1) (OB : OfTo n y true B d2) (c : Int) (hc : cmpI A B = c) (hg : c ≥ 0) (hle : B ≤ A) (hfn : Fits A) (r : Nat) (RK : Rok (A - B) d1 r) (hV : rndV (resI false r) = .agg #[.int .i64 rm, .int .i64 rx, .bool ok]) (w : World) :
    Calls Tryz.prog 31 #[.agg #[.int .i64 m, .int .i64 x], .agg #[.int .i64 n, .int .i64 y]] w fun e w' => e = .returned (.agg #[.int .i64 rm, .int .i64 rx, .bool ok]) ∧ Ext w w' := by
  have HOA := Lib.hid OA; have HOB := Lib.hid OB; clear OA OB
  have HC := Lib.hid hc; have HLE := Lib.hid hle; have HFN := Lib.hid hfn; have HRK := Lib.hid RK; have HV := Lib.hid hV
  clear hc hle hfn RK hV
  go_enter Tryz.func31, Tryz.ntmps31
  go_upto_region 1 with (fail)
  have X0 : Hid (Ext w (((w.alloc (.cells #[.int .i64 m, .int .i64 x] 23)).alloc (.cells #[.int .i64 n, .int .i64 y] 23)).alloc (.cells #[.int .i64 0, .int .i64 0, .bool false] 43))) := Lib.hid ((((Ext.refl w).alloc _).alloc _).alloc _)
  have ZB : Hid (Zb (((w.alloc (.cells #[.int .i64 m, .int .i64 x] 23)).alloc (.cells #[.int .i64 n, .int .i64 y] 23)).alloc (.cells #[.int .i64 0, .int .i64 0, .bool false] 43)) (w.heap.size + 1 + 1)) := Lib.hid ⟨by simp [go_sem], by simp [go_sem], by simp [go_sem], fun j => by simp [go_sem], by simp [go_sem]⟩
  have cx0 : (((w.alloc (.cells #[.int .i64 m, .int .i64 x] 23)).alloc (.cells #[.int .i64 n, .int .i64 y] 23)).alloc (.cells #[.int .i64 0, .int .i64 0, .bool false] 43)).cell? ⟨w.heap.size, 0, none⟩ = some (.int .i64 m) := by simp [go_sem]
  have cx1 : (((w.alloc (.cells #[.int .i64 m, .int .i64 x] 23)).alloc (.cells #[.int .i64 n, .int .i64 y] 23)).alloc (.cells #[.int .i64 0, .int .i64 0, .bool false] 43)).cell? ⟨w.heap.size, 1, none⟩ = some (.int .i64 x) := by simp [go_sem]
  have cy0 : (((w.alloc (.cells #[.int .i64 m, .int .i64 x] 23)).alloc (.cells #[.int .i64 n, .int .i64 y] 23)).alloc (.cells #[.int .i64 0, .int .i64 0, .bool false] 43)).cell? ⟨w.heap.size + 1, 0, none⟩ = some (.int .i64 n) := by simp [go_sem]
  have cy1 : (((w.alloc (.cells #[.int .i64 m, .int .i64 x] 23)).alloc (.cells #[.int .i64 n, .int .i64 y] 23)).alloc (.cells #[.int .i64 0, .int .i64 0, .bool false] 43)).cell? ⟨w.heap.size + 1, 1, none⟩ = some (.int .i64 y) := by simp [go_sem]
  have ly : w.heap.size + 1 < (((w.alloc (.cells #[.int .i64 m, .int .i64 x] 23)).alloc (.cells #[.int .i64 n, .int .i64 y] 23)).alloc (.cells #[.int .i64 0, .int .i64 0, .bool false] 43)).heap.size := by simp [go_sem]
  generalize ((w.alloc (.cells #[.int .i64 m, .int .i64 x] 23)).alloc (.cells #[.int .i64 n, .int .i64 y] 23)).alloc (.cells #[.int .i64 0, .int .i64 0, .bool false] 43) = W0 at *
  have LY := Lib.hid ly; have CY0 := Lib.hid cy0; have CY1 := Lib.hid cy1
  clear ly cy0 cy1
  go_wp2_with fail
  refine (HOA.out _).mono ?_
  rintro e w1 ⟨⟨a1, L1, C1, a2, L2, C2, rfl, hn, hd⟩, hx⟩
  have NA := Lib.hid hn; have DA := Lib.hid hd; have XA := Lib.hid hx
  clear hn hd hx cx0 cx1
  have cy0 : ∀ ob, (w1.alloc ob).cell? ⟨w.heap.size + 1, 0, none⟩ = some (.int .i64 n) := fun ob => ((XA.out.alloc ob).cell 0 LY.out).trans CY0.out
  have cy1 : ∀ ob, (w1.alloc ob).cell? ⟨w.heap.size + 1, 1, none⟩ = some (.int .i64 y) := fun ob => ((XA.out.alloc ob).cell 1 LY.out).trans CY1.out
  go_wp2_with fail
  refine (HOB.out _).mono ?_
  rintro e w2 ⟨⟨a3, L3, C3, a4, L4, C4, rfl, hn, hd⟩, hx⟩
  clear cy0 cy1
  have XW := Lib.hid (((X0.out.trans XA.out).alloc (.cells #[.bool false, .slice a1 L1 C1, .slice a2 L2 C2] 73)).trans (hx.alloc (.cells #[.bool true, .slice a3 L3 C3, .slice a4 L4 C4] 73)))
  have ZW := Lib.hid (ZB.out.later ((XA.out.alloc (.cells #[.bool false, .slice a1 L1 C1, .slice a2 L2 C2] 73)).trans (hx.alloc (.cells #[.bool true, .slice a3 L3 C3, .slice a4 L4 C4] 73))))
  have QA : Hid (Qb (w2.alloc (.cells #[.bool true, .slice a3 L3 C3, .slice a4 L4 C4] 73)) w1.heap.size false (.slice a1 L1 C1) (.slice a2 L2 C2)) := Lib.hid ((⟨by simp [go_sem], by simp [go_sem], by simp [go_sem], by simp⟩ : Qb (w1.alloc (.cells #[.bool false, .slice a1 L1 C1, .slice a2 L2 C2] 73)) w1.heap.size false (.slice a1 L1 C1) (.slice a2 L2 C2)).later (hx.alloc _))
  have QB : Hid (Qb (w2.alloc (.cells #[.bool true, .slice a3 L3 C3, .slice a4 L4 C4] 73)) w2.heap.size true (.slice a3 L3 C3) (.slice a4 L4 C4)) := Lib.hid ⟨by simp [go_sem], by simp [go_sem], by simp [go_sem], by simp⟩
  have NAW := Lib.hid (NA.out.later ((Ext.refl w1).alloc (.cells #[.bool false, .slice a1 L1 C1, .slice a2 L2 C2] 73) |>.trans (hx.alloc (.cells #[.bool true, .slice a3 L3 C3, .slice a4 L4 C4] 73))))
  have DAW := Lib.hid (DA.out.later ((Ext.refl w1).alloc (.cells #[.bool false, .slice a1 L1 C1, .slice a2 L2 C2] 73) |>.trans (hx.alloc (.cells #[.bool true, .slice a3 L3 C3, .slice a4 L4 C4] 73))))
  have NBW := Lib.hid (hn.later ((Ext.refl w2).alloc (.cells #[.bool true, .slice a3 L3 C3, .slice a4 L4 C4] 73)))
  have DBW := Lib.hid (hd.later ((Ext.refl w2).alloc (.cells #[.bool true, .slice a3 L3 C3, .slice a4 L4 C4] 73)))
  clear hn hd hx X0 XA ZB NA DA LY CY0 CY1 HOA HOB
  go_upto_region 3 with (fail)
  generalize w2.alloc (.cells #[.bool true, .slice a3 L3 C3, .slice a4 L4 C4] 73) = W at *
  have q0 := QA.out.c0; have p0 := QB.out.c0; have q1 := QA.out.c1; have p1 := QB.out.c1
  go_wp2_with fail
  refine (ncmp_eq NAW.out NBW.out HC.out).mono ?_
  rintro e w5 ⟨rfl, hx⟩
  clear q0 p0 q1 p1
  have QA2 := Lib.hid (QA.out.later hx); clear QA; have QA := QA2; clear QA2
  have QB2 := Lib.hid (QB.out.later hx); clear QB; have QB := QB2; clear QB2
  have ZW2 := Lib.hid (ZW.out.later hx); clear ZW; have ZW := ZW2; clear ZW2
  have XW2 := Lib.hid (XW.out.trans hx); clear XW; have XW := XW2; clear XW2
  have NAW2 := Lib.hid (NAW.out.later hx); clear NAW; have NAW := NAW2; clear NAW2
  have NBW2 := Lib.hid (NBW.out.later hx); clear NBW; have NBW := NBW2; clear NBW2
  have DAW2 := Lib.hid (DAW.out.later hx); clear DAW; have DAW := DAW2; clear DAW2
  clear hx DBW
  generalize w5 = W at *
  go_upto_region 6 with (fail)
  refine wp_region_S (fun uu : World => Ext W uu) 11 (by kernel_rfl) ?_
  have HS : Ext W W.drew := (Ext.refl W).drew
  refine GoS.pure (i := 0) (v := ?_) rfl (by kernel_rfl) (by kernel_rfl) (by kernel_rfl) (by kernel_rfl) (fun _ _ _ h => h) (Or.inl ⟨by rfl, ?hy51⟩) (fun _ => HS) ?_
  case hy51 => ((intro u' hT; go_simp); try with_reducible rfl)
  try simp only [List.getElem_toArray, List.getElem_cons_zero, Act.put, List.setIfInBounds_toArray, List.set_cons_zero, List.set_cons_succ]
  refine GoS.take (i := 1) (v := ?_) rfl (by kernel_rfl) (by kernel_rfl) (by kernel_rfl) (by kernel_rfl) (fun _ _ _ h => h) (Or.inl ⟨by rfl, ?hy52⟩) HS ?_
  case hy52 => ((intro u' hT; have d1 := (QA.out.later hT).c0; go_simp); try with_reducible rfl)
  try simp only [List.getElem_toArray, List.getElem_cons_succ, List.getElem_cons_zero, Act.put, List.setIfInBounds_toArray, List.set_cons_zero, List.set_cons_succ]
  refine GoS.pure (i := 2) (v := ?_) rfl (by kernel_rfl) (by kernel_rfl) (by kernel_rfl) (by kernel_rfl) (fun _ _ _ h => h) (Or.inl ⟨by rfl, ?hy53⟩) (fun _ => HS) ?_
  case hy53 => ((intro u' hT; go_simp); try with_reducible rfl)
  try simp only [List.getElem_toArray, List.getElem_cons_succ, List.getElem_cons_zero, Act.put, List.setIfInBounds_toArray, List.set_cons_zero, List.set_cons_succ]
  refine GoS.take (i := 3) (v := ?_) rfl (by kernel_rfl) (by kernel_rfl) (by kernel_rfl) (by kernel_rfl) (fun _ _ _ h => h) (Or.inl ⟨by rfl, ?hy54⟩) HS ?_
  case hy54 => ((intro u' hT; have d1 := (QA.out.later hT).c1; go_simp); try with_reducible rfl)
  try simp only [List.getElem_toArray, List.getElem_cons_succ, List.getElem_cons_zero, Act.put, List.setIfInBounds_toArray, List.set_cons_zero, List.set_cons_succ]
  refine GoS.pure (i := 4) (v := ?_) rfl (by kernel_rfl) (by kernel_rfl) (by kernel_rfl) (by kernel_rfl) (fun _ _ _ h => h) (Or.inl ⟨by rfl, ?hy55⟩) (fun _ => HS) ?_
  case hy55 => ((intro u' hT; go_simp); try with_reducible rfl)
  try simp only [List.getElem_toArray, List.getElem_cons_succ, List.getElem_cons_zero, Act.put, List.setIfInBounds_toArray, List.set_cons_zero, List.set_cons_succ]
  refine GoS.take (i := 5) (v := ?_) rfl (by kernel_rfl) (by kernel_rfl) (by kernel_rfl) (by kernel_rfl) (fun _ _ _ h => h) (Or.inl ⟨by rfl, ?hy56⟩) HS ?_
  case hy56 => ((intro u' hT; have d1 := (QB.out.later hT).c1; go_simp); try with_reducible rfl)
  try simp only [List.getElem_toArray, List.getElem_cons_succ, List.getElem_cons_zero, Act.put, List.setIfInBounds_toArray, List.set_cons_zero, List.set_cons_succ]
  refine GoS.pure (i := 7) (v := ?_) rfl (by kernel_rfl) (by kernel_rfl) (by kernel_rfl) (by kernel_rfl) (fun _ _ _ h => h) (Or.inl ⟨by rfl, ?hy57⟩) (fun _ => HS) ?_
  case hy57 => ((intro u' hT; go_simp); try with_reducible rfl)
  try simp only [List.getElem_toArray, List.getElem_cons_succ, List.getElem_cons_zero, Act.put, List.setIfInBounds_toArray, List.set_cons_zero, List.set_cons_succ]
  refine GoS.take (i := 8) (v := ?_) rfl (by kernel_rfl) (by kernel_rfl) (by kernel_rfl) (by kernel_rfl) (fun _ _ _ h => h) (Or.inl ⟨by rfl, ?hy58⟩) HS ?_
  case hy58 => ((intro u' hT; have d1 := (QA.out.later hT).c2; go_simp); try with_reducible rfl)
  try simp only [List.getElem_toArray, List.getElem_cons_succ, List.getElem_cons_zero, Act.put, List.setIfInBounds_toArray, List.set_cons_zero, List.set_cons_succ]
  refine GoS.one (i := 6) (by kernel_rfl) rfl (fun K hK => ?_)
  go_simp
  (with_reducible refine (nsub_any (NAW.out.later HS) (NBW.out.later HS) HLE.out HFN.out).mono ?_)
  rintro e q59 ⟨v5, rfl, hv, hx⟩
  have HS2 := HS.trans hx; clear HS; have HS := HS2; clear HS2 hx
  go_wp2_with fail
  refine hK.out _ _ HS (fun _ => ?_)
  clear hK K
  try simp only [List.getElem_toArray, List.getElem_cons_succ, List.getElem_cons_zero, Act.put, List.setIfInBounds_toArray, List.set_cons_zero, List.set_cons_succ]
  have V5 := Lib.hid hv; clear hv
  obtain ⟨a5, L5, C5, rfl⟩ := V5.out.shape
  refine GoS.pure (i := 9) (v := ?_) rfl (by kernel_rfl) (by kernel_rfl) (by kernel_rfl) (by kernel_rfl) (fun _ _ _ h => h) (Or.inl ⟨by rfl, ?hy60⟩) (fun _ => HS) ?_
  case hy60 => ((intro u' hT; go_simp); try with_reducible rfl)
  try simp only [List.getElem_toArray, List.getElem_cons_succ, List.getElem_cons_zero, Act.put, List.setIfInBounds_toArray, List.set_cons_zero, List.set_cons_succ]
  refine GoS.one (i := 10) (by kernel_rfl) rfl (fun K hK => ?_)
  go_simp
  (with_reducible refine (round_eq V5.out (DAW.out.later HS) HRK.out.pos rfl HRK.out.fit HRK.out.all HRK.out.near HV.out).mono ?_)
  rintro e q61 ⟨rfl, hx⟩
  have HS2 := HS.trans hx; clear HS; have HS := HS2; clear HS2 hx
  go_wp2_with fail
  refine hK.out _ _ HS (fun _ => ?_)
  clear hK K
  try simp only [List.getElem_toArray, List.getElem_cons_succ, List.getElem_cons_zero, Act.put, List.setIfInBounds_toArray, List.set_cons_zero, List.set_cons_succ]
  have z0 := (ZW.out.later HS).c0; have z1 := (ZW.out.later HS).c1; have z2 := (ZW.out.later HS).c2; have zf := (ZW.out.later HS).fz
  have X9 := Lib.hid (XW.out.trans HS)
  refine GoS.store (i := 11) (by kernel_rfl) rfl (by kernel_rfl) (fun K hK => ?_)
  go_simp
  refine hK.out _ _ ?_
  clear hK K
  try simp only [List.getElem_toArray, List.getElem_cons_succ, List.getElem_cons_zero, Act.put, List.setIfInBounds_toArray, List.set_cons_zero, List.set_cons_succ]
  refine GoS.done (by kernel_rfl) ?_
  go_wp2
  refine bodyPost_ret (v := .agg #[.int .i64 rm, .int .i64 rx, .bool ok]) ?_ rfl ⟨rfl, ?_⟩
  · simp [results, Tryz.results31, go_sem, z0, z1, z2]
  · repeat (first | with_reducible exact X9.out | with_reducible refine Ext.setCell ?_ (by simp; try omega) _)
set_option maxRecDepth 100000 in
set_option maxHeartbeats 4000000 in
theorem radd_false_lt (m x n y rm rx : Int) (ok : Bool)  (A B d1 d2 : Nat) (OA : OfTo m x false A d1) (OB : OfTo n y true B d2) (c : Int) (hc : cmpI A B = c) (hg : ¬ c ≥ 0) (hle : A ≤ B) (hfn : Fits B) (r : Nat) (RK : Rok (B - A) d1 r) (hV : rndV (resI true r) = .agg #[.int .i64 rm, .int .i64 rx, .bool ok]) (w : World) :
    Calls Tryz.prog 31 #[.agg #[.int .i64 m, .int .i64 x], .agg #[.int .i64 n, .int .i64 y]] w fun e w' => e = .returned (.agg #[.int .i64 rm, .int .i64 rx, .bool ok]) ∧ Ext w w' := by
  have HOA := Lib.hid OA; have HOB := Lib.hid OB; clear OA OB
  have HC := Lib.hid hc; have HLE := Lib.hid hle; have HFN := Lib.hid hfn; have HRK := Lib.hid RK; have HV := Lib.hid hV
  clear hc hle hfn RK hV
  go_enter Tryz.func31, Tryz.ntmps31
  go_upto_region 1 with (fail)
  have X0 : Hid (Ext w (((w.alloc (.cells #[.int .i64 m, .int .i64 x] 23)).alloc (.cells #[.int .i64 n, .int .i64 y] 23)).alloc (.cells #[.int .i64 0, .int .i64 0, .bool false] 43))) := Lib.hid ((((Ext.refl w).alloc _).alloc _).alloc _)
  have ZB : Hid (Zb (((w.alloc (.cells #[.int .i64 m, .int .i64 x] 23)).alloc (.cells #[.int .i64 n, .int .i64 y] 23)).alloc (.cells #[.int .i64 0, .int .i64 0, .bool false] 43)) (w.heap.size + 1 + 1)) := Lib.hid ⟨by simp [go_sem], by simp [go_sem], by simp [go_sem], fun j => by simp [go_sem], by simp [go_sem]⟩
  have cx0 : (((w.alloc (.cells #[.int .i64 m, .int .i64 x] 23)).alloc (.cells #[.int .i64 n, .int .i64 y] 23)).alloc (.cells #[.int .i64 0, .int .i64 0, .bool false] 43)).cell? ⟨w.heap.size, 0, none⟩ = some (.int .i64 m) := by simp [go_sem]
  have cx1 : (((w.alloc (.cells #[.int .i64 m, .int .i64 x] 23)).alloc (.cells #[.int .i64 n, .int .i64 y] 23)).alloc (.cells #[.int .i64 0, .int .i64 0, .bool false] 43)).cell? ⟨w.heap.size, 1, none⟩ = some (.int .i64 x) := by simp [go_sem]
  have cy0 : (((w.alloc (.cells #[.int .i64 m, .int .i64 x] 23)).alloc (.cells #[.int .i64 n, .int .i64 y] 23)).alloc (.cells #[.int .i64 0, .int .i64 0, .bool false] 43)).cell? ⟨w.heap.size + 1, 0, none⟩ = some (.int .i64 n) := by simp [go_sem]
  have cy1 : (((w.alloc (.cells #[.int .i64 m, .int .i64 x] 23)).alloc (.cells #[.int .i64 n, .int .i64 y] 23)).alloc (.cells #[.int .i64 0, .int .i64 0, .bool false] 43)).cell? ⟨w.heap.size + 1, 1, none⟩ = some (.int .i64 y) := by simp [go_sem]
  have ly : w.heap.size + 1 < (((w.alloc (.cells #[.int .i64 m, .int .i64 x] 23)).alloc (.cells #[.int .i64 n, .int .i64 y] 23)).alloc (.cells #[.int .i64 0, .int .i64 0, .bool false] 43)).heap.size := by simp [go_sem]
  generalize ((w.alloc (.cells #[.int .i64 m, .int .i64 x] 23)).alloc (.cells #[.int .i64 n, .int .i64 y] 23)).alloc (.cells #[.int .i64 0, .int .i64 0, .bool false] 43) = W0 at *
  have LY := Lib.hid ly; have CY0 := Lib.hid cy0; have CY1 := Lib.hid cy1
  clear ly cy0 cy1
  go_wp2_with fail
  refine (HOA.out _).mono ?_
  rintro e w1 ⟨⟨a1, L1, C1, a2, L2, C2, rfl, hn, hd⟩, hx⟩
  have NA := Lib.hid hn; have DA := Lib.hid hd; have XA := Lib.hid hx
  clear hn hd hx cx0 cx1
  have cy0 : ∀ ob, (w1.alloc ob).cell? ⟨w.heap.size + 1, 0, none⟩ = some (.int .i64 n) := fun ob => ((XA.out.alloc ob).cell 0 LY.out).trans CY0.out
  have cy1 : ∀ ob, (w1.alloc ob).cell? ⟨w.heap.size + 1, 1, none⟩ = some (.int .i64 y) := fun ob => ((XA.out.alloc ob).cell 1 LY.out).trans CY1.out
  go_wp2_with fail
  refine (HOB.out _).mono ?_
  rintro e w2 ⟨⟨a3, L3, C3, a4, L4, C4, rfl, hn, hd⟩, hx⟩
  clear cy0 cy1
  have XW := Lib.hid (((X0.out.trans XA.out).alloc (.cells #[.bool false, .slice a1 L1 C1, .slice a2 L2 C2] 73)).trans (hx.alloc (.cells #[.bool true, .slice a3 L3 C3, .slice a4 L4 C4] 73)))
  have ZW := Lib.hid (ZB.out.later ((XA.out.alloc (.cells #[.bool false, .slice a1 L1 C1, .slice a2 L2 C2] 73)).trans (hx.alloc (.cells #[.bool true, .slice a3 L3 C3, .slice a4 L4 C4] 73))))
  have QA : Hid (Qb (w2.alloc (.cells #[.bool true, .slice a3 L3 C3, .slice a4 L4 C4] 73)) w1.heap.size false (.slice a1 L1 C1) (.slice a2 L2 C2)) := Lib.hid ((⟨by simp [go_sem], by simp [go_sem], by simp [go_sem], by simp⟩ : Qb (w1.alloc (.cells #[.bool false, .slice a1 L1 C1, .slice a2 L2 C2] 73)) w1.heap.size false (.slice a1 L1 C1) (.slice a2 L2 C2)).later (hx.alloc _))
  have QB : Hid (Qb (w2.alloc (.cells #[.bool true, .slice a3 L3 C3, .slice a4 L4 C4] 73)) w2.heap.size true (.slice a3 L3 C3) (.slice a4 L4 C4)) := Lib.hid ⟨by simp [go_sem], by simp [go_sem], by simp [go_sem], by simp⟩
  have NAW := Lib.hid (NA.out.later ((Ext.refl w1).alloc (.cells #[.bool false, .slice a1 L1 C1, .slice a2 L2 C2] 73) |>.trans (hx.alloc (.cells #[.bool true, .slice a3 L3 C3, .slice a4 L4 C4] 73))))
  have DAW := Lib.hid (DA.out.later ((Ext.refl w1).alloc (.cells #[.bool false, .slice a1 L1 C1, .slice a2 L2 C2] 73) |>.trans (hx.alloc (.cells #[.bool true, .slice a3 L3 C3, .slice a4 L4 C4] 73))))
  have NBW := Lib.hid (hn.later ((Ext.refl w2).alloc (.cells #[.bool true, .slice a3 L3 C3, .slice a4 L4 C4] 73)))
  have DBW := Lib.hid (hd.later ((Ext.refl w2).alloc (.cells #[.bool true, .slice a3 L3 C3, .slice a4 L4 C4] 73)))
  clear hn hd hx X0 XA ZB NA DA LY CY0 CY1 HOA HOB
  go_upto_region 3 with (fail)
  generalize w2.alloc (.cells #[.bool true, .slice a3 L3 C3, .slice a4 L4 C4] 73) = W at *
  have q0 := QA.out.c0; have p0 := QB.out.c0; have q1 := QA.out.c1; have p1 := QB.out.c1
  go_wp2_with fail
  refine (ncmp_eq NAW.out NBW.out HC.out).mono ?_
  rintro e w5 ⟨rfl, hx⟩
  clear q0 p0 q1 p1
  have QA2 := Lib.hid (QA.out.later hx); clear QA; have QA := QA2; clear QA2
  have QB2 := Lib.hid (QB.out.later hx); clear QB; have QB := QB2; clear QB2
  have ZW2 := Lib.hid (ZW.out.later hx); clear ZW; have ZW := ZW2; clear ZW2
  have XW2 := Lib.hid (XW.out.trans hx); clear XW; have XW := XW2; clear XW2
  have NAW2 := Lib.hid (NAW.out.later hx); clear NAW; have NAW := NAW2; clear NAW2
  have NBW2 := Lib.hid (NBW.out.later hx); clear NBW; have NBW := NBW2; clear NBW2
  have DAW2 := Lib.hid (DAW.out.later hx); clear DAW; have DAW := DAW2; clear DAW2
  clear hx DBW
  generalize w5 = W at *
  go_upto_region 7 with (fail)
  refine wp_region_S (fun uu : World => Ext W uu) 11 (by kernel_rfl) ?_
  have HS : Ext W W.drew := (Ext.refl W).drew
  refine GoS.pure (i := 0) (v := ?_) rfl (by kernel_rfl) (by kernel_rfl) (by kernel_rfl) (by kernel_rfl) (fun _ _ _ h => h) (Or.inl ⟨by rfl, ?hy62⟩) (fun _ => HS) ?_
  case hy62 => ((intro u' hT; go_simp); try with_reducible rfl)
  try simp only [List.getElem_toArray, List.getElem_cons_zero, Act.put, List.setIfInBounds_toArray, List.set_cons_zero, List.set_cons_succ]
  refine GoS.take (i := 1) (v := ?_) rfl (by kernel_rfl) (by kernel_rfl) (by kernel_rfl) (by kernel_rfl) (fun _ _ _ h => h) (Or.inl ⟨by rfl, ?hy63⟩) HS ?_
  case hy63 => ((intro u' hT; have d1 := (QB.out.later hT).c0; go_simp); try with_reducible rfl)
  try simp only [List.getElem_toArray, List.getElem_cons_succ, List.getElem_cons_zero, Act.put, List.setIfInBounds_toArray, List.set_cons_zero, List.set_cons_succ]
  refine GoS.pure (i := 2) (v := ?_) rfl (by kernel_rfl) (by kernel_rfl) (by kernel_rfl) (by kernel_rfl) (fun _ _ _ h => h) (Or.inl ⟨by rfl, ?hy64⟩) (fun _ => HS) ?_
  case hy64 => ((intro u' hT; go_simp); try with_reducible rfl)
  try simp only [List.getElem_toArray, List.getElem_cons_succ, List.getElem_cons_zero, Act.put, List.setIfInBounds_toArray, List.set_cons_zero, List.set_cons_succ]
  refine GoS.take (i := 3) (v := ?_) rfl (by kernel_rfl) (by kernel_rfl) (by kernel_rfl) (by kernel_rfl) (fun _ _ _ h => h) (Or.inl ⟨by rfl, ?hy65⟩) HS ?_
  case hy65 => ((intro u' hT; have d1 := (QB.out.later hT).c1; go_simp); try with_reducible rfl)
  try simp only [List.getElem_toArray, List.getElem_cons_succ, List.getElem_cons_zero, Act.put, List.setIfInBounds_toArray, List.set_cons_zero, List.set_cons_succ]
  refine GoS.pure (i := 4) (v := ?_) rfl (by kernel_rfl) (by kernel_rfl) (by kernel_rfl) (by kernel_rfl) (fun _ _ _ h => h) (Or.inl ⟨by rfl, ?hy66⟩) (fun _ => HS) ?_
  case hy66 => ((intro u' hT; go_simp); try with_reducible rfl)
  try simp only [List.getElem_toArray, List.getElem_cons_succ, List.getElem_cons_zero, Act.put, List.setIfInBounds_toArray, List.set_cons_zero, List.set_cons_succ]
  refine GoS.take (i := 5) (v := ?_) rfl (by kernel_rfl) (by kernel_rfl) (by kernel_rfl) (by kernel_rfl) (fun _ _ _ h => h) (Or.inl ⟨by rfl, ?hy67⟩) HS ?_
  case hy67 => ((intro u' hT; have d1 := (QA.out.later hT).c1; go_simp); try with_reducible rfl)
  try simp only [List.getElem_toArray, List.getElem_cons_succ, List.getElem_cons_zero, Act.put, List.setIfInBounds_toArray, List.set_cons_zero, List.set_cons_succ]
  refine GoS.pure (i := 7) (v := ?_) rfl (by kernel_rfl) (by kernel_rfl) (by kernel_rfl) (by kernel_rfl) (fun _ _ _ h => h) (Or.inl ⟨by rfl, ?hy68⟩) (fun _ => HS) ?_
  case hy68 => ((intro u' hT; go_simp); try with_reducible rfl)
  try simp only [List.getElem_toArray, List.getElem_cons_succ, List.getElem_cons_zero, Act.put, List.setIfInBounds_toArray, List.set_cons_zero, List.set_cons_succ]
  refine GoS.take (i := 8) (v := ?_) rfl (by kernel_rfl) (by kernel_rfl) (by kernel_rfl) (by kernel_rfl) (fun _ _ _ h => h) (Or.inl ⟨by rfl, ?hy69⟩) HS ?_
  case hy69 => ((intro u' hT; have d1 := (QA.out.later hT).c2; go_simp); try with_reducible rfl)
  try simp only [List.getElem_toArray, List.getElem_cons_succ, List.getElem_cons_zero, Act.put, List.setIfInBounds_toArray, List.set_cons_zero, List.set_cons_succ]
  refine GoS.one (i := 6) (by kernel_rfl) rfl (fun K hK => ?_)
  go_simp
  (with_reducible refine (nsub_any (NBW.out.later HS) (NAW.out.later HS) HLE.out HFN.out).mono ?_)
  rintro e q70 ⟨v5, rfl, hv, hx⟩
  have HS2 := HS.trans hx; clear HS; have HS := HS2; clear HS2 hx
  go_wp2_with fail
  refine hK.out _ _ HS (fun _ => ?_)
  clear hK K
  try simp only [List.getElem_toArray, List.getElem_cons_succ, List.getElem_cons_zero, Act.put, List.setIfInBounds_toArray, List.set_cons_zero, List.set_cons_succ]
  have V5 := Lib.hid hv; clear hv
  obtain ⟨a5, L5, C5, rfl⟩ := V5.out.shape
  refine GoS.pure (i := 9) (v := ?_) rfl (by kernel_rfl) (by kernel_rfl) (by kernel_rfl) (by kernel_rfl) (fun _ _ _ h => h) (Or.inl ⟨by rfl, ?hy71⟩) (fun _ => HS) ?_
  case hy71 => ((intro u' hT; go_simp); try with_reducible rfl)
  try simp only [List.getElem_toArray, List.getElem_cons_succ, List.getElem_cons_zero, Act.put, List.setIfInBounds_toArray, List.set_cons_zero, List.set_cons_succ]
  refine GoS.one (i := 10) (by kernel_rfl) rfl (fun K hK => ?_)
  go_simp
  (with_reducible refine (round_eq V5.out (DAW.out.later HS) HRK.out.pos rfl HRK.out.fit HRK.out.all HRK.out.near HV.out).mono ?_)
  rintro e q72 ⟨rfl, hx⟩
  have HS2 := HS.trans hx; clear HS; have HS := HS2; clear HS2 hx
  go_wp2_with fail
  refine hK.out _ _ HS (fun _ => ?_)
  clear hK K
  try simp only [List.getElem_toArray, List.getElem_cons_succ, List.getElem_cons_zero, Act.put, List.setIfInBounds_toArray, List.set_cons_zero, List.set_cons_succ]
  have z0 := (ZW.out.later HS).c0; have z1 := (ZW.out.later HS).c1; have z2 := (ZW.out.later HS).c2; have zf := (ZW.out.later HS).fz
  have X9 := Lib.hid (XW.out.trans HS)
  refine GoS.store (i := 11) (by kernel_rfl) rfl (by kernel_rfl) (fun K hK => ?_)
  go_simp
  refine hK.out _ _ ?_
  clear hK K
  try simp only [List.getElem_toArray, List.getElem_cons_succ, List.getElem_cons_zero, Act.put, List.setIfInBounds_toArray, List.set_cons_zero, List.set_cons_succ]
  refine GoS.done (by kernel_rfl) ?_
  go_wp2
  refine bodyPost_ret (v := .agg #[.int .i64 rm, .int .i64 rx, .bool ok]) ?_ rfl ⟨rfl, ?_⟩
  · simp [results, Tryz.results31, go_sem, z0, z1, z2]
  · repeat (first | with_reducible exact X9.out | with_reducible refine Ext.setCell ?_ (by simp; try omega) _)
end Go.Proofs.YthmndafjogndaaaGreatDoor
