/- Layer 2: the reference's shortest decimal, walked. -/
import Derived.Test.YtogfiekbikechaaGreatDoorQg
import Derived.Deep.CutRange
import Derived.Deep.CutBlock
namespace Go.Proofs.YtogfiekbikechaaGreatDoor
open Go.ChangeShapes Go.WideShapes Go.ChangeAt Go.RowKit

abbrev OfTo2 (m x : Int) (b : Bool) (n d : Nat) : Prop := ∀ w, Calls Tryz.prog 65 #[.agg #[.int .i64 m, .int .i64 x]] w fun e w' => QEnd e w' b n d ∧ Ext w w'
abbrev RoundTo (n d : Nat) (V : Value) : Prop := ∀ (u : World) (a1 : Option Addr) (L1 C1 : Nat) (a2 : Option Addr) (L2 C2 : Nat), IsNat u (.slice a1 L1 C1) n → IsNat u (.slice a2 L2 C2) d →
  Calls Tryz.prog 55 #[.agg #[.bool false, .slice a1 L1 C1, .slice a2 L2 C2]] u fun e w' => e = .returned V ∧ Ext u w'
/-- What a round of the search does. -/
structure RF (m x k : Int) (A d D E : Nat) (lo hi : Bool) (m1 x1 : Int) (ok1 : Bool) (m2 x2 : Int) (ok2 : Bool) (c : Int) : Prop where
  be : ∀ u v, Qv u v false A d → Calls Tryz.prog 119 #[v, .int .i64 k] u fun e w' => e = .returned (.int .i64 (D : Int)) ∧ Ext u w'
  e1 : ExTo D k
  e2 : ExTo E k
  r1 : RoundTo (D * tenU k) (tenD k) (.agg #[.int .i64 m1, .int .i64 x1, .bool ok1])
  r2 : RoundTo (E * tenU k) (tenD k) (.agg #[.int .i64 m2, .int .i64 x2, .bool ok2])
  pos : 0 < D
  w1 : IntKind.i64.wrap ((D : Int) + 1) = (E : Int)
  w2 : wrap64 ((D : Int) + 1) = (E : Int)
  lo : (m1 == m && x1 == x) = lo
  hi : (ok2 && (m2 == m && x2 == x)) = hi
  d1 : ∀ u v, Qv u v false A d → Calls Tryz.prog 121 #[.agg #[.int .i64 (D : Int), .int .i64 k], v] u fun e w' => ∃ z, e = .returned z ∧ IsNat w' z (gapN (D * tenU k * d) (A * tenD k)) ∧ Ext u w'
  d2 : ∀ u v, Qv u v false A d → Calls Tryz.prog 121 #[.agg #[.int .i64 (E : Int), .int .i64 k], v] u fun e w' => ∃ z, e = .returned z ∧ IsNat w' z (gapN (E * tenU k * d) (A * tenD k)) ∧ Ext u w'
  cm : cmpI ((gapN (D * tenU k * d) (A * tenD k) : Nat) : Int) ((gapN (E * tenU k * d) (A * tenD k) : Nat) : Int) = c
/-- The decimal that is taken. -/
def takeI (lo hi : Bool) (c : Int) (D E : Nat) : Nat := if lo && hi then (if c > 0 then E else if c = 0 ∧ D % 2 = 1 then E else D) else if lo then D else E
theorem fieldR (a b : Int) (c : Bool) (u : World) : (Instr.field 43 (.agg #[.int .i64 a, .int .i64 b, .bool c]) 0).run Tryz.prog u = .ok (.agg #[.int .i64 a, .int .i64 b]) u := by kernel_rfl
theorem k_down {k top : Int} {j : Nat} (h : k = top - j) (h1 : -100 ≤ top) (h2 : top ≤ 100) (h3 : j ≤ 8) : IntKind.i64.wrap (k - 1) = k - 1 ∧ wrap64 (k - 1) = k - 1 := ⟨IntWalk.i64_in _ ⟨by omega, by omega⟩, by unfold wrap64; omega⟩
theorem k_up {k top : Int} {j : Nat} (h : k = top - j) (h1 : -100 ≤ top) (h2 : top ≤ 100) (h3 : j ≤ 8) : IntKind.i64.wrap (k + 1) = k + 1 ∧ wrap64 (k + 1) = k + 1 := ⟨IntWalk.i64_in _ ⟨by omega, by omega⟩, by unfold wrap64; omega⟩
theorem strip_yes {g G Df D' J : Nat} {k K' Kf top : Int} (h1 : (g = 1 ∧ D' = G ∧ K' = k) ∨ (g = 0 ∧ D' = Df ∧ K' = Kf)) (h2 : (Df = G ∧ Kf = top - J) ∨ (G = 10 ∧ Df = 1 ∧ Kf = top - J + 1)) (h3 : Df % 10 ≠ 0) (h4 : k = top - J) (hz : D' % 10 = 0) :
    g = 1 ∧ Df = 1 ∧ D' = 10 ∧ K' = k ∧ Kf = K' + 1 := by omega
theorem strip_no {g G Df D' J : Nat} {k K' Kf top : Int} (h1 : (g = 1 ∧ D' = G ∧ K' = k) ∨ (g = 0 ∧ D' = Df ∧ K' = Kf)) (h2 : (Df = G ∧ Kf = top - J) ∨ (G = 10 ∧ Df = 1 ∧ Kf = top - J + 1)) (h4 : k = top - J) (hz : ¬ D' % 10 = 0) :
    D' = Df ∧ K' = Kf := by omega
theorem strip_mod {D : Nat} (hz : ¬ D % 10 = 0) : ∃ r : Nat, (D : Int).tmod 10 = (r : Int) ∧ ((r : Int) == 0) = false ∧ ¬ (r : Int) = 0 ∧ ¬ r = 0 ∧ (r == 0) = false := by
  refine ⟨D % 10, ?_, by simp; omega, by omega, hz, by simpa using hz⟩
  rw [Int.tmod_eq_emod_of_nonneg (by omega)]; omega
/-- A decimal in a block of its own. -/
structure Db (w : World) (b : Nat) (D K : Int) : Prop where
  c0 : w.cell? ⟨b, 0, none⟩ = some (.int .i64 D)
  c1 : w.cell? ⟨b, 1, none⟩ = some (.int .i64 K)
  fz : ∀ j, w.frozen? ⟨b, j, none⟩ = false
theorem Db.lt {w : World} {b : Nat} {D K : Int} (h : Db w b D K) : b < w.heap.size := World.block_lt_of_cell? w _ h.c0
theorem Db.later {w w' : World} {b : Nat} {D K : Int} (h : Db w b D K) (hx : Ext w w') : Db w' b D K :=
  ⟨(hx.cell 0 h.lt).trans h.c0, (hx.cell 1 h.lt).trans h.c1, fun j => (hx.froz j h.lt).trans (h.fz j)⟩
theorem db_new (u : World) (m x : Int) (T : TypeId) : Db (u.alloc (.cells #[.int .i64 m, .int .i64 x] T)) u.heap.size m x := ⟨by simp [go_sem], by simp [go_sem], fun j => by simp [go_sem]⟩
theorem Db.set {w : World} {b : Nat} {D K : Int} (h : Db w b D K) (D' K' : Int) : Db ((w.setCell ⟨b, 0, none⟩ (.int .i64 D')).setCell ⟨b, 1, none⟩ (.int .i64 K')) b D' K' := by
  have h0 := h.c0; have h1 := h.c1; have hf := h.fz
  exact ⟨by simp [go_sem, h0], by simp [go_sem, h1], fun j => by simp [go_sem, hf]⟩
set_option maxRecDepth 100000 in
set_option maxHeartbeats 4000000 in
theorem shortest_walk (m x top : Int) (A d J G Df : Nat) (Kf : Int) (OA : OfTo2 m x false A d) (SCH : ∀ u v, Qv u v false A d → Calls Tryz.prog 118 #[v] u fun e w' => e = .returned (.int .i64 top) ∧ Ext u w')
    (ht1 : -100 ≤ top) (ht2 : top ≤ 100) (hJ : J ≤ 8)
    (RH : ∀ j, j ≤ J → ∀ k : Int, k = top - j → ∃ D E lo hi m1 x1 ok1 m2 x2 ok2 c, RF m x k A d D E lo hi m1 x1 ok1 m2 x2 ok2 c ∧ (j < J → lo = false ∧ hi = false) ∧ (j = J → (lo || hi) = true ∧ takeI lo hi c D E = G))
    (hfin : (Df = G ∧ Kf = top - J) ∨ (G = 10 ∧ Df = 1 ∧ Kf = top - J + 1)) (hlast : Df % 10 ≠ 0) (hpos : 1 ≤ Df) (hG : G ≤ 2000000000) (w : World) :
    Calls Tryz.prog 91 #[.agg #[.int .i64 m, .int .i64 x]] w fun e w' => e = .returned (.agg #[.int .i64 (Df : Int), .int .i64 Kf]) ∧ Ext w w' := by
  have HOA := Lib.hid OA; have HSC := Lib.hid SCH; have HRH := Lib.hid RH; have HFIN := Lib.hid hfin; have HT := Lib.hid (And.intro ht1 (And.intro ht2 hJ)); have HL := Lib.hid (And.intro hlast (And.intro hpos hG))
  clear OA SCH RH hfin ht1 ht2 hJ hlast hpos hG
  go_enter Tryz.func91, Tryz.ntmps91
  go_upto_region 1 with (fail)
  have X0 : Hid (Ext w ((w.alloc (.cells #[.int .i64 m, .int .i64 x] 23)).alloc (.cells #[.int .i64 0, .int .i64 0] 102))) := Lib.hid (((Ext.refl w).alloc _).alloc _)
  have ZB : Hid (Db ((w.alloc (.cells #[.int .i64 m, .int .i64 x] 23)).alloc (.cells #[.int .i64 0, .int .i64 0] 102)) (w.heap.size + 1) 0 0) := Lib.hid (by have := db_new (w.alloc (.cells #[.int .i64 m, .int .i64 x] 23)) 0 0 102; rwa [show (w.alloc (.cells #[.int .i64 m, .int .i64 x] 23)).heap.size = w.heap.size + 1 by simp [go_sem]] at this)
  have RX : Hid (Rc ((w.alloc (.cells #[.int .i64 m, .int .i64 x] 23)).alloc (.cells #[.int .i64 0, .int .i64 0] 102)) w.heap.size m x) := Lib.hid ⟨by simp [go_sem], by simp [go_sem]⟩
  generalize (w.alloc (.cells #[.int .i64 m, .int .i64 x] 23)).alloc (.cells #[.int .i64 0, .int .i64 0] 102) = W0 at *
  have cx0 := RX.out.c0; have cx1 := RX.out.c1
  go_wp2_with fail
  refine (HOA.out _).mono ?_
  rintro e w1 ⟨⟨a1, L1, C1, a2, L2, C2, rfl, hn, hd⟩, hx⟩
  clear cx0 cx1
  have X1 := Lib.hid ((X0.out.trans hx).alloc (.cells #[.bool false, .slice a1 L1 C1, .slice a2 L2 C2] 73))
  have ZC := Lib.hid (ZB.out.later (hx.alloc (.cells #[.bool false, .slice a1 L1 C1, .slice a2 L2 C2] 73)))
  have RC := Lib.hid (RX.out.later (hx.alloc (.cells #[.bool false, .slice a1 L1 C1, .slice a2 L2 C2] 73)))
  have QB : Hid (Qb (w1.alloc (.cells #[.bool false, .slice a1 L1 C1, .slice a2 L2 C2] 73)) w1.heap.size false (.slice a1 L1 C1) (.slice a2 L2 C2)) := Lib.hid ⟨by simp [go_sem], by simp [go_sem], by simp [go_sem], by simp⟩
  have QV : Hid (Qv (w1.alloc (.cells #[.bool false, .slice a1 L1 C1, .slice a2 L2 C2] 73)) (.agg #[.bool false, .slice a1 L1 C1, .slice a2 L2 C2]) false A d) := Lib.hid ⟨_, _, _, _, _, _, rfl, hn.later ((Ext.refl w1).alloc _), hd.later ((Ext.refl w1).alloc _)⟩
  clear hn hd hx X0 ZB RX HOA
  go_upto_region 2 with (fail)
  generalize w1.alloc (.cells #[.bool false, .slice a1 L1 C1, .slice a2 L2 C2] 73) = W1 at *
  generalize w1.heap.size = b3 at *
  have q0 := QB.out.c0; have q1 := QB.out.c1; have q2 := QB.out.c2
  go_wp2_with fail
  refine (HSC.out _ _ QV.out).mono ?_
  rintro e w2 ⟨rfl, hx⟩
  have X2 := Lib.hid (X1.out.trans hx)
  have ZD := Lib.hid (ZC.out.later hx); have RD := Lib.hid (RC.out.later hx); have QC := Lib.hid (QB.out.later hx); have QW := Lib.hid (QV.out.later hx)
  clear hx q0 q1 q2 X1 ZC RC QB QV HSC
  go_wp2
  go_loopg [5] J (fun g s wx => ∃ (u2 : World) (j : Nat) (k : Int), u2 = wx ∧ s = .int .i64 k ∧ Hid (g = J - j ∧ j ≤ J) ∧ Hid (k = top - j) ∧ Hid (Ext w2 u2))
  case atStart => exact ⟨_, 0, top, rfl, rfl, Lib.hid ⟨by omega, by omega⟩, Lib.hid (by omega), Lib.hid (Ext.refl _)⟩
  case round =>
    obtain ⟨u, j, k, hu, rfl, HG, HK, XU⟩ := hrel
    subst hu
    obtain ⟨D, E, lo, hi, m1, x1, ok1, m2, x2, ok2, c, rf, hno, hyes⟩ := HRH.out j HG.out.2 k HK.out
    have HRF := Lib.hid rf; have HNO := Lib.hid hno; have HYES := Lib.hid hyes
    clear rf hno hyes HRH
    have ZU := Lib.hid (ZD.out.later XU.out); have RU := Lib.hid (RD.out.later XU.out); have QU := Lib.hid (QC.out.later XU.out); have VU := Lib.hid (QW.out.later XU.out); have XA := Lib.hid (X2.out.trans XU.out)
    have q0 := QU.out.c0; have q1 := QU.out.c1; have q2 := QU.out.c2
    go_wp2_with fail
    refine (HRF.out.be _ _ VU.out).mono ?_
    rintro e w3 ⟨rfl, hx⟩
    clear q0 q1 q2
    have C6 := Lib.hid (db_new w3 (D : Int) k 102)
    have X6 := Lib.hid (hx.alloc (.cells #[.int .i64 (D : Int), .int .i64 k] 102))
    clear hx
    go_upto_region 6 with (fail)
    generalize w3.alloc (.cells #[.int .i64 (D : Int), .int .i64 k] 102) = W6 at *
    generalize w3.heap.size = b6 at *
    have c0 := C6.out.c0; have p1 := HRF.out.w1; have p2 := HRF.out.w2
    have C7 := Lib.hid (db_new W6 (E : Int) k 102)
    have X7 := Lib.hid (X6.out.alloc (.cells #[.int .i64 (E : Int), .int .i64 k] 102))
    have C6b := Lib.hid (C6.out.later ((Ext.refl W6).alloc (.cells #[.int .i64 (E : Int), .int .i64 k] 102)))
    go_upto_region 7 with (fail)
    clear c0 p1 p2 C6 X6
    generalize W6.alloc (.cells #[.int .i64 (E : Int), .int .i64 k] 102) = W7 at *
    generalize W6.heap.size = b7 at *
    have R7 := Lib.hid (RU.out.later X7.out)
    have hpos := HRF.out.pos; have hfld := fieldR; have hlo := HRF.out.lo
    refine wp_region_S (fun uu : World => Ext W7 uu) 11 (by kernel_rfl) ?_
    have HS : Ext W7 W7.drew := (Ext.refl W7).drew
    refine GoS.pure (i := 0) (v := ?_) rfl (by kernel_rfl) (by kernel_rfl) (by kernel_rfl) (by kernel_rfl) (fun _ _ _ h => h) (Or.inl ⟨by rfl, ?hy1⟩) (fun _ => HS) ?_
    case hy1 => ((intro u' hT; go_simp); try with_reducible rfl)
    try simp only [List.getElem_toArray, List.getElem_cons_zero, Act.put, List.setIfInBounds_toArray, List.set_cons_zero, List.set_cons_succ]
    refine GoS.take (i := 1) (v := ?_) rfl (by kernel_rfl) (by kernel_rfl) (by kernel_rfl) (by kernel_rfl) (fun _ _ _ h => h) (Or.inl ⟨by rfl, ?hy2⟩) HS ?_
    case hy2 => ((intro u' hT; have d1 := (C6b.out.later hT).c0; go_simp); try with_reducible rfl)
    try simp only [List.getElem_toArray, List.getElem_cons_succ, List.getElem_cons_zero, Act.put, List.setIfInBounds_toArray, List.set_cons_zero, List.set_cons_succ]
    refine GoS.pure (i := 2) (v := ?_) rfl (by kernel_rfl) (by kernel_rfl) (by kernel_rfl) (by kernel_rfl) (fun _ _ _ h => h) (Or.inl ⟨by rfl, ?hy3⟩) (fun _ => HS) ?_
    case hy3 => ((intro u' hT; go_simp); try with_reducible rfl)
    try simp only [List.getElem_toArray, List.getElem_cons_succ, List.getElem_cons_zero, Act.put, List.setIfInBounds_toArray, List.set_cons_zero, List.set_cons_succ]
    try simp only [decide_eq_true hpos]
    refine GoS.pure (i := 3) (v := ?_) rfl (by kernel_rfl) (by kernel_rfl) (by kernel_rfl) (by kernel_rfl) (fun _ _ _ h => h) (Or.inl ⟨by rfl, ?hy4⟩) (fun _ => HS) ?_
    case hy4 => ((intro u' hT; go_simp); try with_reducible rfl)
    try simp only [List.getElem_toArray, List.getElem_cons_succ, List.getElem_cons_zero, Act.put, List.setIfInBounds_toArray, List.set_cons_zero, List.set_cons_succ]
    refine GoS.take (i := 4) (v := ?_) rfl (by kernel_rfl) (by kernel_rfl) (by kernel_rfl) (by kernel_rfl) (fun _ _ _ h => h) (Or.inl ⟨by rfl, ?hy5⟩) HS ?_
    case hy5 => ((intro u' hT; have d1 := (C6b.out.later hT).c0; have d2 := (C6b.out.later hT).c1; go_simp); try with_reducible rfl)
    try simp only [List.getElem_toArray, List.getElem_cons_succ, List.getElem_cons_zero, Act.put, List.setIfInBounds_toArray, List.set_cons_zero, List.set_cons_succ]
    refine GoS.take (i := 8) (v := ?_) rfl (by kernel_rfl) (by kernel_rfl) (by kernel_rfl) (by kernel_rfl) (fun _ _ _ h => h) (Or.inl ⟨by rfl, ?hy6⟩) HS ?_
    case hy6 => ((intro u' hT; have d1 := (R7.out.later hT).c0; have d2 := (R7.out.later hT).c1; go_simp); try with_reducible rfl)
    try simp only [List.getElem_toArray, List.getElem_cons_succ, List.getElem_cons_zero, Act.put, List.setIfInBounds_toArray, List.set_cons_zero, List.set_cons_succ]
    refine GoS.one (i := 5) (by kernel_rfl) rfl (fun K hK => ?_)
    go_simp
    (with_reducible refine (HRF.out.e1 _).mono ?_)
    rintro e q7 ⟨⟨a3, L3, C3, a4, L4, C4, rfl, hn, hd⟩, hx⟩
    have HS2 := HS.trans hx; clear HS; have HS := HS2; clear HS2 hx
    go_wp2_with fail
    refine hK.out _ _ HS (fun _ => ?_)
    clear hK K
    try simp only [List.getElem_toArray, List.getElem_cons_succ, List.getElem_cons_zero, Act.put, List.setIfInBounds_toArray, List.set_cons_zero, List.set_cons_succ]
    refine GoS.one (i := 6) (by kernel_rfl) rfl (fun K hK => ?_)
    go_simp
    (with_reducible refine (HRF.out.r1 _ _ _ _ _ _ _ hn hd).mono ?_)
    rintro e q8 ⟨rfl, hx⟩
    have HS2 := HS.trans hx; clear HS; have HS := HS2; clear HS2 hx
    go_wp2_with fail
    refine hK.out _ _ HS (fun _ => ?_)
    clear hK K
    try simp only [List.getElem_toArray, List.getElem_cons_succ, List.getElem_cons_zero, Act.put, List.setIfInBounds_toArray, List.set_cons_zero, List.set_cons_succ]
    clear hn hd
    refine GoS.pure (i := 7) (v := ?_) rfl (by kernel_rfl) (by kernel_rfl) (by kernel_rfl) (by kernel_rfl) (fun _ _ _ h => h) (Or.inl ⟨by rfl, ?hy9⟩) (fun _ => HS) ?_
    case hy9 => ((intro u' hT; go_simp); try with_reducible rfl)
    try simp only [List.getElem_toArray, List.getElem_cons_succ, List.getElem_cons_zero, Act.put, List.setIfInBounds_toArray, List.set_cons_zero, List.set_cons_succ]
    refine GoS.pure (i := 9) (v := .bool lo) rfl (by kernel_rfl) (by kernel_rfl) (by kernel_rfl) (by kernel_rfl) (fun _ _ _ h => h) (Or.inl ⟨by rfl, ?hyE⟩) (fun _ => HS) ?_
    case hyE => (intro u' hT; rw [← hlo]; clear hlo; go_simp; by_cases h1 : m1 = m <;> by_cases h2 : x1 = x <;> simp [h1, h2])
    try simp only [List.getElem_toArray, List.getElem_cons_succ, List.getElem_cons_zero, Act.put, List.setIfInBounds_toArray, List.set_cons_zero, List.set_cons_succ]
    refine GoS.pure (i := 10) (v := ?_) rfl (by kernel_rfl) (by kernel_rfl) (by kernel_rfl) (by kernel_rfl) (fun _ _ _ h => h) (Or.inl ⟨by rfl, ?hy10⟩) (fun _ => HS) ?_
    case hy10 => ((intro u' hT; go_simp); try with_reducible rfl)
    try simp only [List.getElem_toArray, List.getElem_cons_succ, List.getElem_cons_zero, Act.put, List.setIfInBounds_toArray, List.set_cons_zero, List.set_cons_succ]
    refine GoS.store (i := 11) (by kernel_rfl) rfl (by kernel_rfl) (fun K hK => ?_)
    go_simp
    refine hK.out _ _ ?_
    clear hK K
    try simp only [List.getElem_toArray, List.getElem_cons_succ, List.getElem_cons_zero, Act.put, List.setIfInBounds_toArray, List.set_cons_zero, List.set_cons_succ]
    refine GoS.done (by kernel_rfl) ?_
    have X8 := Lib.hid (X7.out.trans HS)
    have C6 := Lib.hid (C6b.out.later HS); have C7b := Lib.hid (C7.out.later HS); have R8 := Lib.hid (R7.out.later HS)
    clear C6b C7 R7 X7 hpos hlo HS
    generalize q8 = W8 at *
    have d1 := C7b.out.c0; have d2 := C7b.out.c1
    go_wp2_with fail
    refine (HRF.out.e2 _).mono ?_
    rintro e w9 ⟨⟨a5, L5, C5, a6, L6, C6', rfl, hn, hd⟩, hx⟩
    have X9 := Lib.hid hx
    clear d1 d2 hx
    go_wp2_with fail
    refine (HRF.out.r2 _ _ _ _ _ _ _ hn hd).mono ?_
    rintro e w10 ⟨rfl, hx⟩
    clear hn hd
    have XB := Lib.hid ((X9.out.trans hx).alloc (.cells #[.int .i64 m2, .int .i64 x2, .bool ok2] 43))
    have o0 : (w10.alloc (.cells #[.int .i64 m2, .int .i64 x2, .bool ok2] 43)).cell? ⟨w10.heap.size, 0, none⟩ = some (.int .i64 m2) := by simp [go_sem]
    have o1 : (w10.alloc (.cells #[.int .i64 m2, .int .i64 x2, .bool ok2] 43)).cell? ⟨w10.heap.size, 1, none⟩ = some (.int .i64 x2) := by simp [go_sem]
    have o2 : (w10.alloc (.cells #[.int .i64 m2, .int .i64 x2, .bool ok2] 43)).cell? ⟨w10.heap.size, 2, none⟩ = some (.bool ok2) := by simp [go_sem]
    clear hx X9
    go_upto_region 9 with (fail)
    have O0 := Lib.hid o0; have O1 := Lib.hid o1; have O2 := Lib.hid o2
    clear o0 o1 o2
    generalize w10.alloc (.cells #[.int .i64 m2, .int .i64 x2, .bool ok2] 43) = W9 at *
    generalize w10.heap.size = b9 at *
    have XC := Lib.hid (X8.out.trans XB.out)
    have C6c := Lib.hid (C6.out.later XB.out); have C7c := Lib.hid (C7b.out.later XB.out); have R9 := Lib.hid (R8.out.later XB.out)
    clear C6 C7b R8 X8 XB
    go_cut [10] from 18 to 97 (fun s wx => s = .bool hi ∧ wx = W9)
    case first =>
      have o0 := O0.out; have o1 := O1.out; have o2 := O2.out; have r0 := R9.out.c0; have r1 := R9.out.c1
      have hhi := HRF.out.hi
      cases ok2 with
      | false =>
        rw [Bool.false_and] at hhi
        subst hhi
        go_wp2_with fail
        go_meet
        exact ⟨rfl, rfl⟩
      | true =>
        rw [Bool.true_and] at hhi
        by_cases h1 : m2 = m
        · by_cases h2 : x2 = x
          · have eh : hi = true := by rw [← hhi]; simp [h1, h2]
            subst eh
            clear hhi
            go_wp2_with fail
            go_meet
            exact ⟨rfl, rfl⟩
          · have eh : hi = false := by rw [← hhi]; simp [h2]
            subst eh
            clear hhi
            go_wp2_with fail
            go_meet
            exact ⟨rfl, rfl⟩
        · have eh : hi = false := by rw [← hhi]; simp [h1]
          subst eh
          clear hhi
          go_wp2_with fail
          go_meet
          exact ⟨rfl, rfl⟩
    case rest =>
      obtain ⟨rfl, rfl⟩ := hcut
      clear O0 O1 O2
      by_cases hj : j < J
      · obtain ⟨rfl, rfl⟩ := HNO.out hj
        obtain ⟨n1, n2⟩ := k_down HK.out HT.out.1 HT.out.2.1 (Nat.le_trans HG.out.2 HT.out.2.2)
        have HJ := Lib.hid hj
        have HG2 : Hid (J - (j + 1) < gk) := Lib.hid (by have := HG.out; omega)
        clear hj HNO HYES HRF
        go_wp2_with fail
        go_roundg (J - (j + 1))
        case measure => exact HG2.out
        case rel => exact ⟨_, j + 1, k - 1, rfl, by first | rfl | go_num, Lib.hid ⟨rfl, HJ.out⟩, Lib.hid (by have := HK.out; omega), Lib.hid (XU.out.trans XC.out)⟩
      · have ej : j = J := by have := HG.out; omega
        obtain ⟨hor, htake⟩ := HYES.out ej
        have HTAKE := Lib.hid htake
        have HKJ : Hid (k = top - J) := Lib.hid (by rw [← ej]; exact HK.out)
        have HOR := Lib.hid hor
        clear hj htake HNO HYES hor
        have XD := Lib.hid (XA.out.trans XC.out)
        have Q9 := Lib.hid (QU.out.later XC.out); have V9 := Lib.hid (VU.out.later XC.out); have Z9 := Lib.hid (ZU.out.later XC.out)
        clear QU VU ZU RU
        go_upto_region 10 with (fail)
        go_cut [57] from 18 to 97 (fun s wx => s = .bool false ∧ ∃ u9 : World, u9 = wx ∧ Hid (Db u9 b6 (D : Int) k) ∧ Hid (Db u9 b7 (E : Int) k) ∧ Hid (Qb u9 b3 false (.slice a1 L1 C1) (.slice a2 L2 C2)) ∧ Hid (Qv u9 (.agg #[.bool false, .slice a1 L1 C1, .slice a2 L2 C2]) false A d) ∧ Hid (Db u9 (w.heap.size + 1) 0 0) ∧ Hid (Ext w u9))
        case first =>
          have hor := HOR.out
          cases lo with
          | true => (go_wp2_with fail; go_meet; exact ⟨rfl, _, rfl, C6c, C7c, Q9, V9, Z9, XD⟩)
          | false =>
            cases hi with
            | true => (go_wp2_with fail; go_meet; exact ⟨rfl, _, rfl, C6c, C7c, Q9, V9, Z9, XD⟩)
            | false => exact absurd hor (by decide)
        case rest =>
          obtain ⟨rfl, u9, hu9, D6, D7, QN, VN, ZN, XN⟩ := hcut
          subst hu9
          clear C6c C7c Q9 V9 Z9 XD XA XC XU R9
          have c0 := D6.out.c0; have c1 := D6.out.c1
          have D11 := Lib.hid (db_new u9 (D : Int) k 102)
          have XE := Lib.hid ((Ext.refl u9).alloc (.cells #[.int .i64 (D : Int), .int .i64 k] 102))
          have LE := Lib.hid XN.out.size
          go_upto_region 12 with (fail)
          clear c0 c1
          generalize u9.alloc (.cells #[.int .i64 (D : Int), .int .i64 k] 102) = UA at *
          go_cut [60] from 18 to 97 (fun s wx => s = .bool (!lo) ∧ wx = UA)
          case first =>
            cases lo with
            | true => (go_wp2_with fail; go_meet; exact ⟨rfl, rfl⟩)
            | false => (go_wp2_with fail; go_meet; exact ⟨rfl, rfl⟩)
          case rest =>
            obtain ⟨rfl, hw⟩ := hcut
            subst hw
            go_upto_if 60 with (fail)
            go_cut [] from 18 to 97 (fun wx => Hid (Db wx u9.heap.size ((if lo then D else E : Nat) : Int) k) ∧ Hid (Ext u9 wx))
            case first =>
              cases lo with
              | true => (simp only [Bool.not_true]; go_wp2_with fail; go_meet; exact ⟨D11, XE⟩)
              | false =>
                have c0 := (D7.out.later XE.out).c0; have c1 := (D7.out.later XE.out).c1
                have e0 := D11.out.c0; have e1 := D11.out.c1; have ef := D11.out.fz
                have DS := Lib.hid (D11.out.set (E : Int) k)
                have XS := Lib.hid ((XE.out.setCell (p := ⟨u9.heap.size, 0, none⟩) (Nat.le_refl _) (.int .i64 (E : Int))).setCell (p := ⟨u9.heap.size, 1, none⟩) (Nat.le_refl _) (.int .i64 k))
                simp only [Bool.not_false]
                go_wp2_with fail
                go_meet
                exact ⟨DS, XS⟩
            case rest =>
              obtain ⟨DL, XL⟩ := hcut
              clear D11 XE
              go_upto_region 14 with (fail)
              go_cut [65] from 18 to 97 (fun s wx => s = .bool (lo && hi) ∧ ∃ ub : World, ub = wx ∧ Hid (Db ub u9.heap.size ((if lo then D else E : Nat) : Int) k) ∧ Hid (Ext u9 ub))
              case first =>
                cases lo <;> cases hi <;> (go_wp2_with fail; go_meet; exact ⟨rfl, _, rfl, DL, XL⟩)
              case rest =>
                obtain ⟨rfl, ub, hub, DM, XM⟩ := hcut
                subst hub
                clear DL XL
                go_upto_if 65 with (fail)
                go_cut [] from 18 to 97 (fun wx => Hid (Db wx u9.heap.size (G : Int) k) ∧ Hid (Ext u9 wx))
                case first =>
                  have ht := HTAKE.out
                  have hor := HOR.out
                  cases lo with
                  | false =>
                    cases hi with
                    | false => exact absurd hor (by decide)
                    | true =>
                      have eG : E = G := ht
                      subst eG
                      clear hor ht
                      simp only [Bool.false_and]
                      go_wp2_with fail; go_meet; exact ⟨DM, XM⟩
                  | true =>
                    cases hi with
                    | false =>
                      have eG : D = G := ht
                      subst eG
                      clear hor ht
                      simp only [Bool.true_and]
                      go_wp2_with fail; go_meet; exact ⟨DM, XM⟩
                    | true =>
                      have ht : (if c > 0 then E else if c = 0 ∧ D % 2 = 1 then E else D) = G := ht
                      have HTT := Lib.hid ht
                      have DN : Hid (Db ub u9.heap.size (D : Int) k) := DM
                      have DA := Lib.hid (D6.out.later XM.out); have DE := Lib.hid (D7.out.later XM.out); have QM := Lib.hid (QN.out.later XM.out); have VM := Lib.hid (VN.out.later XM.out)
                      clear hor ht DM
                      simp only [Bool.true_and]
                      go_upto_region 15 with (fail)
                      refine wp_region_S (fun uu : World => Ext ub uu) 7 (by kernel_rfl) ?_
                      have HS : Ext ub ub.drew := (Ext.refl ub).drew
                      refine GoS.take (i := 0) (v := ?_) rfl (by kernel_rfl) (by kernel_rfl) (by kernel_rfl) (by kernel_rfl) (fun _ _ _ h => h) (Or.inl ⟨by rfl, ?hy11⟩) HS ?_
                      case hy11 => ((intro u' hT; have d1 := (DA.out.later hT).c0; have d2 := (DA.out.later hT).c1; go_simp); try with_reducible rfl)
                      try simp only [List.getElem_toArray, List.getElem_cons_zero, Act.put, List.setIfInBounds_toArray, List.set_cons_zero, List.set_cons_succ]
                      refine GoS.take (i := 1) (v := ?_) rfl (by kernel_rfl) (by kernel_rfl) (by kernel_rfl) (by kernel_rfl) (fun _ _ _ h => h) (Or.inl ⟨by rfl, ?hy12⟩) HS ?_
                      case hy12 => ((intro u' hT; have d1 := (QM.out.later hT).c0; have d2 := (QM.out.later hT).c1; have d3 := (QM.out.later hT).c2; go_simp); try with_reducible rfl)
                      try simp only [List.getElem_toArray, List.getElem_cons_succ, List.getElem_cons_zero, Act.put, List.setIfInBounds_toArray, List.set_cons_zero, List.set_cons_succ]
                      refine GoS.take (i := 3) (v := ?_) rfl (by kernel_rfl) (by kernel_rfl) (by kernel_rfl) (by kernel_rfl) (fun _ _ _ h => h) (Or.inl ⟨by rfl, ?hy13⟩) HS ?_
                      case hy13 => ((intro u' hT; have d1 := (DE.out.later hT).c0; have d2 := (DE.out.later hT).c1; go_simp); try with_reducible rfl)
                      try simp only [List.getElem_toArray, List.getElem_cons_succ, List.getElem_cons_zero, Act.put, List.setIfInBounds_toArray, List.set_cons_zero, List.set_cons_succ]
                      refine GoS.take (i := 4) (v := ?_) rfl (by kernel_rfl) (by kernel_rfl) (by kernel_rfl) (by kernel_rfl) (fun _ _ _ h => h) (Or.inl ⟨by rfl, ?hy14⟩) HS ?_
                      case hy14 => ((intro u' hT; have d1 := (QM.out.later hT).c0; have d2 := (QM.out.later hT).c1; have d3 := (QM.out.later hT).c2; go_simp); try with_reducible rfl)
                      try simp only [List.getElem_toArray, List.getElem_cons_succ, List.getElem_cons_zero, Act.put, List.setIfInBounds_toArray, List.set_cons_zero, List.set_cons_succ]
                      refine GoS.one (i := 2) (by kernel_rfl) rfl (fun K hK => ?_)
                      go_simp
                      (with_reducible refine (HRF.out.d1 _ _ (VM.out.later HS)).mono ?_)
                      rintro e q15 ⟨z1, rfl, hv, hx⟩
                      have HS2 := HS.trans hx; clear HS; have HS := HS2; clear HS2 hx
                      go_wp2_with fail
                      refine hK.out _ _ HS (fun _ => ?_)
                      clear hK K
                      try simp only [List.getElem_toArray, List.getElem_cons_succ, List.getElem_cons_zero, Act.put, List.setIfInBounds_toArray, List.set_cons_zero, List.set_cons_succ]
                      have Y1 := Lib.hid hv; clear hv
                      refine GoS.one (i := 5) (by kernel_rfl) rfl (fun K hK => ?_)
                      go_simp
                      (with_reducible refine (HRF.out.d2 _ _ (VM.out.later HS)).mono ?_)
                      rintro e q16 ⟨z2, rfl, hv, hx⟩
                      have Y1b := Lib.hid (Y1.out.later hx); clear Y1
                      have HS2 := HS.trans hx; clear HS; have HS := HS2; clear HS2 hx
                      go_wp2_with fail
                      refine hK.out _ _ HS (fun _ => ?_)
                      clear hK K
                      try simp only [List.getElem_toArray, List.getElem_cons_succ, List.getElem_cons_zero, Act.put, List.setIfInBounds_toArray, List.set_cons_zero, List.set_cons_succ]
                      have Y2 := Lib.hid hv; clear hv
                      refine GoS.one (i := 6) (by kernel_rfl) rfl (fun K hK => ?_)
                      go_simp
                      (with_reducible refine (ncmp_eq Y1b.out Y2.out HRF.out.cm).mono ?_)
                      rintro e q17 ⟨rfl, hx⟩
                      have HS2 := HS.trans hx; clear HS; have HS := HS2; clear HS2 hx
                      go_wp2_with fail
                      refine hK.out _ _ HS (fun _ => ?_)
                      clear hK K
                      try simp only [List.getElem_toArray, List.getElem_cons_succ, List.getElem_cons_zero, Act.put, List.setIfInBounds_toArray, List.set_cons_zero, List.set_cons_succ]
                      refine GoS.store (i := 7) (by kernel_rfl) rfl (by kernel_rfl) (fun K hK => ?_)
                      go_simp
                      refine hK.out _ _ ?_
                      clear hK K
                      try simp only [List.getElem_toArray, List.getElem_cons_succ, List.getElem_cons_zero, Act.put, List.setIfInBounds_toArray, List.set_cons_zero, List.set_cons_succ]
                      refine GoS.done (by kernel_rfl) ?_
                      have XQ := Lib.hid (XM.out.trans HS); have DA2 := Lib.hid (DA.out.later HS); have DE2 := Lib.hid (DE.out.later HS); have DN2 := Lib.hid (DN.out.later HS)
                      clear Y1b Y2 DA DE DN QM VM HS
                      generalize q17 = UC at *
                      have a0 := DA2.out.c0; have e0 := DE2.out.c0; have e1 := DE2.out.c1
                      have f0 := DN2.out.c0; have f1 := DN2.out.c1; have ff := DN2.out.fz
                      have DS := Lib.hid (DN2.out.set (E : Int) k)
                      have XS := Lib.hid ((XQ.out.setCell (p := ⟨u9.heap.size, 0, none⟩) (Nat.le_refl _) (.int .i64 (E : Int))).setCell (p := ⟨u9.heap.size, 1, none⟩) (Nat.le_refl _) (.int .i64 k))
                      by_cases g1 : c > 0
                      · have eG : E = G := by have := HTT.out; rwa [if_pos g1] at this
                        subst eG
                        go_wp2_with fail; go_meet; exact ⟨DS, XS⟩
                      · by_cases g2 : c = 0
                        · subst g2
                          by_cases g3 : D % 2 = 1
                          · have eG : E = G := by have := HTT.out; rwa [if_neg g1, if_pos ⟨rfl, g3⟩] at this
                            have g4 : (D : Int).tmod 2 = 1 := by rw [Int.tmod_eq_emod_of_nonneg (by omega)]; omega
                            subst eG
                            clear g3 g1
                            go_wp2_with fail; go_meet; exact ⟨DS, XS⟩
                          · have eG : D = G := by have := HTT.out; rwa [if_neg g1, if_neg (fun h => g3 h.2)] at this
                            have g4 : (D : Int).tmod 2 = 0 := by rw [Int.tmod_eq_emod_of_nonneg (by omega)]; omega
                            have DN3 : Hid (Db UC u9.heap.size (G : Int) k) := by rw [← eG]; exact DN2
                            clear g3 g1 eG
                            go_wp2_with fail; go_meet; exact ⟨DN3, XQ⟩
                        · have eG : D = G := by have := HTT.out; rwa [if_neg g1, if_neg (fun h => g2 h.1)] at this
                          have g3 : (c == 0) = false := by simpa using g2
                          have DN3 : Hid (Db UC u9.heap.size (G : Int) k) := by rw [← eG]; exact DN2
                          clear eG
                          go_wp2_with fail; go_meet; exact ⟨DN3, XQ⟩
                case rest =>
                  obtain ⟨DM2, XM2⟩ := hcut
                  clear DM XM D6 D7 QN VN HTAKE HOR HRF
                  go_upto_block 2 with (fail)
                  go_cut [] from 18 to 97 (fun wx => Hid (Db wx u9.heap.size (Df : Int) Kf) ∧ Hid (Ext u9 wx))
                  case first =>
                    go_wp2_with fail
                    go_loopg [] 1 (fun g wx => ∃ (u2 : World) (D' : Nat) (K' : Int), u2 = wx ∧ Hid (Db u2 u9.heap.size (D' : Int) K') ∧ Hid (Ext u9 u2) ∧ Hid ((g = 1 ∧ D' = G ∧ K' = k) ∨ (g = 0 ∧ D' = Df ∧ K' = Kf)))
                    case atStart => exact ⟨_, G, k, rfl, DM2, XM2, Lib.hid (.inl ⟨rfl, rfl, rfl⟩)⟩
                    case round =>
                      obtain ⟨ux, D', K', hux, DR, XR, HW⟩ := hrel
                      subst hux
                      by_cases hz : D' % 10 = 0
                      · obtain ⟨h1, h2, h3, h4, h5⟩ := strip_yes HW.out HFIN.out HL.out.1 HKJ.out hz
                        obtain ⟨n1, n2⟩ := k_up HK.out HT.out.1 HT.out.2.1 (Nat.le_trans HG.out.2 HT.out.2.2)
                        subst h3 h4
                        have e0 : ux.cell? ⟨u9.heap.size, 0, none⟩ = some (.int .i64 10) := DR.out.c0
                        have e1 := DR.out.c1; have ef := DR.out.fz
                        have DS := Lib.hid (DR.out.set ((1 : Nat) : Int) (K' + 1))
                        have XS := Lib.hid ((XR.out.setCell (p := ⟨u9.heap.size, 0, none⟩) (Nat.le_refl _) (.int .i64 1)).setCell (p := ⟨u9.heap.size, 1, none⟩) (Nat.le_refl _) (.int .i64 (K' + 1)))
                        have H1 := Lib.hid h1; have H2 := Lib.hid h2; have H5 := Lib.hid h5
                        clear h1 h2 h5 hz HW
                        go_wp2_with fail
                        go_roundg 0
                        case measure => rw [H1.out]; exact Nat.zero_lt_one
                        case rel => exact ⟨_, 1, K' + 1, rfl, DS, XS, Lib.hid (.inr ⟨rfl, H2.out.symm, H5.out.symm⟩)⟩
                      · obtain ⟨h1, h2⟩ := strip_no HW.out HFIN.out HKJ.out hz
                        subst h1 h2
                        obtain ⟨r, g4, g5, g6, g7, g8⟩ := strip_mod hz
                        have e0 := DR.out.c0; have e1 := DR.out.c1
                        clear hz HW
                        go_wp2_with fail; go_meet; exact ⟨DR, XR⟩
                  case rest =>
                    obtain ⟨DZ, XZ⟩ := hcut
                    have e0 := DZ.out.c0; have e1 := DZ.out.c1
                    have z0 := (ZN.out.later XZ.out).c0; have z1 := (ZN.out.later XZ.out).c1; have zf := (ZN.out.later XZ.out).fz
                    have X9 := Lib.hid (XN.out.trans XZ.out)
                    clear DZ XZ ZN XN DM2 XM2
                    go_wp2
                    refine bodyPost_ret (v := .agg #[.int .i64 (Df : Int), .int .i64 Kf]) ?_ rfl ⟨rfl, ?_⟩
                    · simp [results, Tryz.results91, go_sem, z0, z1]
                    · exact (X9.out.setCell (by simp) _).setCell (by simp) _
end Go.Proofs.YtogfiekbikechaaGreatDoor
