/- Layer 2: a real as the reference's exact number. -/
import Derived.Test.YtogfiekbikechaaGreatDoorGs
namespace Go.Proofs.YtogfiekbikechaaGreatDoor
open Go.ChangeShapes Go.WideShapes Go.ChangeAt Go.RowKit

/-- A quotient that comes back: its sign, numerator and denominator. -/
def QEnd (e : Ending) (w : World) (b : Bool) (n d : Nat) : Prop := ∃ a1 L1 C1 a2 L2 C2, e = .returned (.agg #[.bool b, .slice a1 L1 C1, .slice a2 L2 C2]) ∧ IsNat w (.slice a1 L1 C1) n ∧ IsNat w (.slice a2 L2 C2) d

/-- A quotient that is still zero. -/
structure Ob (w : World) (b : Nat) : Prop where
  c0 : w.cell? ⟨b, 0, none⟩ = some (.bool false)
  c1 : w.cell? ⟨b, 1, none⟩ = some (.slice none 0 0)
  c2 : w.cell? ⟨b, 2, none⟩ = some (.slice none 0 0)
  c3 : ∀ j, 3 ≤ j → w.cell? ⟨b, j, none⟩ = none
  fz : ∀ j, w.frozen? ⟨b, j, none⟩ = false
  lt : b < w.heap.size
theorem Ob.later {w w' : World} {b : Nat} (h : Ob w b) (hx : Ext w w') : Ob w' b :=
  ⟨(hx.cell 0 h.lt).trans h.c0, (hx.cell 1 h.lt).trans h.c1, (hx.cell 2 h.lt).trans h.c2, fun j hj => (hx.cell j h.lt).trans (h.c3 j hj), fun j => (hx.froz j h.lt).trans (h.fz j), Nat.lt_of_lt_of_le h.lt hx.size⟩
def isInt : Value → Bool
  | .int _ _ => true
  | _ => false
/-- No integer lies in block b. -/
def NoInt (w : World) (b : Nat) : Prop := ∀ o v, w.cell? ⟨b, o, none⟩ = some v → isInt v = false
theorem NoInt.set {w : World} {b p : Nat} {v : Value} (h : NoInt w b) (hv : isInt v = false) (hs : (w.cell? ⟨b, p, none⟩).isSome = true) : NoInt (w.setCell ⟨b, p, none⟩ v) b := by
  intro o u hu
  by_cases e : o = p
  · subst e
    rw [World.cell?_setCell_same' _ _ _ hs] at hu
    cases hu; exact hv
  · have e3 : (w.setCell ⟨b, p, none⟩ v).cell? ⟨b, o, none⟩ = w.cell? ⟨b, o, none⟩ := by
      apply World.cell?_setCell_other; intro e2; simp at e2; try exact e e2.symm
    rw [e3] at hu
    exact h o u hu
theorem IsNat.set {w : World} {v : Value} {n b p : Nat} {u : Value} (h : IsNat w v n) (hb : NoInt w b) : IsNat (w.setCell ⟨b, p, none⟩ u) v n := by
  obtain ⟨L, h1, h2, h3⟩ := h
  refine ⟨L, h1, h2, ?_⟩
  rcases h3 with e | ⟨ad, c, e, k1, k2, k3⟩
  · exact Or.inl e
  · refine Or.inr ⟨ad, c, e, k1, fun j hj => ?_, k3⟩
    rw [← k2 j hj]
    apply World.cell?_setCell_other
    intro e2
    have := k2 j hj
    rw [← e2] at this
    have := hb _ _ this
    cases this
theorem set_some {w : World} {b p q : Nat} {v : Value} (hs : (w.cell? ⟨b, q, none⟩).isSome = true) : ((w.setCell ⟨b, p, none⟩ v).cell? ⟨b, q, none⟩).isSome = true := by
  by_cases e : q = p
  · subst e; rw [World.cell?_setCell_same' _ _ _ hs]; rfl
  · have e3 : (w.setCell ⟨b, p, none⟩ v).cell? ⟨b, q, none⟩ = w.cell? ⟨b, q, none⟩ := by
      apply World.cell?_setCell_other; intro e2; simp at e2; try exact e e2.symm
    rw [e3]; exact hs
theorem Ob.noInt {w : World} {b : Nat} (h : Ob w b) : NoInt w b := by
  intro o v hv
  rcases o with _ | _ | _ | o
  · rw [h.c0] at hv; cases hv; rfl
  · rw [h.c1] at hv; cases hv; rfl
  · rw [h.c2] at hv; cases hv; rfl
  · rw [h.c3 _ (by omega)] at hv; cases hv
theorem Ob.aside {w : World} {b n : Nat} {v : Value} (h : Ob w b) (k : IsNat w v n) (x0 x1 x2 : Value) (h0 : isInt x0 = false) (h1 : isInt x1 = false) (_h2 : isInt x2 = false) : IsNat (((w.setCell ⟨b, 0, none⟩ x0).setCell ⟨b, 1, none⟩ x1).setCell ⟨b, 2, none⟩ x2) v n := by
  have s0 : (w.cell? ⟨b, 0, none⟩).isSome = true := by rw [h.c0]; rfl
  have s1 : (w.cell? ⟨b, 1, none⟩).isSome = true := by rw [h.c1]; rfl
  have n0 := h.noInt
  have n1 := n0.set h0 s0
  have n2 := n1.set h1 (set_some s1)
  exact ((k.set n0).set n1).set n2
set_option maxRecDepth 100000 in
set_option maxHeartbeats 4000000 in
theorem of_pos (x : Int) (M X : Nat) (hn : ¬ (M : Int) < 0) (h0 : ((M : Int) == 0) = false) (_h0' : ¬ (M : Int) = 0) (e1 : IntKind.i64.wrap (x + 150) = (X : Int)) (_e2 : wrap64 (x + 150) = (X : Int)) (hM : M < 9223372036854775808) (hX : X ≤ 10000) (hf : Fits (M * tw X)) (w : World) :
    Calls Tryz.prog 65 #[.agg #[.int .i64 ((M : Int)), .int .i64 x]] w fun e w' => QEnd e w' false (M * tw X) (tw 150) ∧ Ext w w' := by
  have HF := Lib.hid hf
  clear hf
  have S150 := Lib.hid (ntwo_any 150 (by omega))
  rw [show ((150 : Nat) : Int) = 150 from rfl] at S150
  have HM := Lib.hid hM; have HX := Lib.hid hX; clear hM hX
  go_enter Tryz.func65, Tryz.ntmps65
  go_upto_region 7 with (fail)
  have X0 : Hid (Ext w ((w.alloc (.cells #[.int .i64 ((M : Int)), .int .i64 x] 23)).alloc (.cells #[.bool false, .slice none 0 0, .slice none 0 0] 73))) := Lib.hid (((Ext.refl w).alloc _).alloc _)
  have cm : ((w.alloc (.cells #[.int .i64 ((M : Int)), .int .i64 x] 23)).alloc (.cells #[.bool false, .slice none 0 0, .slice none 0 0] 73)).cell? ⟨w.heap.size, 0, none⟩ = some (.int .i64 ((M : Int))) := by simp [go_sem]
  have lm : w.heap.size < ((w.alloc (.cells #[.int .i64 ((M : Int)), .int .i64 x] 23)).alloc (.cells #[.bool false, .slice none 0 0, .slice none 0 0] 73)).heap.size := by simp [go_sem]
  have ZB : Hid (Ob ((w.alloc (.cells #[.int .i64 ((M : Int)), .int .i64 x] 23)).alloc (.cells #[.bool false, .slice none 0 0, .slice none 0 0] 73)) (w.heap.size + 1)) := Lib.hid ⟨by simp [go_sem], by simp [go_sem], by simp [go_sem], fun j hj => by obtain ⟨i, rfl⟩ : ∃ i, j = i + 3 := ⟨j - 3, by omega⟩; simp [go_sem], fun j => by simp [go_sem], by simp [go_sem]⟩
  generalize ((w.alloc (.cells #[.int .i64 ((M : Int)), .int .i64 x] 23)).alloc (.cells #[.bool false, .slice none 0 0, .slice none 0 0] 73)) = W at *
  have CM := Lib.hid cm
  have LM := Lib.hid lm
  clear cm lm
  refine wp_region_S (fun uu : World => Ext W uu) 11 (by kernel_rfl) ?_
  have HS : Ext W W.drew := (Ext.refl W).drew
  refine GoS.pure (i := 0) (v := ?_) rfl (by kernel_rfl) (by kernel_rfl) (by kernel_rfl) (by kernel_rfl) (fun _ _ _ h => h) (Or.inl ⟨by rfl, ?hy1⟩) (fun _ => HS) ?_
  case hy1 => ((intro u' hT; go_simp); try with_reducible rfl)
  try simp only [List.getElem_toArray, List.getElem_cons_zero, Act.put, List.setIfInBounds_toArray, List.set_cons_zero, List.set_cons_succ]
  refine GoS.take (i := 1) (v := ?_) rfl (by kernel_rfl) (by kernel_rfl) (by kernel_rfl) (by kernel_rfl) (fun _ _ _ h => h) (Or.inl ⟨by rfl, ?hy2⟩) HS ?_
  case hy2 => ((intro u' hT; have d0 := (hT.cell 0 LM.out).trans CM.out; go_simp); try with_reducible rfl)
  try simp only [List.getElem_toArray, List.getElem_cons_succ, List.getElem_cons_zero, Act.put, List.setIfInBounds_toArray, List.set_cons_zero, List.set_cons_succ]
  refine GoS.pure (i := 2) (v := ?_) rfl (by kernel_rfl) (by kernel_rfl) (by kernel_rfl) (by kernel_rfl) (fun _ _ _ h => h) (Or.inl ⟨by rfl, ?hy3⟩) (fun _ => HS) ?_
  case hy3 => ((intro u' hT; go_simp); try with_reducible rfl)
  try simp only [List.getElem_toArray, List.getElem_cons_succ, List.getElem_cons_zero, Act.put, List.setIfInBounds_toArray, List.set_cons_zero, List.set_cons_succ]
  refine GoS.pure (i := 3) (v := ?_) rfl (by kernel_rfl) (by kernel_rfl) (by kernel_rfl) (by kernel_rfl) (fun _ _ _ h => h) (Or.inl ⟨by rfl, ?hy4⟩) (fun _ => HS) ?_
  case hy4 => ((intro u' hT; go_simp); try with_reducible rfl)
  try simp only [List.getElem_toArray, List.getElem_cons_succ, List.getElem_cons_zero, Act.put, List.setIfInBounds_toArray, List.set_cons_zero, List.set_cons_succ]
  refine GoS.pure (i := 5) (v := ?_) rfl (by kernel_rfl) (by kernel_rfl) (by kernel_rfl) (by kernel_rfl) (fun _ _ _ h => h) (Or.inl ⟨by rfl, ?hy5⟩) (fun _ => HS) ?_
  case hy5 => ((intro u' hT; go_simp); try with_reducible rfl)
  try simp only [List.getElem_toArray, List.getElem_cons_succ, List.getElem_cons_zero, Act.put, List.setIfInBounds_toArray, List.set_cons_zero, List.set_cons_succ]
  refine GoS.pure (i := 6) (v := ?_) rfl (by kernel_rfl) (by kernel_rfl) (by kernel_rfl) (by kernel_rfl) (fun _ _ _ h => h) (Or.inl ⟨by rfl, ?hy6⟩) (fun _ => HS) ?_
  case hy6 => ((intro u' hT; go_simp); try with_reducible rfl)
  try simp only [List.getElem_toArray, List.getElem_cons_succ, List.getElem_cons_zero, Act.put, List.setIfInBounds_toArray, List.set_cons_zero, List.set_cons_succ]
  refine GoS.one (i := 4) (by kernel_rfl) rfl (fun K hK => ?_)
  go_simp
  (with_reducible refine (small_nat M HM.out _).mono ?_)
  rintro e q7 ⟨v1, rfl, hv, hx⟩
  have HS2 := HS.trans hx; clear HS; have HS := HS2; clear HS2 hx
  go_wp2_with fail
  refine hK.out _ _ HS (fun _ => ?_)
  clear hK K
  try simp only [List.getElem_toArray, List.getElem_cons_succ, List.getElem_cons_zero, Act.put, List.setIfInBounds_toArray, List.set_cons_zero, List.set_cons_succ]
  have V1 := Lib.hid hv; clear hv
  refine GoS.one (i := 7) (by kernel_rfl) rfl (fun K hK => ?_)
  go_simp
  (with_reducible refine (ntwo_any X HX.out _).mono ?_)
  rintro e q8 ⟨v2, rfl, hv, hx⟩
  have V1b := Lib.hid (V1.out.later hx); clear V1
  have HS2 := HS.trans hx; clear HS; have HS := HS2; clear HS2 hx
  go_wp2_with fail
  refine hK.out _ _ HS (fun _ => ?_)
  clear hK K
  try simp only [List.getElem_toArray, List.getElem_cons_succ, List.getElem_cons_zero, Act.put, List.setIfInBounds_toArray, List.set_cons_zero, List.set_cons_succ]
  have V2 := Lib.hid hv; clear hv
  refine GoS.one (i := 8) (by kernel_rfl) rfl (fun K hK => ?_)
  go_simp
  (with_reducible refine (nmul_any V1b.out V2.out HF.out).mono ?_)
  rintro e q9 ⟨v3, rfl, hv, hx⟩
  have HS2 := HS.trans hx; clear HS; have HS := HS2; clear HS2 hx
  go_wp2_with fail
  refine hK.out _ _ HS (fun _ => ?_)
  clear hK K
  try simp only [List.getElem_toArray, List.getElem_cons_succ, List.getElem_cons_zero, Act.put, List.setIfInBounds_toArray, List.set_cons_zero, List.set_cons_succ]
  have V3 := Lib.hid hv; clear hv V1b V2
  refine GoS.one (i := 9) (by kernel_rfl) rfl (fun K hK => ?_)
  go_simp
  (with_reducible refine (S150.out _).mono ?_)
  rintro e q10 ⟨v4, rfl, hv, hx⟩
  have V3b := Lib.hid (V3.out.later hx); clear V3
  have HS2 := HS.trans hx; clear HS; have HS := HS2; clear HS2 hx
  go_wp2_with fail
  refine hK.out _ _ HS (fun _ => ?_)
  clear hK K
  try simp only [List.getElem_toArray, List.getElem_cons_succ, List.getElem_cons_zero, Act.put, List.setIfInBounds_toArray, List.set_cons_zero, List.set_cons_succ]
  have V4 := Lib.hid hv; clear hv
  obtain ⟨a3, L3, C3, rfl⟩ := V3b.out.shape
  obtain ⟨a4, L4, C4, rfl⟩ := V4.out.shape
  refine GoS.pure (i := 10) (v := ?_) rfl (by kernel_rfl) (by kernel_rfl) (by kernel_rfl) (by kernel_rfl) (fun _ _ _ h => h) (Or.inl ⟨by rfl, ?hy11⟩) (fun _ => HS) ?_
  case hy11 => ((intro u' hT; go_simp); try with_reducible rfl)
  try simp only [List.getElem_toArray, List.getElem_cons_succ, List.getElem_cons_zero, Act.put, List.setIfInBounds_toArray, List.set_cons_zero, List.set_cons_succ]
  have ZB2 := Lib.hid (ZB.out.later HS)
  have z0 := ZB2.out.c0; have z1 := ZB2.out.c1; have z2 := ZB2.out.c2; have zf := ZB2.out.fz
  refine GoS.store (i := 11) (by kernel_rfl) rfl (by kernel_rfl) (fun K hK => ?_)
  go_simp
  refine hK.out _ _ ?_
  clear hK K
  try simp only [List.getElem_toArray, List.getElem_cons_succ, List.getElem_cons_zero, Act.put, List.setIfInBounds_toArray, List.set_cons_zero, List.set_cons_succ]
  refine GoS.done (by kernel_rfl) ?_
  have XX := Lib.hid (X0.out.trans HS)
  have X9 : Ext w (((q10.setCell ⟨w.heap.size + 1, 0, none⟩ (.bool false)).setCell ⟨w.heap.size + 1, 1, none⟩ (.slice a3 L3 C3)).setCell ⟨w.heap.size + 1, 2, none⟩ (.slice a4 L4 C4)) := ((XX.out.setCell (by simp) _).setCell (by simp) _).setCell (by simp) _
  have U3 := Lib.hid (ZB2.out.aside V3b.out (.bool false) (.slice a3 L3 C3) (.slice a4 L4 C4) rfl rfl rfl)
  have U4 := Lib.hid (ZB2.out.aside V4.out (.bool false) (.slice a3 L3 C3) (.slice a4 L4 C4) rfl rfl rfl)
  go_wp2
  refine bodyPost_ret (v := .agg #[.bool false, .slice a3 L3 C3, .slice a4 L4 C4]) ?_ rfl ⟨⟨_, _, _, _, _, _, rfl, ?_, ?_⟩, ?_⟩
  · simp [results, Tryz.results65, go_sem, z0, z1, z2]
  · exact U3.out
  · exact U4.out
  · exact X9
set_option maxRecDepth 100000 in
set_option maxHeartbeats 4000000 in
theorem of_neg (m x : Int) (M X : Nat) (hn : m < 0) (w1 : IntKind.i64.wrap (-m) = (M : Int)) (_w2 : wrap64 (-m) = (M : Int)) (_w3 : IntKind.i64.wrap (0 - m) = (M : Int)) (_w4 : wrap64 (0 - m) = (M : Int)) (h0 : ((M : Int) == 0) = false) (_h0' : ¬ (M : Int) = 0) (e1 : IntKind.i64.wrap (x + 150) = (X : Int)) (_e2 : wrap64 (x + 150) = (X : Int)) (hM : M < 9223372036854775808) (hX : X ≤ 10000) (hf : Fits (M * tw X)) (w : World) :
    Calls Tryz.prog 65 #[.agg #[.int .i64 (m), .int .i64 x]] w fun e w' => QEnd e w' true (M * tw X) (tw 150) ∧ Ext w w' := by
  have HF := Lib.hid hf
  clear hf
  have S150 := Lib.hid (ntwo_any 150 (by omega))
  rw [show ((150 : Nat) : Int) = 150 from rfl] at S150
  have HM := Lib.hid hM; have HX := Lib.hid hX; clear hM hX
  go_enter Tryz.func65, Tryz.ntmps65
  go_upto_region 7 with (fail)
  have X0 : Hid (Ext w ((w.alloc (.cells #[.int .i64 (m), .int .i64 x] 23)).alloc (.cells #[.bool false, .slice none 0 0, .slice none 0 0] 73))) := Lib.hid (((Ext.refl w).alloc _).alloc _)
  have cm : ((w.alloc (.cells #[.int .i64 (m), .int .i64 x] 23)).alloc (.cells #[.bool false, .slice none 0 0, .slice none 0 0] 73)).cell? ⟨w.heap.size, 0, none⟩ = some (.int .i64 (m)) := by simp [go_sem]
  have lm : w.heap.size < ((w.alloc (.cells #[.int .i64 (m), .int .i64 x] 23)).alloc (.cells #[.bool false, .slice none 0 0, .slice none 0 0] 73)).heap.size := by simp [go_sem]
  have ZB : Hid (Ob ((w.alloc (.cells #[.int .i64 (m), .int .i64 x] 23)).alloc (.cells #[.bool false, .slice none 0 0, .slice none 0 0] 73)) (w.heap.size + 1)) := Lib.hid ⟨by simp [go_sem], by simp [go_sem], by simp [go_sem], fun j hj => by obtain ⟨i, rfl⟩ : ∃ i, j = i + 3 := ⟨j - 3, by omega⟩; simp [go_sem], fun j => by simp [go_sem], by simp [go_sem]⟩
  generalize ((w.alloc (.cells #[.int .i64 (m), .int .i64 x] 23)).alloc (.cells #[.bool false, .slice none 0 0, .slice none 0 0] 73)) = W at *
  have CM := Lib.hid cm
  have LM := Lib.hid lm
  clear cm lm
  refine wp_region_S (fun uu : World => Ext W uu) 11 (by kernel_rfl) ?_
  have HS : Ext W W.drew := (Ext.refl W).drew
  refine GoS.pure (i := 0) (v := ?_) rfl (by kernel_rfl) (by kernel_rfl) (by kernel_rfl) (by kernel_rfl) (fun _ _ _ h => h) (Or.inl ⟨by rfl, ?hy12⟩) (fun _ => HS) ?_
  case hy12 => ((intro u' hT; go_simp); try with_reducible rfl)
  try simp only [List.getElem_toArray, List.getElem_cons_zero, Act.put, List.setIfInBounds_toArray, List.set_cons_zero, List.set_cons_succ]
  refine GoS.take (i := 1) (v := ?_) rfl (by kernel_rfl) (by kernel_rfl) (by kernel_rfl) (by kernel_rfl) (fun _ _ _ h => h) (Or.inl ⟨by rfl, ?hy13⟩) HS ?_
  case hy13 => ((intro u' hT; have d0 := (hT.cell 0 LM.out).trans CM.out; go_simp); try with_reducible rfl)
  try simp only [List.getElem_toArray, List.getElem_cons_succ, List.getElem_cons_zero, Act.put, List.setIfInBounds_toArray, List.set_cons_zero, List.set_cons_succ]
  refine GoS.pure (i := 2) (v := ?_) rfl (by kernel_rfl) (by kernel_rfl) (by kernel_rfl) (by kernel_rfl) (fun _ _ _ h => h) (Or.inl ⟨by rfl, ?hy14⟩) (fun _ => HS) ?_
  case hy14 => ((intro u' hT; go_simp); try with_reducible rfl)
  try simp only [List.getElem_toArray, List.getElem_cons_succ, List.getElem_cons_zero, Act.put, List.setIfInBounds_toArray, List.set_cons_zero, List.set_cons_succ]
  refine GoS.pure (i := 3) (v := ?_) rfl (by kernel_rfl) (by kernel_rfl) (by kernel_rfl) (by kernel_rfl) (fun _ _ _ h => h) (Or.inl ⟨by rfl, ?hy15⟩) (fun _ => HS) ?_
  case hy15 => ((intro u' hT; go_simp); try with_reducible rfl)
  try simp only [List.getElem_toArray, List.getElem_cons_succ, List.getElem_cons_zero, Act.put, List.setIfInBounds_toArray, List.set_cons_zero, List.set_cons_succ]
  refine GoS.pure (i := 5) (v := ?_) rfl (by kernel_rfl) (by kernel_rfl) (by kernel_rfl) (by kernel_rfl) (fun _ _ _ h => h) (Or.inl ⟨by rfl, ?hy16⟩) (fun _ => HS) ?_
  case hy16 => ((intro u' hT; go_simp); try with_reducible rfl)
  try simp only [List.getElem_toArray, List.getElem_cons_succ, List.getElem_cons_zero, Act.put, List.setIfInBounds_toArray, List.set_cons_zero, List.set_cons_succ]
  refine GoS.pure (i := 6) (v := ?_) rfl (by kernel_rfl) (by kernel_rfl) (by kernel_rfl) (by kernel_rfl) (fun _ _ _ h => h) (Or.inl ⟨by rfl, ?hy17⟩) (fun _ => HS) ?_
  case hy17 => ((intro u' hT; go_simp); try with_reducible rfl)
  try simp only [List.getElem_toArray, List.getElem_cons_succ, List.getElem_cons_zero, Act.put, List.setIfInBounds_toArray, List.set_cons_zero, List.set_cons_succ]
  refine GoS.one (i := 4) (by kernel_rfl) rfl (fun K hK => ?_)
  go_simp
  (with_reducible refine (small_nat M HM.out _).mono ?_)
  rintro e q18 ⟨v1, rfl, hv, hx⟩
  have HS2 := HS.trans hx; clear HS; have HS := HS2; clear HS2 hx
  go_wp2_with fail
  refine hK.out _ _ HS (fun _ => ?_)
  clear hK K
  try simp only [List.getElem_toArray, List.getElem_cons_succ, List.getElem_cons_zero, Act.put, List.setIfInBounds_toArray, List.set_cons_zero, List.set_cons_succ]
  have V1 := Lib.hid hv; clear hv
  refine GoS.one (i := 7) (by kernel_rfl) rfl (fun K hK => ?_)
  go_simp
  (with_reducible refine (ntwo_any X HX.out _).mono ?_)
  rintro e q19 ⟨v2, rfl, hv, hx⟩
  have V1b := Lib.hid (V1.out.later hx); clear V1
  have HS2 := HS.trans hx; clear HS; have HS := HS2; clear HS2 hx
  go_wp2_with fail
  refine hK.out _ _ HS (fun _ => ?_)
  clear hK K
  try simp only [List.getElem_toArray, List.getElem_cons_succ, List.getElem_cons_zero, Act.put, List.setIfInBounds_toArray, List.set_cons_zero, List.set_cons_succ]
  have V2 := Lib.hid hv; clear hv
  refine GoS.one (i := 8) (by kernel_rfl) rfl (fun K hK => ?_)
  go_simp
  (with_reducible refine (nmul_any V1b.out V2.out HF.out).mono ?_)
  rintro e q20 ⟨v3, rfl, hv, hx⟩
  have HS2 := HS.trans hx; clear HS; have HS := HS2; clear HS2 hx
  go_wp2_with fail
  refine hK.out _ _ HS (fun _ => ?_)
  clear hK K
  try simp only [List.getElem_toArray, List.getElem_cons_succ, List.getElem_cons_zero, Act.put, List.setIfInBounds_toArray, List.set_cons_zero, List.set_cons_succ]
  have V3 := Lib.hid hv; clear hv V1b V2
  refine GoS.one (i := 9) (by kernel_rfl) rfl (fun K hK => ?_)
  go_simp
  (with_reducible refine (S150.out _).mono ?_)
  rintro e q21 ⟨v4, rfl, hv, hx⟩
  have V3b := Lib.hid (V3.out.later hx); clear V3
  have HS2 := HS.trans hx; clear HS; have HS := HS2; clear HS2 hx
  go_wp2_with fail
  refine hK.out _ _ HS (fun _ => ?_)
  clear hK K
  try simp only [List.getElem_toArray, List.getElem_cons_succ, List.getElem_cons_zero, Act.put, List.setIfInBounds_toArray, List.set_cons_zero, List.set_cons_succ]
  have V4 := Lib.hid hv; clear hv
  obtain ⟨a3, L3, C3, rfl⟩ := V3b.out.shape
  obtain ⟨a4, L4, C4, rfl⟩ := V4.out.shape
  refine GoS.pure (i := 10) (v := ?_) rfl (by kernel_rfl) (by kernel_rfl) (by kernel_rfl) (by kernel_rfl) (fun _ _ _ h => h) (Or.inl ⟨by rfl, ?hy22⟩) (fun _ => HS) ?_
  case hy22 => ((intro u' hT; go_simp); try with_reducible rfl)
  try simp only [List.getElem_toArray, List.getElem_cons_succ, List.getElem_cons_zero, Act.put, List.setIfInBounds_toArray, List.set_cons_zero, List.set_cons_succ]
  have ZB2 := Lib.hid (ZB.out.later HS)
  have z0 := ZB2.out.c0; have z1 := ZB2.out.c1; have z2 := ZB2.out.c2; have zf := ZB2.out.fz
  refine GoS.store (i := 11) (by kernel_rfl) rfl (by kernel_rfl) (fun K hK => ?_)
  go_simp
  refine hK.out _ _ ?_
  clear hK K
  try simp only [List.getElem_toArray, List.getElem_cons_succ, List.getElem_cons_zero, Act.put, List.setIfInBounds_toArray, List.set_cons_zero, List.set_cons_succ]
  refine GoS.done (by kernel_rfl) ?_
  have XX := Lib.hid (X0.out.trans HS)
  have X9 : Ext w (((q21.setCell ⟨w.heap.size + 1, 0, none⟩ (.bool true)).setCell ⟨w.heap.size + 1, 1, none⟩ (.slice a3 L3 C3)).setCell ⟨w.heap.size + 1, 2, none⟩ (.slice a4 L4 C4)) := ((XX.out.setCell (by simp) _).setCell (by simp) _).setCell (by simp) _
  have U3 := Lib.hid (ZB2.out.aside V3b.out (.bool true) (.slice a3 L3 C3) (.slice a4 L4 C4) rfl rfl rfl)
  have U4 := Lib.hid (ZB2.out.aside V4.out (.bool true) (.slice a3 L3 C3) (.slice a4 L4 C4) rfl rfl rfl)
  go_wp2
  refine bodyPost_ret (v := .agg #[.bool true, .slice a3 L3 C3, .slice a4 L4 C4]) ?_ rfl ⟨⟨_, _, _, _, _, _, rfl, ?_, ?_⟩, ?_⟩
  · simp [results, Tryz.results65, go_sem, z0, z1, z2]
  · exact U3.out
  · exact U4.out
  · exact X9
set_option maxRecDepth 100000 in
set_option maxHeartbeats 4000000 in
theorem of_zero (x : Int) (hf : Fits (0 * tw 0)) (w : World) :
    Calls Tryz.prog 65 #[.agg #[.int .i64 (0), .int .i64 x]] w fun e w' => QEnd e w' false (0 * tw 0) (tw 150) ∧ Ext w w' := by
  have HF := Lib.hid hf
  clear hf
  have S150 := Lib.hid (ntwo_any 150 (by omega))
  rw [show ((150 : Nat) : Int) = 150 from rfl] at S150
  have S1 := Lib.hid (small_nat 0 (by omega))
  have S2 := Lib.hid (ntwo_any 0 (by omega))
  rw [show ((0 : Nat) : Int) = 0 from rfl] at S1 S2
  have wz : IntKind.i64.wrap 0 = 0 := rfl
  go_enter Tryz.func65, Tryz.ntmps65
  go_upto_region 7 with (fail)
  have X0 : Hid (Ext w ((w.alloc (.cells #[.int .i64 (0), .int .i64 x] 23)).alloc (.cells #[.bool false, .slice none 0 0, .slice none 0 0] 73))) := Lib.hid (((Ext.refl w).alloc _).alloc _)
  have cm : ((w.alloc (.cells #[.int .i64 (0), .int .i64 x] 23)).alloc (.cells #[.bool false, .slice none 0 0, .slice none 0 0] 73)).cell? ⟨w.heap.size, 0, none⟩ = some (.int .i64 (0)) := by simp [go_sem]
  have lm : w.heap.size < ((w.alloc (.cells #[.int .i64 (0), .int .i64 x] 23)).alloc (.cells #[.bool false, .slice none 0 0, .slice none 0 0] 73)).heap.size := by simp [go_sem]
  have ZB : Hid (Ob ((w.alloc (.cells #[.int .i64 (0), .int .i64 x] 23)).alloc (.cells #[.bool false, .slice none 0 0, .slice none 0 0] 73)) (w.heap.size + 1)) := Lib.hid ⟨by simp [go_sem], by simp [go_sem], by simp [go_sem], fun j hj => by obtain ⟨i, rfl⟩ : ∃ i, j = i + 3 := ⟨j - 3, by omega⟩; simp [go_sem], fun j => by simp [go_sem], by simp [go_sem]⟩
  generalize ((w.alloc (.cells #[.int .i64 (0), .int .i64 x] 23)).alloc (.cells #[.bool false, .slice none 0 0, .slice none 0 0] 73)) = W at *
  have CM := Lib.hid cm
  have LM := Lib.hid lm
  clear cm lm
  refine wp_region_S (fun uu : World => Ext W uu) 11 (by kernel_rfl) ?_
  have HS : Ext W W.drew := (Ext.refl W).drew
  refine GoS.pure (i := 0) (v := ?_) rfl (by kernel_rfl) (by kernel_rfl) (by kernel_rfl) (by kernel_rfl) (fun _ _ _ h => h) (Or.inl ⟨by rfl, ?hy23⟩) (fun _ => HS) ?_
  case hy23 => ((intro u' hT; go_simp); try with_reducible rfl)
  try simp only [List.getElem_toArray, List.getElem_cons_zero, Act.put, List.setIfInBounds_toArray, List.set_cons_zero, List.set_cons_succ]
  refine GoS.take (i := 1) (v := ?_) rfl (by kernel_rfl) (by kernel_rfl) (by kernel_rfl) (by kernel_rfl) (fun _ _ _ h => h) (Or.inl ⟨by rfl, ?hy24⟩) HS ?_
  case hy24 => ((intro u' hT; have d0 := (hT.cell 0 LM.out).trans CM.out; go_simp); try with_reducible rfl)
  try simp only [List.getElem_toArray, List.getElem_cons_succ, List.getElem_cons_zero, Act.put, List.setIfInBounds_toArray, List.set_cons_zero, List.set_cons_succ]
  refine GoS.pure (i := 2) (v := ?_) rfl (by kernel_rfl) (by kernel_rfl) (by kernel_rfl) (by kernel_rfl) (fun _ _ _ h => h) (Or.inl ⟨by rfl, ?hy25⟩) (fun _ => HS) ?_
  case hy25 => ((intro u' hT; go_simp); try with_reducible rfl)
  try simp only [List.getElem_toArray, List.getElem_cons_succ, List.getElem_cons_zero, Act.put, List.setIfInBounds_toArray, List.set_cons_zero, List.set_cons_succ]
  refine GoS.pure (i := 3) (v := ?_) rfl (by kernel_rfl) (by kernel_rfl) (by kernel_rfl) (by kernel_rfl) (fun _ _ _ h => h) (Or.inl ⟨by rfl, ?hy26⟩) (fun _ => HS) ?_
  case hy26 => ((intro u' hT; go_simp); try with_reducible rfl)
  try simp only [List.getElem_toArray, List.getElem_cons_succ, List.getElem_cons_zero, Act.put, List.setIfInBounds_toArray, List.set_cons_zero, List.set_cons_succ]
  refine GoS.pure (i := 5) (v := ?_) rfl (by kernel_rfl) (by kernel_rfl) (by kernel_rfl) (by kernel_rfl) (fun _ _ _ h => h) (Or.inl ⟨by rfl, ?hy27⟩) (fun _ => HS) ?_
  case hy27 => ((intro u' hT; go_simp); try with_reducible rfl)
  try simp only [List.getElem_toArray, List.getElem_cons_succ, List.getElem_cons_zero, Act.put, List.setIfInBounds_toArray, List.set_cons_zero, List.set_cons_succ]
  refine GoS.pure (i := 6) (v := ?_) rfl (by kernel_rfl) (by kernel_rfl) (by kernel_rfl) (by kernel_rfl) (fun _ _ _ h => h) (Or.inl ⟨by rfl, ?hy28⟩) (fun _ => HS) ?_
  case hy28 => ((intro u' hT; go_simp); try with_reducible rfl)
  try simp only [List.getElem_toArray, List.getElem_cons_succ, List.getElem_cons_zero, Act.put, List.setIfInBounds_toArray, List.set_cons_zero, List.set_cons_succ]
  refine GoS.one (i := 4) (by kernel_rfl) rfl (fun K hK => ?_)
  go_simp
  (with_reducible refine (S1.out _).mono ?_)
  rintro e q29 ⟨v1, rfl, hv, hx⟩
  have HS2 := HS.trans hx; clear HS; have HS := HS2; clear HS2 hx
  go_wp2_with fail
  refine hK.out _ _ HS (fun _ => ?_)
  clear hK K
  try simp only [List.getElem_toArray, List.getElem_cons_succ, List.getElem_cons_zero, Act.put, List.setIfInBounds_toArray, List.set_cons_zero, List.set_cons_succ]
  have V1 := Lib.hid hv; clear hv
  refine GoS.one (i := 7) (by kernel_rfl) rfl (fun K hK => ?_)
  go_simp
  (with_reducible refine (S2.out _).mono ?_)
  rintro e q30 ⟨v2, rfl, hv, hx⟩
  have V1b := Lib.hid (V1.out.later hx); clear V1
  have HS2 := HS.trans hx; clear HS; have HS := HS2; clear HS2 hx
  go_wp2_with fail
  refine hK.out _ _ HS (fun _ => ?_)
  clear hK K
  try simp only [List.getElem_toArray, List.getElem_cons_succ, List.getElem_cons_zero, Act.put, List.setIfInBounds_toArray, List.set_cons_zero, List.set_cons_succ]
  have V2 := Lib.hid hv; clear hv
  refine GoS.one (i := 8) (by kernel_rfl) rfl (fun K hK => ?_)
  go_simp
  (with_reducible refine (nmul_any V1b.out V2.out HF.out).mono ?_)
  rintro e q31 ⟨v3, rfl, hv, hx⟩
  have HS2 := HS.trans hx; clear HS; have HS := HS2; clear HS2 hx
  go_wp2_with fail
  refine hK.out _ _ HS (fun _ => ?_)
  clear hK K
  try simp only [List.getElem_toArray, List.getElem_cons_succ, List.getElem_cons_zero, Act.put, List.setIfInBounds_toArray, List.set_cons_zero, List.set_cons_succ]
  have V3 := Lib.hid hv; clear hv V1b V2
  refine GoS.one (i := 9) (by kernel_rfl) rfl (fun K hK => ?_)
  go_simp
  (with_reducible refine (S150.out _).mono ?_)
  rintro e q32 ⟨v4, rfl, hv, hx⟩
  have V3b := Lib.hid (V3.out.later hx); clear V3
  have HS2 := HS.trans hx; clear HS; have HS := HS2; clear HS2 hx
  go_wp2_with fail
  refine hK.out _ _ HS (fun _ => ?_)
  clear hK K
  try simp only [List.getElem_toArray, List.getElem_cons_succ, List.getElem_cons_zero, Act.put, List.setIfInBounds_toArray, List.set_cons_zero, List.set_cons_succ]
  have V4 := Lib.hid hv; clear hv
  obtain ⟨a3, L3, C3, rfl⟩ := V3b.out.shape
  obtain ⟨a4, L4, C4, rfl⟩ := V4.out.shape
  refine GoS.pure (i := 10) (v := ?_) rfl (by kernel_rfl) (by kernel_rfl) (by kernel_rfl) (by kernel_rfl) (fun _ _ _ h => h) (Or.inl ⟨by rfl, ?hy33⟩) (fun _ => HS) ?_
  case hy33 => ((intro u' hT; go_simp); try with_reducible rfl)
  try simp only [List.getElem_toArray, List.getElem_cons_succ, List.getElem_cons_zero, Act.put, List.setIfInBounds_toArray, List.set_cons_zero, List.set_cons_succ]
  have ZB2 := Lib.hid (ZB.out.later HS)
  have z0 := ZB2.out.c0; have z1 := ZB2.out.c1; have z2 := ZB2.out.c2; have zf := ZB2.out.fz
  refine GoS.store (i := 11) (by kernel_rfl) rfl (by kernel_rfl) (fun K hK => ?_)
  go_simp
  refine hK.out _ _ ?_
  clear hK K
  try simp only [List.getElem_toArray, List.getElem_cons_succ, List.getElem_cons_zero, Act.put, List.setIfInBounds_toArray, List.set_cons_zero, List.set_cons_succ]
  refine GoS.done (by kernel_rfl) ?_
  have XX := Lib.hid (X0.out.trans HS)
  have X9 : Ext w (((q32.setCell ⟨w.heap.size + 1, 0, none⟩ (.bool false)).setCell ⟨w.heap.size + 1, 1, none⟩ (.slice a3 L3 C3)).setCell ⟨w.heap.size + 1, 2, none⟩ (.slice a4 L4 C4)) := ((XX.out.setCell (by simp) _).setCell (by simp) _).setCell (by simp) _
  have U3 := Lib.hid (ZB2.out.aside V3b.out (.bool false) (.slice a3 L3 C3) (.slice a4 L4 C4) rfl rfl rfl)
  have U4 := Lib.hid (ZB2.out.aside V4.out (.bool false) (.slice a3 L3 C3) (.slice a4 L4 C4) rfl rfl rfl)
  go_wp2
  refine bodyPost_ret (v := .agg #[.bool false, .slice a3 L3 C3, .slice a4 L4 C4]) ?_ rfl ⟨⟨_, _, _, _, _, _, rfl, ?_, ?_⟩, ?_⟩
  · simp [results, Tryz.results65, go_sem, z0, z1, z2]
  · exact U3.out
  · exact U4.out
  · exact X9
theorem of_any {m x : Int} (h : Vd m x) (w : World) : Calls Tryz.prog 65 #[.agg #[.int .i64 m, .int .i64 x]] w fun e w' => QEnd e w' (decide (m < 0)) (sc m x).natAbs (tw 150) ∧ Ext w w' := by
  have h1 := h.1
  have h2 := h.2.1
  have h3 := h.2.2.1
  rw [sc_abs]
  by_cases h0 : m = 0
  · subst h0
    have := of_zero x (by rw [Nat.zero_mul]; exact fits_of (k := 1) (by decide) (by omega)) w
    simpa using this
  · obtain ⟨X, hX⟩ : ∃ X : Nat, (x + 150).toNat = X := ⟨_, rfl⟩
    obtain ⟨M, hM⟩ : ∃ M : Nat, m.natAbs = M := ⟨_, rfl⟩
    rw [hX, hM]
    have hf : Fits (M * tw X) := by
      obtain ⟨K, k1, k2⟩ : ∃ K, 25 + X ≤ K ∧ K ≤ 100000 := ⟨25 + X, by omega, by omega⟩
      have a1 : M < 2 ^ 24 := by omega
      exact fits_of (k := K) (Nat.lt_of_lt_of_le (fits_mul (b := X + 1) a1 (by unfold tw; exact Nat.pow_lt_pow_right (by omega) (by omega)) (by omega)).1 (Nat.pow_le_pow_right (by omega) (by omega))) k2
    by_cases hn : m < 0
    · rw [decide_eq_true hn]
      exact of_neg m x M X hn (by rw [IntWalk.i64_in _ ⟨by omega, by omega⟩]; omega) (by unfold wrap64; omega) (by rw [IntWalk.i64_in _ ⟨by omega, by omega⟩]; omega) (by unfold wrap64; omega) (by simp; omega) (by omega) (by rw [IntWalk.i64_in _ ⟨by omega, by omega⟩]; omega) (by unfold wrap64; omega) (by omega) (by omega) hf w
    · obtain rfl : m = (M : Int) := by omega
      rw [decide_eq_false hn]
      exact of_pos x M X hn (by simp; omega) (by omega) (by rw [IntWalk.i64_in _ ⟨by omega, by omega⟩]; omega) (by unfold wrap64; omega) (by omega) (by omega) hf w
end Go.Proofs.YtogfiekbikechaaGreatDoor
