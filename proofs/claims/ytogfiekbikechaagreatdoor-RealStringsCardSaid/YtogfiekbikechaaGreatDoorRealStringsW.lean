/- The walk of RealStrings. -/
import Derived.Test.YtogfiekbikechaaGreatDoorQr
import Derived.Test.YtogfiekbikechaaGreatDoorQs
import Derived.Test.YtogfiekbikechaaGreatDoorGq
import Derived.Test.YtogfiekbikechaaGreatDoorTh
namespace Go.Proofs.YtogfiekbikechaaGreatDoor.realStrings
open Go.RowKit

abbrev SN : Prop := ∀ u, Tb u → Calls Tryz.prog 23 #[] u fun e u' => e = .returned (.bool true) ∧ Ext u u'
set_option maxRecDepth 100000 in
set_option maxHeartbeats 8000000 in
theorem long (m x : Int) (s : ByteArray) (h : (s.size : Int) > 70) (_hs : s.size ≤ maxLen) (sn : SN) (w : World) (ht : Tb w) :
    Calls Tryz.prog 8 #[.agg #[.int .i64 m, .int .i64 x], .string s] w fun e w' => e = .returned (.bool true) ∧ Ext w w' := by
  have HT := Lib.hid ht; have HSN := Lib.hid sn; clear ht sn
  unfold maxLen at _hs
  go_enter Tryz.func8, Tryz.ntmps8
  go_wp2_with fail
  refine (HSN.out _ (HT.out.later ((Ext.refl w).alloc _))).mono ?_
  rintro e w1 ⟨rfl, hx⟩
  have X : Hid (Ext w w1) := Lib.hid (((Ext.refl w).alloc _).trans hx)
  clear hx
  go_wp2
  go_ret
  exact ⟨rfl, X.out⟩
set_option maxRecDepth 100000 in
set_option maxHeartbeats 8000000 in
theorem bad (m x vm vx ve : Int) (s : ByteArray) (h : ¬ (s.size : Int) > 70) (_hs : s.size ≤ 1000) (T : ByteArray) (_hT : T.size ≤ 1000) (sn : SN)
    (pa : ∀ u, Tb u → Calls Tryz.prog 45 #[.string s] u fun e u' => e = .returned (.tuple #[.agg #[.int .i64 vm, .int .i64 vx], .int .i64 ve]) ∧ Ext u u') (rp : Ret 46 #[.string s] (.agg #[.int .i64 vm, .int .i64 vx, .int .i64 ve]))
    (pr : ∀ u, Tb u → Calls Tryz.prog 47 #[.agg #[.int .i64 m, .int .i64 x]] u fun e u' => e = .returned (.tuple #[.string ⟨#[]⟩, .int .i64 1]) ∧ Ext u u') (va : Ret 16 #[.agg #[.int .i64 m, .int .i64 x]] (.bool false)) (w : World) (ht : Tb w) :
    Calls Tryz.prog 8 #[.agg #[.int .i64 m, .int .i64 x], .string s] w fun e w' => e = .returned (.bool true) ∧ Ext w w' := by
  have HT := Lib.hid ht; have HSN := Lib.hid sn; have HPA := Lib.hid pa; have HRP := Lib.hid rp; have HPR := Lib.hid pr; have HVA := Lib.hid va; clear ht sn pa rp pr va
  skip
  have eqR := eqReal
  have zl : (⟨#[]⟩ : ByteArray).toList = [] := by rw [Lib.toList_data]
  have zs : (⟨#[]⟩ : ByteArray).size = 0 := rfl
  go_enter Tryz.func8, Tryz.ntmps8
  go_upto_region 3 with (fail)
  have X0 : Hid (Ext w (w.alloc (.cells #[.int .i64 m, .int .i64 x] 23))) := Lib.hid ((Ext.refl w).alloc _)
  have R0 := Lib.hid (rc_new w m x 23)
  generalize w.alloc (.cells #[.int .i64 m, .int .i64 x] 23) = W0 at *
  go_wp2_with fail
  refine (HPA.out _ (HT.out.later X0.out)).mono ?_
  rintro e w1 ⟨rfl, hx⟩
  have X1 := Lib.hid ((X0.out.trans hx).alloc (.cells #[.int .i64 vm, .int .i64 vx] 23))
  have R1 := Lib.hid (R0.out.later (hx.alloc (.cells #[.int .i64 vm, .int .i64 vx] 23)))
  have Y1 := Lib.hid (rc_new w1 vm vx 23)
  clear hx X0 R0
  go_upto_region 4 with (fail)
  generalize w1.alloc (.cells #[.int .i64 vm, .int .i64 vx] 23) = W1 at *
  generalize w1.heap.size = b1 at *
  go_wp2_with fail
  refine (HRP.out _).mono ?_
  rintro e w2 ⟨rfl, hx⟩
  have X2 := Lib.hid ((X1.out.trans hx).alloc (.cells #[.int .i64 vm, .int .i64 vx, .int .i64 ve] 48))
  have R2 := Lib.hid (R1.out.later (hx.alloc (.cells #[.int .i64 vm, .int .i64 vx, .int .i64 ve] 48)))
  have Y2 := Lib.hid (Y1.out.later (hx.alloc (.cells #[.int .i64 vm, .int .i64 vx, .int .i64 ve] 48)))
  have z0 : (w2.alloc (.cells #[.int .i64 vm, .int .i64 vx, .int .i64 ve] 48)).cell? ⟨w2.heap.size, 0, none⟩ = some (.int .i64 vm) := by simp [go_sem]
  have z1 : (w2.alloc (.cells #[.int .i64 vm, .int .i64 vx, .int .i64 ve] 48)).cell? ⟨w2.heap.size, 1, none⟩ = some (.int .i64 vx) := by simp [go_sem]
  have z2 : (w2.alloc (.cells #[.int .i64 vm, .int .i64 vx, .int .i64 ve] 48)).cell? ⟨w2.heap.size, 2, none⟩ = some (.int .i64 ve) := by simp [go_sem]
  clear hx X1 R1 Y1
  go_upto_region 5 with (fail)
  generalize w2.alloc (.cells #[.int .i64 vm, .int .i64 vx, .int .i64 ve] 48) = W2 at *
  generalize w2.heap.size = b2 at *
  have y0 := Y2.out.c0; have y1 := Y2.out.c1
  go_upto_region 7 with (fail)
  clear y0 y1 z0 z1 z2 Y2
  have r0 := R2.out.c0; have r1 := R2.out.c1
  go_wp2_with fail
  refine (HPR.out _ (HT.out.later X2.out)).mono ?_
  rintro e w3 ⟨rfl, hx⟩
  have X3 := Lib.hid (X2.out.trans hx); have R3 := Lib.hid (R2.out.later hx)
  clear hx X2 R2 r0 r1
  go_upto_region 8 with (fail)
  have r0 := R3.out.c0; have r1 := R3.out.c1
  go_wp2_with fail
  refine (HVA.out _).mono ?_
  rintro e w4 ⟨rfl, hx⟩
  have X4 := Lib.hid (X3.out.trans hx); have R4 := Lib.hid (R3.out.later hx)
  clear hx X3 R3 r0 r1
  go_wp2_with fail
  refine (HSN.out _ (HT.out.later X4.out)).mono ?_
  rintro e w5 ⟨rfl, hx⟩
  have X5 := Lib.hid (X4.out.trans hx); have R5 := Lib.hid (R4.out.later hx)
  clear hx X4 R4
  have r0 := R5.out.c0; have r1 := R5.out.c1
  go_wp2
  go_ret
  exact ⟨rfl, X5.out⟩
set_option maxRecDepth 100000 in
set_option maxHeartbeats 8000000 in
theorem good (m x vm vx ve : Int) (s : ByteArray) (h : ¬ (s.size : Int) > 70) (_hs : s.size ≤ 1000) (T : ByteArray) (_hT : T.size ≤ 1000) (sn : SN)
    (pa : ∀ u, Tb u → Calls Tryz.prog 45 #[.string s] u fun e u' => e = .returned (.tuple #[.agg #[.int .i64 vm, .int .i64 vx], .int .i64 ve]) ∧ Ext u u') (rp : Ret 46 #[.string s] (.agg #[.int .i64 vm, .int .i64 vx, .int .i64 ve]))
    (pr : ∀ u, Tb u → Calls Tryz.prog 47 #[.agg #[.int .i64 m, .int .i64 x]] u fun e u' => e = .returned (.tuple #[.string T, .int .i64 0]) ∧ Ext u u') (va : Ret 16 #[.agg #[.int .i64 m, .int .i64 x]] (.bool true)) (rr : Ret 48 #[.agg #[.int .i64 m, .int .i64 x]] (.string T)) (w : World) (ht : Tb w) :
    Calls Tryz.prog 8 #[.agg #[.int .i64 m, .int .i64 x], .string s] w fun e w' => e = .returned (.bool true) ∧ Ext w w' := by
  have HT := Lib.hid ht; have HSN := Lib.hid sn; have HPA := Lib.hid pa; have HRP := Lib.hid rp; have HPR := Lib.hid pr; have HVA := Lib.hid va; clear ht sn pa rp pr va
  have HRR := Lib.hid rr; clear rr
  have eqR := eqReal
  have zl : (⟨#[]⟩ : ByteArray).toList = [] := by rw [Lib.toList_data]
  have zs : (⟨#[]⟩ : ByteArray).size = 0 := rfl
  go_enter Tryz.func8, Tryz.ntmps8
  go_upto_region 3 with (fail)
  have X0 : Hid (Ext w (w.alloc (.cells #[.int .i64 m, .int .i64 x] 23))) := Lib.hid ((Ext.refl w).alloc _)
  have R0 := Lib.hid (rc_new w m x 23)
  generalize w.alloc (.cells #[.int .i64 m, .int .i64 x] 23) = W0 at *
  go_wp2_with fail
  refine (HPA.out _ (HT.out.later X0.out)).mono ?_
  rintro e w1 ⟨rfl, hx⟩
  have X1 := Lib.hid ((X0.out.trans hx).alloc (.cells #[.int .i64 vm, .int .i64 vx] 23))
  have R1 := Lib.hid (R0.out.later (hx.alloc (.cells #[.int .i64 vm, .int .i64 vx] 23)))
  have Y1 := Lib.hid (rc_new w1 vm vx 23)
  clear hx X0 R0
  go_upto_region 4 with (fail)
  generalize w1.alloc (.cells #[.int .i64 vm, .int .i64 vx] 23) = W1 at *
  generalize w1.heap.size = b1 at *
  go_wp2_with fail
  refine (HRP.out _).mono ?_
  rintro e w2 ⟨rfl, hx⟩
  have X2 := Lib.hid ((X1.out.trans hx).alloc (.cells #[.int .i64 vm, .int .i64 vx, .int .i64 ve] 48))
  have R2 := Lib.hid (R1.out.later (hx.alloc (.cells #[.int .i64 vm, .int .i64 vx, .int .i64 ve] 48)))
  have Y2 := Lib.hid (Y1.out.later (hx.alloc (.cells #[.int .i64 vm, .int .i64 vx, .int .i64 ve] 48)))
  have z0 : (w2.alloc (.cells #[.int .i64 vm, .int .i64 vx, .int .i64 ve] 48)).cell? ⟨w2.heap.size, 0, none⟩ = some (.int .i64 vm) := by simp [go_sem]
  have z1 : (w2.alloc (.cells #[.int .i64 vm, .int .i64 vx, .int .i64 ve] 48)).cell? ⟨w2.heap.size, 1, none⟩ = some (.int .i64 vx) := by simp [go_sem]
  have z2 : (w2.alloc (.cells #[.int .i64 vm, .int .i64 vx, .int .i64 ve] 48)).cell? ⟨w2.heap.size, 2, none⟩ = some (.int .i64 ve) := by simp [go_sem]
  clear hx X1 R1 Y1
  go_upto_region 5 with (fail)
  generalize w2.alloc (.cells #[.int .i64 vm, .int .i64 vx, .int .i64 ve] 48) = W2 at *
  generalize w2.heap.size = b2 at *
  have y0 := Y2.out.c0; have y1 := Y2.out.c1
  go_upto_region 7 with (fail)
  clear y0 y1 z0 z1 z2 Y2
  have r0 := R2.out.c0; have r1 := R2.out.c1
  go_wp2_with fail
  refine (HPR.out _ (HT.out.later X2.out)).mono ?_
  rintro e w3 ⟨rfl, hx⟩
  have X3 := Lib.hid (X2.out.trans hx); have R3 := Lib.hid (R2.out.later hx)
  clear hx X2 R2 r0 r1
  go_upto_region 8 with (fail)
  have r0 := R3.out.c0; have r1 := R3.out.c1
  go_wp2_with fail
  refine (HVA.out _).mono ?_
  rintro e w4 ⟨rfl, hx⟩
  have X4 := Lib.hid (X3.out.trans hx); have R4 := Lib.hid (R3.out.later hx)
  clear hx X3 R3 r0 r1
  go_wp2_with fail
  refine (HSN.out _ (HT.out.later X4.out)).mono ?_
  rintro e w5 ⟨rfl, hx⟩
  have X5 := Lib.hid (X4.out.trans hx); have R5 := Lib.hid (R4.out.later hx)
  clear hx X4 R4
  have r0 := R5.out.c0; have r1 := R5.out.c1
  go_wp2_with fail
  refine (HRR.out _).mono ?_
  rintro e w6 ⟨rfl, hx⟩
  have X6 := Lib.hid (X5.out.trans hx)
  clear hx X5 R5 r0 r1
  go_wp2
  go_ret
  exact ⟨rfl, X6.out⟩
theorem printT_len {m x : Int} (h : Vd m x) : (bs (printT m x)).size ≤ 1000 := by
  unfold printT
  by_cases m0 : m = 0
  · rw [if_pos m0]; decide
  · rw [if_neg m0, bs_size, print_sgn]
    obtain ⟨⟨t, g, u, v, Dg⟩, _⟩ := digs_of h m0
    obtain ⟨d, k, e0, _, a2, a3, a4, a5, _, _⟩ := prP_of Dg
    have := layout_len d k (by omega) (by omega) (by omega)
    have := sgn_len (decide (m < 0))
    rw [e0, List.length_append]; simp only; omega
theorem walk (m x : Int) (wm : (Lit.int .i64 m).wf = true) (_wx : (Lit.int .i64 x).wf = true) (s : ByteArray) (ws : s.size ≤ maxLen) (w : World) (ht : Tb w) :
    Calls Tryz.prog 8 #[.agg #[.int .i64 m, .int .i64 x], .string s] w fun e w' => e = .returned (.bool true) ∧ Ext w w' := by
  by_cases hl : s.size ≤ 70
  · have VX := refvalid_any m x (bdI wm).1 (bdI wm).2
    have pa : ∀ u, Tb u → Calls Tryz.prog 45 #[.string s] u fun e u' => e = .returned (.tuple #[.agg #[.int .i64 (rparseV s.data.toList).1, .int .i64 (rparseV s.data.toList).2], .int .i64 (rparseE s.data.toList)]) ∧ Ext u u' := fun u hu => by
      have := parse_any s.data.toList (by rw [show s.data.toList.length = s.size by simp]; omega) u hu.r
      rwa [← bs_of] at this
    have rp := parse_ref s (by omega)
    cases hv : validV m x with
    | false =>
      rw [hv] at VX
      exact bad m x _ _ _ s (by omega) (by omega) ⟨#[]⟩ (by decide) sanity_any pa rp (fun u _ => print_none m x hv u) VX w ht
    | true =>
      rw [hv] at VX
      have h := vd_iff.1 hv
      exact good m x _ _ _ s (by omega) (by omega) _ (printT_len h) sanity_any pa rp (fun u hu => print_all hv u hu) VX (rprint_ref h) w ht
  · exact long m x s (by omega) ws sanity_any w ht
end Go.Proofs.YtogfiekbikechaaGreatDoor.realStrings
