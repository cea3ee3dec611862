/- Layer 2: whether a result is that of the reference; the reference's differences. -/
import Derived.Test.YthmndafjogndaaaGreatDoorUr
namespace Go.Proofs.YthmndafjogndaaaGreatDoor
open Go.ChangeShapes Go.WideShapes Go.ChangeAt Go.RowKit

theorem rounded_none (m x a b : Int) (h : (m == 0 && x == 0) = true) (w : World) : Calls Tryz.prog 30 #[.agg #[.int .i64 m, .int .i64 x], .int .i64 3, .agg #[.int .i64 a, .int .i64 b, .bool false]] w fun e w' => e = .returned (.bool true) ∧ Ext w w' := by
  have eqR := eqReal
  have h1 : m = 0 := by simp at h; exact h.1
  have h2 : x = 0 := by simp at h; exact h.2
  subst h1 h2
  go_enter Tryz.func30, Tryz.ntmps30
  go_wp2
  go_ret
  exact ⟨rfl, by repeat (first | with_reducible exact Ext.refl _ | with_reducible refine Ext.alloc ?_ _)⟩
theorem rounded_some (m x : Int) (w : World) : Calls Tryz.prog 30 #[.agg #[.int .i64 m, .int .i64 x], .int .i64 0, .agg #[.int .i64 m, .int .i64 x, .bool true]] w fun e w' => e = .returned (.bool true) ∧ Ext w w' := by
  have eqR := eqReal
  go_enter Tryz.func30, Tryz.ntmps30
  go_wp2_with fail
  refine (is_true m x _).mono ?_
  rintro e w1 ⟨rfl, hx⟩
  have X := Lib.hid ((((Ext.refl w).alloc (.cells #[.int .i64 m, .int .i64 x] 23)).alloc (.cells #[.int .i64 m, .int .i64 x, .bool true] 43)).trans hx)
  clear hx
  go_wp2
  go_ret
  exact ⟨rfl, X.out⟩
theorem rounded_ret (o : Option (Int × Int)) : Ret 30 #[.agg #[.int .i64 (okV o).1, .int .i64 (okV o).2], .int .i64 (okE o), rndV o] (.bool true) := fun w => by
  cases o with
  | none => exact rounded_none 0 0 0 0 rfl w
  | some q => exact rounded_some q.1 q.2 w
set_option maxRecDepth 100000 in
set_option maxHeartbeats 2000000 in
theorem rsub_walk (m x n y N rm rx : Int) (ok : Bool) (NG : Ret 25 #[.agg #[.int .i64 n, .int .i64 y]] (.agg #[.int .i64 N, .int .i64 y])) (AD : Ret 31 #[.agg #[.int .i64 m, .int .i64 x], .agg #[.int .i64 N, .int .i64 y]] (.agg #[.int .i64 rm, .int .i64 rx, .bool ok])) (w : World) :
    Calls Tryz.prog 32 #[.agg #[.int .i64 m, .int .i64 x], .agg #[.int .i64 n, .int .i64 y]] w fun e w' => e = .returned (.agg #[.int .i64 rm, .int .i64 rx, .bool ok]) ∧ Ext w w' := by
  have HNG := Lib.hid NG; have HAD := Lib.hid AD; clear NG AD
  go_enter Tryz.func32, Tryz.ntmps32
  go_upto_region 1 with (fail)
  have X0 : Hid (Ext w (((w.alloc (.cells #[.int .i64 m, .int .i64 x] 23)).alloc (.cells #[.int .i64 n, .int .i64 y] 23)).alloc (.cells #[.int .i64 0, .int .i64 0, .bool false] 43))) := Lib.hid ((((Ext.refl w).alloc _).alloc _).alloc _)
  have ZW : Hid (Zb (((w.alloc (.cells #[.int .i64 m, .int .i64 x] 23)).alloc (.cells #[.int .i64 n, .int .i64 y] 23)).alloc (.cells #[.int .i64 0, .int .i64 0, .bool false] 43)) (w.heap.size + 1 + 1)) := Lib.hid ⟨by simp [go_sem], by simp [go_sem], by simp [go_sem], fun j => by simp [go_sem], by simp [go_sem]⟩
  have RX : Hid (Rc (((w.alloc (.cells #[.int .i64 m, .int .i64 x] 23)).alloc (.cells #[.int .i64 n, .int .i64 y] 23)).alloc (.cells #[.int .i64 0, .int .i64 0, .bool false] 43)) w.heap.size m x) := Lib.hid ⟨by simp [go_sem], by simp [go_sem]⟩
  have RY : Hid (Rc (((w.alloc (.cells #[.int .i64 m, .int .i64 x] 23)).alloc (.cells #[.int .i64 n, .int .i64 y] 23)).alloc (.cells #[.int .i64 0, .int .i64 0, .bool false] 43)) (w.heap.size + 1) n y) := Lib.hid ⟨by simp [go_sem], by simp [go_sem]⟩
  generalize ((w.alloc (.cells #[.int .i64 m, .int .i64 x] 23)).alloc (.cells #[.int .i64 n, .int .i64 y] 23)).alloc (.cells #[.int .i64 0, .int .i64 0, .bool false] 43) = W at *
  refine wp_region_S (fun uu : World => Ext W uu) 4 (by kernel_rfl) ?_
  have HS : Ext W W.drew := (Ext.refl W).drew
  refine GoS.take (i := 0) (v := ?_) rfl (by kernel_rfl) (by kernel_rfl) (by kernel_rfl) (by kernel_rfl) (fun _ _ _ h => h) (Or.inl ⟨by rfl, ?hy1⟩) HS ?_
  case hy1 => ((intro u' hT; have d0 := (RX.out.later hT).c0; have d1 := (RX.out.later hT).c1; go_simp); try with_reducible rfl)
  try simp only [List.getElem_toArray, List.getElem_cons_zero, Act.put, List.setIfInBounds_toArray, List.set_cons_zero, List.set_cons_succ]
  refine GoS.take (i := 1) (v := ?_) rfl (by kernel_rfl) (by kernel_rfl) (by kernel_rfl) (by kernel_rfl) (fun _ _ _ h => h) (Or.inl ⟨by rfl, ?hy2⟩) HS ?_
  case hy2 => ((intro u' hT; have d0 := (RY.out.later hT).c0; have d1 := (RY.out.later hT).c1; go_simp); try with_reducible rfl)
  try simp only [List.getElem_toArray, List.getElem_cons_succ, List.getElem_cons_zero, Act.put, List.setIfInBounds_toArray, List.set_cons_zero, List.set_cons_succ]
  refine GoS.one (i := 2) (by kernel_rfl) rfl (fun K hK => ?_)
  go_simp
  (with_reducible refine (HNG.out.call _).mono ?_)
  rintro e q3 ⟨rfl, hx⟩
  have HS2 := HS.trans hx; clear HS; have HS := HS2; clear HS2 hx
  go_wp2_with fail
  refine hK.out _ _ HS (fun _ => ?_)
  clear hK K
  try simp only [List.getElem_toArray, List.getElem_cons_succ, List.getElem_cons_zero, Act.put, List.setIfInBounds_toArray, List.set_cons_zero, List.set_cons_succ]
  refine GoS.one (i := 3) (by kernel_rfl) rfl (fun K hK => ?_)
  go_simp
  (with_reducible refine (HAD.out.call _).mono ?_)
  rintro e q4 ⟨rfl, hx⟩
  have HS2 := HS.trans hx; clear HS; have HS := HS2; clear HS2 hx
  go_wp2_with fail
  refine hK.out _ _ HS (fun _ => ?_)
  clear hK K
  try simp only [List.getElem_toArray, List.getElem_cons_succ, List.getElem_cons_zero, Act.put, List.setIfInBounds_toArray, List.set_cons_zero, List.set_cons_succ]
  have z0 := (ZW.out.later HS).c0; have z1 := (ZW.out.later HS).c1; have z2 := (ZW.out.later HS).c2; have zf := (ZW.out.later HS).fz
  have X9 := Lib.hid (X0.out.trans HS)
  refine GoS.store (i := 4) (by kernel_rfl) rfl (by kernel_rfl) (fun K hK => ?_)
  go_simp
  refine hK.out _ _ ?_
  clear hK K
  try simp only [List.getElem_toArray, List.getElem_cons_succ, List.getElem_cons_zero, Act.put, List.setIfInBounds_toArray, List.set_cons_zero, List.set_cons_succ]
  refine GoS.done (by kernel_rfl) ?_
  go_wp2
  refine bodyPost_ret (v := .agg #[.int .i64 rm, .int .i64 rx, .bool ok]) ?_ rfl ⟨rfl, ?_⟩
  · simp [results, Tryz.results32, go_sem, z0, z1, z2]
  · repeat (first | with_reducible exact X9.out | with_reducible refine Ext.setCell ?_ (by simp; try omega) _)
theorem neg_vd {m x : Int} (h : Vd m x) : Ret 25 #[.agg #[.int .i64 m, .int .i64 x]] (.agg #[.int .i64 (-m), .int .i64 x]) := fun w => by
  have h1 := h.1
  exact rneg_any m x (-m) (IntWalk.i64_in _ ⟨by omega, by omega⟩) (by unfold wrap64; omega) (by rw [Int.zero_sub]; exact IntWalk.i64_in _ ⟨by omega, by omega⟩) (by unfold wrap64; omega) w
theorem sub_ref {m x n y : Int} (h : Vd m x) (k : Vd n y) : Ret 32 #[.agg #[.int .i64 m, .int .i64 x], .agg #[.int .i64 n, .int .i64 y]] (rndV (sumV m x (-n) y).rd) := fun w => by
  have A := add_ref h k.rev
  obtain ⟨rm, rx, ok, hV⟩ := rnd_shape (sumV m x (-n) y).rd
  rw [hV] at A ⊢
  exact rsub_walk m x n y (-n) rm rx ok (neg_vd k) A w
end Go.Proofs.YthmndafjogndaaaGreatDoor
