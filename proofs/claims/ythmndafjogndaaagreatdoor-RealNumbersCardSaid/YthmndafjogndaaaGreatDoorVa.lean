/- Layer 2: the reference's FromInt, Index and Cmp. -/
import Derived.Test.YthmndafjogndaaaGreatDoorUs
namespace Go.Proofs.YthmndafjogndaaaGreatDoor
open Go.ChangeShapes Go.WideShapes Go.ChangeAt Go.RowKit

/-- A real that is still zero. -/
structure Yz (w : World) (b : Nat) : Prop where
  c0 : w.cell? ⟨b, 0, none⟩ = some (.int .i64 0)
  c1 : w.cell? ⟨b, 1, none⟩ = some (.int .i64 0)
  fz : ∀ j, w.frozen? ⟨b, j, none⟩ = false
  lt : b < w.heap.size
theorem Yz.later {w w' : World} {b : Nat} (h : Yz w b) (hx : Ext w w') : Yz w' b :=
  ⟨(hx.cell 0 h.lt).trans h.c0, (hx.cell 1 h.lt).trans h.c1, fun j => (hx.froz j h.lt).trans (h.fz j), Nat.lt_of_lt_of_le h.lt hx.size⟩
theorem fieldX (a b : Int) (ok : Bool) (u : World) : (Instr.field 43 (.agg #[.int .i64 a, .int .i64 b, .bool ok]) 0).run Tryz.prog u = .ok (.agg #[.int .i64 a, .int .i64 b]) u := by kernel_rfl
theorem small_one (w : World) : Calls Tryz.prog 54 #[.int .i64 1] w fun e w' => ∃ v, e = .returned v ∧ IsNat w' v 1 ∧ Ext w w' := small_nat 1 (by omega) w
set_option maxRecDepth 100000 in
set_option maxHeartbeats 4000000 in
theorem from_pos (n a b : Int) (N r : Nat) (ok : Bool) (hn : n ≥ 0) (hN : n = (N : Int)) (hb : N < 9223372036854775808) (RK : Rok N 1 r) (hV : rndV (resI false r) = .agg #[.int .i64 a, .int .i64 b, .bool ok]) (w : World) : Calls Tryz.prog 14 #[.int .i64 n] w fun e w' => e = .returned (.agg #[.int .i64 a, .int .i64 b]) ∧ Ext w w' := by
  subst hN
  have HB := Lib.hid hb; have HRK := Lib.hid RK; have HV := Lib.hid hV
  clear hb RK hV
  have hfld := fieldX
  go_enter Tryz.func14, Tryz.ntmps14
  go_upto_region 1 with (fail)
  have X0 : Hid (Ext w (w.alloc (.cells #[.int .i64 0, .int .i64 0] 23))) := Lib.hid ((Ext.refl w).alloc _)
  have YB : Hid (Yz (w.alloc (.cells #[.int .i64 0, .int .i64 0] 23)) w.heap.size) := Lib.hid ⟨by simp [go_sem], by simp [go_sem], fun j => by simp [go_sem], by simp [go_sem]⟩
  generalize w.alloc (.cells #[.int .i64 0, .int .i64 0] 23) = W0 at *
  go_wp2_with fail
  refine (small_nat N HB.out _).mono ?_
  rintro e w1 ⟨v1, rfl, hv, hx⟩
  have V1 := Lib.hid hv; have X1 := Lib.hid hx; clear hv hx
  go_wp2_with fail
  refine (small_one _).mono ?_
  rintro e w2 ⟨v2, rfl, hv, hx⟩
  have V2 := Lib.hid hv; have V1b := Lib.hid (V1.out.later hx); have X2 := Lib.hid (X1.out.trans hx); clear hv hx V1 X1
  obtain ⟨a1, L1, C1, rfl⟩ := V1b.out.shape
  obtain ⟨a2, L2, C2, rfl⟩ := V2.out.shape
  go_wp2_with fail
  refine (round_eq V1b.out V2.out HRK.out.pos rfl HRK.out.fit HRK.out.all HRK.out.near HV.out).mono ?_
  rintro e w3 ⟨rfl, hx⟩
  have XC := Lib.hid (X2.out.trans hx); clear hx X2
  have X9 := Lib.hid (X0.out.trans XC.out)
  have z0 := (YB.out.later XC.out).c0; have z1 := (YB.out.later XC.out).c1; have zf := (YB.out.later XC.out).fz
  go_wp2
  refine bodyPost_ret (v := .agg #[.int .i64 a, .int .i64 b]) ?_ rfl ⟨rfl, ?_⟩
  · simp [results, Tryz.results14, go_sem, z0, z1]
  · repeat (first | with_reducible exact X9.out | with_reducible refine Ext.setCell ?_ (by simp) _)
set_option maxRecDepth 100000 in
set_option maxHeartbeats 4000000 in
theorem from_neg (n n1 a b : Int) (N r : Nat) (ok : Bool) (hn : ¬ n ≥ 0) (f1 : IntKind.i64.wrap (n + 1) = n1) (_f2 : wrap64 (n + 1) = n1) (f3 : IntKind.i64.wrap (-n1) = (N : Int)) (_f4 : wrap64 (-n1) = (N : Int)) (hb : N < 9223372036854775808) (hf : Fits (N + 1)) (RK : Rok (N + 1) 1 r) (hV : rndV (resI true r) = .agg #[.int .i64 a, .int .i64 b, .bool ok]) (w : World) : Calls Tryz.prog 14 #[.int .i64 n] w fun e w' => e = .returned (.agg #[.int .i64 a, .int .i64 b]) ∧ Ext w w' := by
  have HB := Lib.hid hb; have HF := Lib.hid hf; have HRK := Lib.hid RK; have HV := Lib.hid hV
  clear hb hf RK hV
  have hfld := fieldX
  go_enter Tryz.func14, Tryz.ntmps14
  go_upto_region 1 with (fail)
  have X0 : Hid (Ext w (w.alloc (.cells #[.int .i64 0, .int .i64 0] 23))) := Lib.hid ((Ext.refl w).alloc _)
  have YB : Hid (Yz (w.alloc (.cells #[.int .i64 0, .int .i64 0] 23)) w.heap.size) := Lib.hid ⟨by simp [go_sem], by simp [go_sem], fun j => by simp [go_sem], by simp [go_sem]⟩
  generalize w.alloc (.cells #[.int .i64 0, .int .i64 0] 23) = W0 at *
  go_wp2_with fail
  refine (small_nat N HB.out _).mono ?_
  rintro e w1 ⟨v1, rfl, hv, hx⟩
  have V1 := Lib.hid hv; have X1 := Lib.hid hx; clear hv hx
  go_wp2_with fail
  refine (small_one _).mono ?_
  rintro e w2 ⟨v2, rfl, hv, hx⟩
  have V2 := Lib.hid hv; have V1b := Lib.hid (V1.out.later hx); have X2 := Lib.hid (X1.out.trans hx); clear hv hx V1 X1
  go_wp2_with fail
  refine (nadd_any V1b.out V2.out HF.out).mono ?_
  rintro e w3 ⟨v3, rfl, hv, hx⟩
  have V3 := Lib.hid hv; have X3 := Lib.hid (X2.out.trans hx); clear hv hx V1b V2 X2
  go_wp2_with fail
  refine (small_one _).mono ?_
  rintro e w4 ⟨v4, rfl, hv, hx⟩
  have V4 := Lib.hid hv; have V3b := Lib.hid (V3.out.later hx); have X4 := Lib.hid (X3.out.trans hx); clear hv hx V3 X3
  obtain ⟨a1, L1, C1, rfl⟩ := V3b.out.shape
  obtain ⟨a2, L2, C2, rfl⟩ := V4.out.shape
  go_wp2_with fail
  refine (round_eq V3b.out V4.out HRK.out.pos rfl HRK.out.fit HRK.out.all HRK.out.near HV.out).mono ?_
  rintro e w5 ⟨rfl, hx⟩
  have XC := Lib.hid (X4.out.trans hx); clear hx X4
  have X9 := Lib.hid (X0.out.trans XC.out)
  have z0 := (YB.out.later XC.out).c0; have z1 := (YB.out.later XC.out).c1; have zf := (YB.out.later XC.out).fz
  go_wp2
  refine bodyPost_ret (v := .agg #[.int .i64 a, .int .i64 b]) ?_ rfl ⟨rfl, ?_⟩
  · simp [results, Tryz.results14, go_sem, z0, z1]
  · repeat (first | with_reducible exact X9.out | with_reducible refine Ext.setCell ?_ (by simp) _)
theorem rnd_okV {o : Option (Int × Int)} {a b : Int} {ok : Bool} (h : rndV o = .agg #[.int .i64 a, .int .i64 b, .bool ok]) : okV o = (a, b) := by
  cases o with
  | none => simp [rndV] at h; exact Prod.ext h.1 h.2.1
  | some q => simp [rndV] at h; exact Prod.ext h.1 h.2.1
theorem from_ref {n : Int} (h1 : -9223372036854775808 ≤ n) (h2 : n ≤ 9223372036854775807) : Ret 14 #[.int .i64 n] (.agg #[.int .i64 (okV (exV n 0).rd).1, .int .i64 (okV (exV n 0).rd).2]) := fun w => by
  obtain ⟨r, hr, hrd⟩ := ex_near n 0 (by omega) (by omega)
  have hs : sc n 0 = n * 2 ^ 150 := rfl
  have hp := ipow_pos 150
  have e0 : decide (sc n 0 < 0) = decide (n < 0) := sc_neg n 0
  rw [e0] at hrd
  rw [hrd]
  have e1 : 2 * (sc n 0).natAbs = n.natAbs * tw 151 := by
    rw [sc_abs, show ((0 : Int) + 150).toNat = 150 from rfl, show (151 : Nat) = 150 + 1 from rfl, ← tw_add, show tw 1 = 2 from rfl, Nat.mul_comm 2, Nat.mul_assoc]; rfl
  rw [e1] at hr
  clear e0 e1 hs hp hrd
  obtain ⟨K, k1, k2⟩ : ∃ K, 400 ≤ K ∧ K ≤ 400 := ⟨400, by omega, by omega⟩
  have big : ∀ N : Nat, N ≤ 9223372036854775808 → N < 2 ^ K := fun N hN => by
    have a1 : N < 2 ^ 64 := by omega
    exact Nat.lt_of_lt_of_le a1 (Nat.pow_le_pow_right (by omega) (by omega))
  by_cases hn : n ≥ 0
  · obtain ⟨N, rfl⟩ : ∃ N : Nat, n = (N : Int) := ⟨n.toNat, by omega⟩
    rw [decide_eq_false (by omega)]
    obtain ⟨a, b, ok, hV⟩ := rnd_shape (resI false r)
    rw [rnd_okV hV]
    rw [Int.natAbs_natCast] at hr
    exact from_pos N a b N r ok hn rfl (by omega) (rok_of k1 (by omega) (big _ (by omega)) (big 1 (by omega)) (by omega) hr) hV w
  · obtain ⟨N, hN⟩ : ∃ N : Nat, n = -((N : Int) + 1) := ⟨(-n - 1).toNat, by omega⟩
    rw [decide_eq_true (by omega)]
    obtain ⟨a, b, ok, hV⟩ := rnd_shape (resI true r)
    rw [rnd_okV hV]
    rw [show n.natAbs = N + 1 by omega] at hr
    exact from_neg n (n + 1) a b N r ok hn (IntWalk.i64_in _ ⟨by omega, by omega⟩) (by unfold wrap64; omega) (by rw [IntWalk.i64_in _ ⟨by omega, by omega⟩]; omega) (by unfold wrap64; omega) (by omega) (fits_of (big _ (by omega)) (by omega)) (rok_of k1 (by omega) (big _ (by omega)) (big 1 (by omega)) (by omega) hr) hV w

theorem rindex_n (m x M V U : Int) (h0 : m < 0) (_m1 : IntKind.i64.wrap (0 - m) = M) (_m2 : wrap64 (0 - m) = M) (m3 : IntKind.i64.wrap (-m) = M) (_m4 : wrap64 (-m) = M) (A : Ret 26 #[.agg #[.int .i64 M, .int .i64 x]] (.int .i64 V))
    (_v1 : IntKind.i64.wrap (0 - V) = U) (_v2 : wrap64 (0 - V) = U) (v3 : IntKind.i64.wrap (-V) = U) (_v4 : wrap64 (-V) = U) (w : World) : Calls Tryz.prog 26 #[.agg #[.int .i64 m, .int .i64 x]] w fun e w' => e = .returned (.int .i64 U) ∧ Ext w w' := by
  go_enter Tryz.func26, Tryz.ntmps26
  go_wp2_with fail
  refine (A _).mono ?_
  rintro e w1 ⟨rfl, hx⟩
  have X := Lib.hid (((Ext.refl w).alloc (.cells #[.int .i64 m, .int .i64 x] 23)).trans hx)
  clear hx
  go_wp2
  go_ret
  exact ⟨rfl, X.out⟩
theorem index_pos {m x : Int} (h1 : 0 < m) (h2 : m < 16777216) (h3 : -150 ≤ x) (h4 : x ≤ 150) : Ret 26 #[.agg #[.int .i64 m, .int .i64 x]] (.int .i64 (m + (x + 150) * 8388608)) := fun w =>
  rindex_p m x (x + 150) _ (by omega) (by simp; omega) (by omega) (IntWalk.i64_in _ ⟨by omega, by omega⟩) (by unfold wrap64; omega) (shl23 (by omega) (by omega)) (IntWalk.i64_in _ ⟨by omega, by omega⟩) (by unfold wrap64; omega) w
theorem index_ref {m x : Int} (h : Vd m x) : Ret 26 #[.agg #[.int .i64 m, .int .i64 x]] (.int .i64 (placeV m x)) := by
  have h1 := h.1
  have h2 := h.2.1
  have h3 := h.2.2.1
  unfold placeV
  by_cases m0 : m = 0
  · subst m0
    rw [if_pos rfl]
    exact fun w => rindex_z x w
  rw [if_neg m0]
  by_cases hn : m < 0
  · rw [if_pos hn]
    have A := @index_pos (-m) x (by omega) (by omega) h2 h3
    have e : m - (x - -150) * 8388608 = -(-m + (x + 150) * 8388608) := by omega
    rw [e]
    have b1 : -4611686018427387904 ≤ -m + (x + 150) * 8388608 := by omega
    have b2 : -m + (x + 150) * 8388608 ≤ 4611686018427387904 := by omega
    generalize -m + (x + 150) * 8388608 = V at *
    exact fun w => rindex_n m x (-m) V (-V) hn (by rw [Int.zero_sub]; exact IntWalk.i64_in _ ⟨by omega, by omega⟩) (by unfold wrap64; omega) (IntWalk.i64_in _ ⟨by omega, by omega⟩) (by unfold wrap64; omega) A
      (by rw [Int.zero_sub]; exact IntWalk.i64_in _ ⟨by omega, by omega⟩) (by unfold wrap64; omega) (IntWalk.i64_in _ ⟨by omega, by omega⟩) (by unfold wrap64; omega) w
  · rw [if_neg hn]
    have A := @index_pos m x (by omega) (by omega) h2 h3
    rwa [show x + 150 = x - -150 by omega] at A
set_option maxRecDepth 100000 in
set_option maxHeartbeats 2000000 in
theorem rcmp_walk (m x n y i j c : Int) (IX : Ret 26 #[.agg #[.int .i64 m, .int .i64 x]] (.int .i64 i)) (IY : Ret 26 #[.agg #[.int .i64 n, .int .i64 y]] (.int .i64 j)) (CO : Ret 27 #[.int .i64 i, .int .i64 j] (.int .i64 c)) (w : World) :
    Calls Tryz.prog 24 #[.agg #[.int .i64 m, .int .i64 x], .agg #[.int .i64 n, .int .i64 y]] w fun e w' => e = .returned (.int .i64 c) ∧ Ext w w' := by
  have HIX := Lib.hid IX; have HIY := Lib.hid IY; have HCO := Lib.hid CO; clear IX IY CO
  go_enter Tryz.func24, Tryz.ntmps24
  go_upto_region 1 with (fail)
  have X0 : Hid (Ext w ((w.alloc (.cells #[.int .i64 m, .int .i64 x] 23)).alloc (.cells #[.int .i64 n, .int .i64 y] 23))) := Lib.hid (((Ext.refl w).alloc _).alloc _)
  have RX : Hid (Rc ((w.alloc (.cells #[.int .i64 m, .int .i64 x] 23)).alloc (.cells #[.int .i64 n, .int .i64 y] 23)) w.heap.size m x) := Lib.hid ⟨by simp [go_sem], by simp [go_sem]⟩
  have RY : Hid (Rc ((w.alloc (.cells #[.int .i64 m, .int .i64 x] 23)).alloc (.cells #[.int .i64 n, .int .i64 y] 23)) (w.heap.size + 1) n y) := Lib.hid ⟨by simp [go_sem], by simp [go_sem]⟩
  generalize (w.alloc (.cells #[.int .i64 m, .int .i64 x] 23)).alloc (.cells #[.int .i64 n, .int .i64 y] 23) = W at *
  refine wp_region_S (fun uu : World => Ext W uu) 5 (by kernel_rfl) ?_
  have HS : Ext W W.drew := (Ext.refl W).drew
  refine GoS.take (i := 0) (v := ?_) rfl (by kernel_rfl) (by kernel_rfl) (by kernel_rfl) (by kernel_rfl) (fun _ _ _ h => h) (Or.inl ⟨by rfl, ?hy1⟩) HS ?_
  case hy1 => ((intro u' hT; have d0 := (RX.out.later hT).c0; have d1 := (RX.out.later hT).c1; go_simp); try with_reducible rfl)
  try simp only [List.getElem_toArray, List.getElem_cons_zero, Act.put, List.setIfInBounds_toArray, List.set_cons_zero, List.set_cons_succ]
  refine GoS.take (i := 2) (v := ?_) rfl (by kernel_rfl) (by kernel_rfl) (by kernel_rfl) (by kernel_rfl) (fun _ _ _ h => h) (Or.inl ⟨by rfl, ?hy2⟩) HS ?_
  case hy2 => ((intro u' hT; have d0 := (RY.out.later hT).c0; have d1 := (RY.out.later hT).c1; go_simp); try with_reducible rfl)
  try simp only [List.getElem_toArray, List.getElem_cons_succ, List.getElem_cons_zero, Act.put, List.setIfInBounds_toArray, List.set_cons_zero, List.set_cons_succ]
  refine GoS.one (i := 1) (by kernel_rfl) rfl (fun K hK => ?_)
  go_simp
  (with_reducible refine (HIX.out.call _).mono ?_)
  rintro e q3 ⟨rfl, hx⟩
  have HS2 := HS.trans hx; clear HS; have HS := HS2; clear HS2 hx
  go_wp2_with fail
  refine hK.out _ _ HS (fun _ => ?_)
  clear hK K
  try simp only [List.getElem_toArray, List.getElem_cons_succ, List.getElem_cons_zero, Act.put, List.setIfInBounds_toArray, List.set_cons_zero, List.set_cons_succ]
  refine GoS.one (i := 3) (by kernel_rfl) rfl (fun K hK => ?_)
  go_simp
  (with_reducible refine (HIY.out.call _).mono ?_)
  rintro e q4 ⟨rfl, hx⟩
  have HS2 := HS.trans hx; clear HS; have HS := HS2; clear HS2 hx
  go_wp2_with fail
  refine hK.out _ _ HS (fun _ => ?_)
  clear hK K
  try simp only [List.getElem_toArray, List.getElem_cons_succ, List.getElem_cons_zero, Act.put, List.setIfInBounds_toArray, List.set_cons_zero, List.set_cons_succ]
  refine GoS.one (i := 4) (by kernel_rfl) rfl (fun K hK => ?_)
  go_simp
  (with_reducible refine (HCO.out.call _).mono ?_)
  rintro e q5 ⟨rfl, hx⟩
  have HS2 := HS.trans hx; clear HS; have HS := HS2; clear HS2 hx
  go_wp2_with fail
  refine hK.out _ _ HS (fun _ => ?_)
  clear hK K
  try simp only [List.getElem_toArray, List.getElem_cons_succ, List.getElem_cons_zero, Act.put, List.setIfInBounds_toArray, List.set_cons_zero, List.set_cons_succ]
  refine GoS.store (i := 5) (by kernel_rfl) rfl (by kernel_rfl) (fun K hK => ?_)
  go_simp
  refine hK.out _ _ ?_
  clear hK K
  try simp only [List.getElem_toArray, List.getElem_cons_succ, List.getElem_cons_zero, Act.put, List.setIfInBounds_toArray, List.set_cons_zero, List.set_cons_succ]
  refine GoS.done (by kernel_rfl) ?_
  have X9 := Lib.hid (X0.out.trans HS)
  go_wp2
  go_ret
  exact ⟨rfl, X9.out⟩
theorem cmp_ref {m x n y : Int} (h : Vd m x) (k : Vd n y) : Ret 24 #[.agg #[.int .i64 m, .int .i64 x], .agg #[.int .i64 n, .int .i64 y]] (.int .i64 (cmpI (placeV m x) (placeV n y))) :=
  fun w => rcmp_walk m x n y _ _ _ (index_ref h) (index_ref k) (rcompare_any _ _) w
end Go.Proofs.YthmndafjogndaaaGreatDoor
