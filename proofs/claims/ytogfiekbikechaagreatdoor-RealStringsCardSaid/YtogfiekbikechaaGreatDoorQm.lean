/- Layer 2: the reference's digits, naturals and bounded exponents of strings. -/
import Derived.Test.YtogfiekbikechaaGreatDoorGs
import Derived.Test.YtogfiekbikechaaGreatDoorGt
namespace Go.Proofs.YtogfiekbikechaaGreatDoor
open Go.ChangeShapes Go.WideShapes Go.ChangeAt Go.RowKit

theorem isdig_y (c : UInt8) (h1 : (48 : Int) ≤ c.toNat) (h2 : (c.toNat : Int) ≤ 57) (w : World) : Calls Tryz.prog 135 #[.int .u8 (c.toNat : Int)] w fun e w' => e = .returned (.bool true) ∧ Ext w w' := by
  go_enter Tryz.func135, Tryz.ntmps135
  go_wp2
  go_ret
  exact ⟨rfl, Ext.refl _⟩
theorem isdig_lo (c : UInt8) (h1 : ¬ (48 : Int) ≤ c.toNat) (w : World) : Calls Tryz.prog 135 #[.int .u8 (c.toNat : Int)] w fun e w' => e = .returned (.bool false) ∧ Ext w w' := by
  go_enter Tryz.func135, Tryz.ntmps135
  go_wp2
  go_ret
  exact ⟨rfl, Ext.refl _⟩
theorem isdig_hi (c : UInt8) (h1 : (48 : Int) ≤ c.toNat) (h2 : ¬ (c.toNat : Int) ≤ 57) (w : World) : Calls Tryz.prog 135 #[.int .u8 (c.toNat : Int)] w fun e w' => e = .returned (.bool false) ∧ Ext w w' := by
  go_enter Tryz.func135, Tryz.ntmps135
  go_wp2
  go_ret
  exact ⟨rfl, Ext.refl _⟩
theorem isdig_any (c : UInt8) (w : World) : Calls Tryz.prog 135 #[.int .u8 (c.toNat : Int)] w fun e w' => e = .returned (.bool (isDg c)) ∧ Ext w w' := by
  have e : isDg c = (decide (48 ≤ c.toNat) && decide (c.toNat ≤ 57)) := rfl
  by_cases h1 : 48 ≤ c.toNat
  · by_cases h2 : c.toNat ≤ 57
    · rw [e, decide_eq_true h1, decide_eq_true h2]; exact isdig_y c (by omega) (by omega) w
    · rw [e, decide_eq_true h1, decide_eq_false h2]; exact isdig_hi c (by omega) (by omega) w
  · rw [e, decide_eq_false h1, Bool.false_and]; exact isdig_lo c (by omega) w
theorem drop_cons (s : ByteArray) (k : Nat) (h : k < s.size) : s.data.toList.drop k = s[k] :: s.data.toList.drop (k + 1) := by
  rw [List.drop_eq_getElem_cons (by simpa using h)]; rfl
theorem take_one (s : ByteArray) (k : Nat) (h : k < s.size) : s.data.toList.take (k + 1) = s.data.toList.take k ++ [s[k]] := by
  rw [List.take_succ_eq_append_getElem (by simpa using h)]; rfl
theorem drop_none (s : ByteArray) (k : Nat) (h : ¬ k < s.size) : s.data.toList.drop k = [] := List.drop_eq_nil_of_le (by simpa using h)
theorem digs_cons {c : UInt8} {r : List UInt8} (h : isDg c = true) : digs (c :: r) = c :: digs r := by unfold digs; rw [List.takeWhile_cons, if_pos h]
theorem digs_stop {c : UInt8} {r : List UInt8} (h : isDg c = false) : digs (c :: r) = [] := by unfold digs; rw [List.takeWhile_cons, if_neg (by rw [h]; decide)]
theorem dg_round {s : ByteArray} {k e : Nat} (h : k < s.size) (hk : k ≤ s.size ∧ k + (digs (s.data.toList.drop k)).length = e) :
    (isDg s[k] = true → k + 1 ≤ s.size ∧ (k + 1) + (digs (s.data.toList.drop (k + 1))).length = e) ∧ (isDg s[k] = false → k = e) := by
  obtain ⟨h1, h2⟩ := hk
  rw [drop_cons s k h] at h2
  constructor
  · intro hd; rw [digs_cons hd, List.length_cons] at h2; omega
  · intro hd; rw [digs_stop hd] at h2; simpa using h2
theorem dg_end {s : ByteArray} {k e : Nat} (h : ¬ k < s.size) (hk : k ≤ s.size ∧ k + (digs (s.data.toList.drop k)).length = e) : k = e := by
  obtain ⟨h1, h2⟩ := hk
  rw [drop_none s k h] at h2
  simpa [digs] using h2
theorem less_n {i n : Nat} (h : i < n) : ((n : Int) - ((i + 1 : Nat) : Int)).toNat < ((n : Int) - (i : Int)).toNat := by omega
set_option maxRecDepth 100000 in
set_option maxHeartbeats 4000000 in
theorem rdigits_any (s : ByteArray) (a e : Nat) (hs : s.size ≤ 1000) (ha : a ≤ s.size) (he : a + (digs (s.data.toList.drop a)).length = e) (w : World) :
    Calls Tryz.prog 111 #[.string s, .int .i64 (a : Int)] w fun x w' => x = .returned (.int .i64 (e : Int)) ∧ Ext w w' := by
  have HS := Lib.hid hs; have HA := Lib.hid (And.intro ha he); clear hs ha he
  go_enter Tryz.func111, Tryz.ntmps111
  go_wp2
  go_loopw [1] (fun x u => ∃ (u2 : World) (k : Nat), u2 = u ∧ x = .int .i64 (k : Int) ∧ Hid (k ≤ s.size ∧ k + (digs (s.data.toList.drop k)).length = e) ∧ Hid (Ext w u2)) (fun x _ => ((s.size : Int) - intOf x).toNat)
  case atStart => exact ⟨_, a, rfl, rfl, HA, Lib.hid (Ext.refl _)⟩
  case round =>
    obtain ⟨u, k, hu, rfl, HK, XU⟩ := hrel
    subst hu
    by_cases hlt : k < s.size
    · have C := isdig_any s[k]
      have R := dg_round hlt HK.out
      have M := Lib.hid (less_n hlt)
      obtain ⟨n1, n2⟩ := step_one (k := k) (by have := HS.out; omega)
      have g1 : (k : Int) < (s.size : Int) := Int.ofNat_lt.2 hlt
      cases hd : isDg s[k] with
      | true =>
        rw [hd] at C
        have HC := Lib.hid C; have HR := Lib.hid (R.1 hd)
        clear C R hd
        go_wp2_with fail
        refine (HC.out _).mono ?_
        rintro e w3 ⟨rfl, hx⟩
        have XV := Lib.hid (XU.out.trans hx); clear hx
        go_wp2
        go_roundw
        case rel => exact ⟨_, k + 1, rfl, by first | rfl | go_num, HR, XV⟩
        case measure => exact M.out
      | false =>
        rw [hd] at C
        have HC := Lib.hid C; have HR := Lib.hid (R.2 hd)
        clear C R hd
        go_wp2_with fail
        refine (HC.out _).mono ?_
        rintro e w3 ⟨rfl, hx⟩
        have XV := Lib.hid (XU.out.trans hx); clear hx
        go_wp2
        go_ret
        exact ⟨by rw [← HR.out]; rfl, XV.out⟩
    · have HR := Lib.hid (dg_end hlt HK.out)
      have g1 : ¬ (k : Int) < (s.size : Int) := by omega
      clear hlt
      go_wp2
      go_ret
      exact ⟨by rw [← HR.out]; rfl, XU.out⟩
/-- The number of digits, at most 1000. -/
def bF (l : List UInt8) : Nat := l.foldl (fun n c => min (10 * n + (c.toNat - 48)) 1000) 0
theorem bF_snoc (l : List UInt8) (c : UInt8) : bF (l ++ [c]) = min (10 * bF l + (c.toNat - 48)) 1000 := by unfold bF; rw [List.foldl_append]; rfl
theorem bF_le (l : List UInt8) : bF l ≤ 1000 := by
  rcases snoc_cases l with rfl | ⟨t, c, rfl⟩
  · exact Nat.zero_le _
  · rw [bF_snoc]; omega
theorem dg_at (s : ByteArray) (k : Nat) (h : k < s.size) (ha : s.data.toList.all isDg = true) : isDg s[k] = true :=
  List.all_eq_true.1 ha s[k] (by rw [show s[k] = s.data.toList[k]'(by simpa using h) from rfl]; exact List.getElem_mem _)
/-- A digit's byte as a number. -/
theorem dg_num {c : UInt8} (h : isDg c = true) : ∃ d : Nat, d ≤ 9 ∧ c.toNat - 48 = d ∧ IntKind.u8.wrap ((c.toNat : Int) - 48) = (d : Int) ∧ wrap64 (d : Int) = (d : Int) ∧ IntKind.i64.wrap (d : Int) = (d : Int) := by
  obtain ⟨h1, h2⟩ := isDg_le h
  refine ⟨c.toNat - 48, by omega, rfl, ?_, by unfold wrap64; omega, IntWalk.i64_in _ ⟨by omega, by omega⟩⟩
  rw [show ((c.toNat : Int) - 48) = ((c.toNat - 48 : Nat) : Int) by omega]
  have hd : c.toNat - 48 ≤ 9 := by omega
  clear h1 h2 h
  generalize c.toNat - 48 = d at *
  match d, hd with
  | 0, _ => decide
  | 1, _ => decide
  | 2, _ => decide
  | 3, _ => decide
  | 4, _ => decide
  | 5, _ => decide
  | 6, _ => decide
  | 7, _ => decide
  | 8, _ => decide
  | 9, _ => decide
theorem b_round {n d q : Nat} (hn : n ≤ 1000) (hd : d ≤ 9) (hq : min (10 * n + d) 1000 = q) : wrap64 (10 * (n : Int)) = ((10 * n : Nat) : Int) ∧ IntKind.i64.wrap (10 * (n : Int)) = ((10 * n : Nat) : Int) ∧ wrap64 (((10 * n : Nat) : Int) + (d : Int)) = ((10 * n + d : Nat) : Int) ∧ IntKind.i64.wrap (((10 * n : Nat) : Int) + (d : Int)) = ((10 * n + d : Nat) : Int) ∧
    min ((10 * n + d : Nat) : Int) 1000 = (q : Int) :=
  ⟨by unfold wrap64; omega, by rw [IntWalk.i64_in _ ⟨by omega, by omega⟩]; omega, by unfold wrap64; omega, by rw [IntWalk.i64_in _ ⟨by omega, by omega⟩]; omega, by omega⟩
set_option maxRecDepth 100000 in
set_option maxHeartbeats 4000000 in
theorem bounded_any (s : ByteArray) (hs : s.size ≤ 1000) (ha : s.data.toList.all isDg = true) (w : World) :
    Calls Tryz.prog 87 #[.string s] w fun x w' => x = .returned (.int .i64 (bF s.data.toList : Int)) ∧ Ext w w' := by
  have HS := Lib.hid hs; have HA := Lib.hid ha; clear hs ha
  go_enter Tryz.func87, Tryz.ntmps87
  go_wp2
  go_loopw [3, 4] (fun x y u => ∃ (u2 : World) (i n : Nat), u2 = u ∧ x = .int .i64 (n : Int) ∧ y = .int .i64 (i : Int) ∧ Hid (i ≤ s.size) ∧ Hid (n = bF (s.data.toList.take i)) ∧ Hid (Ext w u2)) (fun _ y _ => ((s.size : Int) - intOf y).toNat)
  case atStart => exact ⟨_, 0, 0, rfl, rfl, rfl, Lib.hid (Nat.zero_le _), Lib.hid rfl, Lib.hid (Ext.refl _)⟩
  case round =>
    obtain ⟨u, i, n, hu, rfl, rfl, HI, HN, XU⟩ := hrel
    subst hu
    by_cases hlt : i < s.size
    · have M := Lib.hid (less_n hlt)
      have H1 : Hid (i + 1 ≤ s.size) := Lib.hid hlt
      obtain ⟨d, d1, d2, d3, d4, d5⟩ := dg_num (dg_at s i hlt HA.out)
      obtain ⟨q, hq⟩ : ∃ q, min (10 * n + d) 1000 = q := ⟨_, rfl⟩
      have H2 : Hid (q = bF (s.data.toList.take (i + 1))) := Lib.hid (by rw [take_one s i hlt, bF_snoc, ← HN.out, d2]; exact hq.symm)
      obtain ⟨m1, m2, m3, m4, m5⟩ := b_round (by rw [HN.out]; exact bF_le _) d1 hq
      generalize 10 * n + d = T at *
      generalize 10 * n = U at *
      obtain ⟨n1, n2⟩ := step_one (k := i) (by have h1 := HS.out; clear m1 m2 m3 m4 m5 d3 d4 d5; omega)
      have g1 : (i : Int) < (s.size : Int) := Int.ofNat_lt.2 hlt
      clear d1 d2 hq
      go_wp2
      go_roundw
      case rel => exact ⟨_, i + 1, q, rfl, by first | rfl | go_num, by first | rfl | go_num, H1, H2, XU⟩
      case measure => exact M.out
    · have HR : Hid (n = bF s.data.toList) := Lib.hid (by rw [HN.out, List.take_of_length_le (by simpa using hlt)])
      have g1 : ¬ (i : Int) < (s.size : Int) := by omega
      clear hlt
      go_wp2
      go_ret
      exact ⟨by rw [← HR.out]; rfl, XU.out⟩
theorem nat_round {s : ByteArray} {i : Nat} {d : Nat} (hlt : i < s.size) (hs : s.size ≤ 100) (ha : s.data.toList.all isDg = true) (d1 : d ≤ 9) (d2 : s[i].toNat - 48 = d) :
    valL (s.data.toList.take (i + 1)) = valL (s.data.toList.take i) * 10 + d ∧ Fits (valL (s.data.toList.take i) * 10) ∧ Fits (valL (s.data.toList.take i) * 10 + d) := by
  have hsz : s.data.toList.length = s.size := by simp
  have hl : (s.data.toList.take i).length = i := by rw [List.length_take]; omega
  have hv := valL_lt i (s.data.toList.take i) hl (List.all_eq_true.2 fun x hx => List.all_eq_true.1 ha x (List.mem_of_mem_take hx))
  have hb : valL (s.data.toList.take i) * 10 + d < 2 ^ (4 * (i + 1) + 1) := by
    have h1 : valL (s.data.toList.take i) * 10 + d < 10 ^ (i + 1) := by rw [Nat.pow_succ]; omega
    exact Nat.lt_trans (Nat.lt_of_lt_of_le h1 (ten_lt_two (i + 1))) (Nat.pow_lt_pow_right (by omega) (by omega))
  have hf : Fits (valL (s.data.toList.take i) * 10 + d) := fits_of hb (by omega)
  refine ⟨by rw [take_one s i hlt, valL_snoc, d2], fits_le hf (by omega), hf⟩
set_option maxRecDepth 100000 in
set_option maxHeartbeats 4000000 in
theorem natural_any (s : ByteArray) (hs : s.size ≤ 100) (ha : s.data.toList.all isDg = true) (w : World) :
    Calls Tryz.prog 86 #[.string s] w fun x w' => ∃ v, x = .returned v ∧ IsNat w' v (valL s.data.toList) ∧ Ext w w' := by
  have HS := Lib.hid hs; have HA := Lib.hid ha; clear hs ha
  have S0 := Lib.hid (small_nat 0 (by omega))
  rw [show ((0 : Nat) : Int) = 0 from rfl] at S0
  have S10 := Lib.hid (small_nat 10 (by omega))
  rw [show ((10 : Nat) : Int) = 10 from rfl] at S10
  go_enter Tryz.func86, Tryz.ntmps86
  go_wp2_with fail
  refine (S0.out _).mono ?_
  rintro e w1 ⟨v0, rfl, hv, hx⟩
  have V0 := Lib.hid hv; have X0 := Lib.hid hx; clear hv hx
  go_wp2
  go_loopw [3, 4] (fun x y u => ∃ (u2 : World) (i : Nat) (v : Value), u2 = u ∧ x = v ∧ y = .int .i64 (i : Int) ∧ Hid (i ≤ s.size) ∧ Hid (IsNat u2 v (valL (s.data.toList.take i))) ∧ Hid (Ext w u2)) (fun _ y _ => ((s.size : Int) - intOf y).toNat)
  case atStart => exact ⟨_, 0, _, rfl, rfl, rfl, Lib.hid (Nat.zero_le _), V0, X0⟩
  case round =>
    obtain ⟨u, i, v, hu, rfl, rfl, HI, HV, XU⟩ := hrel
    subst hu
    by_cases hlt : i < s.size
    · have M := Lib.hid (less_n hlt)
      have H1 : Hid (i + 1 ≤ s.size) := Lib.hid hlt
      obtain ⟨d, d1, d2, d3, d4, d5⟩ := dg_num (dg_at s i hlt HA.out)
      obtain ⟨y1, y2, y3⟩ := nat_round hlt HS.out HA.out d1 d2
      have SD := Lib.hid (small_nat d (by clear d3 d4 d5; omega))
      have H2 := Lib.hid y1; have F1 := Lib.hid y2; have F2 := Lib.hid y3
      obtain ⟨n1, n2⟩ := step_one (k := i) (by have h1 := HS.out; clear d3 d4 d5 y1 y2 y3; omega)
      have g1 : (i : Int) < (s.size : Int) := Int.ofNat_lt.2 hlt
      clear d1 d2 y1 y2 y3
      generalize hN : valL (s.data.toList.take i) = N at *
      clear hN
      go_upto_region 5 with (fail)
      refine wp_region_S (fun uu : World => Ext u uu) 10 (by kernel_rfl) ?_
      have HSW : Ext u u.drew := (Ext.refl u).drew
      refine GoS.pure (i := 0) (v := ?_) rfl (by kernel_rfl) (by kernel_rfl) (by kernel_rfl) (by kernel_rfl) (fun _ _ _ h => h) (Or.inl ⟨by rfl, ?hy1⟩) (fun _ => HSW) ?_
      case hy1 => ((intro u' hT; go_simp); try with_reducible rfl)
      try simp only [List.getElem_toArray, List.getElem_cons_zero, Act.put, List.setIfInBounds_toArray, List.set_cons_zero, List.set_cons_succ]
      refine GoS.pure (i := 3) (v := ?_) rfl (by kernel_rfl) (by kernel_rfl) (by kernel_rfl) (by kernel_rfl) (fun _ _ _ h => h) (Or.inl ⟨by rfl, ?hy2⟩) (fun _ => HSW) ?_
      case hy2 => ((intro u' hT; go_simp); try with_reducible rfl)
      try simp only [List.getElem_toArray, List.getElem_cons_succ, List.getElem_cons_zero, Act.put, List.setIfInBounds_toArray, List.set_cons_zero, List.set_cons_succ]
      refine GoS.pure (i := 4) (v := ?_) rfl (by kernel_rfl) (by kernel_rfl) (by kernel_rfl) (by kernel_rfl) (fun _ _ _ h => h) (Or.inl ⟨by rfl, ?hy3⟩) (fun _ => HSW) ?_
      case hy3 => ((intro u' hT; go_simp); try with_reducible rfl)
      try simp only [List.getElem_toArray, List.getElem_cons_succ, List.getElem_cons_zero, Act.put, List.setIfInBounds_toArray, List.set_cons_zero, List.set_cons_succ]
      refine GoS.pure (i := 5) (v := ?_) rfl (by kernel_rfl) (by kernel_rfl) (by kernel_rfl) (by kernel_rfl) (fun _ _ _ h => h) (Or.inl ⟨by rfl, ?hy4⟩) (fun _ => HSW) ?_
      case hy4 => ((intro u' hT; go_simp); try with_reducible rfl)
      try simp only [List.getElem_toArray, List.getElem_cons_succ, List.getElem_cons_zero, Act.put, List.setIfInBounds_toArray, List.set_cons_zero, List.set_cons_succ]
      refine GoS.pure (i := 6) (v := ?_) rfl (by kernel_rfl) (by kernel_rfl) (by kernel_rfl) (by kernel_rfl) (fun _ _ _ h => h) (Or.inl ⟨by rfl, ?hy5⟩) (fun _ => HSW) ?_
      case hy5 => ((intro u' hT; go_simp); try with_reducible rfl)
      try simp only [List.getElem_toArray, List.getElem_cons_succ, List.getElem_cons_zero, Act.put, List.setIfInBounds_toArray, List.set_cons_zero, List.set_cons_succ]
      refine GoS.pure (i := 7) (v := ?_) rfl (by kernel_rfl) (by kernel_rfl) (by kernel_rfl) (by kernel_rfl) (fun _ _ _ h => h) (Or.inl ⟨by rfl, ?hy6⟩) (fun _ => HSW) ?_
      case hy6 => ((intro u' hT; go_simp); try with_reducible rfl)
      try simp only [List.getElem_toArray, List.getElem_cons_succ, List.getElem_cons_zero, Act.put, List.setIfInBounds_toArray, List.set_cons_zero, List.set_cons_succ]
      refine GoS.one (i := 1) (by kernel_rfl) rfl (fun K hK => ?_)
      go_simp
      (with_reducible refine (S10.out _).mono ?_)
      rintro e q7 ⟨v1, rfl, hv, hx⟩
      have HSW2 := HSW.trans hx; clear HSW; have HSW := HSW2; clear HSW2 hx
      go_wp2_with fail
      refine hK.out _ _ HSW (fun _ => ?_)
      clear hK K
      try simp only [List.getElem_toArray, List.getElem_cons_succ, List.getElem_cons_zero, Act.put, List.setIfInBounds_toArray, List.set_cons_zero, List.set_cons_succ]
      have V1 := Lib.hid hv; clear hv
      refine GoS.one (i := 2) (by kernel_rfl) rfl (fun K hK => ?_)
      go_simp
      (with_reducible refine (nmul_any (HV.out.later HSW) V1.out F1.out).mono ?_)
      rintro e q8 ⟨v2, rfl, hv, hx⟩
      have HSW2 := HSW.trans hx; clear HSW; have HSW := HSW2; clear HSW2 hx
      go_wp2_with fail
      refine hK.out _ _ HSW (fun _ => ?_)
      clear hK K
      try simp only [List.getElem_toArray, List.getElem_cons_succ, List.getElem_cons_zero, Act.put, List.setIfInBounds_toArray, List.set_cons_zero, List.set_cons_succ]
      have V2 := Lib.hid hv; clear hv V1
      refine GoS.one (i := 8) (by kernel_rfl) rfl (fun K hK => ?_)
      go_simp
      (with_reducible refine (SD.out _).mono ?_)
      rintro e q9 ⟨v3, rfl, hv, hx⟩
      have V2b := Lib.hid (V2.out.later hx); clear V2
      have HSW2 := HSW.trans hx; clear HSW; have HSW := HSW2; clear HSW2 hx
      go_wp2_with fail
      refine hK.out _ _ HSW (fun _ => ?_)
      clear hK K
      try simp only [List.getElem_toArray, List.getElem_cons_succ, List.getElem_cons_zero, Act.put, List.setIfInBounds_toArray, List.set_cons_zero, List.set_cons_succ]
      have V3 := Lib.hid hv; clear hv
      refine GoS.one (i := 9) (by kernel_rfl) rfl (fun K hK => ?_)
      go_simp
      (with_reducible refine (nadd_any V2b.out V3.out F2.out).mono ?_)
      rintro e q10 ⟨v4, rfl, hv, hx⟩
      have HSW2 := HSW.trans hx; clear HSW; have HSW := HSW2; clear HSW2 hx
      go_wp2_with fail
      refine hK.out _ _ HSW (fun _ => ?_)
      clear hK K
      try simp only [List.getElem_toArray, List.getElem_cons_succ, List.getElem_cons_zero, Act.put, List.setIfInBounds_toArray, List.set_cons_zero, List.set_cons_succ]
      have V4 := Lib.hid hv; clear hv V2b V3
      refine GoS.store (i := 10) (by kernel_rfl) rfl (by kernel_rfl) (fun K hK => ?_)
      go_simp
      refine hK.out _ _ ?_
      clear hK K
      try simp only [List.getElem_toArray, List.getElem_cons_succ, List.getElem_cons_zero, Act.put, List.setIfInBounds_toArray, List.set_cons_zero, List.set_cons_succ]
      refine GoS.done (by kernel_rfl) ?_
      have XV := Lib.hid (XU.out.trans HSW)
      have V5 : Hid (IsNat q10 v4 (valL (s.data.toList.take (i + 1)))) := Lib.hid (by rw [H2.out]; exact V4.out)
      clear HSW V4 HV
      generalize q10 = u9 at *
      go_wp2
      go_roundw
      case rel => exact ⟨_, i + 1, _, rfl, rfl, by first | rfl | go_num, H1, V5, XV⟩
      case measure => exact M.out
    · have hr := HV.out
      rw [List.take_of_length_le (by simpa using hlt)] at hr
      have HR := Lib.hid hr
      clear hr
      have g1 : ¬ (i : Int) < (s.size : Int) := by omega
      clear hlt HV
      go_wp2
      go_ret
      exact ⟨_, rfl, HR.out, XU.out⟩
end Go.Proofs.YtogfiekbikechaaGreatDoor
