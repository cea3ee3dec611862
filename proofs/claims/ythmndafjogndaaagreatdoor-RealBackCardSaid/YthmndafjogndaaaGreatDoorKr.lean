/- Layer 2: RealBack's walk at a real that is not 0. -/
import Derived.Test.YthmndafjogndaaaGreatDoorKq
import Derived.Test.YthmndafjogndaaaGreatDoorGr
namespace Go.Proofs.YthmndafjogndaaaGreatDoor
open Go.RowKit

def cnt (s : List UInt8) (F k : Nat) : Nat := ((s.drop F).take (k - F)).countP isDg
theorem cnt_start (s : List UInt8) (F : Nat) : cnt s F F = 0 := by unfold cnt; rw [Nat.sub_self]; rfl
theorem cnt_le (s : List UInt8) (F k : Nat) : cnt s F k ≤ k := Nat.le_trans List.countP_le_length (by rw [List.length_take]; omega)
theorem cnt_step (s : List UInt8) (F k : Nat) (h : k < s.length) (hF : F ≤ k) (c : UInt8) (hc : s[k] = c) : cnt s F (k + 1) = cnt s F k + if isDg c = true then 1 else 0 := by
  unfold cnt
  have e : k + 1 - F = (k - F) + 1 := by omega
  have hk : k - F < (s.drop F).length := by rw [List.length_drop]; omega
  rw [e, List.take_succ_eq_append_getElem hk, List.countP_append]
  congr 1
  have e2 : (s.drop F)[k - F] = c := by rw [List.getElem_drop]; rw [← hc]; congr 1; omega
  rw [e2, List.countP_cons, List.countP_nil, Nat.zero_add]
theorem dg_cases (c : UInt8) : (isDg c = true ∧ (c.toNat : Int) ≥ 48 ∧ (c.toNat : Int) ≤ 57) ∨ (isDg c = false ∧ (c.toNat : Int) ≥ 48 ∧ ¬ (c.toNat : Int) ≤ 57) ∨ (isDg c = false ∧ ¬ (c.toNat : Int) ≥ 48) := by
  have h : isDg c = true ↔ 48 ≤ c.toNat ∧ c.toNat ≤ 57 := by
    unfold isDg; simp []
  by_cases a : 48 ≤ c.toNat
  · by_cases b : c.toNat ≤ 57
    · exact .inl ⟨h.2 ⟨a, b⟩, by omega, by omega⟩
    · refine .inr (.inl ⟨?_, by omega, by omega⟩)
      cases e : isDg c
      · rfl
      · exact absurd (h.1 e).2 b
  · refine .inr (.inr ⟨?_, by omega⟩)
    cases e : isDg c
    · rfl
    · exact absurd (h.1 e).1 a
set_option maxRecDepth 100000 in
set_option maxHeartbeats 2000000 in
theorem back_walk (w : World) (ht : Tb w) (i m x m' x' : Int) (s : List UInt8) (F G : Nat) (A : Ret 49 #[.int .i64 i] (.agg #[.int .i64 m, .int .i64 x])) (PR : (∀ u, Tb u → Calls Tryz.prog 47 #[.agg #[.int .i64 m, .int .i64 x]] u fun e u' => e = .returned (.tuple #[.string (bs s), .int .i64 0]) ∧ Ext u u')) (PA : (∀ u, Tb u → Calls Tryz.prog 45 #[.string (bs s)] u fun e u' => e = .returned (.tuple #[.agg #[.int .i64 m, .int .i64 x], .int .i64 0]) ∧ Ext u u')) (PO : (∀ u, Tb u → Calls Tryz.prog 45 #[.string ((bs s).extract 0 G ++ ⟨#[48]⟩ ++ (bs s).extract (G + 1) s.length)] u fun e u' => e = .returned (.tuple #[.agg #[.int .i64 m', .int .i64 x'], .int .i64 0]) ∧ Ext u u'))
    (hl : s.length ≤ 24) (DG : Ret 50 #[.string (bs s)] (.tuple #[.int .i64 (F : Int), .int .i64 (G : Int)])) (h1 : F ≤ G) (h2 : G < s.length) (hn : cnt s F (G + 1) ≤ 9) (m0 : (m == 0) = false) (ne : (m' == m && x' == x) = false) :
    Calls Tryz.prog 9 #[.int .i64 i] w fun e w' => e = .returned (.bool true) ∧ Ext w w' := by
  have HT := Lib.hid ht; clear ht
  have HN := Lib.hid hn; clear hn
  have hsz : (bs s).size = s.length := rfl
  have hlen : ¬ ((bs s).size : Int) > 24 := by rw [hsz]; omega
  have hlen' : ¬ (s.length : Int) > 24 := by omega
  have fp : ¬ (F : Int) < 0 := by omega
  have FR := Lib.hid (Fr.nil w)
  have eqR := eqReal
  go_enter Tryz.func9, Tryz.ntmps9
  go_wp2_with fail
  refine (A _).mono ?_
  rintro e w1 ⟨rfl, hx⟩
  have FR2 : Hid (Fr w w1 []) := Lib.hid (FR.out.later hx)
  clear hx FR; have FR := FR2; clear FR2
  go_wp2_with fail
  refine (PR _ (HT.out.later (FR.out.lay _ _ _).x)).mono ?_
  rintro e w2 ⟨rfl, hx⟩
  have FR2 : Hid (Fr w w2 [(w1.heap.size, m, x)]) := Lib.hid ((FR.out.lay (m) (x) 23).later hx)
  clear hx FR; have FR := FR2; clear FR2
  go_wp2_with fail
  refine (PA _ (HT.out.later FR.out.x)).mono ?_
  rintro e w3 ⟨rfl, hx⟩
  have FR2 : Hid (Fr w w3 [(w1.heap.size, m, x)]) := Lib.hid (FR.out.later hx)
  clear hx FR; have FR := FR2; clear FR2
  have cx0 := FR.out.g0 (b := w1.heap.size) (.head _); have cx1 := FR.out.g1 (b := w1.heap.size) (.head _)
  go_wp2_with fail
  refine (is_true m x _).mono ?_
  rintro e w4 ⟨rfl, hx⟩
  have FR2 : Hid (Fr w w4 [(w3.heap.size, m, x), (w1.heap.size, m, x)]) := Lib.hid ((FR.out.lay (m) (x) 23).later hx)
  clear cx0 cx1
  clear hx FR; have FR := FR2; clear FR2
  go_wp2_with fail
  refine (DG _).mono ?_
  rintro e w5 ⟨rfl, hx⟩
  have FR2 : Hid (Fr w w5 [(w3.heap.size, m, x), (w1.heap.size, m, x)]) := Lib.hid (FR.out.later hx)
  clear hx FR; have FR := FR2; clear FR2
  have cx0 := FR.out.c0 (b := w1.heap.size) (.tail _ (.head _)); have cx1 := FR.out.c1 (b := w1.heap.size) (.tail _ (.head _))
  go_wp2
  go_loopw [10, 11] (fun a b wr => ∃ (k n : Nat), F ≤ k ∧ k ≤ G + 1 ∧ a = .int .i64 (n : Int) ∧ b = .int .i64 (k : Int) ∧ n = cnt s F k ∧ wr = w5) (fun _ b _ => ((G : Int) + 1 - intOf b).toNat)
  case atStart => exact ⟨F, 0, Nat.le_refl _, by omega, rfl, rfl, (cnt_start s F).symm, rfl⟩
  case round =>
    obtain ⟨k, n, k1, k2, rfl, rfl, hn, rfl⟩ := hrel
    by_cases hlt : k ≤ G
    · have hks : k < s.length := by omega
      obtain ⟨c, hc⟩ : ∃ c, s[k] = c := ⟨_, rfl⟩
      have st := cnt_step s F k hks k1 c hc
      have hle := cnt_le s F k
      have g0 : (k : Int) < ((bs s).size : Int) := by rw [hsz]; exact Int.ofNat_lt.2 hks
      have g0' : (k : Int) < (s.length : Int) := Int.ofNat_lt.2 hks
      have g1 : (0 : Int) ≤ (k : Int) := Int.natCast_nonneg _
      have g2 : k < (bs s).size := hks
      have g3 : (k : Int) ≤ (G : Int) := Int.ofNat_le.2 hlt
      have hget : ∀ h', (bs s)[k]'h' = c := fun h' => bs_get s k c hks hc h'
      have K1 := Lib.hid (show F ≤ k + 1 by omega)
      have K2 := Lib.hid (show k + 1 ≤ G + 1 by omega)
      have M := Lib.hid (show ((G : Int) + 1 - ((k + 1 : Nat) : Int)).toNat < ((G : Int) + 1 - (k : Int)).toNat by omega)
      obtain ⟨y1, y2⟩ := @k_wrap k (by omega)
      obtain ⟨z1, z2⟩ := @k_wrap n (Nat.le_trans (Nat.le_trans (Nat.le_of_eq hn) hle) (Nat.le_trans (Nat.le_of_lt hks) (Nat.le_trans hl (by decide))))
      clear hc hks hlt hle
      rcases dg_cases c with ⟨d0, d1, d2⟩ | ⟨d0, d1, d2⟩ | ⟨d0, d1⟩
      · rw [if_pos d0, ← hn] at st
        have ST := Lib.hid st.symm
        clear st hn d0 k1 k2
        go_wp2
        go_roundw
        case rel => exact ⟨k + 1, n + 1, K1.out, K2.out, by first | rfl | go_num, by first | rfl | go_num, ST.out, by first | rfl | trivial⟩
        case measure => first | exact M.out | (simp [intOf]; have := M.out; omega)
      · rw [if_neg (by rw [d0]; decide), Nat.add_zero, ← hn] at st
        have ST := Lib.hid st.symm
        clear st hn d0 k1 k2
        go_wp2
        go_roundw
        case rel => exact ⟨k + 1, n, K1.out, K2.out, rfl, by first | rfl | go_num, ST.out, by first | rfl | trivial⟩
        case measure => first | exact M.out | (simp [intOf]; have := M.out; omega)
      · rw [if_neg (by rw [d0]; decide), Nat.add_zero, ← hn] at st
        have ST := Lib.hid st.symm
        clear st hn d0 k1 k2
        go_wp2
        go_roundw
        case rel => exact ⟨k + 1, n, K1.out, K2.out, rfl, by first | rfl | go_num, ST.out, by first | rfl | trivial⟩
        case measure => first | exact M.out | (simp [intOf]; have := M.out; omega)
    · obtain rfl : k = G + 1 := by omega
      have g3 : ¬ ((G + 1 : Nat) : Int) ≤ (G : Int) := by omega
      have g4 : (n : Int) ≤ 9 := by have := HN.out; omega
      have q1 : (G : Int) ≤ ((bs s).size : Int) := by rw [hsz]; omega
      have q2 : ((G : Int) + 1) ≤ ((bs s).size : Int) := by rw [hsz]; omega
      have q3 : G ≤ s.length := by omega
      have q4 : G + 1 ≤ s.length := h2
      have q7 : (0 : Int) ≤ (G : Int) + 1 := by omega
      have q8 : (G : Int) + 1 ≤ (s.length : Int) := by omega
      have q9 : ¬ 9223372036854775807 < s.length := by omega
      have q5 : ¬ 9223372036854775807 < G + 1 := by omega
      have q6 : ¬ 9223372036854775807 < G + 1 + (s.length - (G + 1)) := by omega
      obtain ⟨y1, y2⟩ := @k_wrap G (by omega)
      clear hn k1 k2 hlt cx0 cx1
      go_upto_region 17 with (fail)
      refine wp_region_S (fun u : World => Fr w u [(w3.heap.size, m, x), (w1.heap.size, m, x)]) 14 (by kernel_rfl) ?_
      have HS := FR.out.later (Ext.refl _).drew
      clear FR
      revert HS; generalize wr.drew = wd; intro HS
      refine GoS.pure (i := 0) (v := ?_) rfl (by kernel_rfl) (by kernel_rfl) (by kernel_rfl) (by kernel_rfl) (fun _ _ _ h => h) (Or.inl ⟨by rfl, ?hy1⟩) (fun _ => HS) ?_
      case hy1 => ((intro u' hT; go_simp); try with_reducible rfl)
      try simp only [List.getElem_toArray, List.getElem_cons_zero, Act.put, List.setIfInBounds_toArray, List.set_cons_zero, List.set_cons_succ]
      refine GoS.pure (i := 1) (v := ?_) rfl (by kernel_rfl) (by kernel_rfl) (by kernel_rfl) (by kernel_rfl) (fun _ _ _ h => h) (Or.inl ⟨by rfl, ?hy2⟩) (fun _ => HS) ?_
      case hy2 => ((intro u' hT; go_simp); try with_reducible rfl)
      try simp only [List.getElem_toArray, List.getElem_cons_succ, List.getElem_cons_zero, Act.put, List.setIfInBounds_toArray, List.set_cons_zero, List.set_cons_succ]
      refine GoS.pure (i := 2) (v := ?_) rfl (by kernel_rfl) (by kernel_rfl) (by kernel_rfl) (by kernel_rfl) (fun _ _ _ h => h) (Or.inl ⟨by rfl, ?hy3⟩) (fun _ => HS) ?_
      case hy3 => ((intro u' hT; go_simp); try with_reducible rfl)
      try simp only [List.getElem_toArray, List.getElem_cons_succ, List.getElem_cons_zero, Act.put, List.setIfInBounds_toArray, List.set_cons_zero, List.set_cons_succ]
      refine GoS.pure (i := 3) (v := ?_) rfl (by kernel_rfl) (by kernel_rfl) (by kernel_rfl) (by kernel_rfl) (fun _ _ _ h => h) (Or.inl ⟨by rfl, ?hy4⟩) (fun _ => HS) ?_
      case hy4 => ((intro u' hT; go_simp); try with_reducible rfl)
      try simp only [List.getElem_toArray, List.getElem_cons_succ, List.getElem_cons_zero, Act.put, List.setIfInBounds_toArray, List.set_cons_zero, List.set_cons_succ]
      refine GoS.pure (i := 4) (v := ?_) rfl (by kernel_rfl) (by kernel_rfl) (by kernel_rfl) (by kernel_rfl) (fun _ _ _ h => h) (Or.inl ⟨by rfl, ?hy5⟩) (fun _ => HS) ?_
      case hy5 => ((intro u' hT; go_simp); try with_reducible rfl)
      try simp only [List.getElem_toArray, List.getElem_cons_succ, List.getElem_cons_zero, Act.put, List.setIfInBounds_toArray, List.set_cons_zero, List.set_cons_succ]
      refine GoS.pure (i := 5) (v := ?_) rfl (by kernel_rfl) (by kernel_rfl) (by kernel_rfl) (by kernel_rfl) (fun _ _ _ h => h) (Or.inl ⟨by rfl, ?hy6⟩) (fun _ => HS) ?_
      case hy6 => ((intro u' hT; go_simp); try with_reducible rfl)
      try simp only [List.getElem_toArray, List.getElem_cons_succ, List.getElem_cons_zero, Act.put, List.setIfInBounds_toArray, List.set_cons_zero, List.set_cons_succ]
      refine GoS.pure (i := 6) (v := ?_) rfl (by kernel_rfl) (by kernel_rfl) (by kernel_rfl) (by kernel_rfl) (fun _ _ _ h => h) (Or.inl ⟨by rfl, ?hy7⟩) (fun _ => HS) ?_
      case hy7 => ((intro u' hT; go_simp); try with_reducible rfl)
      try simp only [List.getElem_toArray, List.getElem_cons_succ, List.getElem_cons_zero, Act.put, List.setIfInBounds_toArray, List.set_cons_zero, List.set_cons_succ]
      refine GoS.pure (i := 7) (v := ?_) rfl (by kernel_rfl) (by kernel_rfl) (by kernel_rfl) (by kernel_rfl) (fun _ _ _ h => h) (Or.inl ⟨by rfl, ?hy8⟩) (fun _ => HS) ?_
      case hy8 => ((intro u' hT; go_simp); try with_reducible rfl)
      try simp only [List.getElem_toArray, List.getElem_cons_succ, List.getElem_cons_zero, Act.put, List.setIfInBounds_toArray, List.set_cons_zero, List.set_cons_succ]
      refine GoS.pure (i := 8) (v := ?_) rfl (by kernel_rfl) (by kernel_rfl) (by kernel_rfl) (by kernel_rfl) (fun _ _ _ h => h) (Or.inl ⟨by rfl, ?hy9⟩) (fun _ => HS) ?_
      case hy9 => ((intro u' hT; go_simp); try with_reducible rfl)
      try simp only [List.getElem_toArray, List.getElem_cons_succ, List.getElem_cons_zero, Act.put, List.setIfInBounds_toArray, List.set_cons_zero, List.set_cons_succ]
      refine GoS.two (i := 9) (j := 13) (by kernel_rfl) rfl rfl (fun K hK => ?_) (fun K hK => ?_)
      · skip
        go_simp
        (with_reducible refine (PO _ (HT.out.later HS.x)).mono ?_)
        rintro e q10 ⟨rfl, hx10⟩
        have HS2 := HS.later hx10
        clear HS; have HS := HS2; clear HS2 hx10
        go_wp2_with fail
        refine hK.out _ _ HS (fun _ => ?_)
        clear hK K
        try simp only [List.getElem_toArray, List.getElem_cons_succ, List.getElem_cons_zero, Act.put, List.setIfInBounds_toArray, List.set_cons_zero, List.set_cons_succ]
        refine GoS.pure (i := 10) (v := ?_) rfl (by kernel_rfl) (by kernel_rfl) (by kernel_rfl) (by kernel_rfl) (fun _ _ _ h => h) (Or.inl ⟨by rfl, ?hy11⟩) (fun _ => HS) ?_
        case hy11 => ((intro u' hT; go_simp); try with_reducible rfl)
        try simp only [List.getElem_toArray, List.getElem_cons_succ, List.getElem_cons_zero, Act.put, List.setIfInBounds_toArray, List.set_cons_zero, List.set_cons_succ]
        refine GoS.pure (i := 11) (v := ?_) rfl (by kernel_rfl) (by kernel_rfl) (by kernel_rfl) (by kernel_rfl) (fun _ _ _ h => h) (Or.inl ⟨by rfl, ?hy12⟩) (fun _ => HS) ?_
        case hy12 => ((intro u' hT; go_simp); try with_reducible rfl)
        try simp only [List.getElem_toArray, List.getElem_cons_succ, List.getElem_cons_zero, Act.put, List.setIfInBounds_toArray, List.set_cons_zero, List.set_cons_succ]
        refine GoS.pure (i := 12) (v := ?_) rfl (by kernel_rfl) (by kernel_rfl) (by kernel_rfl) (by kernel_rfl) (fun _ _ _ h => h) (Or.inl ⟨by rfl, ?hy13⟩) (fun _ => HS) ?_
        case hy13 => ((intro u' hT; go_simp); try with_reducible rfl)
        try simp only [List.getElem_toArray, List.getElem_cons_succ, List.getElem_cons_zero, Act.put, List.setIfInBounds_toArray, List.set_cons_zero, List.set_cons_succ]
        refine GoS.one (i := 13) (by kernel_rfl) rfl (fun K hK => ?_)
        go_simp
        have HQ := HS
        have FQ := Lib.hid (HS.lay 0 0 23)
        have HS2 := HS.later ((Ext.refl _).alloc (.cells #[.int .i64 0, .int .i64 0] 23))
        clear HS; have HS := HS2; clear HS2
        refine hK.out _ _ HS (fun _ => ?_)
        clear hK K
        try simp only [List.getElem_toArray, List.getElem_cons_succ, List.getElem_cons_zero, Act.put, List.setIfInBounds_toArray, List.set_cons_zero, List.set_cons_succ]
        refine GoS.store (i := 14) (by kernel_rfl) rfl (by kernel_rfl) (fun K hK => ?_)
        have st0 := FQ.out.c0 (b := q10.heap.size) (.head _); have st1 := FQ.out.c1 (b := q10.heap.size) (.head _); have stf := FQ.out.fz (b := q10.heap.size) (.head _)
        go_simp
        have FR := Lib.hid (HQ.lay (m') (x') 23); clear FQ HQ st0 st1 stf
        refine hK.out _ _ ?_
        clear hK K
        try simp only [List.getElem_toArray, List.getElem_cons_succ, List.getElem_cons_zero, Act.put, List.setIfInBounds_toArray, List.set_cons_zero, List.set_cons_succ]
        refine GoS.behind (i := 15) (v := ?_) rfl (by kernel_rfl) (by kernel_rfl) (by kernel_rfl) (by kernel_rfl) (fun _ _ _ h => h) (Or.inl ⟨by rfl, ?hy14⟩) (by kernel_rfl) ?_
        case hy14 => ((intro u' hT; go_simp); try with_reducible rfl)
        try simp only [List.getElem_toArray, List.getElem_cons_succ, List.getElem_cons_zero, Act.put, List.setIfInBounds_toArray, List.set_cons_zero, List.set_cons_succ]
        refine GoS.done (by kernel_rfl) ?_
        have FR2 : Hid (Fr w (q10.alloc (.cells #[.int .i64 (m'), .int .i64 (x')] 23)) [(q10.heap.size, m', x'), (w3.heap.size, m, x), (w1.heap.size, m, x)]) := FR; clear FR; have FR := FR2; clear FR2
        clear HS; revert FR; generalize (q10.alloc (.cells #[.int .i64 (m'), .int .i64 (x')] 23)) = wy; intro FR
        have cz0 := FR.out.c0 (b := q10.heap.size) (.head _); have cz1 := FR.out.c1 (b := q10.heap.size) (.head _)
        have cx0 := FR.out.c0 (b := w1.heap.size) (.tail _ (.tail _ (.head _))); have cx1 := FR.out.c1 (b := w1.heap.size) (.tail _ (.tail _ (.head _)))
        go_wp2_with fail
        refine (sanity_any _ (HT.out.later FR.out.x)).mono ?_
        rintro e w6 ⟨rfl, hx⟩
        have FR2 : Hid (Fr w w6 [(q10.heap.size, m', x'), (w3.heap.size, m, x), (w1.heap.size, m, x)]) := Lib.hid (FR.out.later hx)
        clear cz0 cz1 cx0 cx1
        clear hx FR; have FR := FR2; clear FR2
        have cz0 := FR.out.c0 (b := q10.heap.size) (.head _); have cz1 := FR.out.c1 (b := q10.heap.size) (.head _)
        have cx0 := FR.out.c0 (b := w1.heap.size) (.tail _ (.tail _ (.head _))); have cx1 := FR.out.c1 (b := w1.heap.size) (.tail _ (.tail _ (.head _)))
        go_wp2
        go_ret
        exact ⟨rfl, FR.out.x⟩
      · skip
        go_simp
        have HQ := HS
        have FQ := Lib.hid (HS.lay 0 0 23)
        have HS2 := HS.later ((Ext.refl _).alloc (.cells #[.int .i64 0, .int .i64 0] 23))
        clear HS; have HS := HS2; clear HS2
        refine hK.out _ _ HS (fun _ => ?_)
        clear hK K
        try simp only [List.getElem_toArray, List.getElem_cons_succ, List.getElem_cons_zero, Act.put, List.setIfInBounds_toArray, List.set_cons_zero, List.set_cons_succ]
        refine GoS.one (i := 9) (by kernel_rfl) rfl (fun K hK => ?_)
        go_simp
        (with_reducible refine (PO _ (HT.out.later HS.x)).mono ?_)
        rintro e q15 ⟨rfl, hx15⟩
        have HS2 := HS.later hx15
        have FQ2 := Lib.hid (FQ.out.later hx15); clear FQ; have FQ := FQ2; clear FQ2
        clear HS; have HS := HS2; clear HS2 hx15
        go_wp2_with fail
        refine hK.out _ _ HS (fun _ => ?_)
        clear hK K
        try simp only [List.getElem_toArray, List.getElem_cons_succ, List.getElem_cons_zero, Act.put, List.setIfInBounds_toArray, List.set_cons_zero, List.set_cons_succ]
        refine GoS.pure (i := 10) (v := ?_) rfl (by kernel_rfl) (by kernel_rfl) (by kernel_rfl) (by kernel_rfl) (fun _ _ _ h => h) (Or.inl ⟨by rfl, ?hy16⟩) (fun _ => HS) ?_
        case hy16 => ((intro u' hT; go_simp); try with_reducible rfl)
        try simp only [List.getElem_toArray, List.getElem_cons_succ, List.getElem_cons_zero, Act.put, List.setIfInBounds_toArray, List.set_cons_zero, List.set_cons_succ]
        refine GoS.pure (i := 11) (v := ?_) rfl (by kernel_rfl) (by kernel_rfl) (by kernel_rfl) (by kernel_rfl) (fun _ _ _ h => h) (Or.inl ⟨by rfl, ?hy17⟩) (fun _ => HS) ?_
        case hy17 => ((intro u' hT; go_simp); try with_reducible rfl)
        try simp only [List.getElem_toArray, List.getElem_cons_succ, List.getElem_cons_zero, Act.put, List.setIfInBounds_toArray, List.set_cons_zero, List.set_cons_succ]
        refine GoS.pure (i := 12) (v := ?_) rfl (by kernel_rfl) (by kernel_rfl) (by kernel_rfl) (by kernel_rfl) (fun _ _ _ h => h) (Or.inl ⟨by rfl, ?hy18⟩) (fun _ => HS) ?_
        case hy18 => ((intro u' hT; go_simp); try with_reducible rfl)
        try simp only [List.getElem_toArray, List.getElem_cons_succ, List.getElem_cons_zero, Act.put, List.setIfInBounds_toArray, List.set_cons_zero, List.set_cons_succ]
        refine GoS.store (i := 14) (by kernel_rfl) rfl (by kernel_rfl) (fun K hK => ?_)
        have st0 := FQ.out.c0 (b := wd.heap.size) (.head _); have st1 := FQ.out.c1 (b := wd.heap.size) (.head _); have stf := FQ.out.fz (b := wd.heap.size) (.head _)
        go_simp
        have FR := Lib.hid (FQ.out.set 0 rfl (m') (x')); clear FQ HQ st0 st1 stf
        refine hK.out _ _ ?_
        clear hK K
        try simp only [List.getElem_toArray, List.getElem_cons_succ, List.getElem_cons_zero, Act.put, List.setIfInBounds_toArray, List.set_cons_zero, List.set_cons_succ]
        refine GoS.behind (i := 15) (v := ?_) rfl (by kernel_rfl) (by kernel_rfl) (by kernel_rfl) (by kernel_rfl) (fun _ _ _ h => h) (Or.inl ⟨by rfl, ?hy19⟩) (by kernel_rfl) ?_
        case hy19 => ((intro u' hT; go_simp); try with_reducible rfl)
        try simp only [List.getElem_toArray, List.getElem_cons_succ, List.getElem_cons_zero, Act.put, List.setIfInBounds_toArray, List.set_cons_zero, List.set_cons_succ]
        refine GoS.done (by kernel_rfl) ?_
        have FR2 : Hid (Fr w ((q15.setCell ⟨wd.heap.size, 0, none⟩ (.int .i64 (m'))).setCell ⟨wd.heap.size, 1, none⟩ (.int .i64 (x'))) [(wd.heap.size, m', x'), (w3.heap.size, m, x), (w1.heap.size, m, x)]) := FR; clear FR; have FR := FR2; clear FR2
        clear HS; revert FR; generalize ((q15.setCell ⟨wd.heap.size, 0, none⟩ (.int .i64 (m'))).setCell ⟨wd.heap.size, 1, none⟩ (.int .i64 (x'))) = wz; intro FR
        have cz0 := FR.out.c0 (b := wd.heap.size) (.head _); have cz1 := FR.out.c1 (b := wd.heap.size) (.head _)
        have cx0 := FR.out.c0 (b := w1.heap.size) (.tail _ (.tail _ (.head _))); have cx1 := FR.out.c1 (b := w1.heap.size) (.tail _ (.tail _ (.head _)))
        go_wp2_with fail
        refine (sanity_any _ (HT.out.later FR.out.x)).mono ?_
        rintro e w6 ⟨rfl, hx⟩
        have FR2 : Hid (Fr w w6 [(wd.heap.size, m', x'), (w3.heap.size, m, x), (w1.heap.size, m, x)]) := Lib.hid (FR.out.later hx)
        clear cz0 cz1 cx0 cx1
        clear hx FR; have FR := FR2; clear FR2
        have cz0 := FR.out.c0 (b := wd.heap.size) (.head _); have cz1 := FR.out.c1 (b := wd.heap.size) (.head _)
        have cx0 := FR.out.c0 (b := w1.heap.size) (.tail _ (.tail _ (.head _))); have cx1 := FR.out.c1 (b := w1.heap.size) (.tail _ (.tail _ (.head _)))
        go_wp2
        go_ret
        exact ⟨rfl, FR.out.x⟩
end Go.Proofs.YthmndafjogndaaaGreatDoor
